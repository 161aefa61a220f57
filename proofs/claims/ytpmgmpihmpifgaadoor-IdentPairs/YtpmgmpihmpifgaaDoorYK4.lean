/-
  Of layer 16: what the proof leans on.
-/
import Derived.OpenShut
import Derived.Lib.AppendStr
import Derived.Laws.DeepStrings4
import Derived.Test.YtpmgmpihmpifgaaDoorYK3
namespace Go.Proofs.YtpmgmpihmpifgaaDoor
open Go.RowKit
set_option maxRecDepth 100000
set_option linter.unusedSimpArgs false
set_option linter.unusedVariables false
def Pq (w : World) (p o : Nat) (ps : List (List Int)) : Prop := ∀ j, j < ps.length → ∃ a n c, w.cell? ⟨p, o + j, none⟩ = some (.slice a n c) ∧ (ps.getD j []).length = n ∧ IsB (ps.getD j []) ∧ Sl w a (ps.getD j []) ∧ n ≤ c ∧ c < 9223372036854775808
theorem Pq.gr {w v : World} {p o : Nat} {ps : List (List Int)} (h : Pq w p o ps) (k : Gr w v) : Pq v p o ps := by
  intro j hj
  obtain ⟨a, n, c, h1, h2, h3, h4, h5⟩ := h j hj
  exact ⟨a, n, c, k.cell h1, h2, h3, h4.gr k, h5⟩
def Pr (w : World) (a : Option Addr) (ps : List (List Int)) : Prop := ps = [] ∨ ∃ p o, a = some ⟨p, o, none⟩ ∧ Pq w p o ps
theorem Pr.gr {w v : World} {a : Option Addr} {ps : List (List Int)} (h : Pr w a ps) (k : Gr w v) : Pr v a ps := by
  rcases h with h | ⟨p, o, h1, h2⟩
  · exact .inl h
  · exact .inr ⟨p, o, h1, h2.gr k⟩
def PqX (g : Nat) (w : World) (p o : Nat) (ps : List (List Int)) : Prop := ∀ j, j < ps.length → ∃ a n c, w.cell? ⟨p, o + j, none⟩ = some (.slice a n c) ∧ p ≠ g ∧ (ps.getD j []).length = n ∧ IsB (ps.getD j []) ∧ SlX g w a (ps.getD j []) ∧ n ≤ c ∧ c < 9223372036854775808
theorem PqX.bt {g : Nat} {w v : World} {p o : Nat} {ps : List (List Int)} (h : PqX g w p o ps) (k : Bt g w v) : PqX g v p o ps := by
  intro j hj
  obtain ⟨a, n, c, h1, h2, h3, h4, h5, h6⟩ := h j hj
  exact ⟨a, n, c, k.cell h1 h2, h2, h3, h4, h5.bt k, h6⟩
def PrX (g : Nat) (w : World) (a : Option Addr) (ps : List (List Int)) : Prop := ps = [] ∨ ∃ p o, a = some ⟨p, o, none⟩ ∧ PqX g w p o ps
theorem Pr.far {w v : World} {a : Option Addr} {ps : List (List Int)} (h : Pr w a ps) (k : Gr w v) {g : Nat} (hg : w.heap.size ≤ g) : PrX g v a ps := by
  rcases h with h | ⟨p, o, h1, h2⟩
  · exact .inl h
  · refine .inr ⟨p, o, h1, fun j hj => ?_⟩
    obtain ⟨a, n, c, h3, h4, h5, h6, h7⟩ := h2 j hj
    exact ⟨a, n, c, k.cell h3, (by have := lt_of_cell h3; omega), h4, h5, h6.far k hg, h7⟩
def wrf (g : Nat) : Value := .func (.func 42) #[.pointer (some ⟨g, 0, none⟩)] #[]
theorem flat_next (ps : List (List Int)) (k : Nat) (h : k < ps.length) : (ps.take (k + 1)).flatten = (ps.take k).flatten ++ ps.getD k [] := by
  rw [List.take_add_one, List.getElem?_eq_getElem h, List.flatten_append]
  simp [h]
theorem flat_le (ps : List (List Int)) (k : Nat) : (ps.take k).flatten.length ≤ ps.flatten.length := by
  have h : ps.flatten = (ps.take k).flatten ++ (ps.drop k).flatten := by rw [← List.flatten_append, List.take_append_drop]
  rw [h, List.length_append]
  omega
set_option maxHeartbeats 2000000 in
theorem feed_ok (g : Nat) (L : List Int) (ps : List (List Int)) (a : Option Addr) (m cap : Nat) (hm : ps.length = m) (hmb : m < 4611686018427387904) (hbig : L.length + ps.flatten.length < 1152921504606846000) (w : World) (hH : H g L w) (hP : PrX g w a ps) :
    Calls Tryd.prog 90 #[wrf g, .slice a m cap] w (fun r w' => ∃ v, r = .returned v ∧ H g (L ++ ps.flatten) w' ∧ Bt g w w') := by
  obtain ⟨W, hW⟩ : ∃ W, W = wrf g := ⟨_, rfl⟩
  rw [← hW]
  obtain ⟨T, hT⟩ : ∃ T, T = (fun (r : Ending) (w' : World) => ∃ v, r = .returned v ∧ H g (L ++ ps.flatten) w' ∧ Bt g w w') := ⟨_, rfl⟩
  rw [← hT]
  replace hT := hide hT
  replace hW := hide hW
  replace hP := hide hP
  have hH0 : H g (L ++ (ps.take 0).flatten) w := by simpa using hH
  replace hH := hide hH0
  clear hH0
  go_enter Tryd.func90, Tryd.ntmps90
  go_wp2_with fail
  go_loopw [8] (fun i wr => ∃ k : Nat, k ≤ m ∧ i = .int .i64 k ∧ Hid (H g (L ++ (ps.take k).flatten) wr) ∧ Hid (Bt g w wr)) (fun i _ => m - (intOf i).toNat)
  case atStart => exact ⟨0, by omega, rfl, hH, Bt.refl g w⟩
  case round =>
  clear hH
  obtain ⟨k, hk, rfl, hH, hB⟩ := hrel
  by_cases hl : k < m
  · have kI : (k : Int) < (m : Int) := by omega
    obtain ⟨p, o, rfl, hq⟩ : ∃ p o, a = some ⟨p, o, none⟩ ∧ PqX g wr p o ps := by
      rcases (unhide hP) with h | ⟨p, o, h1, h2⟩
      · rw [h] at hm; simp at hm; omega
      · exact ⟨p, o, h1, h2.bt (unhide hB)⟩
    obtain ⟨aP, nP, cP, cc, _, hPl, hPb, hPs, hPc, hPm⟩ := hq k (by omega)
    clear hq
    have hnx := hide (flat_next ps k (by omega))
    have hle := flat_le ps (k + 1)
    rw [unhide hnx, List.length_append] at hle
    generalize ps.getD k [] = P at *
    have kw : IntKind.i64.wrap ((k : Int) + 1) = (k : Int) + 1 := by rw [IntKind.wrap_i64]; omega
    replace hPs := hide hPs
    replace hPb := hide hPb
    replace hle := hide hle
    go_upto_region 3 with fail
    refine wp_region_lit ?_
    iterate 2 (refine wpList_step fun K hK => ?_; replace hK := hide hK; go_simp; refine unhide hK _ _ ?_; clear hK K)
    rw [unhide hW]
    refine list_call 42 #[.pointer (some ⟨g, 0, none⟩), .slice aP nP cP] (by kernel_rfl) (by kernel_rfl) ((write_ok g (L ++ (ps.take k).flatten) P (unhide hPb) (by have := unhide hle; rw [List.length_append]; omega) aP nP cP hPl hPc hPm _ (unhide hH) (unhide hPs)).mono ?_)
    rintro r v1 ⟨rfl, hH2, hbt⟩
    refine ⟨_, rfl, ?_⟩
    rw [← unhide hW]
    replace hB := hide ((unhide hB).trans hbt)
    have hH3 : Hid (H g (L ++ (ps.take (k + 1)).flatten) v1) := by rw [unhide hnx, ← List.append_assoc]; exact hH2
    clear hH hbt hH2 hnx
    simp only [nrm]
    refine wpList_nil ?_
    go_wp2_with fail
    go_roundw
    case rel => exact ⟨k + 1, by omega, by go_num, hH3, hB⟩
    case measure => simp [intOf]; omega
  · have e : k = m := by omega
    subst e
    have hH3 : Hid (H g (L ++ ps.flatten) wr) := by
      have := unhide hH
      rw [List.take_of_length_le (by omega)] at this
      exact this
    clear hH
    go_wp2_with fail
    refine bodyPost_end (v := .tuple #[]) ?_ rfl ?_
    · simp [results, Tryd.results90, go_sem]
    · rw [unhide hT]
      exact ⟨_, rfl, unhide hH3, unhide hB⟩
def kxb (a x : Int) : Int := bits .xor .u8 a x
theorem kxb_rng (a x : Int) : 0 ≤ kxb a x ∧ kxb a x < 256 := by
  have := bounds_u8 (wf_bits .xor .u8 a x)
  unfold kxb
  omega
def XK (K : List Int) (x : Int) : Nat → List Int
  | 0 => K
  | n + 1 => (XK K x n).set n (kxb ((XK K x n).getD n 0) x)
theorem XK_len (K : List Int) (x : Int) : ∀ n, (XK K x n).length = K.length
  | 0 => rfl
  | n + 1 => by rw [XK, List.length_set, XK_len K x n]
theorem XK_get (K : List Int) (x : Int) (j : Nat) : ∀ n, n ≤ K.length → (XK K x n).getD j 0 = if j < n then kxb (K.getD j 0) x else K.getD j 0
  | 0, _ => by simp [XK]
  | n + 1, h => by
    rw [XK, getD_set _ _ _ _ (by rw [XK_len]; omega), XK_get K x n n (by omega), if_neg (Nat.lt_irrefl n)]
    by_cases e : j = n
    · subst e
      rw [if_pos rfl, if_pos (by omega)]
    · rw [if_neg e, XK_get K x j n (by omega)]
      by_cases h2 : j < n
      · rw [if_pos h2, if_pos (by omega)]
      · rw [if_neg h2, if_neg (by omega)]
def k6 (B : List Int) : List Int := if 64 < B.length then sumL B else B
def padK (B : List Int) (x : Int) : List Int := (List.range 64).map fun i => kxb ((k6 B).getD i 0) x
theorem padK_len (B : List Int) (x : Int) : (padK B x).length = 64 := by unfold padK; simp
theorem padK_isB (B : List Int) (x : Int) : IsB (padK B x) := by
  intro y hy
  unfold padK at hy
  obtain ⟨i, _, rfl⟩ := List.mem_map.1 hy
  exact kxb_rng _ _
def z6 (B : List Int) : List Int := k6 B ++ List.replicate (64 - (k6 B).length) 0
theorem k6_len (B : List Int) : (k6 B).length ≤ 64 := by
  unfold k6
  split
  · rw [sumL_len]; omega
  · omega
theorem z6_len (B : List Int) : (z6 B).length = 64 := by
  have := k6_len B
  unfold z6
  rw [List.length_append, List.length_replicate]
  omega
theorem z6_get (B : List Int) (j : Nat) : (z6 B).getD j 0 = (k6 B).getD j 0 := by
  unfold z6
  simp only [List.getD_eq_getElem?_getD, List.getElem?_append]
  split
  · rfl
  · rename_i h
    rw [List.getElem?_eq_none (by omega : (k6 B).length ≤ j)]
    simp only [List.getElem?_replicate]
    split <;> rfl
theorem pad_all (B : List Int) (x : Int) : XK (z6 B) x 64 = padK B x := by
  apply List.ext_getElem (by rw [XK_len, z6_len, padK_len])
  intro i h1 h2
  have h3 := XK_get (z6 B) x i 64 (by rw [z6_len]; omega)
  have hi : i < 64 := by rw [padK_len] at h2; exact h2
  rw [if_pos hi, z6_get] at h3
  rw [List.getD_eq_getElem?_getD, List.getElem?_eq_getElem h1] at h3
  simp only [Option.getD_some] at h3
  rw [h3]
  unfold padK
  simp
theorem Tryd.infoL : (Tryd.prog.info? 97).map (·.size) = some 64 := by kernel_rfl
def Z6 : List Int := List.replicate 64 0
def Padd (K : List Int) (x : Int) (w : World) (r : Ending) (w' : World) : Prop := ∃ g, r = .returned (.slice (some ⟨g, 0, none⟩) 64 64) ∧ w.heap.size ≤ g ∧ w'.heap[g]? = some (.cells (kc (XK K x 64)) 97 (0, 0)) ∧ Gr w w'
set_option maxHeartbeats 2000000 in
theorem pads1_ok (K : List Int) (hK : K.length = 64) (x : Int) (gk : Nat) (w : World) (hk : w.heap[gk]? = some (.cells (kc K) 97 (0, 0))) : Calls Tryd.prog 105 #[.int .u8 x, .pointer (some ⟨gk, 0, none⟩)] w (Padd K x w) := by
  obtain ⟨T, hT⟩ : ∃ T, T = Padd K x w := ⟨_, rfl⟩
  rw [← hT]
  replace hT := hide hT
  replace hk := hide hk
  go_enter Tryd.func105, Tryd.ntmps105
  go_upto_region 1 with fail
  refine wp_region_lit ?_
  refine list_val (.agg (kc K)) (by kernel_rfl) (exec_arr _ 97 (.tmp 1) rfl gk (by kernel_rfl) (kc K) 97 _ (unhide hk) Tryd.underlying97 rfl (by rw [Tryd.infoL, kc_size, hK])) ?_
  simp only [nrm]
  iterate 1 (refine wpList_step fun K hK => ?_; replace hK := hide hK; go_simp; refine unhide hK _ _ ?_; clear hK K)
  have hB := (Bl.nil w).new #[.int .u8 0, .int .u8 0, .int .u8 0, .int .u8 0, .int .u8 0, .int .u8 0, .int .u8 0, .int .u8 0, .int .u8 0, .int .u8 0, .int .u8 0, .int .u8 0, .int .u8 0, .int .u8 0, .int .u8 0, .int .u8 0, .int .u8 0, .int .u8 0, .int .u8 0, .int .u8 0, .int .u8 0, .int .u8 0, .int .u8 0, .int .u8 0, .int .u8 0, .int .u8 0, .int .u8 0, .int .u8 0, .int .u8 0, .int .u8 0, .int .u8 0, .int .u8 0, .int .u8 0, .int .u8 0, .int .u8 0, .int .u8 0, .int .u8 0, .int .u8 0, .int .u8 0, .int .u8 0, .int .u8 0, .int .u8 0, .int .u8 0, .int .u8 0, .int .u8 0, .int .u8 0, .int .u8 0, .int .u8 0, .int .u8 0, .int .u8 0, .int .u8 0, .int .u8 0, .int .u8 0, .int .u8 0, .int .u8 0, .int .u8 0, .int .u8 0, .int .u8 0, .int .u8 0, .int .u8 0, .int .u8 0, .int .u8 0, .int .u8 0, .int .u8 0] 97
  simp only [List.nil_append] at hB
  generalize World.alloc _ _ = u at *
  replace hB : Bl w [⟨w.heap.size, kc Z6, 97⟩] u := hB
  refine list_store 97 (.tmp 4) (.tmp 6) w.heap.size (kc K) 97 (kc Z6) (by kernel_rfl) rfl (by kernel_rfl) (by kernel_rfl) (hB.get 0 (x := ⟨w.heap.size, kc Z6, 97⟩) rfl) (by rw [Tryd.infoL, kc_size, hK]) ((show (kc Z6).size = 64 from rfl).trans ((kc_size _).trans hK).symm) (kc_one _) ?_
  replace hB := hB.set 0 (x := ⟨w.heap.size, kc Z6, 97⟩) rfl (kc K)
  simp only [List.set_cons_zero, List.set_cons_succ] at hB
  generalize World.setRow _ _ _ = u1 at *
  simp only [nrm]
  refine wpList_nil ?_
  replace hB : Hid (Bl w [⟨w.heap.size, kc (XK K x 0), 97⟩] u1) := hB
  go_wp2_with fail
  go_loopw [7] (fun i wr => ∃ (n : Nat) (m : List Int), n ≤ 64 ∧ i = .int .i64 n ∧ Hid (m = XK K x n) ∧ Hid (Bl w [⟨w.heap.size, kc m, 97⟩] wr)) (fun i _ => 64 - (intOf i).toNat)
  case atStart => exact ⟨0, XK K x 0, by omega, rfl, rfl, hB⟩
  case round =>
  clear hB
  obtain ⟨n, m, hn, rfl, hm, hB⟩ := hrel
  have hml : m.length = 64 := by rw [unhide hm, XK_len, hK]
  by_cases hl : n < 64
  · have nI : (n : Int) < 64 := by omega
    have nJ : 0 ≤ (n : Int) ∧ (n : Int) < 64 := by omega
    have hg := (unhide hB).get 0 (x := ⟨w.heap.size, kc m, 97⟩) rfl
    have cs := kc_cell hg n (by omega)
    have fs := froz_of (i := n) hg
    clear hg
    have hm2 : Hid (m.set n (kxb (m.getD n 0) x) = XK K x (n + 1)) := by rw [unhide hm]; exact rfl
    have hB2 := (unhide hB).cell 0 (x := ⟨w.heap.size, kc m, 97⟩) rfl n (.int .u8 (kxb (m.getD n 0) x))
    simp only [List.set_cons_zero, List.set_cons_succ, kc_set] at hB2
    generalize m.getD n 0 = y at *
    replace hB2 : Hid (Bl w [⟨w.heap.size, kc (m.set n (bits .xor .u8 y x)), 97⟩] (wr.setCell ⟨w.heap.size, n, none⟩ (.int .u8 (bits .xor .u8 y x)))) := hB2
    replace hm2 : Hid (m.set n (bits .xor .u8 y x) = XK K x (n + 1)) := hm2
    go_wp2_with fail
    go_roundw
    case rel => exact ⟨n + 1, _, by omega, by go_num, hm2, hB2⟩
    case measure => simp [intOf]; omega
  · have e : n = 64 := by omega
    subst e
    have hP : Hid (Padd K x w (.returned (.slice (some ⟨w.heap.size, 0, none⟩) 64 64)) wr) := ⟨_, rfl, Nat.le_refl _, (by rw [← unhide hm]; exact (unhide hB).get 0 (x := ⟨w.heap.size, kc m, 97⟩) rfl), (unhide hB).gr⟩
    clear hl hm hB
    go_wp2_with fail
    rw [unhide hT]
    exact unhide hP
def padf (gk : Nat) : Value := .func (.func 105) #[] #[.pointer (some ⟨gk, 0, none⟩)]
def Padf (B : List Int) (w : World) (r : Ending) (w' : World) : Prop := ∃ g, r = .returned (padf g) ∧ w.heap.size ≤ g ∧ w'.heap[g]? = some (.cells (kc (z6 B)) 97 (0, 0)) ∧ Gr w w'
theorem sp_kc (L Z : List Int) (h : L.length ≤ Z.length) : sp (Z.map (Value.int .u8)) 0 (L.map (Value.int .u8)) = (L ++ Z.drop L.length).map (Value.int .u8) := by
  have h1 := sp_mid (L.map (Value.int .u8)) [] ((Z.take L.length).map (Value.int .u8)) ((Z.drop L.length).map (Value.int .u8)) (by simp; omega)
  simp only [List.nil_append, List.length_nil, ← List.map_append, List.take_append_drop] at h1
  exact h1
set_option maxHeartbeats 2000000 in
theorem pads_ok (B : List Int) (hb : IsB B) (n : Nat) (hn : B.length = n) (hbig : n < 1152921504606846000) (a : Option Addr) (cap : Nat) (hcap : n ≤ cap) (hcb : cap < 9223372036854775808) (w : World) (hF : Fst w) (hA : Sl w a B) :
    Calls Tryd.prog 89 #[.slice a n cap] w (Padf B w) := by
  obtain ⟨T, hT⟩ : ∃ T, T = Padf B w := ⟨_, rfl⟩
  rw [← hT]
  replace hT := hide hT
  replace hF := hide hF
  replace hA := hide hA
  replace hb := hide hb
  replace hn := hide hn
  have tail : ∀ (L : List Int) (a' : Option Addr) (m c : Nat) (v : World), L = k6 B → L.length = m → Sl v a' L → v.heap[w.heap.size]? = some (.cells (kc Z6) 97 (0, 0)) → Gr w v → L.length ≤ 64 ∧ (v.setCells w.heap.size 0 (L.map (Value.int .u8))).heap[w.heap.size]? = some (.cells (kc (z6 B)) 97 (0, 0)) ∧ Gr w (v.setCells w.heap.size 0 (L.map (Value.int .u8))) := by
    intro L a' m c v hL hm hs hv hg
    have hlen : L.length ≤ 64 := by rw [hL]; exact k6_len B
    refine ⟨hlen, ?_, (setCells_bt _ v w.heap.size 0).gr hg (Nat.le_refl _)⟩
    rw [setCells_heap _ v w.heap.size 0 (Z6.map (Value.int .u8)) 97 hv, sp_kc L Z6 hlen]
    have e : L ++ Z6.drop L.length = z6 B := by
      rw [hL]
      unfold z6 Z6
      rw [List.drop_replicate]
    rw [e]
    rfl
  replace tail := hide tail
  by_cases hl : 64 < n
  · have lI : 64 < (n : Int) := by omega
    go_enter Tryd.func89, Tryd.ntmps89
    go_upto_region 3 with fail
    have hB := (Bl.nil w).new #[.int .u8 0, .int .u8 0, .int .u8 0, .int .u8 0, .int .u8 0, .int .u8 0, .int .u8 0, .int .u8 0, .int .u8 0, .int .u8 0, .int .u8 0, .int .u8 0, .int .u8 0, .int .u8 0, .int .u8 0, .int .u8 0, .int .u8 0, .int .u8 0, .int .u8 0, .int .u8 0, .int .u8 0, .int .u8 0, .int .u8 0, .int .u8 0, .int .u8 0, .int .u8 0, .int .u8 0, .int .u8 0, .int .u8 0, .int .u8 0, .int .u8 0, .int .u8 0, .int .u8 0, .int .u8 0, .int .u8 0, .int .u8 0, .int .u8 0, .int .u8 0, .int .u8 0, .int .u8 0, .int .u8 0, .int .u8 0, .int .u8 0, .int .u8 0, .int .u8 0, .int .u8 0, .int .u8 0, .int .u8 0, .int .u8 0, .int .u8 0, .int .u8 0, .int .u8 0, .int .u8 0, .int .u8 0, .int .u8 0, .int .u8 0, .int .u8 0, .int .u8 0, .int .u8 0, .int .u8 0, .int .u8 0, .int .u8 0, .int .u8 0, .int .u8 0] 97
    simp only [List.nil_append] at hB
    generalize World.alloc _ _ = u at *
    replace hB : Bl w [⟨w.heap.size, kc Z6, 97⟩] u := hB
    refine wp_region_lit ?_
    iterate 1 (refine wpList_step fun K hK => ?_; replace hK := hide hK; go_simp; refine unhide hK _ _ ?_; clear hK K)
    refine list_call 32 #[.slice a n cap] (by kernel_rfl) (by kernel_rfl) ((sum_ok B (unhide hb) n (unhide hn) hbig a cap hcap hcb _ ((unhide hF).gr hB.gr) ((unhide hA).gr hB.gr)).mono ?_)
    rintro r u1 ⟨rfl, hg⟩
    refine ⟨_, rfl, ?_⟩
    replace hB := hB.more hg
    clear hg
    simp only [nrm]
    have hk6 : k6 B = sumL B := by unfold k6; rw [if_pos (by rw [unhide hn]; exact hl)]
    obtain ⟨M, hM⟩ : ∃ M, M = sumL B := ⟨_, rfl⟩
    have hMl : M.length = 32 := by rw [hM]; exact sumL_len B
    rw [← hM] at hk6
    rw [← hM]
    clear hM
    replace hk6 := hide hk6
    iterate 1 (refine wpList_step fun K hK => ?_; replace hK := hide hK; go_simp; refine unhide hK _ _ ?_; clear hK K)
    replace hB := hB.new #[.int .u8 0, .int .u8 0, .int .u8 0, .int .u8 0, .int .u8 0, .int .u8 0, .int .u8 0, .int .u8 0, .int .u8 0, .int .u8 0, .int .u8 0, .int .u8 0, .int .u8 0, .int .u8 0, .int .u8 0, .int .u8 0, .int .u8 0, .int .u8 0, .int .u8 0, .int .u8 0, .int .u8 0, .int .u8 0, .int .u8 0, .int .u8 0, .int .u8 0, .int .u8 0, .int .u8 0, .int .u8 0, .int .u8 0, .int .u8 0, .int .u8 0, .int .u8 0] 25
    simp only [List.cons_append, List.nil_append] at hB
    generalize World.alloc _ _ = u2 at *
    generalize u1.heap.size = gs at *
    replace hB : Bl w [⟨w.heap.size, kc Z6, 97⟩, ⟨gs, kc Z32, 25⟩] u2 := hB
    refine list_store 25 (.tmp 4) (.tmp 9) gs (kc M) 25 (kc Z32) (by kernel_rfl) rfl (by kernel_rfl) (by kernel_rfl) (hB.get 1 (x := ⟨gs, kc Z32, 25⟩) rfl) (by rw [Tryd.infoKey, kc_size, hMl]) ((show (kc Z32).size = 32 from rfl).trans ((kc_size _).trans hMl).symm) (kc_one _) ?_
    replace hB := hB.set 1 (x := ⟨gs, kc Z32, 25⟩) rfl (kc M)
    simp only [List.set_cons_zero, List.set_cons_succ] at hB
    generalize World.setRow _ _ _ = u3 at *
    simp only [nrm]
    refine wpList_nil ?_
    replace hB := hide hB
    go_upto_region 5 with fail
    replace hB := unhide hB
    refine wp_region_lit ?_
    iterate 2 (refine wpList_step fun K hK => ?_; replace hK := hide hK; go_simp; refine unhide hK _ _ ?_; clear hK K)
    have hs : Sl u3 (some ⟨gs, 0, none⟩) M := .inr ⟨gs, 0, rfl, kc_at (hB.get 1 (x := ⟨gs, kc M, 25⟩) rfl)⟩
    have ht := (unhide tail) M _ 32 0 u3 (unhide hk6).symm hMl hs (hB.get 0 (x := ⟨w.heap.size, kc Z6, 97⟩) rfl) hB.gr
    refine wpList_plain rfl fun K hK => ?_
    refine copy_wp (.tmp 11) (.tmp 12) rfl w.heap.size 0 64 64 (some ⟨gs, 0, none⟩) 32 32 (by kernel_rfl) (by kernel_rfl) (Z6.map (Value.int .u8)) 97 (hB.get 0 (x := ⟨w.heap.size, kc Z6, 97⟩) rfl) M (by rw [hMl]; rfl) (.inr ⟨gs, 0, rfl, kc_at (hB.get 1 (x := ⟨gs, kc M, 25⟩) rfl)⟩) (by rw [hMl]; decide) ?_
    refine hK _ _ ?_
    clear hK K hB hs
    simp only [nrm]
    generalize World.setCells _ _ _ _ = u4 at *
    refine wpList_nil ?_
    have hP : Hid (Padf B w (.returned (padf w.heap.size)) u4) := ⟨_, rfl, Nat.le_refl _, ht.2.1, ht.2.2⟩
    clear ht tail hk6
    go_wp2_with fail
    rw [unhide hT]
    exact unhide hP
  · have lI : ¬ 64 < (n : Int) := by omega
    have hk6 : Hid (B = k6 B) := by unfold k6; rw [if_neg (by rw [unhide hn]; exact hl)]; exact rfl
    go_enter Tryd.func89, Tryd.ntmps89
    go_upto_region 5 with fail
    have hB := (Bl.nil w).new #[.int .u8 0, .int .u8 0, .int .u8 0, .int .u8 0, .int .u8 0, .int .u8 0, .int .u8 0, .int .u8 0, .int .u8 0, .int .u8 0, .int .u8 0, .int .u8 0, .int .u8 0, .int .u8 0, .int .u8 0, .int .u8 0, .int .u8 0, .int .u8 0, .int .u8 0, .int .u8 0, .int .u8 0, .int .u8 0, .int .u8 0, .int .u8 0, .int .u8 0, .int .u8 0, .int .u8 0, .int .u8 0, .int .u8 0, .int .u8 0, .int .u8 0, .int .u8 0, .int .u8 0, .int .u8 0, .int .u8 0, .int .u8 0, .int .u8 0, .int .u8 0, .int .u8 0, .int .u8 0, .int .u8 0, .int .u8 0, .int .u8 0, .int .u8 0, .int .u8 0, .int .u8 0, .int .u8 0, .int .u8 0, .int .u8 0, .int .u8 0, .int .u8 0, .int .u8 0, .int .u8 0, .int .u8 0, .int .u8 0, .int .u8 0, .int .u8 0, .int .u8 0, .int .u8 0, .int .u8 0, .int .u8 0, .int .u8 0, .int .u8 0, .int .u8 0] 97
    simp only [List.nil_append] at hB
    generalize World.alloc _ _ = u at *
    replace hB : Bl w [⟨w.heap.size, kc Z6, 97⟩] u := hB
    refine wp_region_lit ?_
    iterate 2 (refine wpList_step fun K hK => ?_; replace hK := hide hK; go_simp; refine unhide hK _ _ ?_; clear hK K)
    have hs := (unhide hA).gr hB.gr
    have ht := (unhide tail) B a n 0 u (unhide hk6) (unhide hn) hs (hB.get 0 (x := ⟨w.heap.size, kc Z6, 97⟩) rfl) hB.gr
    refine wpList_plain rfl fun K hK => ?_
    refine copy_wp (.tmp 11) (.tmp 12) rfl w.heap.size 0 64 64 a n cap (by kernel_rfl) (by kernel_rfl) (Z6.map (Value.int .u8)) 97 (hB.get 0 (x := ⟨w.heap.size, kc Z6, 97⟩) rfl) B (by rw [unhide hn]; exact (Nat.min_eq_left (by omega)).symm) (by rcases hs with h | ⟨p, o, h1, h2⟩; exact .inl h; exact .inr ⟨p, o, h1, h2⟩) (by have := ht.1; rw [List.length_map]; exact Nat.le_trans (by omega) (Nat.le_of_eq (show 64 = Z6.length from rfl))) ?_
    refine hK _ _ ?_
    clear hK K hB hs
    simp only [nrm]
    generalize World.setCells _ _ _ _ = u4 at *
    refine wpList_nil ?_
    have hP : Hid (Padf B w (.returned (padf w.heap.size)) u4) := ⟨_, rfl, Nat.le_refl _, ht.2.1, ht.2.2⟩
    clear ht tail hk6
    go_wp2_with fail
    rw [unhide hT]
    exact unhide hP
def hmacL (key text : List Int) : List Int := sumL (padK key 92 ++ sumL (padK key 54 ++ text))
theorem hmacL_len (key text : List Int) : (hmacL key text).length = 32 := sumL_len _
theorem sumL_isB (B : List Int) : IsB (sumL B) := keyL_isB _
structure HI (w : World) (g4 gk g1 g2 : Nat) (K L1 L2 : List Int) (v : World) : Prop where
  b4 : v.heap[g4]? = some (.cells (kc Z32) 25 (0, 0))
  bk : v.heap[gk]? = some (.cells (kc K) 97 (0, 0))
  h1 : H g1 L1 v
  h2 : H g2 L2 v
  gr : Gr w v
  n4 : w.heap.size ≤ g4
  nk : g4 < gk
  n1 : gk < g1
  n2 : g1 < g2
  n9 : g2 < v.heap.size
theorem HI.more {w : World} {g4 gk g1 g2 : Nat} {K L1 L2 : List Int} {u v : World} (h : HI w g4 gk g1 g2 K L1 L2 u) (k : Gr u v) : HI w g4 gk g1 g2 K L1 L2 v :=
  ⟨k.blk h.b4, k.blk h.bk, h.h1.gr k, h.h2.gr k, h.gr.trans k, h.n4, h.nk, h.n1, h.n2, Nat.lt_of_lt_of_le h.n9 k.size⟩
theorem HI.one {w : World} {g4 gk g1 g2 : Nat} {K L1 L2 M : List Int} {u v : World} (h : HI w g4 gk g1 g2 K L1 L2 u) (k : Bt g1 u v) (hm : H g1 M v) : HI w g4 gk g1 g2 K M L2 v := by
  have a1 := h.n4; have a2 := h.nk; have a3 := h.n1; have a4 := h.n2
  exact ⟨k.blk h.b4 (by omega), k.blk h.bk (by omega), hm, h.h2.bt k (by omega), k.gr h.gr (by omega), h.n4, h.nk, h.n1, h.n2, Nat.lt_of_lt_of_le h.n9 k.size⟩
theorem HI.two {w : World} {g4 gk g1 g2 : Nat} {K L1 L2 M : List Int} {u v : World} (h : HI w g4 gk g1 g2 K L1 L2 u) (k : Bt g2 u v) (hm : H g2 M v) : HI w g4 gk g1 g2 K L1 M v := by
  have a1 := h.n4; have a2 := h.nk; have a3 := h.n1; have a4 := h.n2
  exact ⟨k.blk h.b4 (by omega), k.blk h.bk (by omega), h.h1.bt k (by omega), hm, k.gr h.gr (by omega), h.n4, h.nk, h.n1, h.n2, Nat.lt_of_lt_of_le h.n9 k.size⟩
theorem PrX.one {g : Nat} {w : World} {p : Nat} {a : Option Addr} {n c : Nat} {t : TypeId} {P : List Int} (h : w.heap[p]? = some (.cells #[.slice a n c] t (0, 0))) (hp : p ≠ g) (hn : P.length = n) (hb : IsB P) (hs : SlX g w a P) (hc : n ≤ c) (hm : c < 9223372036854775808) : PrX g w (some ⟨p, 0, none⟩) [P] := by
  refine .inr ⟨p, 0, rfl, fun j hj => ?_⟩
  have hj0 : j = 0 := by simp at hj; exact hj
  subst hj0
  exact ⟨a, n, c, cell_of h rfl, hp, hn, hb, hs, hc, hm⟩
theorem PrX.pair {g : Nat} {w : World} {p : Nat} {a b : Option Addr} {n c m d : Nat} {t : TypeId} {P Q : List Int} (h : w.heap[p]? = some (.cells #[.slice a n c, .slice b m d] t (0, 0))) (hp : p ≠ g) (hn : P.length = n) (hb : IsB P) (hs : SlX g w a P) (hc : n ≤ c) (hm : c < 9223372036854775808)
    (hn2 : Q.length = m) (hb2 : IsB Q) (hs2 : SlX g w b Q) (hc2 : m ≤ d) (hm2 : d < 9223372036854775808) : PrX g w (some ⟨p, 0, none⟩) [P, Q] := by
  refine .inr ⟨p, 0, rfl, fun j hj => ?_⟩
  have hj0 : j = 0 ∨ j = 1 := by simp at hj; omega
  rcases hj0 with rfl | rfl
  · exact ⟨a, n, c, cell_of h rfl, hp, hn, hb, hs, hc, hm⟩
  · exact ⟨b, m, d, cell_of h rfl, hp, hn2, hb2, hs2, hc2, hm2⟩
def Coded (key text : List Int) (w : World) (r : Ending) (w' : World) : Prop := r = .returned (.agg (kc (hmacL key text))) ∧ Gr w w'
set_option maxHeartbeats 2000000 in
theorem hmac_ok (B : List Int) (hb : IsB B) (n : Nat) (hn : B.length = n) (hnb : n < 1152921504606846000) (a : Option Addr) (cap : Nat) (hcap : n ≤ cap) (hcb : cap < 9223372036854775808) (ps : List (List Int)) (ap : Option Addr) (m cp : Nat) (hm : ps.length = m) (hmb : m < 4611686018427387904) (hbig : ps.flatten.length < 1152921504606840000)
    (w : World) (hF : Fst w) (hA : Sl w a B) (hP : Pr w ap ps) : Calls Tryd.prog 70 #[.slice a n cap, .slice ap m cp] w (Coded B ps.flatten w) := by
  obtain ⟨T, hT⟩ : ∃ T, T = Coded B ps.flatten w := ⟨_, rfl⟩
  rw [← hT]
  replace hT := hide hT
  replace hF := hide hF
  replace hA := hide hA
  replace hP := hide hP
  replace hb := hide hb
  replace hn := hide hn
  replace hm := hide hm
  replace hbig := hide hbig
  go_enter Tryd.func70, Tryd.ntmps70
  go_upto_region 1 with fail
  have hB := (Bl.nil w).new #[.int .u8 0, .int .u8 0, .int .u8 0, .int .u8 0, .int .u8 0, .int .u8 0, .int .u8 0, .int .u8 0, .int .u8 0, .int .u8 0, .int .u8 0, .int .u8 0, .int .u8 0, .int .u8 0, .int .u8 0, .int .u8 0, .int .u8 0, .int .u8 0, .int .u8 0, .int .u8 0, .int .u8 0, .int .u8 0, .int .u8 0, .int .u8 0, .int .u8 0, .int .u8 0, .int .u8 0, .int .u8 0, .int .u8 0, .int .u8 0, .int .u8 0, .int .u8 0] 25
  simp only [List.nil_append] at hB
  generalize World.alloc _ _ = u1 at *
  replace hB : Bl w [⟨w.heap.size, kc Z32, 25⟩] u1 := hB
  refine wp_region_lit ?_
  iterate 1 (refine wpList_step fun K hK => ?_; replace hK := hide hK; go_simp; refine unhide hK _ _ ?_; clear hK K)
  refine list_call 89 #[.slice a n cap] (by kernel_rfl) (by kernel_rfl) ((pads_ok B (unhide hb) n (unhide hn) hnb a cap hcap hcb _ ((unhide hF).gr hB.gr) ((unhide hA).gr hB.gr)).mono ?_)
  rintro r u2 ⟨gk, rfl, hgk, hk, hg⟩
  refine ⟨_, rfl, ?_⟩
  have n0 := lt_of_block (hB.get 0 (x := ⟨w.heap.size, kc Z32, 25⟩) rfl)
  have nk : w.heap.size < gk := by dsimp only at n0; omega
  have n1 := lt_of_block hk
  replace hB := hB.more hg
  clear hg hgk n0
  simp only [nrm]
  replace hB := hide hB
  replace hk := hide hk
  obtain ⟨PF, hPF⟩ : ∃ PF, PF = padf gk := ⟨_, rfl⟩
  rw [← hPF]
  replace hPF := hide hPF
  iterate 1 (refine wpList_step fun K hK => ?_; replace hK := hide hK; go_simp; refine unhide hK _ _ ?_; clear hK K)
  refine wpList_nil ?_
  go_upto_region 2 with fail
  replace hB := unhide hB
  replace hk := unhide hk
  refine wp_region_lit ?_
  refine list_call 41 #[] (by kernel_rfl) (by kernel_rfl) ((new_ok _ ((unhide hF).gr hB.gr)).mono ?_)
  rintro r u3 ⟨g1, rfl, hg1, hH1, hg⟩
  refine ⟨_, rfl, ?_⟩
  have nk1 : gk < g1 := by omega
  have m1 : g1 < u3.heap.size := by obtain ⟨l, _, _, h3, _⟩ := hH1; exact lt_of_block h3
  replace hB := hB.more hg
  replace hk := hg.blk hk
  clear hg hg1 n1
  simp only [nrm]
  refine list_call 41 #[] (by kernel_rfl) (by kernel_rfl) ((new_ok _ ((unhide hF).gr hB.gr)).mono ?_)
  rintro r u4 ⟨g2, rfl, hg2, hH2, hg⟩
  refine ⟨_, rfl, ?_⟩
  have n12 : g1 < g2 := by omega
  have m2 : g2 < u4.heap.size := by obtain ⟨l, _, _, h3, _⟩ := hH2; exact lt_of_block h3
  replace hB := hB.more hg
  replace hk := hg.blk hk
  replace hH1 := hH1.gr hg
  clear hg hg2 m1
  simp only [nrm]
  have hI : HI w w.heap.size gk g1 g2 (z6 B) [] [] u4 := ⟨hB.get 0 (x := ⟨w.heap.size, kc Z32, 25⟩) rfl, hk, hH1, hH2, hB.gr, Nat.le_refl _, nk, nk1, n12, m2⟩
  clear hB hk hH1 hH2 m2
  replace hI := hide hI
  iterate 2 (refine wpList_step fun K hK => ?_; replace hK := hide hK; go_simp; refine unhide hK _ _ ?_; clear hK K)
  refine wpList_nil ?_
  go_upto_region 3 with fail
  refine wp_region_lit ?_
  iterate 1 (refine wpList_step fun K hK => ?_; replace hK := hide hK; go_simp; refine unhide hK _ _ ?_; clear hK K)
  refine list_val (wrf g1) (by kernel_rfl) (by kernel_rfl) ?_
  simp only [nrm]
  iterate 1 (refine wpList_step fun K hK => ?_; replace hK := hide hK; go_simp; refine unhide hK _ _ ?_; clear hK K)
  rw [unhide hPF]
  replace hI := unhide hI
  refine list_call 105 #[.int .u8 54, .pointer (some ⟨gk, 0, none⟩)] (by kernel_rfl) (by kernel_rfl) ((pads1_ok (z6 B) (z6_len B) 54 gk _ hI.bk).mono ?_)
  rintro r u5 ⟨gp, rfl, hgp, hp, hg⟩
  refine ⟨_, rfl, ?_⟩
  have npg : gp ≠ g1 := by have := hI.n9; omega
  replace hI := hI.more hg
  clear hg hgp
  rw [pad_all] at hp
  rw [← unhide hPF]
  simp only [nrm]
  replace hI := hide hI
  replace hp := hide hp
  obtain ⟨WF, hWF⟩ : ∃ WF, WF = wrf g1 := ⟨_, rfl⟩
  rw [← hWF]
  replace hWF := hide hWF
  iterate 1 (refine wpList_step fun K hK => ?_; replace hK := hide hK; go_simp; refine unhide hK _ _ ?_; clear hK K)
  have hg := (Gr.refl u5).alloc (.cells #[.slice (some ⟨gp, 0, none⟩) 64 64] 33)
  have hnew : (u5.alloc (.cells #[.slice (some ⟨gp, 0, none⟩) 64 64] 33)).heap[u5.heap.size]? = some (.cells #[.slice (some ⟨gp, 0, none⟩) 64 64] 33 (0, 0)) := blk_new _ _
  have hng : u5.heap.size ≠ g1 := by have := (unhide hI).n9; omega
  replace hI := (unhide hI).more hg
  replace hp := hg.blk (unhide hp)
  generalize World.alloc _ _ = u6 at *
  generalize u5.heap.size = gb at *
  clear hg
  rw [unhide hWF]
  refine list_call 90 #[wrf g1, .slice (some ⟨gb, 0, none⟩) 1 1] (by kernel_rfl) (by kernel_rfl) ((feed_ok g1 [] [padK B 54] (some ⟨gb, 0, none⟩) 1 1 rfl (by omega) (by simp [padK_len]) _ hI.h1 (PrX.one hnew hng (padK_len B 54) (padK_isB B 54) (.inr ⟨gp, 0, rfl, kc_at hp, npg⟩) (by omega) (by omega))).mono ?_)
  rintro r u7 ⟨vr, rfl, hH, hbt⟩
  refine ⟨_, rfl, ?_⟩
  replace hI := hI.one hbt hH
  rw [show ([] : List Int) ++ [padK B 54].flatten = padK B 54 by simp] at hI
  clear hbt hH hp hnew hng npg hWF
  simp only [nrm]
  refine wpList_nil ?_
  replace hI := hide hI
  go_upto_region 4 with fail
  refine wp_region_lit ?_
  iterate 1 (refine wpList_step fun K hK => ?_; replace hK := hide hK; go_simp; refine unhide hK _ _ ?_; clear hK K)
  refine list_val (wrf g1) (by kernel_rfl) (by kernel_rfl) ?_
  simp only [nrm]
  replace hI := unhide hI
  refine list_val (.slice ap m cp) (by kernel_rfl) (by kernel_rfl) ?_
  simp only [nrm]
  refine list_call 90 #[wrf g1, .slice ap m cp] (by kernel_rfl) (by kernel_rfl) ((feed_ok g1 (padK B 54) ps ap m cp (unhide hm) hmb (by rw [padK_len]; have := unhide hbig; omega) _ hI.h1 ((unhide hP).far hI.gr (by have a2 := hI.nk; have a3 := hI.n1; omega))).mono ?_)
  rintro r u8 ⟨vr2, rfl, hH, hbt⟩
  refine ⟨_, rfl, ?_⟩
  replace hI := hI.one hbt hH
  clear hbt hH
  simp only [nrm]
  refine wpList_nil ?_
  replace hI := hide hI
  go_upto_region 5 with fail
  refine wp_region_lit ?_
  iterate 1 (refine wpList_step fun K hK => ?_; replace hK := hide hK; go_simp; refine unhide hK _ _ ?_; clear hK K)
  replace hI := unhide hI
  refine list_call 43 #[.pointer (some ⟨g1, 0, none⟩)] (by kernel_rfl) (by kernel_rfl) ((hsum_ok g1 (padK B 54 ++ ps.flatten) (by rw [List.length_append, padK_len]; have := unhide hbig; omega) _ hI.h1).mono ?_)
  rintro r u9 ⟨rfl, hg⟩
  refine ⟨_, rfl, ?_⟩
  replace hI := hI.more hg
  clear hg
  simp only [nrm]
  have hSum : Hid (sumL (padK B 92 ++ sumL (padK B 54 ++ ps.flatten)) = hmacL B ps.flatten) := rfl
  obtain ⟨M, hM⟩ : ∃ M, M = sumL (padK B 54 ++ ps.flatten) := ⟨_, rfl⟩
  have hMl : M.length = 32 := by rw [hM]; exact sumL_len _
  have hMb : IsB M := by rw [hM]; exact sumL_isB _
  rw [← hM] at hSum
  rw [← hM]
  clear hM
  replace hI := hide hI
  replace hMb := hide hMb
  iterate 1 (refine wpList_step fun K hK => ?_; replace hK := hide hK; go_simp; refine unhide hK _ _ ?_; clear hK K)
  have hL := (Bl.nil u9).new #[.int .u8 0, .int .u8 0, .int .u8 0, .int .u8 0, .int .u8 0, .int .u8 0, .int .u8 0, .int .u8 0, .int .u8 0, .int .u8 0, .int .u8 0, .int .u8 0, .int .u8 0, .int .u8 0, .int .u8 0, .int .u8 0, .int .u8 0, .int .u8 0, .int .u8 0, .int .u8 0, .int .u8 0, .int .u8 0, .int .u8 0, .int .u8 0, .int .u8 0, .int .u8 0, .int .u8 0, .int .u8 0, .int .u8 0, .int .u8 0, .int .u8 0, .int .u8 0] 25
  simp only [List.nil_append] at hL
  generalize World.alloc _ _ = u10 at *
  replace hL : Bl u9 [⟨u9.heap.size, kc Z32, 25⟩] u10 := hL
  refine list_store 25 (.tmp 8) (.tmp 24) u9.heap.size (kc M) 25 (kc Z32) (by kernel_rfl) rfl (by kernel_rfl) (by kernel_rfl) (hL.get 0 (x := ⟨u9.heap.size, kc Z32, 25⟩) rfl) (by rw [Tryd.infoKey, kc_size, hMl]) ((show (kc Z32).size = 32 from rfl).trans ((kc_size _).trans hMl).symm) (kc_one _) ?_
  replace hL := hL.set 0 (x := ⟨u9.heap.size, kc Z32, 25⟩) rfl (kc M)
  simp only [List.set_cons_zero, List.set_cons_succ] at hL
  generalize World.setRow _ _ _ = u11 at *
  simp only [nrm]
  refine wpList_nil ?_
  have hks := hL.get 0 (x := ⟨u9.heap.size, kc M, 25⟩) rfl
  dsimp only at hks
  have nsg : u9.heap.size ≠ g2 := by have := (unhide hI).n9; omega
  replace hI := (unhide hI).more hL.gr
  generalize u9.heap.size = gs at *
  clear hL
  replace hI := hide hI
  replace hks := hide hks
  go_upto_region 6 with fail
  replace hI := unhide hI
  replace hks := unhide hks
  refine any_start (S := fun _ => True) (by kernel_rfl) ?_
  have hg := (Gr.refl u11).drew
  generalize World.drew _ = u11b at *
  replace hI := hI.more hg
  replace hks := hg.blk hks
  clear hg
  rw [unhide hPF]
  simp only [List.size_toArray, List.length_cons, List.length_nil, Array.replicate, List.replicate]
  refine any_take (i := 0) (v := (.pointer (some ⟨g2, 0, none⟩))) #[false, false, false, false, false, false, false] rfl (by kernel_rfl) (by kernel_rfl) (by kernel_rfl) (by kernel_rfl) (fun _ _ _ h => h) (.inl ⟨by kernel_rfl, fun x_ hu => by kernel_rfl⟩) trivial ?_
  simp only [nrm]
  refine any_take (i := 1) (v := (wrf g2)) #[true, false, false, false, false, false, false] rfl (by kernel_rfl) (by kernel_rfl) (by kernel_rfl) (by kernel_rfl) (fun _ _ _ h => h) (.inl ⟨by kernel_rfl, fun x_ hu => by kernel_rfl⟩) trivial ?_
  simp only [nrm]
  refine any_take (i := 2) (v := (padf gk)) #[true, true, false, false, false, false, false] rfl (by kernel_rfl) (by kernel_rfl) (by kernel_rfl) (by kernel_rfl) (fun _ _ _ h => h) (.inl ⟨by kernel_rfl, fun x_ hu => by kernel_rfl⟩) trivial ?_
  simp only [nrm]
  refine any_take (i := 4) (v := (.slice (some ⟨gs, 0, none⟩) 32 32)) #[true, true, true, false, false, false, false] rfl (by kernel_rfl) (by kernel_rfl) (by kernel_rfl) (by kernel_rfl) (fun _ _ _ h => h) (.inl ⟨by kernel_rfl, fun x_ hu => by go_simp⟩) trivial ?_
  simp only [nrm]
  refine any_one (i := 3) (by kernel_rfl) rfl (fun K hK => ?_)
  refine step_callw (by kernel_rfl) 105 #[.int .u8 92, .pointer (some ⟨gk, 0, none⟩)] (by kernel_rfl) ((pads1_ok (z6 B) (z6_len B) 92 gk _ hI.bk).mono ?_)
  rintro r u12 ⟨gq, rfl, hgq, hq, hg⟩
  refine ⟨_, rfl, ?_⟩
  have nqg : gq ≠ g2 := by have := hI.n9; omega
  replace hI := hI.more hg
  replace hks := hg.blk hks
  clear hg hgq
  rw [pad_all] at hq
  refine hK.out _ _ trivial (fun _ => ?_)
  clear hK K
  simp only [nrm]
  refine any_one (i := 5) (by kernel_rfl) rfl (fun K hK => ?_)
  replace hI := hide hI
  replace hq := hide hq
  replace hks := hide hks
  obtain ⟨WG, hWG⟩ : ∃ WG, WG = wrf g2 := ⟨_, rfl⟩
  rw [← hWG]
  replace hWG := hide hWG
  replace hK := hide hK
  go_simp
  refine (unhide hK).out _ _ trivial (fun _ => ?_)
  clear hK K
  have hg := (Gr.refl u12).alloc (.cells #[.slice (some ⟨gq, 0, none⟩) 64 64, .slice (some ⟨gs, 0, none⟩) 32 32] 33)
  have hnew : (u12.alloc (.cells #[.slice (some ⟨gq, 0, none⟩) 64 64, .slice (some ⟨gs, 0, none⟩) 32 32] 33)).heap[u12.heap.size]? = some (.cells #[.slice (some ⟨gq, 0, none⟩) 64 64, .slice (some ⟨gs, 0, none⟩) 32 32] 33 (0, 0)) := blk_new _ _
  have hng : u12.heap.size ≠ g2 := by have := (unhide hI).n9; omega
  replace hI := (unhide hI).more hg
  replace hq := hg.blk (unhide hq)
  replace hks := hg.blk (unhide hks)
  generalize World.alloc _ _ = u13 at *
  generalize u12.heap.size = gc at *
  clear hg
  rw [unhide hWG]
  clear hWG
  refine any_one (i := 6) (by kernel_rfl) rfl (fun K hK => ?_)
  refine step_callw (by kernel_rfl) 90 #[wrf g2, .slice (some ⟨gc, 0, none⟩) 2 2] (by kernel_rfl) ((feed_ok g2 [] [padK B 92, M] (some ⟨gc, 0, none⟩) 2 2 rfl (by omega) (by simp [padK_len, hMl]) _ hI.h2 (PrX.pair hnew hng (padK_len B 92) (padK_isB B 92) (.inr ⟨gq, 0, rfl, kc_at hq, nqg⟩) (by omega) (by omega) hMl (unhide hMb) (.inr ⟨gs, 0, rfl, kc_at hks, nsg⟩) (by omega) (by omega))).mono ?_)
  rintro r u14 ⟨vr3, rfl, hH, hbt⟩
  refine ⟨_, rfl, ?_⟩
  replace hI := hI.two hbt hH
  clear hbt hH hnew hng hq hks
  refine hK.out _ _ trivial (fun _ => ?_)
  clear hK K
  simp only [nrm]
  refine any_done (by kernel_rfl) ?_
  try simp only [nrm]
  rw [show ([] : List Int) ++ [padK B 92, M].flatten = padK B 92 ++ M by simp] at hI
  replace hI := hide hI
  go_upto_region 7 with fail
  refine wp_region_lit ?_
  iterate 1 (refine wpList_step fun K hK => ?_; replace hK := hide hK; go_simp; refine unhide hK _ _ ?_; clear hK K)
  replace hI := unhide hI
  refine list_call 43 #[.pointer (some ⟨g2, 0, none⟩)] (by kernel_rfl) (by kernel_rfl) ((hsum_ok g2 (padK B 92 ++ M) (by rw [List.length_append, padK_len, hMl]; omega) _ hI.h2).mono ?_)
  rintro r u15 ⟨rfl, hg⟩
  refine ⟨_, rfl, ?_⟩
  replace hI := hI.more hg
  clear hg
  rw [unhide hSum]
  simp only [nrm]
  have hRl : (hmacL B ps.flatten).length = 32 := hmacL_len _ _
  obtain ⟨R, hR⟩ : ∃ R, R = hmacL B ps.flatten := ⟨_, rfl⟩
  rw [← hR] at hRl
  rw [← hR]
  refine list_store 25 (.tmp 4) (.tmp 33) w.heap.size (kc R) 25 (kc Z32) (by kernel_rfl) rfl (by kernel_rfl) (by kernel_rfl) hI.b4 (by rw [Tryd.infoKey, kc_size, hRl]) ((show (kc Z32).size = 32 from rfl).trans ((kc_size _).trans hRl).symm) (kc_one _) ?_
  have hb4 := setRow_heap u15 w.heap.size _ (kc R) _ _ hI.b4
  have hgr := hI.gr.row w.heap.size (Nat.le_refl _) (kc R)
  generalize World.setRow _ _ _ = u16 at *
  clear hI
  simp only [nrm]
  refine wpList_nil ?_
  go_wp2_with fail
  rw [unhide hT]
  exact bodyPost_ret (v := .agg (kc R)) (results_cell_row Tryd.results70 _ _ w.heap.size 25 (kc R) (0, 0) _ rfl hb4 Tryd.underlying25 rfl (by rw [Tryd.infoKey, kc_size, hRl])) rfl ⟨by rw [hR], hgr⟩
theorem Lb.nil (w : World) : Lb w none 0 0 [] := ⟨rfl, (by intro x hx; cases hx), .inl rfl, by omega, by omega⟩
theorem Pr.three {w : World} {p : Nat} {a b e : Option Addr} {n c m d k f : Nat} {t : TypeId} {P Q R : List Int} (h : w.heap[p]? = some (.cells #[.slice a n c, .slice b m d, .slice e k f] t (0, 0))) (hp : Lb w a n c P) (hq : Lb w b m d Q) (hr : Lb w e k f R) : Pr w (some ⟨p, 0, none⟩) [P, Q, R] := by
  refine .inr ⟨p, 0, rfl, fun j hj => ?_⟩
  have hj0 : j = 0 ∨ j = 1 ∨ j = 2 := by simp at hj; omega
  rcases hj0 with rfl | rfl | rfl
  · exact ⟨a, n, c, cell_of h rfl, hp.len, hp.isB, hp.sl, hp.cap, hp.max⟩
  · exact ⟨b, m, d, cell_of h rfl, hq.len, hq.isB, hq.sl, hq.cap, hq.max⟩
  · exact ⟨e, k, f, cell_of h rfl, hr.len, hr.isB, hr.sl, hr.cap, hr.max⟩
theorem Sl.cutl {w : World} {a : Option Addr} {n c : Nat} {B : List Int} (h : Lb w a n c B) (k : Nat) (hk : k ≤ n) : Lb w a k c (B.take k) := by
  refine ⟨by rw [List.length_take, h.len]; omega, isB_take h.isB k, ?_, by have := h.cap; omega, h.max⟩
  rcases h.sl with h1 | ⟨p, o, h1, h2⟩
  · left; rw [h1]; simp
  · exact .inr ⟨p, o, h1, h2.take k⟩
theorem Sl.cutr {w : World} {a : Option Addr} {n c : Nat} {B : List Int} (h : Lb w a n c B) (k : Nat) (hk : k ≤ n) : Lb w (if c = k then a else Option.map (fun x => x.add k) a) (n - k) (c - k) (B.drop k) := by
  refine ⟨by rw [List.length_drop, h.len], isB_drop h.isB k, ?_, by have := h.cap; omega, by have := h.max; omega⟩
  rcases h.sl with h1 | ⟨p, o, h1, h2⟩
  · left; rw [h1]; simp
  · split
    · left
      have := h.cap
      have h3 := h.len
      exact List.drop_eq_nil_of_le (by omega)
    · exact .inr ⟨p, o + k, by rw [h1]; simp [Addr.add_mid], h2.drop k⟩
def lastT (K I : List Int) : Nat → List Int
  | 0 => []
  | i + 1 => hmacL K (lastT K I i ++ (I ++ [(((i + 1) % 256 : Nat) : Int)]))
def outT (K I : List Int) : Nat → List Int
  | 0 => []
  | i + 1 => outT K I i ++ lastT K I (i + 1)
theorem outT_len (K I : List Int) : ∀ i, (outT K I i).length = 32 * i
  | 0 => rfl
  | i + 1 => by
    rw [outT, List.length_append, outT_len K I i, lastT, hmacL_len]
    omega
theorem outT_add (K I : List Int) (m : Nat) : ∀ d, ∃ r, outT K I (m + d) = outT K I m ++ r
  | 0 => ⟨[], by simp⟩
  | d + 1 => by
    obtain ⟨r, hr⟩ := outT_add K I m d
    refine ⟨r ++ lastT K I (m + d + 1), ?_⟩
    rw [← Nat.add_assoc, outT, hr, List.append_assoc]
def spL (K I : List Int) (n : Nat) : List Int := (outT K I ((n + 31) / 32)).take n
theorem spL_len (K I : List Int) (n : Nat) : (spL K I n).length = n := by
  unfold spL
  rw [List.length_take, outT_len]
  omega
theorem spL_of (K I : List Int) (n m : Nat) (h : n ≤ 32 * m) : (outT K I m).take n = spL K I n := by
  obtain ⟨d, hd⟩ : ∃ d, m = (n + 31) / 32 + d := ⟨m - (n + 31) / 32, by omega⟩
  obtain ⟨r, hr⟩ := outT_add K I ((n + 31) / 32) d
  unfold spL
  rw [hd, hr, List.take_append_of_le_length (by rw [outT_len]; omega)]
theorem spL_fewer (K I : List Int) (n m : Nat) (h : n ≤ m) : (spL K I m).take n = spL K I n := by
  unfold spL
  rw [List.take_take, Nat.min_eq_left h]
  exact spL_of K I n _ (by omega)
theorem lastT_isB (K I : List Int) : ∀ i, IsB (lastT K I i)
  | 0 => by intro x hx; cases hx
  | i + 1 => by rw [lastT]; exact sumL_isB _
theorem outT_isB (K I : List Int) : ∀ i, IsB (outT K I i)
  | 0 => by intro x hx; cases hx
  | i + 1 => by rw [outT]; exact isB_append (outT_isB K I i) (lastT_isB K I (i + 1))
theorem spL_isB (K I : List Int) (n : Nat) : IsB (spL K I n) := isB_take (outT_isB _ _ _) n
theorem lastT_len (K I : List Int) (i : Nat) : (lastT K I (i + 1)).length = 32 := by rw [lastT]; exact hmacL_len _ _
def Spr (K I : List Int) (n : Nat) (w : World) (r : Ending) (w' : World) : Prop := ∃ a, r = .returned (.slice a n n) ∧ Lb w' a n n (spL K I n) ∧ (∀ x, a = some x → w.heap.size ≤ x.block) ∧ Gr w w'
structure SI (w : World) (b gk : Nat) (K I : List Int) (i : Nat) (v7 : Value) (a8 : Option Addr) (n8 c8 : Nat) (v : World) : Prop where
  ob : Ob b v v7 (outT K I i)
  la : Lb v a8 n8 c8 (lastT K I i)
  bk : v.heap[gk]? = some (.cells (kc K) 25 (0, 0))
  gr : Gr w v
  sz : b ≤ v.heap.size
theorem SI.more {w : World} {b gk : Nat} {K I : List Int} {i : Nat} {v7 : Value} {a8 : Option Addr} {n8 c8 : Nat} {u v : World} (h : SI w b gk K I i v7 a8 n8 c8 u) (k : Gr u v) : SI w b gk K I i v7 a8 n8 c8 v :=
  ⟨h.ob.gr k, h.la.gr k, k.blk h.bk, h.gr.trans k, Nat.le_trans h.sz k.size⟩
set_option maxHeartbeats 2000000 in
theorem spread_ok (K : List Int) (hKl : K.length = 32) (hKb : IsB K) (I : List Int) (a : Option Addr) (ni ci : Nat) (n : Nat) (hn : n ≤ 8160) (hni : ni ≤ 1152921504606830000) (w : World) (hF : Fst w) (hI : Lb w a ni ci I) :
    Calls Tryd.prog 49 #[.agg (kc K), .slice a ni ci, .int .i64 n] w (Spr K I n w) := by
  obtain ⟨T, hT⟩ : ∃ T, T = Spr K I n w := ⟨_, rfl⟩
  rw [← hT]
  obtain ⟨KK, hKK⟩ : ∃ KK, KK = kc K := ⟨_, rfl⟩
  rw [← hKK]
  have hKs : KK.size = 32 := by rw [hKK, kc_size, hKl]
  replace hT := hide hT
  replace hF := hide hF
  replace hI := hide hI
  replace hKK := hide hKK
  replace hKb := hide hKb
  have w1 : IntKind.i64.wrap ((n : Int) + 32) = (n : Int) + 32 := by rw [IntKind.wrap_i64]; omega
  have w2 : (0 : Int) ≤ (n : Int) + 32 := by omega
  go_enter Tryd.func49, Tryd.ntmps49
  go_upto_region 1 with fail
  have hB := (Bl.nil w).new KK 25
  simp only [List.nil_append] at hB
  generalize World.alloc _ _ = u1 at *
  refine wp_region_lit ?_
  iterate 2 (refine wpList_step fun K hK => ?_; replace hK := hide hK; go_simp; refine unhide hK _ _ ?_; clear hK K)
  refine wpList_make_room u1 rfl (.const (.int .i64 0)) (.tmp 12) rfl 0 ((n : Int) + 32) 0 (n + 32) (by kernel_rfl) (by kernel_rfl) (by omega) (by omega) (by omega) (by omega) ?_
  have hO : Ob u1.heap.size (u1.alloc (.cells (kc (List.replicate (n + 32) 0)) 5 (0, 0))) (.slice (some ⟨u1.heap.size, 0, none⟩) 0 (n + 32)) [] :=
    ⟨rfl, .inr ⟨u1.heap.size, n + 32, _, rfl, Nat.le_refl _, blk_new _ _, by simp, by unfold maxLen; omega, by rw [kc_size]; simp, by simp⟩⟩
  have hg := (Gr.refl u1).alloc (.cells (kc (List.replicate (n + 32) 0)) 5 (0, 0))
  have hgk : w.heap.size < u1.heap.size := by have := lt_of_block (hB.get 0 (x := ⟨w.heap.size, KK, 25⟩) rfl); exact this
  replace hB := hB.more hg
  have hbs := hg.size
  generalize World.alloc _ _ = u2 at *
  generalize u1.heap.size = b at *
  clear hg
  simp only [nrm]
  have hS : SI w b w.heap.size K I 0 (.slice (some ⟨b, 0, none⟩) 0 (n + 32)) none 0 0 u2 := ⟨hO, Lb.nil _, (by rw [← unhide hKK]; exact hB.get 0 (x := ⟨w.heap.size, KK, 25⟩) rfl), hB.gr, hbs⟩
  clear hO hB hbs
  replace hS := hide hS
  iterate 1 (refine wpList_step fun K hK => ?_; replace hK := hide hK; go_simp; refine unhide hK _ _ ?_; clear hK K)
  refine wpList_nil ?_
  go_wp2_with fail
  go_loopw [7, 8, 9] (fun x y z wr => ∃ (i : Nat) (a7 : Option Addr) (c7 : Nat) (a8 : Option Addr) (n8 c8 : Nat), i ≤ (n + 31) / 32 ∧ x = .slice a7 (32 * i) c7 ∧ y = .slice a8 n8 c8 ∧ z = .int .i64 ((i + 1 : Nat) : Int) ∧ Hid (SI w b w.heap.size K I i (.slice a7 (32 * i) c7) a8 n8 c8 wr)) (fun x _ _ _ => n + 32 - slenV x)
  case atStart => exact ⟨0, _, n + 32, none, 0, 0, by omega, rfl, rfl, rfl, hS⟩
  case round =>
  clear hS
  obtain ⟨i, a7, c7, a8, n8, c8, hi, rfl, rfl, rfl, hS⟩ := hrel
  by_cases hl : 32 * i < n
  · have lI : 32 * (i : Int) < (n : Int) := by omega
    have e1 : IntKind.i64.wrap ((i : Int) + 1 + 1) = (i : Int) + 1 + 1 := by rw [IntKind.wrap_i64]; omega
    obtain ⟨y, hy⟩ : ∃ y : Int, y = (((i + 1) % 256 : Nat) : Int) := ⟨_, rfl⟩
    have e2 : IntKind.u8.wrap ((i : Int) + 1) = y := by rw [IntKind.wrap_u8', hy]; omega
    have hyb : 0 ≤ y ∧ y < 256 := by omega
    have hnx : Hid (hmacL K ([lastT K I i, I, [y]] : List (List Int)).flatten = lastT K I (i + 1)) := by
      have e : ([lastT K I i, I, [y]] : List (List Int)).flatten = lastT K I i ++ (I ++ [y]) := by simp
      rw [e, hy]
      exact rfl
    replace hy := hide hy
    go_upto_region 6 with fail
    refine wp_region_lit ?_
    iterate 5 (refine wpList_step fun K hK => ?_; replace hK := hide hK; go_simp; refine unhide hK _ _ ?_; clear hK K)
    refine list_valw (.slice (some ⟨wr.heap.size, 0, none⟩) 1 1) (wr.alloc (.cells (kc [y]) 5 (0, 0))) (by kernel_rfl) (by kernel_rfl) ?_
    simp only [nrm]
    have hg := (Gr.refl wr).alloc (.cells (kc [y]) 5 (0, 0))
    have l3 : Lb (wr.alloc (.cells (kc [y]) 5 (0, 0))) (some ⟨wr.heap.size, 0, none⟩) 1 1 [y] := ⟨rfl, (by intro x hx; simp at hx; subst hx; exact hyb), .inr ⟨_, 0, rfl, kc_at (blk_new _ _)⟩, by omega, by omega⟩
    replace hS := (unhide hS).more hg
    generalize World.alloc _ _ = v1 at *
    generalize wr.heap.size = g1 at *
    clear hg
    refine list_valw (.slice (some ⟨v1.heap.size, 0, none⟩) 3 3) (v1.alloc (.cells #[.slice a8 n8 c8, .slice a ni ci, .slice (some ⟨g1, 0, none⟩) 1 1] 33 (0, 0))) (by kernel_rfl) (by kernel_rfl) ?_
    simp only [nrm]
    have hg := (Gr.refl v1).alloc (.cells #[.slice a8 n8 c8, .slice a ni ci, .slice (some ⟨g1, 0, none⟩) 1 1] 33 (0, 0))
    have hnew := blk_new v1 (.cells #[.slice a8 n8 c8, .slice a ni ci, .slice (some ⟨g1, 0, none⟩) 1 1] 33 (0, 0))
    replace hS := hS.more hg
    replace l3 := l3.gr hg
    generalize World.alloc _ _ = v2 at *
    generalize v1.heap.size = g2 at *
    clear hg
    have hP := Pr.three hnew hS.la ((unhide hI).gr hS.gr) l3
    refine list_call 70 #[.slice (some ⟨w.heap.size, 0, none⟩) 32 32, .slice (some ⟨g2, 0, none⟩) 3 3] (by kernel_rfl) (by kernel_rfl) ((hmac_ok K (unhide hKb) 32 hKl (by omega) _ 32 (by omega) (by omega) [lastT K I i, I, [y]] _ 3 3 rfl (by omega) (by have h1 : (lastT K I i).length ≤ 32 := (by cases i with | zero => simp [lastT] | succ j => rw [lastT_len]; omega); have h2 := (unhide hI).len; simp only [List.flatten_cons, List.flatten_nil, List.length_append, List.length_nil, List.length_cons]; omega) _ ((unhide hF).gr hS.gr) (.inr ⟨_, 0, rfl, kc_at hS.bk⟩) hP).mono ?_)
    rintro r v3 ⟨rfl, hg⟩
    refine ⟨_, rfl, ?_⟩
    replace hS := hS.more hg
    clear hg hP hnew l3
    rw [unhide hnx]
    simp only [nrm]
    obtain ⟨M, hM⟩ : ∃ M, M = lastT K I (i + 1) := ⟨_, rfl⟩
    have hMl : M.length = 32 := by rw [hM]; exact lastT_len _ _ _
    have hMb : IsB M := by rw [hM]; exact lastT_isB _ _ _
    rw [← hM]
    replace hM := hide hM
    replace hS := hide hS
    replace hMb := hide hMb
    iterate 1 (refine wpList_step fun K hK => ?_; replace hK := hide hK; go_simp; refine unhide hK _ _ ?_; clear hK K)
    have hL := (Bl.nil v3).new #[.int .u8 0, .int .u8 0, .int .u8 0, .int .u8 0, .int .u8 0, .int .u8 0, .int .u8 0, .int .u8 0, .int .u8 0, .int .u8 0, .int .u8 0, .int .u8 0, .int .u8 0, .int .u8 0, .int .u8 0, .int .u8 0, .int .u8 0, .int .u8 0, .int .u8 0, .int .u8 0, .int .u8 0, .int .u8 0, .int .u8 0, .int .u8 0, .int .u8 0, .int .u8 0, .int .u8 0, .int .u8 0, .int .u8 0, .int .u8 0, .int .u8 0, .int .u8 0] 25
    simp only [List.nil_append] at hL
    generalize World.alloc _ _ = v4 at *
    replace hL : Bl v3 [⟨v3.heap.size, kc Z32, 25⟩] v4 := hL
    refine list_store 25 (.tmp 10) (.tmp 27) v3.heap.size (kc M) 25 (kc Z32) (by kernel_rfl) rfl (by kernel_rfl) (by kernel_rfl) (hL.get 0 (x := ⟨v3.heap.size, kc Z32, 25⟩) rfl) (by rw [Tryd.infoKey, kc_size, hMl]) ((show (kc Z32).size = 32 from rfl).trans ((kc_size _).trans hMl).symm) (kc_one _) ?_
    replace hL := hL.set 0 (x := ⟨v3.heap.size, kc Z32, 25⟩) rfl (kc M)
    simp only [List.set_cons_zero, List.set_cons_succ] at hL
    generalize World.setRow _ _ _ = v5 at *
    simp only [nrm]
    refine wpList_nil ?_
    have hks := hL.get 0 (x := ⟨v3.heap.size, kc M, 25⟩) rfl
    dsimp only at hks
    have hobl : ∀ q, (Value.slice a7 (32 * i) c7).ownBlock = some q → q ≠ v3.heap.size := fun q hq => by have := (World.ownsRow.lt (unhide hS).ob q hq).2; omega
    replace hS := hide ((unhide hS).more hL.gr)
    generalize v3.heap.size = gc at *
    clear hL
    replace hobl := hide hobl
    replace hks := hide hks
    go_upto_region 8 with fail
    replace hS := unhide hS
    replace hks := unhide hks
    replace hobl := unhide hobl
    refine wp_region_lit ?_
    iterate 2 (refine wpList_step fun K hK => ?_; replace hK := hide hK; go_simp; refine unhide hK _ _ ?_; clear hK K)
    refine app_bs (by kernel_rfl) (.tmp 29) (.tmp 30) rfl b (.slice a7 (32 * i) c7) (outT K I i) (by kernel_rfl) hS.ob (some ⟨gc, 0, none⟩) 32 32 M (by kernel_rfl) hMl (.inr ⟨gc, 0, rfl, kc_at hks⟩) (by rw [outT_len]; omega) hS.sz ?_
    intro x5 v6 hO2 hgb
    have hks2 : v6.heap[gc]? = some (.cells (kc M) 25 (0, 0)) := by rw [hgb.block gc (lt_of_block hks) (fun e => hobl gc e.symm rfl)]; exact hks
    have hbk2 : v6.heap[w.heap.size]? = some (.cells (kc K) 25 (0, 0)) := by
      rw [hgb.block w.heap.size (lt_of_block hS.bk) (fun e => by have := (World.ownsRow.lt hS.ob _ e.symm).1; omega)]; exact hS.bk
    have hG2 := hS.ob.grown (by omega) hS.gr hgb
    have hsz2 := Nat.le_trans hS.sz hgb.size
    obtain ⟨a5, c5, rfl, _, _, _⟩ := hO2.slice
    have hO3 : Ob b v6 (.slice a5 (32 * (i + 1)) c5) (outT K I (i + 1)) := by
      have e : outT K I (i + 1) = outT K I i ++ M := by rw [outT, unhide hM]
      rw [← e] at hO2
      rw [outT_len] at hO2
      exact hO2
    have hlen : (outT K I i ++ M).length = 32 * (i + 1) := by rw [List.length_append, outT_len, hMl]; omega
    rw [hlen]
    have hS2 : SI w b w.heap.size K I (i + 1) (.slice a5 (32 * (i + 1)) c5) (some ⟨gc, 0, none⟩) 32 32 v6 := ⟨hO3, ⟨lastT_len _ _ _, lastT_isB _ _ _, .inr ⟨gc, 0, rfl, by rw [← unhide hM]; exact kc_at hks2⟩, by omega, by omega⟩, hbk2, hG2, hsz2⟩
    clear hS hO2 hO3 hgb hks hks2 hbk2 hG2 hsz2 hobl hlen
    simp only [nrm]
    replace hS2 := hide hS2
    iterate 1 (refine wpList_step fun K hK => ?_; replace hK := hide hK; go_simp; refine unhide hK _ _ ?_; clear hK K)
    refine wpList_nil ?_
    go_wp2_with fail
    refine ⟨⟨i + 1, a5, c5, some ⟨gc, 0, none⟩, 32, 32, by omega, rfl, rfl, by congr 1, hS2⟩, ?_⟩
    show n + 32 - 32 * (i + 1) < n + 32 - 32 * i
    omega
  · have lI : ¬ 32 * (i : Int) < (n : Int) := by omega
    obtain ⟨a6, c6, e6, hc6, hm6, hs6⟩ := (unhide hS).ob.slice
    rw [outT_len] at e6 hc6
    obtain ⟨rfl, _, rfl⟩ := (Value.slice.injEq _ _ _ _ _ _).mp e6
    have n1 : (n : Int) ≤ (c7 : Int) := by omega
    have n2 : n ≤ c7 := by omega
    have hP : Hid (Spr K I n w (.returned (.slice a7 n n)) wr) := by
      refine ⟨a7, rfl, ⟨spL_len _ _ _, spL_isB _ _ _, ?_, Nat.le_refl _, by omega⟩, (fun x hx => by have := (World.ownsRow.lt (unhide hS).ob x.block (by rw [hx]; rfl)).1; omega), (unhide hS).gr⟩
      rw [← spL_of K I n i (by omega)]
      rcases hs6 with h | ⟨p, o, h1, h2⟩
      · left; rw [h]; simp
      · exact .inr ⟨p, o, h1, h2.take n⟩
    clear hs6 hm6 hc6 e6 hS
    go_wp2_with fail
    rw [unhide hT]
    exact unhide hP
def lw (X : Nat) : Nat → List Int
  | 0 => []
  | k + 1 => lw X k ++ [((X / 256 ^ k % 256 : Nat) : Int)]
theorem lw_len (X : Nat) : ∀ k, (lw X k).length = k
  | 0 => rfl
  | k + 1 => by rw [lw, List.length_append, lw_len X k]; rfl
theorem lw_isB (X : Nat) : ∀ k, IsB (lw X k)
  | 0 => by intro x hx; cases hx
  | k + 1 => by
    intro x hx
    rw [lw] at hx
    rcases List.mem_append.1 hx with h | h
    · exact lw_isB X k x h
    · have : x = ((X / 256 ^ k % 256 : Nat) : Int) := by simpa using h
      omega
def lwz (B : List Int) (X k : Nat) : List Int := B ++ (lw X k ++ List.replicate (4 - k) 0)
theorem lwz_len (B : List Int) (X k : Nat) (hk : k ≤ 4) : (lwz B X k).length = B.length + 4 := by
  unfold lwz
  rw [List.length_append, List.length_append, lw_len, List.length_replicate]
  omega
theorem lwz_next (B : List Int) (X k : Nat) (hk : k < 4) : (lwz B X k).set (B.length + k) ((X / 256 ^ k % 256 : Nat) : Int) = lwz B X (k + 1) := by
  obtain ⟨m, hm⟩ : ∃ m, 4 - k = m + 1 := ⟨3 - k, by omega⟩
  have hm2 : 4 - (k + 1) = m := by omega
  unfold lwz
  rw [hm, hm2, List.set_append_right _ _ (by omega), Nat.add_sub_cancel_left, List.set_append_right _ _ (by rw [lw_len]; omega), lw_len, Nat.sub_self, List.replicate_succ, List.set_cons_zero, lw, List.append_assoc]
  rfl
theorem lwz_zero (B : List Int) (X : Nat) : lwz B X 0 = B ++ List.replicate 4 0 := rfl
theorem lwz_all (B : List Int) (X : Nat) : lwz B X 4 = B ++ lw X 4 := by unfold lwz; simp
def Putd (B : List Int) (X : Nat) (n : Nat) (w : World) (r : Ending) (w' : World) : Prop := ∃ g, r = .returned (.slice (some ⟨g, 0, none⟩) (n + 4) (n + 4)) ∧ w.heap.size ≤ g ∧ w'.heap[g]? = some (.cells (kc (B ++ lw X 4)) 5 (0, 0)) ∧ Gr w w'
set_option maxHeartbeats 2000000 in
theorem put_ok (B : List Int) (a : Option Addr) (n c : Nat) (X : Nat) (hX : X < 4294967296) (hn : n ≤ 140737488351232) (w : World) (hB : Lb w a n c B) : Calls Tryd.prog 76 #[.slice a n c, .int .u64 X, .int .i64 4] w (Putd B X n w) := by
  obtain ⟨T, hT⟩ : ∃ T, T = Putd B X n w := ⟨_, rfl⟩
  rw [← hT]
  replace hT := hide hT
  have hl := hB.len
  replace hB := hide hB
  have w1 : IntKind.i64.wrap ((n : Int) + 4) = (n : Int) + 4 := by rw [IntKind.wrap_i64]; omega
  have w2 : (0 : Int) ≤ (n : Int) + 4 := by omega
  replace hl := hide hl
  go_enter Tryd.func76, Tryd.ntmps76
  go_upto_region 1 with fail
  refine wp_region_lit ?_
  iterate 4 (refine wpList_step fun K hK => ?_; replace hK := hide hK; go_simp; refine unhide hK _ _ ?_; clear hK K)
  refine wpList_make_room w rfl (.tmp 12) (.tmp 12) rfl ((n : Int) + 4) ((n : Int) + 4) (n + 4) (n + 4) (by kernel_rfl) (by kernel_rfl) (by omega) (by omega) (by omega) (by omega) ?_
  have hv := blk_new w (.cells (kc (List.replicate (n + 4) 0)) 5 (0, 0))
  have hg := (Gr.refl w).alloc (.cells (kc (List.replicate (n + 4) 0)) 5 (0, 0))
  generalize World.alloc _ _ = u1 at *
  simp only [nrm]
  replace hv := hide hv
  replace hg := hide hg
  iterate 1 (refine wpList_step fun K hK => ?_; replace hK := hide hK; go_simp; refine unhide hK _ _ ?_; clear hK K)
  refine wpList_nil ?_
  go_upto_region 2 with fail
  refine wp_region_lit ?_
  iterate 2 (refine wpList_step fun K hK => ?_; replace hK := hide hK; go_simp; refine unhide hK _ _ ?_; clear hK K)
  refine wpList_plain rfl fun K hK => ?_
  refine copy_wp (.tmp 14) (.tmp 15) rfl w.heap.size 0 (n + 4) (n + 4) a n c (by kernel_rfl) (by kernel_rfl) ((List.replicate (n + 4) (0 : Int)).map (Value.int .u8)) 5 (unhide hv) B (by rw [unhide hl]; exact (Nat.min_eq_left (by omega)).symm) (by rcases ((unhide hB).gr (unhide hg)).sl with h | ⟨p, o, h1, h2⟩; exact .inl h; exact .inr ⟨p, o, h1, h2⟩) (by rw [List.length_map, List.length_replicate, unhide hl]; omega) ?_
  have hv2 := setCells_heap (B.map (Value.int .u8)) u1 w.heap.size 0 _ _ (unhide hv)
  rw [sp_kc B _ (by rw [List.length_replicate, unhide hl]; omega)] at hv2
  have e0 : B ++ (List.replicate (n + 4) (0 : Int)).drop B.length = lwz B X 0 := by
    rw [lwz_zero, List.drop_replicate, unhide hl]
    congr 2
    omega
  rw [e0] at hv2
  have hg2 := (setCells_bt (B.map (Value.int .u8)) u1 w.heap.size 0).gr (unhide hg) (Nat.le_refl _)
  refine hK _ _ ?_
  clear hK K hv hg e0
  simp only [nrm]
  generalize World.setCells _ _ _ _ = u2 at *
  rw [unhide hl]
  replace hv2 : Hid (u2.heap[w.heap.size]? = some (.cells (kc (lwz B X 0)) 5 (0, 0))) := hv2
  replace hg2 := hide hg2
  iterate 1 (refine wpList_step fun K hK => ?_; replace hK := hide hK; go_simp; refine unhide hK _ _ ?_; clear hK K)
  refine wpList_nil ?_
  go_wp2_with fail
  go_loopw [8, 1] (fun i x wr => ∃ k : Nat, k ≤ 4 ∧ i = .int .i64 ((n + k : Nat) : Int) ∧ x = .int .u64 ((X / 256 ^ k : Nat) : Int) ∧ Hid (wr.heap[w.heap.size]? = some (.cells (kc (lwz B X k)) 5 (0, 0))) ∧ Hid (Gr w wr)) (fun i _ _ => n + 4 - (intOf i).toNat)
  case atStart => exact ⟨0, by omega, rfl, by simp, hv2, hg2⟩
  case round =>
  clear hv2 hg2
  obtain ⟨k, hk, rfl, rfl, hv, hg⟩ := hrel
  by_cases hlt : k < 4
  · obtain ⟨q, hq⟩ : ∃ q, q = n + k := ⟨_, rfl⟩
    obtain ⟨Y, hY⟩ : ∃ Y, Y = X / 256 ^ k := ⟨_, rfl⟩
    obtain ⟨y, hy⟩ : ∃ y : Int, y = ((Y % 256 : Nat) : Int) := ⟨_, rfl⟩
    have q1 : (q : Int) < (n : Int) + 4 := by omega
    have q2 : q < n + 4 := by omega
    have q3 : 0 ≤ (q : Int) ∧ (q : Int) < ((n + 4 : Nat) : Int) := by omega
    have q4 : IntKind.i64.wrap ((q : Int) + 1) = (q : Int) + 1 := by rw [IntKind.wrap_i64]; omega
    have e1 : IntKind.u8.wrap (Y : Int) = y := by rw [IntKind.wrap_u8', hy]; omega
    obtain ⟨Z, hZ⟩ : ∃ Z, Z = X / 256 ^ (k + 1) := ⟨_, rfl⟩
    have e2 : (Y : Int) / 256 = (Z : Int) := by rw [hZ, hY, Nat.pow_succ, ← Nat.div_div_eq_div_mul]; omega
    have cs := kc_cell (unhide hv) q (by rw [lwz_len _ _ _ (by omega), unhide hl]; omega)
    have fs := froz_of (i := q) (unhide hv)
    have hv2 := heap_setCell_same wr w.heap.size q _ _ (.int .u8 y) (unhide hv)
    rw [kc_set] at hv2
    have hnx : (lwz B X k).set q y = lwz B X (k + 1) := by
      rw [hq, hy, hY, ← unhide hl]
      exact lwz_next B X k hlt
    rw [hnx] at hv2
    have hg2 := (setCells_bt [.int .u8 y] wr w.heap.size q).gr (unhide hg) (Nat.le_refl _)
    replace hg2 : Hid (Gr w (wr.setCell ⟨w.heap.size, q, none⟩ (.int .u8 y))) := hg2
    replace hv2 := hide hv2
    rw [← hq, ← hY]
    generalize (lwz B X k).getD q 0 = old at cs
    clear hnx
    replace hq := hide hq
    replace hY := hide hY
    replace hy := hide hy
    replace hZ := hide hZ
    go_wp2_with fail
    have h1 := unhide hq
    refine ⟨⟨k + 1, by omega, by congr 1; omega, by rw [unhide hZ], hv2, hg2⟩, ?_⟩
    show n + 4 - ((q : Int) + 1).toNat < n + 4 - (q : Int).toNat
    omega
  · have e : k = 4 := by omega
    subst e
    have hP : Hid (Putd B X n w (.returned (.slice (some ⟨w.heap.size, 0, none⟩) (n + 4) (n + 4))) wr) := ⟨_, rfl, Nat.le_refl _, by rw [← lwz_all]; exact unhide hv, unhide hg⟩
    clear hlt hv hg
    go_wp2_with fail
    rw [unhide hT]
    exact unhide hP
theorem put32_ok (B : List Int) (a : Option Addr) (n c : Nat) (X : Nat) (hX : X < 4294967296) (hn : n ≤ 140737488351232) (w : World) (hB : Lb w a n c B) : Calls Tryd.prog 91 #[.slice a n c, .int .u32 X] w (Putd B X n w) := by
  obtain ⟨T, hT⟩ : ∃ T, T = Putd B X n w := ⟨_, rfl⟩
  rw [← hT]
  replace hT := hide hT
  replace hB := hide hB
  go_enter Tryd.func91, Tryd.ntmps91
  go_wp2_with (go_at_call 76; refine (put_ok B a n c X hX hn _ (unhide hB)).mono ?_; rintro e u1 ⟨g, rfl, h1, h2, h3⟩)
  rw [unhide hT]
  exact ⟨g, rfl, h1, h2, h3⟩
theorem length_ok (X : Nat) (hX : X < 4294967296) (w : World) : Calls Tryd.prog 71 #[.int .i64 X] w (Putd [] X 0 w) := by
  obtain ⟨T, hT⟩ : ∃ T, T = Putd [] X 0 w := ⟨_, rfl⟩
  rw [← hT]
  replace hT := hide hT
  have e1 : IntKind.u32.wrap (X : Int) = (X : Int) := by rw [IntKind.wrap_u32]; omega
  go_enter Tryd.func71, Tryd.ntmps71
  go_wp2_with (go_at_call 91; refine (put32_ok [] none 0 0 X hX (by omega) _ (Lb.nil _)).mono ?_; rintro e u1 ⟨g, rfl, h1, h2, h3⟩)
  rw [unhide hT]
  exact ⟨g, rfl, h1, h2, h3⟩
def tb (s : ByteArray) : List Int := s.data.toList.map fun x => ((x.toNat : Nat) : Int)
theorem tb_len (s : ByteArray) : (tb s).length = s.size := by unfold tb; simp
theorem tb_isB (s : ByteArray) : IsB (tb s) := by
  intro x hx
  obtain ⟨y, _, rfl⟩ := List.mem_map.1 hx
  have := y.toNat_lt
  omega
theorem tb_cells (s : ByteArray) : Lib.strCells s = (tb s).map (Value.int .u8) := by unfold Lib.strCells tb; simp
theorem app_str {w : World} {ops : Array Oper} {rest : List Oper} {o : Oper} {a : Act} {Q : Exit → Act → World → Prop} (hgd : o.guard = none) (s x : Operand)
    (ho : o.op = .call { callee := .builtin .append, args := #[s, x], argTypes := #[33, 9] }) (b : Nat) (v : Value) (L : List Int) (hs : a.eval s = v) (hown : Ob b w v L)
    (t : ByteArray) (hx : a.eval x = .string t) (hbig : L.length + t.size ≤ 140737488355328) (hB : b ≤ w.heap.size)
    (h : ∀ v' w', Ob b w' v' (L ++ tb t) → w.grownBy w' v.ownBlock → wpList Tryd.prog ops Q rest (a.put o.dst v') w') :
    wpList Tryd.prog ops Q (o :: rest) a w := by
  obtain ⟨i0, hi, hz0, hz1, hz2⟩ := info_parts Tryd.info5
  refine Lib.wpList_append_own_string w hgd s x 33 9 ho b 5 i0 Tryd.underlying33 Tryd.underlying9 hi hz0 hz1 hz2 v L.length _ hs hown t hx (by unfold maxLen; omega) hbig hB ?_
  intro v' w' h1 h2 _
  refine h v' w' ?_ h2
  unfold Ob
  rw [List.length_append, List.map_append, tb_len, ← tb_cells]
  exact h1
theorem Putd.ob {w w' : World} {B : List Int} {X n g : Nat} (hn : B.length = n) (hg : w.heap.size ≤ g) (h : w'.heap[g]? = some (.cells (kc (B ++ lw X 4)) 5 (0, 0))) (hb : n ≤ 281474976710656) : Ob w.heap.size w' (.slice (some ⟨g, 0, none⟩) (n + 4) (n + 4)) (B ++ lw X 4) := by
  have hl : (B ++ lw X 4).length = n + 4 := by rw [List.length_append, lw_len, hn]
  refine ⟨by simp, .inr ⟨g, n + 4, kc (B ++ lw X 4), by rw [hl], hg, h, by omega, by unfold maxLen; omega, by rw [kc_size, hl]; omega, ?_⟩⟩
  unfold kc
  rw [Nat.mul_one]
  exact List.take_of_length_le (by simp)
theorem Ob.lb {b : Nat} {w : World} {v : Value} {L : List Int} (h : Ob b w v L) (hb : IsB L) : ∃ a c, v = .slice a L.length c ∧ Lb w a L.length c L := by
  obtain ⟨a, c, h1, h2, h3, h4⟩ := h.slice
  exact ⟨a, c, h1, rfl, hb, h4, h2, by unfold maxLen at h3; omega⟩
def tpart (p : List Int) : List Int := lw p.length 4 ++ p
theorem tpart_isB {p : List Int} (h : IsB p) : IsB (tpart p) := isB_append (lw_isB _ _) h
def infL (l : List Int) (ps : List (List Int)) (k : Nat) : List Int := tpart l ++ ((ps.take k).map tpart).flatten
theorem infL_next (l : List Int) (ps : List (List Int)) (k : Nat) (h : k < ps.length) : infL l ps (k + 1) = infL l ps k ++ tpart (ps.getD k []) := by
  unfold infL
  rw [List.take_add_one, List.getElem?_eq_getElem h, List.map_append, List.flatten_append, ← List.append_assoc]
  simp [h]
def infoL (l : List Int) (ps : List (List Int)) : List Int := infL l ps ps.length
def small4 (ps : List (List Int)) : Prop := ps.length ≤ 100 ∧ ∀ p ∈ ps, p.length ≤ 4096
theorem infL_len (l : List Int) (ps : List (List Int)) (hl : l.length ≤ 1000) (hp : small4 ps) : ∀ k, k ≤ ps.length → (infL l ps k).length ≤ 1004 + 4100 * k
  | 0, _ => by unfold infL tpart; simp [lw_len]; omega
  | k + 1, h => by
    rw [infL_next l ps k (by omega), List.length_append]
    have h1 := infL_len l ps hl hp k (by omega)
    have h2 : (tpart (ps.getD k [])).length ≤ 4100 := by
      have h3 : (ps.getD k []) ∈ ps := by rw [List.getD_eq_getElem?_getD, List.getElem?_eq_getElem (by omega)]; exact List.getElem_mem _
      have := hp.2 _ h3
      unfold tpart
      rw [List.length_append, lw_len]
      omega
    omega
def Infd (L : List Int) (w : World) (r : Ending) (w' : World) : Prop := ∃ v, r = .returned v ∧ Ob w.heap.size w' v L ∧ Gr w w'
set_option maxHeartbeats 2000000 in
theorem infoOf_ok (t : ByteArray) (ht : t.size ≤ 1000) (ps : List (List Int)) (ap : Option Addr) (m cp : Nat) (hm : ps.length = m) (hp : small4 ps) (w : World) (hP : Pr w ap ps) : Calls Tryd.prog 50 #[.string t, .slice ap m cp] w (Infd (infoL (tb t) ps) w) := by
  obtain ⟨T, hT⟩ : ∃ T, T = Infd (infoL (tb t) ps) w := ⟨_, rfl⟩
  rw [← hT]
  have hmb : m ≤ 100 := by rw [← hm]; exact hp.1
  have htl : (tb t).length ≤ 1000 := by rw [tb_len]; exact ht
  replace hT := hide hT
  replace hP := hide hP
  replace hp := hide hp
  replace hm := hide hm
  replace htl := hide htl
  go_enter Tryd.func50, Tryd.ntmps50
  go_upto_region 1 with fail
  refine wp_region_lit ?_
  iterate 2 (refine wpList_step fun K hK => ?_; replace hK := hide hK; go_simp; refine unhide hK _ _ ?_; clear hK K)
  refine list_call 71 #[.int .i64 t.size] (by kernel_rfl) (by kernel_rfl) ((length_ok t.size (by omega) _).mono ?_)
  rintro r u1 ⟨g, rfl, h1, h2, hg⟩
  refine ⟨_, rfl, ?_⟩
  have hO := Putd.ob (B := []) (n := 0) rfl h1 h2 (by omega)
  rw [List.nil_append] at hO
  clear h1 h2
  simp only [nrm]
  replace hO := hide hO
  replace hg := hide hg
  iterate 1 (refine wpList_step fun K hK => ?_; replace hK := hide hK; go_simp; refine unhide hK _ _ ?_; clear hK K)
  refine app_str rfl (.tmp 10) (.tmp 11) rfl w.heap.size _ (lw t.size 4) (by kernel_rfl) (unhide hO) t (by kernel_rfl) (by rw [lw_len]; omega) (unhide hg).size ?_
  intro v2 u2 hO2 hgb
  have hG := (unhide hO).grown (Nat.le_refl _) (unhide hg) hgb
  clear hgb hO hg
  have hO3 : Ob w.heap.size u2 v2 (infL (tb t) ps 0) := by
    have e : infL (tb t) ps 0 = lw t.size 4 ++ tb t := by unfold infL tpart; rw [tb_len]; simp
    rw [e]; exact hO2
  clear hO2
  obtain ⟨a2, c2, rfl, _, _, _⟩ := hO3.slice
  simp only [nrm]
  replace hO3 := hide hO3
  replace hG := hide hG
  obtain ⟨n2, hn2⟩ : ∃ n2, n2 = (infL (tb t) ps 0).length := ⟨_, rfl⟩
  rw [← hn2] at hO3
  rw [← hn2]
  replace hn2 := hide hn2
  iterate 1 (refine wpList_step fun K hK => ?_; replace hK := hide hK; go_simp; refine unhide hK _ _ ?_; clear hK K)
  refine wpList_nil ?_
  go_wp2_with fail
  go_loopw [5, 15] (fun x i wr => ∃ (k n : Nat) (a : Option Addr) (c : Nat), k ≤ m ∧ i = .int .i64 k ∧ x = .slice a n c ∧ Hid (n = (infL (tb t) ps k).length) ∧ Hid (Ob w.heap.size wr (.slice a n c) (infL (tb t) ps k)) ∧ Hid (Gr w wr)) (fun _ i _ => m - (intOf i).toNat)
  case atStart => exact ⟨0, n2, a2, c2, by omega, rfl, rfl, hn2, hO3, hG⟩
  case round =>
  clear hO3 hG hn2
  obtain ⟨k, n, a, c, hk, rfl, rfl, hn, hO, hG⟩ := hrel
  by_cases hl : k < m
  · have kI : (k : Int) < (m : Int) := by omega
    obtain ⟨p, o, rfl, hq⟩ : ∃ p o, ap = some ⟨p, o, none⟩ ∧ Pq w p o ps := by
      rcases (unhide hP) with h | ⟨p, o, h1, h2⟩
      · have := unhide hm; rw [h] at this; simp at this; omega
      · exact ⟨p, o, h1, h2⟩
    obtain ⟨aP, nP, cP, cc, hPl, hPb, hPs, hPc, hPm⟩ := hq k (by rw [unhide hm]; exact hl)
    replace cc := (unhide hG).cell cc
    clear hq
    have hnx := hide (infL_next (tb t) ps k (by rw [unhide hm]; exact hl))
    have hPs4 : (ps.getD k []).length ≤ 4096 := (unhide hp).2 _ (by rw [List.getD_eq_getElem?_getD, List.getElem?_eq_getElem (by rw [unhide hm]; exact hl)]; exact List.getElem_mem _)
    have hlen := infL_len (tb t) ps (unhide htl) (unhide hp) k (by rw [unhide hm]; omega)
    generalize ps.getD k [] = P at *
    have hPI : nP ≤ 4096 := by omega
    replace hPs := hide hPs
    replace hPb := hide hPb
    replace hPl := hide hPl
    replace hPs4 := hide hPs4
    replace hlen := hide hlen
    go_upto_region 5 with fail
    refine wp_region_lit ?_
    iterate 3 (refine wpList_step fun K hK => ?_; replace hK := hide hK; go_simp; refine unhide hK _ _ ?_; clear hK K)
    refine list_call 71 #[.int .i64 nP] (by kernel_rfl) (by kernel_rfl) ((length_ok nP (by omega) _).mono ?_)
    rintro r v1 ⟨g1, rfl, h1, h2, hg⟩
    refine ⟨_, rfl, ?_⟩
    replace hO := (unhide hO).gr hg
    replace hG := (unhide hG).trans hg
    have hs1 : Sl v1 (some ⟨g1, 0, none⟩) (lw nP 4) := .inr ⟨g1, 0, rfl, by rw [List.nil_append] at h2; exact kc_at h2⟩
    clear hg h1 h2
    simp only [nrm]
    refine app_bs (by kernel_rfl) (.tmp 19) (.tmp 22) rfl w.heap.size (.slice a n c) (infL (tb t) ps k) (by kernel_rfl) hO (some ⟨g1, 0, none⟩) 4 4 (lw nP 4) (by kernel_rfl) (lw_len _ _) hs1 (by have := unhide hlen; omega) hG.size ?_
    intro x2 v2 hO2 hgb
    replace hG := hO.grown (Nat.le_refl _) hG hgb
    clear hgb hO hs1
    simp only [nrm]
    replace hO2 := hide hO2
    replace hG := hide hG
    iterate 1 (refine wpList_step fun K hK => ?_; replace hK := hide hK; go_simp; refine unhide hK _ _ ?_; clear hK K)
    replace hO2 := unhide hO2
    replace hG := unhide hG
    refine app_bs (by kernel_rfl) (.tmp 23) (.tmp 24) rfl w.heap.size x2 (infL (tb t) ps k ++ lw nP 4) (by kernel_rfl) hO2 aP nP cP P (by kernel_rfl) (unhide hPl) ((unhide hPs).gr hG) (by rw [List.length_append, lw_len]; have := unhide hlen; omega) hG.size ?_
    intro x3 v3 hO3 hgb
    replace hG := hO2.grown (Nat.le_refl _) hG hgb
    clear hgb hO2
    have hO4 : Ob w.heap.size v3 x3 (infL (tb t) ps (k + 1)) := by
      rw [unhide hnx]
      unfold tpart
      rw [unhide hPl, ← List.append_assoc]
      exact hO3
    obtain ⟨a5, c5, rfl, _, _, _⟩ := hO4.slice
    clear hO3
    obtain ⟨n5, hn5⟩ : ∃ n5, n5 = (infL (tb t) ps (k + 1)).length := ⟨_, rfl⟩
    rw [← hn5] at hO4
    rw [← hn5]
    replace hn5 := hide hn5
    simp only [nrm]
    replace hO4 := hide hO4
    replace hG := hide hG
    iterate 1 (refine wpList_step fun K hK => ?_; replace hK := hide hK; go_simp; refine unhide hK _ _ ?_; clear hK K)
    refine wpList_nil ?_
    go_wp2_with fail
    go_roundw
    case rel => exact ⟨k + 1, n5, a5, c5, by omega, by go_num, rfl, hn5, hO4, hG⟩
    case measure => simp [intOf]; omega
  · have e : k = m := by omega
    subst e
    have hPd : Hid (Infd (infoL (tb t) ps) w (.returned (.slice a n c)) wr) := ⟨_, rfl, by unfold infoL; rw [unhide hm]; exact unhide hO, unhide hG⟩
    clear hO hG hn
    go_wp2_with fail
    rw [unhide hT]
    exact unhide hPd
def hx (n : Int) : Int := if n < 10 then 48 + n else 87 + n
def txL : List Int → List Int
  | [] => []
  | b :: K => hx (b / 16) :: hx (b % 16) :: txL K
def isD (c : Int) : Bool := (decide (48 ≤ c) && decide (c ≤ 57)) || (decide (97 ≤ c) && decide (c ≤ 102))
def dv (c : Int) : Int := if c ≤ 57 then c - 48 else c - 87
def kfA : List Int → Nat → Nat
  | [], _ => 0
  | _ :: _, 0 => 0
  | c :: l, n + 1 => if isD c then kfA l n + 1 else 0
def kf (L : List Int) : Nat := kfA L 64
def kyS (L : List Int) : Nat → List Int
  | 0 => List.replicate 32 0
  | p + 1 => (kyS L p).set (p / 2) (bits .or .u8 (IntKind.u8.wrap ((kyS L p).getD (p / 2) 0 * 16)) (dv (L.getD p 0)))
def isN (c : Int) : Bool := (decide (97 ≤ c) && decide (c ≤ 122)) || (decide (48 ≤ c) && decide (c ≤ 57)) || decide (c = 45)
def nmL (L : List Int) : Bool := decide (1 ≤ L.length) && decide (L.length ≤ 16) && L.all isN
def ltL : List Int → List Int → Bool
  | a :: x, b :: y => if a = b then ltL x y else decide (a < b)
  | _, _ => false
def fpL (H : List Int) : Nat → List Int
  | 0 => []
  | n + 1 => (if 0 < n ∧ n % 2 = 0 then fpL H n ++ [45] else fpL H n) ++ [hx (H.getD n 0 / 16), hx (H.getD n 0 % 16)]
theorem txL_len : ∀ K : List Int, (txL K).length = 2 * K.length
  | [] => rfl
  | b :: K => by simp only [txL, List.length_cons, txL_len K]; omega
theorem txL_app : ∀ K M : List Int, txL (K ++ M) = txL K ++ txL M
  | [], _ => rfl
  | b :: K, M => by simp only [List.cons_append, txL, txL_app K M]
theorem isD_cases {c : Int} (h : isD c = true) : (48 ≤ c ∧ c ≤ 57) ∨ (97 ≤ c ∧ c ≤ 102) := by
  unfold isD at h
  simpa using h
theorem isD_of {c : Int} (h : (48 ≤ c ∧ c ≤ 57) ∨ (97 ≤ c ∧ c ≤ 102)) : isD c = true := by
  unfold isD
  simpa using h
theorem isD_not {c : Int} (h : isD c = false) : ¬ ((48 ≤ c ∧ c ≤ 57) ∨ (97 ≤ c ∧ c ≤ 102)) := by
  intro k
  rw [isD_of k] at h
  cases h
theorem kfA_eq : ∀ (L : List Int) (n p : Nat), (∀ i, i < p → isD (L.getD i 0) = true) → p ≤ n → p ≤ L.length → (p = n ∨ p = L.length ∨ isD (L.getD p 0) = false) → kfA L n = p
  | [], n, p, _, _, h3, _ => by
    have : p = 0 := by simpa using h3
    subst this
    rfl
  | c :: l, 0, p, _, h2, _, _ => by
    have : p = 0 := by omega
    subst this
    rfl
  | c :: l, n + 1, 0, _, _, _, h4 => by
    rcases h4 with h | h | h
    · omega
    · simp at h
    · have h : isD c = false := h
      unfold kfA
      rw [h]
      rfl
  | c :: l, n + 1, p + 1, h1, h2, h3, h4 => by
    have hc : isD c = true := h1 0 (by omega)
    unfold kfA
    rw [hc, if_pos rfl, kfA_eq l n p (fun i hi => h1 (i + 1) (by omega)) (by omega) (by simpa using h3) ?_]
    rcases h4 with h | h | h
    · exact .inl (by omega)
    · exact .inr (.inl (by simpa using h))
    · exact .inr (.inr h)
theorem kf_eq {L : List Int} {p : Nat} (h1 : ∀ i, i < p → isD (L.getD i 0) = true) (h2 : p ≤ 64) (h3 : p ≤ L.length) (h4 : p = 64 ∨ p = L.length ∨ isD (L.getD p 0) = false) : kf L = p := kfA_eq L 64 p h1 h2 h3 h4
theorem kyS_len (L : List Int) : ∀ p, (kyS L p).length = 32
  | 0 => List.length_replicate ..
  | p + 1 => by rw [kyS, List.length_set, kyS_len L p]
theorem list_of_getD {l m : List Int} (hl : l.length = m.length) (h : ∀ j, j < l.length → l.getD j 0 = m.getD j 0) : l = m := by
  refine List.ext_getElem hl fun i h1 h2 => ?_
  have := h i h1
  simpa [h1, h2] using this
theorem ltL_irr : ∀ A : List Int, ltL A A = false
  | [] => rfl
  | a :: x => by simp only [ltL, if_pos, ltL_irr x]
theorem ltL_at : ∀ (A B : List Int) (i : Nat), (∀ j, j < i → A.getD j 0 = B.getD j 0) → i < A.length → i < B.length → A.getD i 0 ≠ B.getD i 0 → ltL A B = decide (A.getD i 0 < B.getD i 0)
  | [], _, i, _, h, _, _ => by simp at h
  | _ :: _, [], i, _, _, h, _ => by simp at h
  | a :: x, b :: y, 0, _, _, _, h => by
    have h : a ≠ b := h
    simp only [ltL, if_neg h]
    rfl
  | a :: x, b :: y, i + 1, h1, h2, h3, h4 => by
    have h0 : a = b := h1 0 (by omega)
    simp only [ltL, if_pos h0]
    exact ltL_at x y i (fun j hj => h1 (j + 1) (by omega)) (by simpa using h2) (by simpa using h3) h4
theorem fpL_len (H : List Int) : (fpL H 8).length = 19 := rfl
theorem kc_lb {w : World} {g : Nat} {X : List Int} {t : TypeId} {n : Nat} (h : w.heap[g]? = some (.cells (kc X) t (0, 0))) (hn : X.length = n) (hX : IsB X) (hb : n < 9223372036854775808) : Lb w (some ⟨g, 0, none⟩) n n X := ⟨hn, hX, .inr ⟨g, 0, rfl, kc_at h⟩, Nat.le_refl _, hb⟩
theorem make_op {w : World} {o : Oper} {a : Act} {K : Act → World → Prop} {Q : Exit → Act → World → Prop} (l c : Operand) (hop : o.op = Op.makeSlice 33 l c) (n m : Nat) (hl : a.eval l = .int .i64 n) (hc : a.eval c = .int .i64 m) (hnm : n ≤ m) (hn : m ≤ 281474976710656)
    (h : K (a.put o.dst (.slice (some ⟨w.heap.size, 0, none⟩) n m)) (w.alloc (.cells (kc (List.replicate m 0)) 5 (0, 0)))) : o.wp Tryd.prog a w K Q := by
  obtain ⟨i, h2, h3, h4, h5⟩ := info_parts Tryd.info5
  have hrun := run_make (P := Tryd.prog) w 33 5 i (.int .u8 0) Tryd.underlying33 h2 h3 .i64 .i64 (n : Int) (m : Int) (by omega) (by omega) (by rw [h5]; omega) (by omega)
  rw [h4] at hrun
  have e : madeCells (Value.int .u8 0).cells m = kc (List.replicate m 0) := by
    apply Array.ext
    · simp [size_madeCells, kc]
    · intro i h1 h2
      have : i % 1 = 0 := Nat.mod_one i
      simp [madeCells, Value.cells, this, kc]
  simp only [Int.toNat_natCast, Nat.mul_one, e] at hrun
  unfold Oper.wp
  simp [execOp, hop, hl, hc, hrun, Result.andThen]
  exact h
theorem list_ext {A B : List Int} (hl : A.length = B.length) (h : ∀ i, i < A.length → A.getD i 0 = B.getD i 0) : A = B := by
  apply List.ext_getElem hl
  intro i h1 h2
  have := h i h1
  simpa [List.getD_eq_getElem?_getD, List.getElem?_eq_getElem h1, List.getElem?_eq_getElem h2] using this
theorem str_inj {A B : List Int} (hA : IsB A) (hB : IsB B) (h : strOfNums A = strOfNums B) : A = B := by
  have h1 : (strOfNums A).data.toList = (strOfNums B).data.toList := by rw [h]
  rw [strOfNums_data, strOfNums_data] at h1
  have hl : A.length = B.length := by simpa using congrArg List.length h1
  apply List.ext_getElem hl
  intro i h2 h3
  have h4 : (A.map fun n => UInt8.ofNat n.toNat)[i]? = (B.map fun n => UInt8.ofNat n.toNat)[i]? := by rw [h1]
  simp only [List.getElem?_map, List.getElem?_eq_getElem h2, List.getElem?_eq_getElem h3, Option.map_some, Option.some.injEq] at h4
  have h5 := congrArg UInt8.toNat h4
  simp only [UInt8.toNat_ofNat'] at h5
  have a1 := hA _ (List.getElem_mem h2)
  have b1 := hB _ (List.getElem_mem h3)
  omega
theorem Tryd.cells_b : Tryd.prog.cellsOf 5 = 1 := by kernel_rfl
theorem Tryd.info_b : (Tryd.prog.info? 5).map (fun i => (i.zero, i.size, i.bytes)) = some (some (.int .u8 0), 1, 1) := by kernel_rfl
theorem Tryd.plain_b : Tryd.prog.plainKey 5 = true := by kernel_rfl
theorem eqs_b (k m : List Int) (hl : k.length = m.length) (d : Nat) (is : List Nat) (h : ∀ i ∈ is, i < k.length) (w : World) : (Op.eqItems (d + 1) 5 1 (kc k) (kc m) is).run Tryd.prog w = .ok (decide (∀ i ∈ is, k.getD i 0 = m.getD i 0)) w := by
  induction is with
  | nil => simp [Op.eqItems]
  | cons i is ih =>
    have hi : i < k.length := h i (by simp)
    have hp : ∀ m : List Int, i < m.length → (part 5 (kc m) (i * 1)).run Tryd.prog w = .ok (.int .u8 (m.getD i 0)) w := by
      intro m hm
      refine run_part_plain w Tryd.plain_b ?_
      simp [kc, List.getD, List.getElem?_eq_getElem hm]
    have he := run_equalIn_int (P := Tryd.prog) w d 5 .u8 .u8 (k.getD i 0) (m.getD i 0) Tryd.underlying5
    simp only [Op.eqItems, Sem.run_bind, hp k hi, hp m (by omega), he, Result.andThen_ok]
    have ih := ih (fun j hj => h j (List.mem_cons_of_mem _ hj))
    by_cases hq : k.getD i 0 = m.getD i 0
    · simp only [hq, beq_self_eq_true, if_true, List.mem_cons, forall_eq_or_imp, true_and]
      exact ih
    · have hq2 : (k.getD i 0 == m.getD i 0) = false := by simpa using hq
      simp only [hq2, List.mem_cons, forall_eq_or_imp, hq, false_and, decide_false]
      rfl
theorem exec_u8 {op : Oper} {a : Act} (w : World) (x : Operand) (ho : op.op = .load 5 x) (g i : Nat) (hx : a.eval x = .pointer (some ⟨g, i, none⟩)) (v : Int) (hc : w.cell? ⟨g, i, none⟩ = some (.int .u8 v)) : (execOp a.eval op).run Tryd.prog w = .ok (.value (.int .u8 v)) w := by
  unfold execOp
  simp only [ho, hx, Instr.loadAt, Instr.sureAddr, Sem.run_bind, Sem.run_pure, Result.andThen_ok]
  go_simp
theorem exec_at {a : Act} {o : Oper} (w : World) (x y : Operand) (ho : o.op = .indexAddr 33 x y) (g q len cap i : Nat) (hx : a.eval x = .slice (some ⟨g, q, none⟩) len cap) (hy : a.eval y = .int .i64 i) (hi : i < len) :
    (execOp a.eval o).run Tryd.prog w = .ok (.value (.pointer (some ⟨g, q + i, none⟩))) w := by
  have h1 : (i : Int) < (len : Int) := by omega
  unfold execOp
  simp only [ho, hx, hy]
  go_simp
def IsK (l : List Int) : Prop := l.length = 32 ∧ IsB l
theorem eq_K (k m : List Int) (hk : k.length = 32) (hm : m.length = 32) (w : World) : Sem.run Tryd.prog (Op.equalIn 10000 25 (.agg (kc k)) (.agg (kc m))) w = .ok (decide (k = m)) w := by
  obtain ⟨i0, hi0, _⟩ := info_parts Tryd.info_b
  rw [run_equalIn_array (P := Tryd.prog) w 9999 (kc k) (kc m) Tryd.underlying25 hi0, Tryd.cells_b]
  refine (eqs_b k m (by omega) 9998 _ (by intro i hi; simp at hi; omega) w).trans ?_
  congr 1
  rw [decide_eq_decide]
  constructor
  · intro h
    exact list_ext (by omega) fun i hi => h i (by simp; omega)
  · rintro rfl i _
    rfl
theorem exec_eq_k {a : Act} {o : Oper} (w : World) (x y : Operand) (ho : o.op = .binOp .eql 25 x y 25) (k m : List Int) (hk : k.length = 32) (hm : m.length = 32) (hx : a.eval x = .agg (kc k)) (hy : a.eval y = .agg (kc m)) (hg : (eqGuard .eql 25 x y (.agg (kc k)) (.agg (kc m))).run Tryd.prog w = .ok () w) (b : Bool) (hb : decide (k = m) = b) : (execOp a.eval o).run Tryd.prog w = .ok (.value (.bool b)) w := by
  have hu := Tryd.underlying25
  have he := eq_K k m hk hm w
  rw [hb] at he
  unfold execOp
  simp only [ho, hx, hy]
  go_simp
theorem store_u8 {o : Oper} {a : Act} {w : World} {K : Act → World → Prop} {Q : Exit → Act → World → Prop} (x y : Operand) (ho : o.op = .store 5 x y) (g i : Nat) (hx : a.eval x = .pointer (some ⟨g, i, none⟩)) (v : Int) (hy : a.eval y = .int .u8 v) (old : Value) (hc : w.cell? ⟨g, i, none⟩ = some old) (hf : w.frozen? ⟨g, i, none⟩ = false)
    (h : K (a.put o.dst undef) (w.setCell ⟨g, i, none⟩ (.int .u8 v))) : o.wp Tryd.prog a w K Q := by
  unfold Oper.wp
  unfold execOp
  simp only [ho, hx, hy]
  go_simp
  exact h
theorem byte_back (x : Int) (h : 0 ≤ x ∧ x < 256) : ((UInt8.ofNat x.toNat).toNat : Int) = x := by
  rw [UInt8.toNat_ofNat']
  omega
theorem str_add (L M : List Int) : strOfNums L ++ strOfNums M = strOfNums (L ++ M) := by
  unfold strOfNums
  rw [ByteArray.mk_append_mk, List.map_append]
theorem str_cut (L : List Int) (i j : Nat) : (strOfNums L).extract i j = strOfNums ((L.drop i).take (j - i)) := by
  unfold strOfNums
  rw [ByteArray.extract_mk]
  congr 1
  apply Array.ext'
  simp [List.map_take, List.map_drop]
theorem str_at {L : List Int} (hL : IsB L) (i : Nat) (h : i < (strOfNums L).size) : (((strOfNums L)[i]'h).toNat : Int) = L.getD i 0 := by
  have hl : i < L.length := by rw [strOfNums_size] at h; exact h
  have h1 : (strOfNums L)[i]'h = (strOfNums L).data[i]'h := rfl
  have h2 : (strOfNums L).data[i]'h = (strOfNums L).data.toList[i]'(by simpa using h) := by simp
  rw [h1, h2, List.getElem_of_eq (strOfNums_data L), List.getElem_map]
  have h3 : L.getD i 0 = L[i] := by simp [hl]
  rw [h3]
  exact byte_back _ (hL _ (List.getElem_mem hl))
theorem exec_six {a : Act} {o : Oper} (w : World) (x y : Operand) (ho : o.op = .index 9 x y) (L : List Int) (hL : IsB L) (k : IntKind) (i : Nat) (hx : a.eval x = .string (strOfNums L)) (hy : a.eval y = .int k (i : Int)) (hi : i < L.length) :
    (execOp a.eval o).run Tryd.prog w = .ok (.value (.int .u8 (L.getD i 0))) w := by
  have h := run_index_string (P := Tryd.prog) w 9 (strOfNums L) k (i : Int) Tryd.underlying9
  have hi2 : i < (strOfNums L).size := by rw [strOfNums_size]; exact hi
  rw [dif_pos ⟨by omega, by rw [strOfNums_size]; omega⟩] at h
  have e := str_at hL i hi2
  simp only [Int.toNat_natCast] at h
  rw [e] at h
  unfold execOp
  simp only [ho, hx, hy, Sem.run_bind, h, Result.andThen_ok, Sem.run_pure]
theorem exec_slen {a : Act} {o : Oper} (w : World) (x : Operand) (ho : o.op = .call { callee := .builtin .len, args := #[x], argTypes := #[9] }) (L : List Int) (n : Nat) (hn : L.length = n) (hx : a.eval x = .string (strOfNums L)) :
    (execOp a.eval o).run Tryd.prog w = .ok (.value (.int .i64 (n : Int))) w := by
  have h := run_len_string (P := Tryd.prog) w 9 o.type (strOfNums L) Tryd.underlying9
  rw [strOfNums_size, hn] at h
  simp [execOp, ho, resolve, invoke, builtin, hx, h, goInt, Result.andThen]
theorem exec_sadd {a : Act} {o : Oper} (w : World) (x y : Operand) (ho : o.op = .binOp .add 9 x y 9) (L M : List Int) (hx : a.eval x = .string (strOfNums L)) (hy : a.eval y = .string (strOfNums M)) (h : L.length + M.length ≤ 1000000) :
    (execOp a.eval o).run Tryd.prog w = .ok (.value (.string (strOfNums (L ++ M)))) w := by
  have h1 := run_string_add_sum (P := Tryd.prog) w (strOfNums L) (strOfNums M) (by rw [strOfNums_size, strOfNums_size]; omega)
  rw [str_add] at h1
  unfold execOp
  simp only [ho, hx, hy, binOp_string_add]
  go_simp
theorem exec_supto {a : Act} {o : Oper} (w : World) (x z : Operand) (ho : o.op = .slice 9 x none (some z) none) (L : List Int) (k' : IntKind) (j : Nat) (hx : a.eval x = .string (strOfNums L)) (hz : a.eval z = .int k' (j : Int)) (hj : j ≤ L.length) :
    (execOp a.eval o).run Tryd.prog w = .ok (.value (.string (strOfNums (L.take j)))) w := by
  have h1 := run_slice_string_h (P := Tryd.prog) w 9 (strOfNums L) Tryd.underlying9 k' (j : Int) (by omega) (by rw [strOfNums_size]; omega)
  simp only [Int.toNat_natCast] at h1
  rw [str_cut, List.drop_zero, Nat.sub_zero] at h1
  simp [execOp, ho, hx, hz, run_sliceAt_string _ _ _ _ _ _ Tryd.underlying9, h1]
theorem exec_sfrom {a : Act} {o : Oper} (w : World) (x y : Operand) (ho : o.op = .slice 9 x (some y) none none) (L : List Int) (k : IntKind) (i : Nat) (hx : a.eval x = .string (strOfNums L)) (hy : a.eval y = .int k (i : Int)) (hi : i ≤ L.length) :
    (execOp a.eval o).run Tryd.prog w = .ok (.value (.string (strOfNums (L.drop i)))) w := by
  have h1 := run_slice_string_l (P := Tryd.prog) w 9 (strOfNums L) Tryd.underlying9 k (i : Int) (by omega) (by rw [strOfNums_size]; omega)
  simp only [Int.toNat_natCast] at h1
  rw [str_cut, strOfNums_size, List.take_of_length_le (by rw [List.length_drop]; omega)] at h1
  simp [execOp, ho, hx, hy, run_sliceAt_string _ _ _ _ _ _ Tryd.underlying9, h1]
theorem exec_seq {a : Act} {o : Oper} (w : World) (x y : Operand) (ho : o.op = .binOp .eql 9 x y 9) (L M : List Int) (hL : IsB L) (hM : IsB M) (hx : a.eval x = .string (strOfNums L)) (hy : a.eval y = .string (strOfNums M)) (b : Bool) (hb : decide (L = M) = b) :
    (execOp a.eval o).run Tryd.prog w = .ok (.value (.bool b)) w := by
  have e : ((strOfNums L).toList == (strOfNums M).toList) = b := by
    rw [← hb, ByteArray.toList_eq, ByteArray.toList_eq]
    rw [show decide (L = M) = decide (strOfNums L = strOfNums M) from decide_eq_decide.2 ⟨fun h => by rw [h], fun h => str_inj hL hM h⟩]
    by_cases h : strOfNums L = strOfNums M
    · rw [h]; simp
    · rw [decide_eq_false h]
      rw [beq_eq_false_iff_ne]
      intro h2
      apply h
      have h3 : (strOfNums L).data = (strOfNums M).data := Array.ext' h2
      exact congrArg ByteArray.mk h3
  have hg : (eqGuard .eql 9 x y (.string (strOfNums L)) (.string (strOfNums M))).run Tryd.prog w = .ok () w := by kernel_rfl
  unfold execOp
  simp only [ho, hx, hy, binOp_string_eql, e]
  go_simp
theorem next_any {L : List Int} (hL : IsB L) (w : World) (k n : Nat) (hk : w.heap[k]? = some (.stringIter (strOfNums L) n)) (h : n < L.length) :
    ∃ (rn : Int) (n' : Nat), (∀ ty, (Instr.next (.pointer (some ⟨k, 0, none⟩)) true ty).run Tryd.prog w = .ok (.tuple #[.bool true, .int .i64 n, .int .i32 rn]) (itr w k (strOfNums L) n')) ∧ (L.getD n 0 < 128 → n' = n + 1) := by
  have h2 : n < (strOfNums L).size := by rw [strOfNums_size]; exact h
  by_cases ha : L.getD n 0 < 128
  · have e := str_at hL n h2
    exact ⟨_, _, fun ty => run_next_at w k (strOfNums L) n ty hk h2 (by omega), fun _ => rfl⟩
  · refine ⟨(Utf8.decode (strOfNums L) n).1, n + (Utf8.decode (strOfNums L) n).2, fun ty => ?_, fun h => absurd h ha⟩
    simp only [Instr.next, getObj, setObj, Sem.run_bind, Sem.run, hk, Result.andThen, h2, if_true]
    simp [goInt, itr]
theorem next_end {L : List Int} (w : World) (k n : Nat) (ty : TypeId) (hk : w.heap[k]? = some (.stringIter (strOfNums L) n)) (h : ¬ n < L.length) :
    (Instr.next (.pointer (some ⟨k, 0, none⟩)) true ty).run Tryd.prog w = .ok (.tuple #[.bool false]) w :=
  run_next_stop w k (strOfNums L) n ty hk (by rw [strOfNums_size]; exact h)
theorem Gr.itr {w v : World} (h : Gr w v) (k : Nat) (hk : w.heap.size ≤ k) (s : ByteArray) (pos : Nat) : Gr w (itr v k s pos) := by
  refine ⟨h.os, h.tape, h.output, ?_, fun i hi => ?_⟩
  · have := h.size
    unfold Proofs.YtpmgmpihmpifgaaDoor.itr
    simpa using this
  · rw [itr_other s pos (by omega)]
    exact h.block i hi
theorem innames_t (c : Int) (h : isN c = true) (w : World) : Calls Tryd.prog 27 #[.int .u8 c] w (fun r w' => r = .returned (.bool true) ∧ w' = w) := by
  have h : (97 ≤ c ∧ c ≤ 122) ∨ (48 ≤ c ∧ c ≤ 57) ∨ c = 45 := by
    unfold isN at h
    simp at h
    omega
  rcases h with ⟨h1, h2⟩ | ⟨h1, h2⟩ | rfl
  · go_enter Tryd.func27, Tryd.ntmps27
    go_wp2_with fail
    exact bodyPost_ret (v := .bool true) (by simp [results, Tryd.results27, go_sem]) rfl ⟨rfl, rfl⟩
  · have h3 : ¬ 97 ≤ c := by omega
    go_enter Tryd.func27, Tryd.ntmps27
    go_wp2_with fail
    exact bodyPost_ret (v := .bool true) (by simp [results, Tryd.results27, go_sem]) rfl ⟨rfl, rfl⟩
  · go_enter Tryd.func27, Tryd.ntmps27
    go_wp2_with fail
    exact bodyPost_ret (v := .bool true) (by simp [results, Tryd.results27, go_sem]) rfl ⟨rfl, rfl⟩
theorem innames_f (c : Int) (h : isN c = false) (w : World) : Calls Tryd.prog 27 #[.int .u8 c] w (fun r w' => r = .returned (.bool false) ∧ w' = w) := by
  have h : (¬ 97 ≤ c ∧ ¬ 48 ≤ c ∧ ¬ c = 45) ∨ (¬ 97 ≤ c ∧ 48 ≤ c ∧ ¬ c ≤ 57 ∧ ¬ c = 45) ∨ (97 ≤ c ∧ ¬ c ≤ 122 ∧ 48 ≤ c ∧ ¬ c ≤ 57 ∧ ¬ c = 45) := by
    unfold isN at h
    simp at h
    omega
  rcases h with ⟨h1, h2, h3⟩ | ⟨h1, h2, h3, h4⟩ | ⟨h1, h2, h3, h4, h5⟩
  · go_enter Tryd.func27, Tryd.ntmps27
    go_wp2_with fail
    exact bodyPost_ret (v := .bool false) (by simp [results, Tryd.results27, go_sem]) rfl ⟨rfl, rfl⟩
  · go_enter Tryd.func27, Tryd.ntmps27
    go_wp2_with fail
    exact bodyPost_ret (v := .bool false) (by simp [results, Tryd.results27, go_sem]) rfl ⟨rfl, rfl⟩
  · go_enter Tryd.func27, Tryd.ntmps27
    go_wp2_with fail
    exact bodyPost_ret (v := .bool false) (by simp [results, Tryd.results27, go_sem]) rfl ⟨rfl, rfl⟩
theorem valueof_t (c : Int) (h : isD c = true) (w : World) : Calls Tryd.prog 28 #[.int .u8 c] w (fun r w' => r = .returned (.tuple #[.int .u8 (dv c), .bool true]) ∧ w' = w) := by
  have h : c = 48 ∨ c = 49 ∨ c = 50 ∨ c = 51 ∨ c = 52 ∨ c = 53 ∨ c = 54 ∨ c = 55 ∨ c = 56 ∨ c = 57 ∨ c = 97 ∨ c = 98 ∨ c = 99 ∨ c = 100 ∨ c = 101 ∨ c = 102 := by
    have := isD_cases h
    omega
  rcases h with rfl | rfl | rfl | rfl | rfl | rfl | rfl | rfl | rfl | rfl | rfl | rfl | rfl | rfl | rfl | rfl
  all_goals
    go_enter Tryd.func28, Tryd.ntmps28
    go_wp2_with fail
    refine bodyPost_ret ?_ rfl ⟨rfl, rfl⟩
    simp [results, Tryd.results28, go_sem]
    try decide
theorem valueof_f (c : Int) (h : isD c = false) (w : World) : Calls Tryd.prog 28 #[.int .u8 c] w (fun r w' => r = .returned (.tuple #[.int .u8 0, .bool false]) ∧ w' = w) := by
  have h := isD_not h
  have h0 : ¬ c = 48 := by omega
  have h1 : ¬ c = 49 := by omega
  have h2 : ¬ c = 50 := by omega
  have h3 : ¬ c = 51 := by omega
  have h4 : ¬ c = 52 := by omega
  have h5 : ¬ c = 53 := by omega
  have h6 : ¬ c = 54 := by omega
  have h7 : ¬ c = 55 := by omega
  have h8 : ¬ c = 56 := by omega
  have h9 : ¬ c = 57 := by omega
  have ha : ¬ c = 97 := by omega
  have hb : ¬ c = 98 := by omega
  have hc : ¬ c = 99 := by omega
  have hd : ¬ c = 100 := by omega
  have he : ¬ c = 101 := by omega
  have hf : ¬ c = 102 := by omega
  clear h
  go_enter Tryd.func28, Tryd.ntmps28
  go_wp2_with fail
  exact bodyPost_ret (v := .tuple #[.int .u8 0, .bool false]) (by simp [results, Tryd.results28, go_sem]) rfl ⟨rfl, rfl⟩
def spv (e p : Int) : Array Value := #[.int .i64 e, .int .i64 p]
theorem spv_one (e p : Int) : (spv e p).all (·.oneCell') = true := by unfold spv; simp [Value.oneCell']
theorem Tryd.infoSpot : (Tryd.prog.info? 28).map (·.size) = some 2 := by kernel_rfl
set_option maxHeartbeats 4000000 in
theorem nokey_ok (p : Int) (w : World) : Calls Tryd.prog 29 #[.int .i64 p] w (fun r w' => r = .returned (.agg (spv 261 p)) ∧ Gr w w') := by
  obtain ⟨T, hT⟩ : ∃ T : Ending → World → Prop, T = (fun r w' => r = .returned (.agg (spv 261 p)) ∧ Gr w w') := ⟨_, rfl⟩
  rw [← hT]
  replace hT := hide hT
  go_enter Tryd.func29, Tryd.ntmps29
  go_upto_region 1 with fail
  have hB := (Bl.nil w).new #[.int .i64 0, .int .i64 0] 28
  simp only [List.nil_append] at hB
  generalize World.alloc _ _ = u at *
  replace hB : Bl w [⟨w.heap.size, spv 0 0, 28⟩] u := hB
  refine wp_region_lit ?_
  refine list_val (.int .i64 p) (by kernel_rfl) (by kernel_rfl) ?_
  simp only [nrm]
  refine list_val (.agg (spv 261 p)) (by kernel_rfl) (by kernel_rfl) ?_
  simp only [nrm]
  refine list_store 28 (.tmp 2) (.tmp 4) w.heap.size (spv 261 p) 28 (spv 0 0) (by kernel_rfl) rfl (by kernel_rfl) (by kernel_rfl) (hB.get 0 (x := ⟨w.heap.size, spv 0 0, 28⟩) rfl) (by rw [Tryd.infoSpot]; rfl) rfl (spv_one _ _) ?_
  replace hB := hB.set 0 (x := ⟨w.heap.size, spv 0 0, 28⟩) rfl (spv 261 p)
  simp only [List.set_cons_zero] at hB
  generalize World.setRow _ _ _ = u2 at *
  simp only [nrm]
  refine wpList_nil ?_
  replace hB := hide hB
  go_wp2_with fail
  replace hB := unhide hB
  rw [unhide hT]
  exact bodyPost_ret (v := .agg (spv 261 p)) (results_cell_row Tryd.results29 _ _ w.heap.size 28 (spv 261 p) (0, 0) _ rfl (hB.get 0 (x := ⟨w.heap.size, spv 261 p, 28⟩) rfl) Tryd.underlying28 rfl (by rw [Tryd.infoSpot]; rfl)) rfl ⟨rfl, hB.gr⟩
def Pdd (b : Nat) (v : Value) (L : List Int) (w : World) (r : Ending) (w' : World) : Prop := ∃ v', r = .returned v' ∧ Ob b w' v' L ∧ w.grownBy w' v.ownBlock
def XD : List Int := [48, 49, 50, 51, 52, 53, 54, 55, 56, 57, 97, 98, 99, 100, 101, 102]
theorem XD_isB : IsB XD := by unfold IsB XD; decide
theorem XD_at (n : Nat) (h : n < 16) : XD.getD n 0 = hx (n : Int) := by
  have : ∀ k : Fin 16, XD.getD k.val 0 = hx (k.val : Int) := by decide
  exact this ⟨n, h⟩
theorem and15 (c : Int) (h : 0 ≤ c ∧ c < 256) : bits .and .u8 c 15 = c % 16 := by
  have : ∀ k : Fin 256, bits .and .u8 (k.val : Int) 15 = (k.val : Int) % 16 := by decide +kernel
  have h1 := this ⟨c.toNat, by omega⟩
  have e : ((c.toNat : Nat) : Int) = c := Int.toNat_of_nonneg h.1
  simpa only [e] using h1
theorem grown_trans {u v x : World} {row : Option Nat} (h : u.grownBy v row) (k : v.grownBy x row) : u.grownBy x row :=
  ⟨k.os.trans h.os, k.tape.trans h.tape, k.output.trans h.output, Nat.le_trans h.size k.size, fun i hi hn => (k.block i (Nat.lt_of_lt_of_le hi h.size) hn).trans (h.block i hi hn)⟩
theorem grown_of_gr {u v : World} (h : Gr u v) (row : Option Nat) : u.grownBy v row := ⟨h.os, h.tape, h.output, h.size, fun i hi _ => h.block i hi⟩
set_option maxHeartbeats 4000000 in
theorem putdig_ok (b : Nat) (v : Value) (L : List Int) (c : Int) (hc : 0 ≤ c ∧ c < 256) (w : World) (hb : b ≤ w.heap.size) (hO : Ob b w v L) (hL : L.length ≤ 90000) : Calls Tryd.prog 31 #[v, .int .u8 c] w (Pdd b v (L ++ [hx (c / 16), hx (c % 16)]) w) := by
  obtain ⟨T, hT⟩ : ∃ T, T = Pdd b v (L ++ [hx (c / 16), hx (c % 16)]) w := ⟨_, rfl⟩
  rw [← hT]
  replace hT := hide hT
  obtain ⟨a, cp, rfl, _⟩ := hO.slice
  obtain ⟨hi, hhi⟩ : ∃ n : Nat, n = (c / 16).toNat := ⟨_, rfl⟩
  obtain ⟨lo, hlo⟩ : ∃ n : Nat, n = (c % 16).toNat := ⟨_, rfl⟩
  have e1 : c / 16 = (hi : Int) := by omega
  have e2 : c % 16 = (lo : Int) := by omega
  have l1 : hi < 16 := by omega
  have l2 : lo < 16 := by omega
  have x1 := XD_at hi l1
  have x2 := XD_at lo l2
  rw [e1, e2] at hT
  rw [← x1, ← x2] at hT
  obtain ⟨p, hp⟩ : ∃ p, p = XD.getD hi 0 := ⟨_, rfl⟩
  obtain ⟨q, hq⟩ : ∃ q, q = XD.getD lo 0 := ⟨_, rfl⟩
  rw [← hp, ← hq] at hT
  obtain ⟨ln, hln⟩ : ∃ k, k = L.length := ⟨_, rfl⟩
  have s1 : (c / 2 ^ 4 : Int) = (hi : Int) := by rw [← e1]; rfl
  have s2 := (and15 c hc).trans e2
  rw [← hln] at hO hT ⊢
  clear x1 x2 e1 e2 hhi hlo
  replace hO := hide hO
  replace hp := hide hp
  replace hq := hide hq
  replace hln := hide hln
  replace s1 := hide s1
  replace s2 := hide s2
  replace hc := hide hc
  go_enter Tryd.func31, Tryd.ntmps31
  go_upto_region 1 with fail
  refine any_start (S := fun (_ : World) => True) (by kernel_rfl) ?_
  have hG : Gr w (World.drew w) := (Gr.refl _).drew
  replace hO := hide ((unhide hO).gr hG)
  generalize World.drew _ = x0 at *
  simp only [List.size_toArray, List.length_cons, List.length_nil, Array.replicate, List.replicate]
  refine any_take (i := 0) (v := (.slice a ln cp)) #[false, false, false, false, false, false, false, false, false, false] rfl (by kernel_rfl) (by kernel_rfl) (by kernel_rfl) (by kernel_rfl) (fun _ _ _ h => h) (.inl ⟨by kernel_rfl, fun x_ hu => by kernel_rfl⟩) trivial ?_
  simp only [nrm]
  refine any_take (i := 1) (v := (.int .u8 c)) #[true, false, false, false, false, false, false, false, false, false] rfl (by kernel_rfl) (by kernel_rfl) (by kernel_rfl) (by kernel_rfl) (fun _ _ _ h => h) (.inl ⟨by kernel_rfl, fun x_ hu => by kernel_rfl⟩) trivial ?_
  simp only [nrm]
  refine any_take (i := 2) (v := (.int .u8 (hi : Int))) #[true, true, false, false, false, false, false, false, false, false] rfl (by kernel_rfl) (by kernel_rfl) (by kernel_rfl) (by kernel_rfl) (fun _ _ _ h => h) (.inl ⟨by kernel_rfl, fun x_ hu => by have h := unhide s1; go_simp; exact h⟩) trivial ?_
  simp only [nrm]
  refine any_take (i := 3) (v := (.int .u8 p)) #[true, true, true, false, false, false, false, false, false, false] rfl (by kernel_rfl) (by kernel_rfl) (by kernel_rfl) (by kernel_rfl) (fun _ _ _ h => h) (.inl ⟨by kernel_rfl, fun x_ hu => by rw [unhide hp]; exact exec_six _ (.const (.string ⟨#[48, 49, 50, 51, 52, 53, 54, 55, 56, 57, 97, 98, 99, 100, 101, 102]⟩)) (.tmp 7) rfl XD XD_isB .u8 hi rfl (by kernel_rfl) l1⟩) trivial ?_
  simp only [nrm]
  refine any_take (i := 4) (v := (.int .u8 c)) #[true, true, true, true, false, false, false, false, false, false] rfl (by kernel_rfl) (by kernel_rfl) (by kernel_rfl) (by kernel_rfl) (fun _ _ _ h => h) (.inl ⟨by kernel_rfl, fun x_ hu => by kernel_rfl⟩) trivial ?_
  simp only [nrm]
  refine any_take (i := 5) (v := (.int .u8 (lo : Int))) #[true, true, true, true, true, false, false, false, false, false] rfl (by kernel_rfl) (by kernel_rfl) (by kernel_rfl) (by kernel_rfl) (fun _ _ _ h => h) (.inl ⟨by kernel_rfl, fun x_ hu => by have h := unhide s2; go_simp⟩) trivial ?_
  simp only [nrm]
  refine any_take (i := 6) (v := (.int .u8 q)) #[true, true, true, true, true, true, false, false, false, false] rfl (by kernel_rfl) (by kernel_rfl) (by kernel_rfl) (by kernel_rfl) (fun _ _ _ h => h) (.inl ⟨by kernel_rfl, fun x_ hu => by rw [unhide hq]; exact exec_six _ (.const (.string ⟨#[48, 49, 50, 51, 52, 53, 54, 55, 56, 57, 97, 98, 99, 100, 101, 102]⟩)) (.tmp 10) rfl XD XD_isB .u8 lo rfl (by kernel_rfl) l2⟩) trivial ?_
  simp only [nrm]
  refine any_one (i := 7) (by kernel_rfl) rfl (fun K_ hQ => ?_)
  refine step_val (.slice (some ⟨x0.heap.size, 0, none⟩) 2 2) (x0.alloc (.cells (kc [p, q]) 5 (0, 0))) (by kernel_rfl) (by kernel_rfl) ?_
  refine hQ.out _ _ trivial (fun _ => ?_)
  clear hQ K_
  have hn := kc_at (blk_new x0 (.cells (kc [p, q]) 5 (0, 0)))
  have hg2 := (Gr.refl x0).alloc (.cells (kc [p, q]) 5 (0, 0))
  replace hG := hG.trans hg2
  replace hO := hide ((unhide hO).gr hg2)
  clear hg2
  generalize World.alloc _ _ = x1 at *
  generalize x0.heap.size = gb at *
  simp only [nrm]
  refine any_one (i := 8) (by kernel_rfl) rfl (fun K_ hQ => ?_)
  rw [if_pos (by kernel_rfl)]
  refine app_op (.tmp 5) (.tmp 12) rfl b (.slice a ln cp) L (by kernel_rfl) (unhide hO) (some ⟨gb, 0, none⟩) 2 2 [p, q] (by kernel_rfl) rfl (.inr ⟨gb, 0, rfl, hn⟩) (by omega) (Nat.le_trans hb hG.size) ?_
  intro v2 x2 hO2 hg2
  refine hQ.out _ _ trivial (fun _ => ?_)
  clear hQ K_
  simp only [nrm]
  refine any_one (i := 9) (by kernel_rfl) rfl (fun K_ hQ => ?_)
  replace hQ := hide hQ
  go_simp
  refine (unhide hQ).out _ _ trivial (fun _ => ?_)
  clear hQ K_
  refine any_done (by kernel_rfl) ?_
  have hZ : Hid (T (.returned v2) x2) := by
    rw [unhide hT]
    exact ⟨v2, rfl, hO2, grown_trans (grown_of_gr hG _) hg2⟩
  go_wp2_with fail
  exact unhide hZ
def Txd (L : List Int) (w : World) (r : Ending) (w' : World) : Prop := r = .returned (.string (strOfNums L)) ∧ Gr w w'
theorem take_one (K : List Int) (j : Nat) (h : j < K.length) : K.take (j + 1) = K.take j ++ [K.getD j 0] := by
  rw [List.take_add_one, List.getElem?_eq_getElem h, List.getD_eq_getElem?_getD, List.getElem?_eq_getElem h]
  rfl
theorem index_kc (l : List Int) (i : Nat) (hi : i < 32) (hl : l.length = 32) (w : World) : (Instr.index 25 (.agg (kc l)) (.int .i64 i)).run Tryd.prog w = .ok (.int .u8 (l.getD i 0)) w := by
  have he : (kc l)[i]? = some (.int .u8 (l.getD i 0)) := by simp [kc, List.getD, List.getElem?_eq_getElem (show i < l.length by omega)]
  simp [Instr.index, run_underlying Tryd.underlying25, asIntOf, hi, go_sem]
  rw [he]
  simp
theorem exec_kix {a : Act} {o : Oper} (w : World) (x y : Operand) (ho : o.op = .index 25 x y) (K : List Int) (hK : K.length = 32) (i : Nat) (hx : a.eval x = .agg (kc K)) (hy : a.eval y = .int .i64 (i : Int)) (hi : i < 32) :
    (execOp a.eval o).run Tryd.prog w = .ok (.value (.int .u8 (K.getD i 0))) w := by
  have h := index_kc K i hi hK w
  unfold execOp
  simp only [ho, hx, hy, Sem.run_bind, h, Result.andThen_ok, Sem.run_pure]
theorem exec_text {a : Act} {o : Oper} (w : World) (x : Operand) (ho : o.op = .convert 33 9 x) (s : Option Addr) (n c : Nat) (L : List Int) (hn : L.length = n) (hx : a.eval x = .slice s n c) (h : Sl w s L) :
    (execOp a.eval o).run Tryd.prog w = .ok (.value (.string (strOfNums L))) w := by
  have h1 := h.text n c hn
  unfold execOp
  simp only [ho, hx, Sem.run_bind, h1, Result.andThen_ok, Sem.run_pure]
set_option maxHeartbeats 4000000 in
theorem text_ok (K : List Int) (hK : K.length = 32) (hKb : IsB K) (w : World) : Calls Tryd.prog 14 #[.agg (kc K)] w (Txd (txL K) w) := by
  obtain ⟨T, hT⟩ : ∃ T, T = Txd (txL K) w := ⟨_, rfl⟩
  rw [← hT]
  replace hT := hide hT
  replace hKb := hide hKb
  obtain ⟨KK, hKK⟩ : ∃ KK, KK = kc K := ⟨_, rfl⟩
  rw [← hKK]
  replace hKK := hide hKK
  go_enter Tryd.func14, Tryd.ntmps14
  go_upto_region 1 with fail
  have hB := (Bl.nil w).new KK 25
  simp only [List.nil_append] at hB
  generalize World.alloc _ _ = u at *
  rw [unhide hKK] at hB
  replace hB : Bl w [⟨w.heap.size, kc K, 25⟩] u := hB
  refine wp_region_lit ?_
  refine wpList_step fun K_ hQ => ?_
  rw [if_pos (by kernel_rfl)]
  refine make_op (.const (.int .i64 0)) (.const (.int .i64 64)) rfl 0 64 rfl rfl (by omega) (by omega) ?_
  refine hQ _ _ ?_
  clear hQ K_
  have hO : Ob w.heap.size (u.alloc (.cells (kc (List.replicate 64 0)) 5 (0, 0))) (.slice (some ⟨u.heap.size, 0, none⟩) 0 64) [] := World.ownsRow_made u (kc (List.replicate 64 0)) 64 hB.gr.size (by decide) (by rw [kc_size, List.length_replicate])
  replace hB := hB.more ((Gr.refl u).alloc (.cells (kc (List.replicate 64 0)) 5 (0, 0)))
  generalize World.alloc _ _ = u1 at *
  generalize u.heap.size = gt at *
  simp only [nrm]
  (refine wpList_step fun K hK => ?_; replace hK := hide hK; go_simp; refine unhide hK _ _ ?_; clear hK K)
  refine wpList_nil ?_
  replace hO := hide hO
  replace hB := hide hB
  go_upto_region 2 with fail
  replace hB := unhide hB
  refine wp_region_lit ?_
  refine list_val (.agg (kc K)) (by kernel_rfl) (exec_arr _ 25 (.tmp 1) rfl (w.heap.size) (by kernel_rfl) (kc K) 25 _ (hB.get 0 (x := ⟨w.heap.size, kc K, 25⟩) rfl) Tryd.underlying25 rfl (by rw [Tryd.infoKey, kc_size, hK])) ?_
  simp only [nrm]
  refine list_val (.int .i64 0) (by kernel_rfl) (by kernel_rfl) ?_
  simp only [nrm]
  refine wpList_nil ?_
  have hI0 : Hid (Ob w.heap.size u1 (.slice (some ⟨gt, 0, none⟩) 0 64) (txL (K.take 0)) ∧ Gr w u1) := ⟨unhide hO, hB.gr⟩
  clear hO hB
  go_wp2_with fail
  go_loopw [3, 8] (fun v i wr => ∃ (j : Nat) (v' : Value), j ≤ 32 ∧ v' = v ∧ i = .int .i64 (j : Int) ∧ Hid (Ob w.heap.size wr v' (txL (K.take j)) ∧ Gr w wr)) (fun _ i _ => 32 - (intOf i).toNat)
  case atStart => exact ⟨0, _, by omega, rfl, rfl, hI0⟩
  case round =>
  clear hI0
  obtain ⟨j, v', hj, rfl, rfl, hA⟩ := hrel
  by_cases hlt : j < 32
  · have jI : (j : Int) < 32 := by omega
    obtain ⟨c, hc⟩ : ∃ c, c = K.getD j 0 := ⟨_, rfl⟩
    have hcb : 0 ≤ c ∧ c < 256 := by rw [hc]; exact (unhide hKb).at_ j
    have hts : Hid (txL (K.take (j + 1)) = txL (K.take j) ++ [hx (c / 16), hx (c % 16)]) := by
      rw [hc, take_one K j (by omega), txL_app]
      rfl
    replace hc := hide hc; replace hcb := hide hcb
    go_upto_region 4 with fail
    refine wp_region_lit ?_
    refine list_val (.int .u8 c) (by kernel_rfl) (by rw [unhide hc]; exact exec_kix _ (.tmp 7) (.tmp 8) rfl K hK j (by first | rfl | (rw [← unhide hKK]; kernel_rfl)) (by kernel_rfl) hlt) ?_
    simp only [nrm]
    (refine wpList_step fun K hK => ?_; replace hK := hide hK; go_simp; refine unhide hK _ _ ?_; clear hK K)
    refine wpList_nil ?_
    go_upto_region 5 with fail
    refine wp_region_lit ?_
    refine list_val v' (by kernel_rfl) (by kernel_rfl) ?_
    simp only [nrm]
    refine list_val (.int .u8 c) (by kernel_rfl) (by kernel_rfl) ?_
    simp only [nrm]
    refine list_call 31 #[v', .int .u8 c] (by kernel_rfl) (by kernel_rfl) ((putdig_ok w.heap.size v' (txL (K.take j)) c (unhide hcb) wr (unhide hA).2.size (unhide hA).1 (by rw [txL_len, List.length_take]; omega)).mono ?_)
    rintro r_ y1 ⟨v2, rfl, hO2, hg2⟩
    have hA2 : Hid (Ob w.heap.size y1 v2 (txL (K.take (j + 1))) ∧ Gr w y1) := ⟨by rw [unhide hts]; exact hO2, (unhide hA).1.grown (Nat.le_refl _) (unhide hA).2 hg2⟩
    clear hO2 hg2 hA hts
    refine ⟨_, rfl, ?_⟩
    simp only [nrm]
    (refine wpList_step fun K hK => ?_; replace hK := hide hK; go_simp; refine unhide hK _ _ ?_; clear hK K)
    refine wpList_nil ?_
    go_wp2_with fail
    go_roundw
    case rel => exact ⟨j + 1, v2, by omega, rfl, by simp, hA2⟩
    case measure => simp [intOf]; omega
  · have e : j = 32 := by omega
    subst e
    clear hlt
    obtain ⟨hO, hG⟩ := unhide hA
    have ht : txL (K.take 32) = txL K := by rw [List.take_of_length_le (by omega)]
    rw [ht] at hO
    obtain ⟨av, cv, hv, _, _, hsl⟩ := hO.slice
    have hl2 : (txL K).length = 64 := by rw [txL_len]; omega
    rw [hl2] at hv
    subst hv
    replace hsl := hide hsl
    clear hO hA ht
    go_upto_region 7 with fail
    refine wp_region_lit ?_
    refine list_val (.slice av 64 cv) (by kernel_rfl) (by kernel_rfl) ?_
    simp only [nrm]
    refine list_val (.string (strOfNums (txL K))) (by kernel_rfl) (exec_text _ (.tmp 15) rfl av 64 cv (txL K) hl2 (by kernel_rfl) (unhide hsl)) ?_
    simp only [nrm]
    (refine wpList_step fun K hK => ?_; replace hK := hide hK; go_simp; refine unhide hK _ _ ?_; clear hK K)
    refine wpList_nil ?_
    have hZ : Hid (T (.returned (.string (strOfNums (txL K)))) wr) := by
      rw [unhide hT]
      exact ⟨rfl, hG⟩
    go_wp2_with fail
    exact unhide hZ
theorem exec_kat {a : Act} {o : Oper} (w : World) (x y : Operand) (ho : o.op = .indexAddr 25 x y) (g i : Nat) (hx : a.eval x = .pointer (some ⟨g, 0, none⟩)) (hy : a.eval y = .int .i64 (i : Int)) (hi : i < 32) :
    (execOp a.eval o).run Tryd.prog w = .ok (.value (.pointer (some ⟨g, i, none⟩))) w := by
  have h1 : (i : Int) < 32 := by omega
  unfold execOp
  simp only [ho, hx, hy]
  go_simp
def Bod (b : Bool) (w : World) (r : Ending) (w' : World) : Prop := r = .returned (.bool b) ∧ Gr w w'
set_option maxHeartbeats 4000000 in
theorem less_ok (A B : List Int) (hA : A.length = 32) (hB0 : B.length = 32) (w : World) : Calls Tryd.prog 20 #[.agg (kc A), .agg (kc B)] w (Bod (ltL A B) w) := by
  obtain ⟨T, hT⟩ : ∃ T, T = Bod (ltL A B) w := ⟨_, rfl⟩
  rw [← hT]
  replace hT := hide hT
  obtain ⟨AA, hAA⟩ : ∃ KK, KK = kc A := ⟨_, rfl⟩
  obtain ⟨BB, hBB⟩ : ∃ KK, KK = kc B := ⟨_, rfl⟩
  rw [← hAA, ← hBB]
  replace hAA := hide hAA
  replace hBB := hide hBB
  go_enter Tryd.func20, Tryd.ntmps20
  go_upto_region 1 with fail
  have hB := ((Bl.nil w).new AA 25).new BB 25
  simp only [List.nil_append, List.cons_append, size_alloc] at hB
  generalize World.alloc _ _ = u at *
  rw [unhide hAA, unhide hBB] at hB
  replace hB : Bl w [⟨w.heap.size, kc A, 25⟩, ⟨w.heap.size + 1, kc B, 25⟩] u := hB
  refine wp_region_lit ?_
  refine list_val (.agg (kc A)) (by kernel_rfl) (exec_arr _ 25 (.tmp 2) rfl (w.heap.size) (by kernel_rfl) (kc A) 25 _ (hB.get 0 (x := ⟨w.heap.size, kc A, 25⟩) rfl) Tryd.underlying25 rfl (by rw [Tryd.infoKey, kc_size, hA])) ?_
  simp only [nrm]
  refine list_val (.int .i64 0) (by kernel_rfl) (by kernel_rfl) ?_
  simp only [nrm]
  refine wpList_nil ?_
  replace hB := hide hB
  go_wp2_with fail
  go_loopw [8] (fun i wr => ∃ (j : Nat), j ≤ 32 ∧ i = .int .i64 (j : Int) ∧ Hid (∀ k, k < j → A.getD k 0 = B.getD k 0) ∧ wr = u) (fun i _ => 32 - (intOf i).toNat)
  case atStart => exact ⟨0, by omega, rfl, fun k hk => absurd hk (by omega), rfl⟩
  case round =>
  obtain ⟨j, hj, rfl, hE, rfl⟩ := hrel
  by_cases hlt : j < 32
  · have jI : (j : Int) < 32 := by omega
    obtain ⟨p, hp⟩ : ∃ c, c = A.getD j 0 := ⟨_, rfl⟩
    obtain ⟨q, hq⟩ : ∃ c, c = B.getD j 0 := ⟨_, rfl⟩
    have hcq := kc_cell ((unhide hB).get 1 (x := ⟨w.heap.size + 1, kc B, 25⟩) rfl) j (by omega)
    rw [← hq] at hcq
    replace hp := hide hp; replace hq := hide hq; replace hcq := hide hcq
    go_upto_region 3 with fail
    refine wp_region_lit ?_
    refine list_val (.int .i64 (j : Int)) (by kernel_rfl) (by kernel_rfl) ?_
    simp only [nrm]
    refine list_val (.int .u8 p) (by kernel_rfl) (by rw [unhide hp]; exact exec_kix _ (.tmp 7) (.tmp 8) rfl A hA j (by first | rfl | (rw [← unhide hAA]; kernel_rfl)) (by kernel_rfl) hlt) ?_
    simp only [nrm]
    (refine wpList_step fun K hK => ?_; replace hK := hide hK; go_simp; refine unhide hK _ _ ?_; clear hK K)
    (refine wpList_step fun K hK => ?_; replace hK := hide hK; go_simp; refine unhide hK _ _ ?_; clear hK K)
    refine wpList_nil ?_
    go_upto_region 4 with fail
    by_cases hpq : p = q
    · replace hpq := hide hpq
      refine wp_region_lit ?_
      refine list_val (.int .u8 p) (by kernel_rfl) (by kernel_rfl) ?_
      simp only [nrm]
      refine list_val (.int .i64 (j : Int)) (by kernel_rfl) (by kernel_rfl) ?_
      simp only [nrm]
      refine list_val (.pointer (some ⟨w.heap.size + 1, j, none⟩)) (by kernel_rfl) (exec_kat _ (.tmp 3) (.tmp 13) rfl (w.heap.size + 1) j (by kernel_rfl) (by kernel_rfl) hlt) ?_
      simp only [nrm]
      refine list_val (.int .u8 q) (by kernel_rfl) (exec_u8 _ (.tmp 14) rfl (w.heap.size + 1) j (by kernel_rfl) q (unhide hcq)) ?_
      simp only [nrm]
      refine list_val (.bool false) (by kernel_rfl) (by have h := unhide hpq; go_simp) ?_
      simp only [nrm]
      refine wpList_nil ?_
      have hE2 : Hid (∀ k, k < j + 1 → A.getD k 0 = B.getD k 0) := fun k hk => by
        by_cases e : k = j
        · rw [e, ← unhide hp, ← unhide hq]; exact unhide hpq
        · exact unhide hE k (by omega)
      go_wp2_with fail
      go_roundw
      case rel => exact ⟨j + 1, by omega, by simp, hE2, trivial⟩
      case measure => simp [intOf]; omega
    · have hlt2 : ltL A B = decide (p < q) := by rw [unhide hp, unhide hq]; exact ltL_at A B j (unhide hE) (by omega) (by omega) (by rw [← unhide hp, ← unhide hq]; exact hpq)
      obtain ⟨bb, hbb⟩ : ∃ b, b = decide (p < q) := ⟨_, rfl⟩
      rw [hlt2, ← hbb] at hT
      replace hpq := hide hpq; replace hbb := hide hbb
      clear hlt2
      refine wp_region_lit ?_
      refine list_val (.int .u8 p) (by kernel_rfl) (by kernel_rfl) ?_
      simp only [nrm]
      refine list_val (.int .i64 (j : Int)) (by kernel_rfl) (by kernel_rfl) ?_
      simp only [nrm]
      refine list_val (.pointer (some ⟨w.heap.size + 1, j, none⟩)) (by kernel_rfl) (exec_kat _ (.tmp 3) (.tmp 13) rfl (w.heap.size + 1) j (by kernel_rfl) (by kernel_rfl) hlt) ?_
      simp only [nrm]
      refine list_val (.int .u8 q) (by kernel_rfl) (exec_u8 _ (.tmp 14) rfl (w.heap.size + 1) j (by kernel_rfl) q (unhide hcq)) ?_
      simp only [nrm]
      refine list_val (.bool true) (by kernel_rfl) (by have h := unhide hpq; go_simp) ?_
      simp only [nrm]
      refine wpList_nil ?_
      go_upto_region 5 with fail
      refine wp_region_lit ?_
      refine list_val (.int .u8 p) (by kernel_rfl) (by kernel_rfl) ?_
      simp only [nrm]
      refine list_val (.int .i64 (j : Int)) (by kernel_rfl) (by kernel_rfl) ?_
      simp only [nrm]
      refine list_val (.pointer (some ⟨w.heap.size + 1, j, none⟩)) (by kernel_rfl) (exec_kat _ (.tmp 3) (.tmp 18) rfl (w.heap.size + 1) j (by kernel_rfl) (by kernel_rfl) hlt) ?_
      simp only [nrm]
      refine list_val (.int .u8 q) (by kernel_rfl) (exec_u8 _ (.tmp 19) rfl (w.heap.size + 1) j (by kernel_rfl) q (unhide hcq)) ?_
      simp only [nrm]
      refine list_val (.bool bb) (by kernel_rfl) (by rw [unhide hbb]; go_simp) ?_
      simp only [nrm]
      (refine wpList_step fun K hK => ?_; replace hK := hide hK; go_simp; refine unhide hK _ _ ?_; clear hK K)
      refine wpList_nil ?_
      have hZ : Hid (T (.returned (.bool bb)) wr) := by
        rw [unhide hT]
        exact ⟨rfl, (unhide hB).gr⟩
      go_wp2_with fail
      exact unhide hZ
  · have e : j = 32 := by omega
    subst e
    have hab : A = B := list_of_getD (by omega) fun k hk => unhide hE k (by omega)
    rw [hab, ltL_irr] at hT
    clear hlt hab
    have hZ : Hid (T (.returned (.bool false)) wr) := by
      rw [unhide hT]
      exact ⟨rfl, (unhide hB).gr⟩
    go_wp2_with fail
    exact unhide hZ
end Go.Proofs.YtpmgmpihmpifgaaDoor
