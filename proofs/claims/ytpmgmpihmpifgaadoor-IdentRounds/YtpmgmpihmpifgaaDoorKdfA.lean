/-
  Parts of bytes in a list; feed; a key's pads.
-/
import Derived.Test.YtpmgmpihmpifgaaDoorCaC
import Derived.OpenShut
namespace Go.Proofs.YtpmgmpihmpifgaaDoor
open Go.RowKit
set_option maxRecDepth 100000
set_option linter.unusedSimpArgs false
set_option linter.unusedVariables false

/-- lists of bytes in a row -/
def Pq (w : World) (p o : Nat) (ps : List (List Int)) : Prop := ∀ j, j < ps.length → ∃ a n c, w.cell? ⟨p, o + j, none⟩ = some (.slice a n c) ∧ (ps.getD j []).length = n ∧ IsB (ps.getD j []) ∧ Sl w a (ps.getD j []) ∧ n ≤ c ∧ c < 9223372036854775808
theorem Pq.gr {w v : World} {p o : Nat} {ps : List (List Int)} (h : Pq w p o ps) (k : Gr w v) : Pq v p o ps := by
  intro j hj
  obtain ⟨a, n, c, h1, h2, h3, h4, h5⟩ := h j hj
  exact ⟨a, n, c, k.cell h1, h2, h3, h4.gr k, h5⟩
def Pr (w : World) (a : Option Addr) (ps : List (List Int)) : Prop := ps = [] ∨ ∃ p o, a = some ⟨p, o, none⟩ ∧ Pq w p o ps
theorem Pr.gr {w v : World} {a : Option Addr} {ps : List (List Int)} (h : Pr w a ps) (k : Gr w v) : Pr v a ps := by
  rcases h with h | ⟨p, o, h1, h2⟩
  · exact .inl h
  · exact .inr ⟨p, o, h1, h2.gr k⟩
/-- .. none of them in block g -/
def PqX (g : Nat) (w : World) (p o : Nat) (ps : List (List Int)) : Prop := ∀ j, j < ps.length → ∃ a n c, w.cell? ⟨p, o + j, none⟩ = some (.slice a n c) ∧ p ≠ g ∧ (ps.getD j []).length = n ∧ IsB (ps.getD j []) ∧ SlX g w a (ps.getD j []) ∧ n ≤ c ∧ c < 9223372036854775808
theorem PqX.bt {g : Nat} {w v : World} {p o : Nat} {ps : List (List Int)} (h : PqX g w p o ps) (k : Bt g w v) : PqX g v p o ps := by
  intro j hj
  obtain ⟨a, n, c, h1, h2, h3, h4, h5, h6⟩ := h j hj
  exact ⟨a, n, c, k.cell h1 h2, h2, h3, h4, h5.bt k, h6⟩
def PrX (g : Nat) (w : World) (a : Option Addr) (ps : List (List Int)) : Prop := ps = [] ∨ ∃ p o, a = some ⟨p, o, none⟩ ∧ PqX g w p o ps
theorem Pr.far {w v : World} {a : Option Addr} {ps : List (List Int)} (h : Pr w a ps) (k : Gr w v) {g : Nat} (hg : w.heap.size ≤ g) : PrX g v a ps := by
  rcases h with h | ⟨p, o, h1, h2⟩
  · exact .inl h
  · refine .inr ⟨p, o, h1, fun j hj => ?_⟩
    obtain ⟨a, n, c, h3, h4, h5, h6, h7⟩ := h2 j hj
    exact ⟨a, n, c, k.cell h3, (by have := lt_of_cell h3; omega), h4, h5, h6.far k hg, h7⟩
/-- the method Write of the Hash at g -/
def wrf (g : Nat) : Value := .func (.func 42) #[.pointer (some ⟨g, 0, none⟩)] #[]
theorem flat_next (ps : List (List Int)) (k : Nat) (h : k < ps.length) : (ps.take (k + 1)).flatten = (ps.take k).flatten ++ ps.getD k [] := by
  rw [List.take_add_one, List.getElem?_eq_getElem h, List.flatten_append]
  simp [h]
theorem flat_le (ps : List (List Int)) (k : Nat) : (ps.take k).flatten.length ≤ ps.flatten.length := by
  have h : ps.flatten = (ps.take k).flatten ++ (ps.drop k).flatten := by rw [← List.flatten_append, List.take_append_drop]
  rw [h, List.length_append]
  omega
set_option maxHeartbeats 2000000 in
theorem feed_ok (g : Nat) (L : List Int) (ps : List (List Int)) (a : Option Addr) (m cap : Nat) (hm : ps.length = m) (hmb : m < 4611686018427387904) (hbig : L.length + ps.flatten.length < 1152921504606846000) (w : World) (hH : H g L w) (hP : PrX g w a ps) :
    Calls Tryd.prog 90 #[wrf g, .slice a m cap] w (fun r w' => ∃ v, r = .returned v ∧ H g (L ++ ps.flatten) w' ∧ Bt g w w') := by
  obtain ⟨W, hW⟩ : ∃ W, W = wrf g := ⟨_, rfl⟩
  rw [← hW]
  obtain ⟨T, hT⟩ : ∃ T, T = (fun (r : Ending) (w' : World) => ∃ v, r = .returned v ∧ H g (L ++ ps.flatten) w' ∧ Bt g w w') := ⟨_, rfl⟩
  rw [← hT]
  replace hT := hide hT
  replace hW := hide hW
  replace hP := hide hP
  have hH0 : H g (L ++ (ps.take 0).flatten) w := by simpa using hH
  replace hH := hide hH0
  clear hH0
  go_enter Tryd.func90, Tryd.ntmps90
  go_wp2_with fail
  go_loopw [8] (fun i wr => ∃ k : Nat, k ≤ m ∧ i = .int .i64 k ∧ Hid (H g (L ++ (ps.take k).flatten) wr) ∧ Hid (Bt g w wr)) (fun i _ => m - (intOf i).toNat)
  case atStart => exact ⟨0, by omega, rfl, hH, Bt.refl g w⟩
  case round =>
  clear hH
  obtain ⟨k, hk, rfl, hH, hB⟩ := hrel
  by_cases hl : k < m
  · have kI : (k : Int) < (m : Int) := by omega
    obtain ⟨p, o, rfl, hq⟩ : ∃ p o, a = some ⟨p, o, none⟩ ∧ PqX g wr p o ps := by
      rcases (unhide hP) with h | ⟨p, o, h1, h2⟩
      · rw [h] at hm; simp at hm; omega
      · exact ⟨p, o, h1, h2.bt (unhide hB)⟩
    obtain ⟨aP, nP, cP, cc, _, hPl, hPb, hPs, hPc, hPm⟩ := hq k (by omega)
    clear hq
    have hnx := hide (flat_next ps k (by omega))
    have hle := flat_le ps (k + 1)
    rw [unhide hnx, List.length_append] at hle
    generalize ps.getD k [] = P at *
    have kw : IntKind.i64.wrap ((k : Int) + 1) = (k : Int) + 1 := by rw [IntKind.wrap_i64]; omega
    replace hPs := hide hPs
    replace hPb := hide hPb
    replace hle := hide hle
    go_upto_region 3 with fail
    refine wp_region_lit ?_
    iterate 2 (refine wpList_step fun K hK => ?_; replace hK := hide hK; go_simp; refine unhide hK _ _ ?_; clear hK K)
    rw [unhide hW]
    refine list_call 42 #[.pointer (some ⟨g, 0, none⟩), .slice aP nP cP] (by kernel_rfl) (by kernel_rfl) ((write_ok g (L ++ (ps.take k).flatten) P (unhide hPb) (by have := unhide hle; rw [List.length_append]; omega) aP nP cP hPl hPc hPm _ (unhide hH) (unhide hPs)).mono ?_)
    rintro r v1 ⟨rfl, hH2, hbt⟩
    refine ⟨_, rfl, ?_⟩
    rw [← unhide hW]
    replace hB := hide ((unhide hB).trans hbt)
    have hH3 : Hid (H g (L ++ (ps.take (k + 1)).flatten) v1) := by rw [unhide hnx, ← List.append_assoc]; exact hH2
    clear hH hbt hH2 hnx
    simp only [Act.put, List.setIfInBounds_toArray, List.set_cons_zero, List.set_cons_succ, List.getElem_toArray, List.getElem_cons_zero, List.getElem_cons_succ]
    refine wpList_nil ?_
    go_wp2_with fail
    go_roundw
    case rel => exact ⟨k + 1, by omega, by go_num, hH3, hB⟩
    case measure => simp [intOf]; omega
  · have e : k = m := by omega
    subst e
    have hH3 : Hid (H g (L ++ ps.flatten) wr) := by
      have := unhide hH
      rw [List.take_of_length_le (by omega)] at this
      exact this
    clear hH
    go_wp2_with fail
    refine bodyPost_end (v := .tuple #[]) ?_ rfl ?_
    · simp [results, Tryd.results90, go_sem]
    · rw [unhide hT]
      exact ⟨_, rfl, unhide hH3, unhide hB⟩

/-- a byte xored -/
def kxb (a x : Int) : Int := bits .xor .u8 a x
theorem kxb_rng (a x : Int) : 0 ≤ kxb a x ∧ kxb a x < 256 := by
  have := bounds_u8 (wf_bits .xor .u8 a x)
  unfold kxb
  omega
/-- the first n bytes xored -/
def XK (K : List Int) (x : Int) : Nat → List Int
  | 0 => K
  | n + 1 => (XK K x n).set n (kxb ((XK K x n).getD n 0) x)
theorem XK_len (K : List Int) (x : Int) : ∀ n, (XK K x n).length = K.length
  | 0 => rfl
  | n + 1 => by rw [XK, List.length_set, XK_len K x n]
theorem XK_get (K : List Int) (x : Int) (j : Nat) : ∀ n, n ≤ K.length → (XK K x n).getD j 0 = if j < n then kxb (K.getD j 0) x else K.getD j 0
  | 0, _ => by simp [XK]
  | n + 1, h => by
    rw [XK, getD_set _ _ _ _ (by rw [XK_len]; omega), XK_get K x n n (by omega), if_neg (Nat.lt_irrefl n)]
    by_cases e : j = n
    · subst e
      rw [if_pos rfl, if_pos (by omega)]
    · rw [if_neg e, XK_get K x j n (by omega)]
      by_cases h2 : j < n
      · rw [if_pos h2, if_pos (by omega)]
      · rw [if_neg h2, if_neg (by omega)]
/-- a key of at most a block -/
def k6 (B : List Int) : List Int := if 64 < B.length then sumL B else B
/-- a key's pad -/
def padK (B : List Int) (x : Int) : List Int := (List.range 64).map fun i => kxb ((k6 B).getD i 0) x
theorem padK_len (B : List Int) (x : Int) : (padK B x).length = 64 := by unfold padK; simp
theorem padK_isB (B : List Int) (x : Int) : IsB (padK B x) := by
  intro y hy
  unfold padK at hy
  obtain ⟨i, _, rfl⟩ := List.mem_map.1 hy
  exact kxb_rng _ _
def z6 (B : List Int) : List Int := k6 B ++ List.replicate (64 - (k6 B).length) 0
theorem k6_len (B : List Int) : (k6 B).length ≤ 64 := by
  unfold k6
  split
  · rw [sumL_len]; omega
  · omega
theorem z6_len (B : List Int) : (z6 B).length = 64 := by
  have := k6_len B
  unfold z6
  rw [List.length_append, List.length_replicate]
  omega
theorem z6_get (B : List Int) (j : Nat) : (z6 B).getD j 0 = (k6 B).getD j 0 := by
  unfold z6
  simp only [List.getD_eq_getElem?_getD, List.getElem?_append]
  split
  · rfl
  · rename_i h
    rw [List.getElem?_eq_none (by omega : (k6 B).length ≤ j)]
    simp only [List.getElem?_replicate]
    split <;> rfl
theorem pad_all (B : List Int) (x : Int) : XK (z6 B) x 64 = padK B x := by
  apply List.ext_getElem (by rw [XK_len, z6_len, padK_len])
  intro i h1 h2
  have h3 := XK_get (z6 B) x i 64 (by rw [z6_len]; omega)
  have hi : i < 64 := by rw [padK_len] at h2; exact h2
  rw [if_pos hi, z6_get] at h3
  rw [List.getD_eq_getElem?_getD, List.getElem?_eq_getElem h1] at h3
  simp only [Option.getD_some] at h3
  rw [h3]
  unfold padK
  simp
theorem Tryd.infoL : (Tryd.prog.info? 97).map (·.size) = some 64 := by kernel_rfl
def Z6 : List Int := List.replicate 64 0
/-- what a pad is -/
def Padd (K : List Int) (x : Int) (w : World) (r : Ending) (w' : World) : Prop := ∃ g, r = .returned (.slice (some ⟨g, 0, none⟩) 64 64) ∧ w.heap.size ≤ g ∧ w'.heap[g]? = some (.cells (kc (XK K x 64)) 97 (0, 0)) ∧ Gr w w'
set_option maxHeartbeats 2000000 in
theorem pads1_ok (K : List Int) (hK : K.length = 64) (x : Int) (gk : Nat) (w : World) (hk : w.heap[gk]? = some (.cells (kc K) 97 (0, 0))) : Calls Tryd.prog 105 #[.int .u8 x, .pointer (some ⟨gk, 0, none⟩)] w (Padd K x w) := by
  obtain ⟨T, hT⟩ : ∃ T, T = Padd K x w := ⟨_, rfl⟩
  rw [← hT]
  replace hT := hide hT
  replace hk := hide hk
  go_enter Tryd.func105, Tryd.ntmps105
  go_upto_region 1 with fail
  refine wp_region_lit ?_
  refine list_val (.agg (kc K)) (by kernel_rfl) (exec_arr _ 97 (.tmp 1) rfl gk (by kernel_rfl) (kc K) 97 _ (unhide hk) Tryd.underlying97 rfl (by rw [Tryd.infoL, kc_size, hK])) ?_
  simp only [Act.put, List.setIfInBounds_toArray, List.set_cons_zero, List.set_cons_succ, List.getElem_toArray, List.getElem_cons_zero, List.getElem_cons_succ]
  iterate 1 (refine wpList_step fun K hK => ?_; replace hK := hide hK; go_simp; refine unhide hK _ _ ?_; clear hK K)
  have hB := (Bl.nil w).new #[.int .u8 0, .int .u8 0, .int .u8 0, .int .u8 0, .int .u8 0, .int .u8 0, .int .u8 0, .int .u8 0, .int .u8 0, .int .u8 0, .int .u8 0, .int .u8 0, .int .u8 0, .int .u8 0, .int .u8 0, .int .u8 0, .int .u8 0, .int .u8 0, .int .u8 0, .int .u8 0, .int .u8 0, .int .u8 0, .int .u8 0, .int .u8 0, .int .u8 0, .int .u8 0, .int .u8 0, .int .u8 0, .int .u8 0, .int .u8 0, .int .u8 0, .int .u8 0, .int .u8 0, .int .u8 0, .int .u8 0, .int .u8 0, .int .u8 0, .int .u8 0, .int .u8 0, .int .u8 0, .int .u8 0, .int .u8 0, .int .u8 0, .int .u8 0, .int .u8 0, .int .u8 0, .int .u8 0, .int .u8 0, .int .u8 0, .int .u8 0, .int .u8 0, .int .u8 0, .int .u8 0, .int .u8 0, .int .u8 0, .int .u8 0, .int .u8 0, .int .u8 0, .int .u8 0, .int .u8 0, .int .u8 0, .int .u8 0, .int .u8 0, .int .u8 0] 97
  simp only [List.nil_append] at hB
  generalize World.alloc _ _ = u at *
  replace hB : Bl w [⟨w.heap.size, kc Z6, 97⟩] u := hB
  refine list_store 97 (.tmp 4) (.tmp 6) w.heap.size (kc K) 97 (kc Z6) (by kernel_rfl) rfl (by kernel_rfl) (by kernel_rfl) (hB.get 0 (x := ⟨w.heap.size, kc Z6, 97⟩) rfl) (by rw [Tryd.infoL, kc_size, hK]) ((show (kc Z6).size = 64 from rfl).trans ((kc_size _).trans hK).symm) (kc_one _) ?_
  replace hB := hB.set 0 (x := ⟨w.heap.size, kc Z6, 97⟩) rfl (kc K)
  simp only [List.set_cons_zero, List.set_cons_succ] at hB
  generalize World.setRow _ _ _ = u1 at *
  simp only [Act.put, List.setIfInBounds_toArray, List.set_cons_zero, List.set_cons_succ, List.getElem_toArray, List.getElem_cons_zero, List.getElem_cons_succ]
  refine wpList_nil ?_
  replace hB : Hid (Bl w [⟨w.heap.size, kc (XK K x 0), 97⟩] u1) := hB
  go_wp2_with fail
  go_loopw [7] (fun i wr => ∃ (n : Nat) (m : List Int), n ≤ 64 ∧ i = .int .i64 n ∧ Hid (m = XK K x n) ∧ Hid (Bl w [⟨w.heap.size, kc m, 97⟩] wr)) (fun i _ => 64 - (intOf i).toNat)
  case atStart => exact ⟨0, XK K x 0, by omega, rfl, rfl, hB⟩
  case round =>
  clear hB
  obtain ⟨n, m, hn, rfl, hm, hB⟩ := hrel
  have hml : m.length = 64 := by rw [unhide hm, XK_len, hK]
  by_cases hl : n < 64
  · have nI : (n : Int) < 64 := by omega
    have nJ : 0 ≤ (n : Int) ∧ (n : Int) < 64 := by omega
    have hg := (unhide hB).get 0 (x := ⟨w.heap.size, kc m, 97⟩) rfl
    have cs := kc_cell hg n (by omega)
    have fs := froz_of (i := n) hg
    clear hg
    have hm2 : Hid (m.set n (kxb (m.getD n 0) x) = XK K x (n + 1)) := by rw [unhide hm]; exact rfl
    have hB2 := (unhide hB).cell 0 (x := ⟨w.heap.size, kc m, 97⟩) rfl n (.int .u8 (kxb (m.getD n 0) x))
    simp only [List.set_cons_zero, List.set_cons_succ, kc_set] at hB2
    generalize m.getD n 0 = y at *
    replace hB2 : Hid (Bl w [⟨w.heap.size, kc (m.set n (bits .xor .u8 y x)), 97⟩] (wr.setCell ⟨w.heap.size, n, none⟩ (.int .u8 (bits .xor .u8 y x)))) := hB2
    replace hm2 : Hid (m.set n (bits .xor .u8 y x) = XK K x (n + 1)) := hm2
    go_wp2_with fail
    go_roundw
    case rel => exact ⟨n + 1, _, by omega, by go_num, hm2, hB2⟩
    case measure => simp [intOf]; omega
  · have e : n = 64 := by omega
    subst e
    have hP : Hid (Padd K x w (.returned (.slice (some ⟨w.heap.size, 0, none⟩) 64 64)) wr) := ⟨_, rfl, Nat.le_refl _, (by rw [← unhide hm]; exact (unhide hB).get 0 (x := ⟨w.heap.size, kc m, 97⟩) rfl), (unhide hB).gr⟩
    clear hl hm hB
    go_wp2_with fail
    rw [unhide hT]
    exact unhide hP
/-- the closure over the block at gk -/
def padf (gk : Nat) : Value := .func (.func 105) #[] #[.pointer (some ⟨gk, 0, none⟩)]
def Padf (B : List Int) (w : World) (r : Ending) (w' : World) : Prop := ∃ g, r = .returned (padf g) ∧ w.heap.size ≤ g ∧ w'.heap[g]? = some (.cells (kc (z6 B)) 97 (0, 0)) ∧ Gr w w'
theorem sp_kc (L Z : List Int) (h : L.length ≤ Z.length) : sp (Z.map (Value.int .u8)) 0 (L.map (Value.int .u8)) = (L ++ Z.drop L.length).map (Value.int .u8) := by
  have h1 := sp_mid (L.map (Value.int .u8)) [] ((Z.take L.length).map (Value.int .u8)) ((Z.drop L.length).map (Value.int .u8)) (by simp; omega)
  simp only [List.nil_append, List.length_nil, ← List.map_append, List.take_append_drop] at h1
  exact h1
set_option maxHeartbeats 2000000 in
theorem pads_ok (B : List Int) (hb : IsB B) (n : Nat) (hn : B.length = n) (hbig : n < 1152921504606846000) (a : Option Addr) (cap : Nat) (hcap : n ≤ cap) (hcb : cap < 9223372036854775808) (w : World) (hF : Fst w) (hA : Sl w a B) :
    Calls Tryd.prog 89 #[.slice a n cap] w (Padf B w) := by
  obtain ⟨T, hT⟩ : ∃ T, T = Padf B w := ⟨_, rfl⟩
  rw [← hT]
  replace hT := hide hT
  replace hF := hide hF
  replace hA := hide hA
  replace hb := hide hb
  replace hn := hide hn
  have tail : ∀ (L : List Int) (a' : Option Addr) (m c : Nat) (v : World), L = k6 B → L.length = m → Sl v a' L → v.heap[w.heap.size]? = some (.cells (kc Z6) 97 (0, 0)) → Gr w v → L.length ≤ 64 ∧ (v.setCells w.heap.size 0 (L.map (Value.int .u8))).heap[w.heap.size]? = some (.cells (kc (z6 B)) 97 (0, 0)) ∧ Gr w (v.setCells w.heap.size 0 (L.map (Value.int .u8))) := by
    intro L a' m c v hL hm hs hv hg
    have hlen : L.length ≤ 64 := by rw [hL]; exact k6_len B
    refine ⟨hlen, ?_, (setCells_bt _ v w.heap.size 0).gr hg (Nat.le_refl _)⟩
    rw [setCells_heap _ v w.heap.size 0 (Z6.map (Value.int .u8)) 97 hv, sp_kc L Z6 hlen]
    have e : L ++ Z6.drop L.length = z6 B := by
      rw [hL]
      unfold z6 Z6
      rw [List.drop_replicate]
    rw [e]
    rfl
  replace tail := hide tail
  by_cases hl : 64 < n
  · have lI : 64 < (n : Int) := by omega
    go_enter Tryd.func89, Tryd.ntmps89
    go_upto_region 3 with fail
    have hB := (Bl.nil w).new #[.int .u8 0, .int .u8 0, .int .u8 0, .int .u8 0, .int .u8 0, .int .u8 0, .int .u8 0, .int .u8 0, .int .u8 0, .int .u8 0, .int .u8 0, .int .u8 0, .int .u8 0, .int .u8 0, .int .u8 0, .int .u8 0, .int .u8 0, .int .u8 0, .int .u8 0, .int .u8 0, .int .u8 0, .int .u8 0, .int .u8 0, .int .u8 0, .int .u8 0, .int .u8 0, .int .u8 0, .int .u8 0, .int .u8 0, .int .u8 0, .int .u8 0, .int .u8 0, .int .u8 0, .int .u8 0, .int .u8 0, .int .u8 0, .int .u8 0, .int .u8 0, .int .u8 0, .int .u8 0, .int .u8 0, .int .u8 0, .int .u8 0, .int .u8 0, .int .u8 0, .int .u8 0, .int .u8 0, .int .u8 0, .int .u8 0, .int .u8 0, .int .u8 0, .int .u8 0, .int .u8 0, .int .u8 0, .int .u8 0, .int .u8 0, .int .u8 0, .int .u8 0, .int .u8 0, .int .u8 0, .int .u8 0, .int .u8 0, .int .u8 0, .int .u8 0] 97
    simp only [List.nil_append] at hB
    generalize World.alloc _ _ = u at *
    replace hB : Bl w [⟨w.heap.size, kc Z6, 97⟩] u := hB
    refine wp_region_lit ?_
    iterate 1 (refine wpList_step fun K hK => ?_; replace hK := hide hK; go_simp; refine unhide hK _ _ ?_; clear hK K)
    refine list_call 32 #[.slice a n cap] (by kernel_rfl) (by kernel_rfl) ((sum_ok B (unhide hb) n (unhide hn) hbig a cap hcap hcb _ ((unhide hF).gr hB.gr) ((unhide hA).gr hB.gr)).mono ?_)
    rintro r u1 ⟨rfl, hg⟩
    refine ⟨_, rfl, ?_⟩
    replace hB := hB.more hg
    clear hg
    simp only [Act.put, List.setIfInBounds_toArray, List.set_cons_zero, List.set_cons_succ, List.getElem_toArray, List.getElem_cons_zero, List.getElem_cons_succ]
    have hk6 : k6 B = sumL B := by unfold k6; rw [if_pos (by rw [unhide hn]; exact hl)]
    obtain ⟨M, hM⟩ : ∃ M, M = sumL B := ⟨_, rfl⟩
    have hMl : M.length = 32 := by rw [hM]; exact sumL_len B
    rw [← hM] at hk6
    rw [← hM]
    clear hM
    replace hk6 := hide hk6
    iterate 1 (refine wpList_step fun K hK => ?_; replace hK := hide hK; go_simp; refine unhide hK _ _ ?_; clear hK K)
    replace hB := hB.new #[.int .u8 0, .int .u8 0, .int .u8 0, .int .u8 0, .int .u8 0, .int .u8 0, .int .u8 0, .int .u8 0, .int .u8 0, .int .u8 0, .int .u8 0, .int .u8 0, .int .u8 0, .int .u8 0, .int .u8 0, .int .u8 0, .int .u8 0, .int .u8 0, .int .u8 0, .int .u8 0, .int .u8 0, .int .u8 0, .int .u8 0, .int .u8 0, .int .u8 0, .int .u8 0, .int .u8 0, .int .u8 0, .int .u8 0, .int .u8 0, .int .u8 0, .int .u8 0] 25
    simp only [List.cons_append, List.nil_append] at hB
    generalize World.alloc _ _ = u2 at *
    generalize u1.heap.size = gs at *
    replace hB : Bl w [⟨w.heap.size, kc Z6, 97⟩, ⟨gs, kc Z32, 25⟩] u2 := hB
    refine list_store 25 (.tmp 4) (.tmp 9) gs (kc M) 25 (kc Z32) (by kernel_rfl) rfl (by kernel_rfl) (by kernel_rfl) (hB.get 1 (x := ⟨gs, kc Z32, 25⟩) rfl) (by rw [Tryd.infoKey, kc_size, hMl]) ((show (kc Z32).size = 32 from rfl).trans ((kc_size _).trans hMl).symm) (kc_one _) ?_
    replace hB := hB.set 1 (x := ⟨gs, kc Z32, 25⟩) rfl (kc M)
    simp only [List.set_cons_zero, List.set_cons_succ] at hB
    generalize World.setRow _ _ _ = u3 at *
    simp only [Act.put, List.setIfInBounds_toArray, List.set_cons_zero, List.set_cons_succ, List.getElem_toArray, List.getElem_cons_zero, List.getElem_cons_succ]
    refine wpList_nil ?_
    replace hB := hide hB
    go_upto_region 5 with fail
    replace hB := unhide hB
    refine wp_region_lit ?_
    iterate 2 (refine wpList_step fun K hK => ?_; replace hK := hide hK; go_simp; refine unhide hK _ _ ?_; clear hK K)
    have hs : Sl u3 (some ⟨gs, 0, none⟩) M := .inr ⟨gs, 0, rfl, kc_at (hB.get 1 (x := ⟨gs, kc M, 25⟩) rfl)⟩
    have ht := (unhide tail) M _ 32 0 u3 (unhide hk6).symm hMl hs (hB.get 0 (x := ⟨w.heap.size, kc Z6, 97⟩) rfl) hB.gr
    refine wpList_plain rfl fun K hK => ?_
    refine copy_wp (.tmp 11) (.tmp 12) rfl w.heap.size 0 64 64 (some ⟨gs, 0, none⟩) 32 32 (by kernel_rfl) (by kernel_rfl) (Z6.map (Value.int .u8)) 97 (hB.get 0 (x := ⟨w.heap.size, kc Z6, 97⟩) rfl) M (by rw [hMl]; rfl) (.inr ⟨gs, 0, rfl, kc_at (hB.get 1 (x := ⟨gs, kc M, 25⟩) rfl)⟩) (by rw [hMl]; decide) ?_
    refine hK _ _ ?_
    clear hK K hB hs
    simp only [Act.put, List.setIfInBounds_toArray, List.set_cons_zero, List.set_cons_succ, List.getElem_toArray, List.getElem_cons_zero, List.getElem_cons_succ]
    generalize World.setCells _ _ _ _ = u4 at *
    refine wpList_nil ?_
    have hP : Hid (Padf B w (.returned (padf w.heap.size)) u4) := ⟨_, rfl, Nat.le_refl _, ht.2.1, ht.2.2⟩
    clear ht tail hk6
    go_wp2_with fail
    rw [unhide hT]
    exact unhide hP
  · have lI : ¬ 64 < (n : Int) := by omega
    have hk6 : Hid (B = k6 B) := by unfold k6; rw [if_neg (by rw [unhide hn]; exact hl)]; exact rfl
    go_enter Tryd.func89, Tryd.ntmps89
    go_upto_region 5 with fail
    have hB := (Bl.nil w).new #[.int .u8 0, .int .u8 0, .int .u8 0, .int .u8 0, .int .u8 0, .int .u8 0, .int .u8 0, .int .u8 0, .int .u8 0, .int .u8 0, .int .u8 0, .int .u8 0, .int .u8 0, .int .u8 0, .int .u8 0, .int .u8 0, .int .u8 0, .int .u8 0, .int .u8 0, .int .u8 0, .int .u8 0, .int .u8 0, .int .u8 0, .int .u8 0, .int .u8 0, .int .u8 0, .int .u8 0, .int .u8 0, .int .u8 0, .int .u8 0, .int .u8 0, .int .u8 0, .int .u8 0, .int .u8 0, .int .u8 0, .int .u8 0, .int .u8 0, .int .u8 0, .int .u8 0, .int .u8 0, .int .u8 0, .int .u8 0, .int .u8 0, .int .u8 0, .int .u8 0, .int .u8 0, .int .u8 0, .int .u8 0, .int .u8 0, .int .u8 0, .int .u8 0, .int .u8 0, .int .u8 0, .int .u8 0, .int .u8 0, .int .u8 0, .int .u8 0, .int .u8 0, .int .u8 0, .int .u8 0, .int .u8 0, .int .u8 0, .int .u8 0, .int .u8 0] 97
    simp only [List.nil_append] at hB
    generalize World.alloc _ _ = u at *
    replace hB : Bl w [⟨w.heap.size, kc Z6, 97⟩] u := hB
    refine wp_region_lit ?_
    iterate 2 (refine wpList_step fun K hK => ?_; replace hK := hide hK; go_simp; refine unhide hK _ _ ?_; clear hK K)
    have hs := (unhide hA).gr hB.gr
    have ht := (unhide tail) B a n 0 u (unhide hk6) (unhide hn) hs (hB.get 0 (x := ⟨w.heap.size, kc Z6, 97⟩) rfl) hB.gr
    refine wpList_plain rfl fun K hK => ?_
    refine copy_wp (.tmp 11) (.tmp 12) rfl w.heap.size 0 64 64 a n cap (by kernel_rfl) (by kernel_rfl) (Z6.map (Value.int .u8)) 97 (hB.get 0 (x := ⟨w.heap.size, kc Z6, 97⟩) rfl) B (by rw [unhide hn]; exact (Nat.min_eq_left (by omega)).symm) (by rcases hs with h | ⟨p, o, h1, h2⟩; exact .inl h; exact .inr ⟨p, o, h1, h2⟩) (by have := ht.1; rw [List.length_map]; exact Nat.le_trans (by omega) (Nat.le_of_eq (show 64 = Z6.length from rfl))) ?_
    refine hK _ _ ?_
    clear hK K hB hs
    simp only [Act.put, List.setIfInBounds_toArray, List.set_cons_zero, List.set_cons_succ, List.getElem_toArray, List.getElem_cons_zero, List.getElem_cons_succ]
    generalize World.setCells _ _ _ _ = u4 at *
    refine wpList_nil ?_
    have hP : Hid (Padf B w (.returned (padf w.heap.size)) u4) := ⟨_, rfl, Nat.le_refl _, ht.2.1, ht.2.2⟩
    clear ht tail hk6
    go_wp2_with fail
    rw [unhide hT]
    exact unhide hP
end Go.Proofs.YtpmgmpihmpifgaaDoor
