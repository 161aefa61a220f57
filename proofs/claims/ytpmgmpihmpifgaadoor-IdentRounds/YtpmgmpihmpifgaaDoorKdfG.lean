/-
  Labelled secrets.
-/
import Derived.Test.YtpmgmpihmpifgaaDoorKdfF
namespace Go.Proofs.YtpmgmpihmpifgaaDoor
open Go.RowKit
set_option maxRecDepth 100000
set_option linter.unusedSimpArgs false
set_option linter.unusedVariables false

theorem results_two {P : Program} {fn : Func} {p q : Tmp} {ty : TypeId} (h : fn.results = #[.cell p ty, .cell q ty]) (tmps : Array Value) (w : World) (g g2 : Nat) (t t2 : TypeId) (cs cs2 : Array Value) (fr fr2 : Nat × Nat) (d : TypeDesc)
    (hp : tmps.getD p undef = .pointer (some ⟨g, 0, none⟩)) (hq : tmps.getD q undef = .pointer (some ⟨g2, 0, none⟩)) (hg : w.heap[g]? = some (.cells cs t fr)) (hg2 : w.heap[g2]? = some (.cells cs2 t2 fr2))
    (hu : P.underlying ty = some d) (hd : (match d with | .struct _ | .array _ _ => true | _ => false) = true) (hi : (P.info? ty).map (·.size) = some cs.size) (hi2 : (P.info? ty).map (·.size) = some cs2.size) :
    (results fn tmps).run P w = .ok (.tuple #[.agg cs, .agg cs2]) w := by
  have hp' : tmps[p]?.getD undef = .pointer (some ⟨g, 0, none⟩) := by simpa using hp
  have hq' : tmps[q]?.getD undef = .pointer (some ⟨g2, 0, none⟩) := by simpa using hq
  simp [results, h, hp', hq', asAddr, run_loadVar_row w g t ty cs fr d hg hu hd hi, run_loadVar_row w g2 t2 ty cs2 fr2 d hg2 hu hd hi2]
theorem infoL_isB {l : List Int} {ps : List (List Int)} (hl : IsB l) (hp : ∀ p ∈ ps, IsB p) : IsB (infoL l ps) := by
  unfold infoL infL
  refine isB_append (tpart_isB hl) ?_
  intro x hx
  obtain ⟨q, hq, hx⟩ := List.mem_flatten.1 hx
  obtain ⟨p, hp2, rfl⟩ := List.mem_map.1 hq
  exact tpart_isB (hp p (List.mem_of_mem_take hp2)) x hx
theorem Pr.isB {w : World} {a : Option Addr} {ps : List (List Int)} (h : Pr w a ps) : ∀ p ∈ ps, IsB p := by
  intro p hp
  rcases h with h | ⟨q, o, _, h2⟩
  · rw [h] at hp; cases hp
  · obtain ⟨j, hj⟩ := List.getElem?_of_mem hp
    have hj2 := (List.getElem?_eq_some_iff.1 hj).1
    obtain ⟨_, _, _, _, _, h3, _⟩ := h2 j hj2
    have e : ps.getD j [] = p := by rw [List.getD_eq_getElem?_getD, hj]; rfl
    rw [e] at h3
    exact h3
/-- 32 bytes are copied into a key of one's own -/
theorem Bl.copy {w v : World} {L : List Blk} (h : Bl w L v) (k : Nat) {g : Nat} {Z D : List Int} (hk : L[k]? = some ⟨g, kc Z, 25⟩) (hZ : Z.length = 32) (hD : D.length = 32) : Bl w (L.set k ⟨g, kc D, 25⟩) (v.setCells g 0 (D.map (Value.int .u8))) := by
  have hv := setCells_heap (D.map (Value.int .u8)) v g 0 (Z.map (Value.int .u8)) 25 (h.get k hk)
  rw [sp_kc D Z (by omega), List.drop_eq_nil_of_le (by omega), List.append_nil] at hv
  exact h.but (setCells_bt (D.map (Value.int .u8)) v g 0) k hk rfl hv
theorem add_block (x : Addr) (k : Nat) : (x.add k).block = x.block := by
  unfold Addr.add
  split <;> rfl
/-- what lies in later blocks stays while an earlier one is written -/
theorem Sl.later {v : World} {a : Option Addr} {D : List Int} {g : Nat} (vs : List Value) (h : Sl v a D) (hf : ∀ x, a = some x → g < x.block) : Sl (v.setCells g 0 vs) a D := by
  rcases h with h | ⟨p, o, h1, h2⟩
  · exact .inl h
  · have hp := hf _ h1
    exact .inr ⟨p, o, h1, fun j hj => (setCells_bt vs v g 0).cell (h2 j hj) (by dsimp only at hp; omega)⟩
def Derd (D : List Int) (w : World) (r : Ending) (w' : World) : Prop := r = .returned (.agg (kc D)) ∧ Gr w w'
def Twod (D E : List Int) (w : World) (r : Ending) (w' : World) : Prop := r = .returned (.tuple #[.agg (kc D), .agg (kc E)]) ∧ Gr w w'
set_option maxHeartbeats 2000000 in
theorem derive_ok (Ky : List Int) (hKl : Ky.length = 32) (hKb : IsB Ky) (t : ByteArray) (ht : t.size ≤ 1000) (ps : List (List Int)) (ap : Option Addr) (m cp : Nat) (hm : ps.length = m) (hp : small4 ps) (w : World) (hF : Fst w) (hP : Pr w ap ps) :
    Calls Tryd.prog 35 #[.agg (kc Ky), .string t, .slice ap m cp] w (Derd (spL Ky (infoL (tb t) ps) 32) w) := by
  obtain ⟨T, hT⟩ : ∃ T, T = Derd (spL Ky (infoL (tb t) ps) 32) w := ⟨_, rfl⟩
  rw [← hT]
  obtain ⟨KK, hKK⟩ : ∃ KK, KK = kc Ky := ⟨_, rfl⟩
  rw [← hKK]
  have hKs : KK.size = 32 := by rw [hKK, kc_size, hKl]
  have hIb : IsB (infoL (tb t) ps) := infoL_isB (tb_isB t) hP.isB
  have hIl : (infoL (tb t) ps).length ≤ 1004 + 4100 * ps.length := infL_len (tb t) ps (by rw [tb_len]; exact ht) hp ps.length (Nat.le_refl _)
  have hm100 := hp.1
  replace hT := hide hT
  replace hF := hide hF
  replace hP := hide hP
  replace hp := hide hp
  replace hm := hide hm
  replace hKK := hide hKK
  replace hKb := hide hKb
  replace hIb := hide hIb
  go_enter Tryd.func35, Tryd.ntmps35
  go_upto_region 2 with fail
  have hB := (((Bl.nil w).new KK 25).new #[.int .u8 0, .int .u8 0, .int .u8 0, .int .u8 0, .int .u8 0, .int .u8 0, .int .u8 0, .int .u8 0, .int .u8 0, .int .u8 0, .int .u8 0, .int .u8 0, .int .u8 0, .int .u8 0, .int .u8 0, .int .u8 0, .int .u8 0, .int .u8 0, .int .u8 0, .int .u8 0, .int .u8 0, .int .u8 0, .int .u8 0, .int .u8 0, .int .u8 0, .int .u8 0, .int .u8 0, .int .u8 0, .int .u8 0, .int .u8 0, .int .u8 0, .int .u8 0] 25).new #[.int .u8 0, .int .u8 0, .int .u8 0, .int .u8 0, .int .u8 0, .int .u8 0, .int .u8 0, .int .u8 0, .int .u8 0, .int .u8 0, .int .u8 0, .int .u8 0, .int .u8 0, .int .u8 0, .int .u8 0, .int .u8 0, .int .u8 0, .int .u8 0, .int .u8 0, .int .u8 0, .int .u8 0, .int .u8 0, .int .u8 0, .int .u8 0, .int .u8 0, .int .u8 0, .int .u8 0, .int .u8 0, .int .u8 0, .int .u8 0, .int .u8 0, .int .u8 0] 25
  simp only [List.nil_append, List.cons_append, size_alloc] at hB
  generalize World.alloc _ _ = u1 at *
  replace hB : Bl w [⟨w.heap.size, KK, 25⟩, ⟨w.heap.size + 1, kc Z32, 25⟩, ⟨w.heap.size + 1 + 1, kc Z32, 25⟩] u1 := hB
  refine any_start (S := fun v => v.heap[w.heap.size]? = some (.cells KK 25 (0, 0))) (by kernel_rfl) ?_
  replace hB := hB.drew
  generalize World.drew _ = u2 at *
  simp only [List.size_toArray, List.length_cons, List.length_nil, Array.replicate, List.replicate]
  refine any_take (i := 0) (v := (.slice (some ⟨w.heap.size + 1 + 1, 0, none⟩) 32 32)) #[false, false, false, false, false, false, false] rfl (by kernel_rfl) (by kernel_rfl) (by kernel_rfl) (by kernel_rfl) (fun _ _ _ h => h) (.inl ⟨by kernel_rfl, fun x_ hu => by go_simp⟩) (hB.get 0 (x := ⟨w.heap.size, KK, 25⟩) rfl) ?_
  simp only [Act.put, List.setIfInBounds_toArray, List.set_cons_zero, List.set_cons_succ, List.getElem_toArray, List.getElem_cons_zero, List.getElem_cons_succ]
  refine any_take (i := 1) (v := (.agg KK)) #[true, false, false, false, false, false, false] rfl (by kernel_rfl) (by kernel_rfl) (by kernel_rfl) (by kernel_rfl) (fun _ _ _ h => h) (.inl ⟨by kernel_rfl, fun x_ hu => exec_arr x_ 25 (.tmp 3) rfl w.heap.size (by kernel_rfl) KK 25 _ hu Tryd.underlying25 rfl (by rw [Tryd.infoKey, hKs])⟩) (hB.get 0 (x := ⟨w.heap.size, KK, 25⟩) rfl) ?_
  simp only [Act.put, List.setIfInBounds_toArray, List.set_cons_zero, List.set_cons_succ, List.getElem_toArray, List.getElem_cons_zero, List.getElem_cons_succ]
  refine any_take (i := 2) (v := (.string t)) #[true, true, false, false, false, false, false] rfl (by kernel_rfl) (by kernel_rfl) (by kernel_rfl) (by kernel_rfl) (fun _ _ _ h => h) (.inl ⟨by kernel_rfl, fun x_ hu => by kernel_rfl⟩) (hB.get 0 (x := ⟨w.heap.size, KK, 25⟩) rfl) ?_
  simp only [Act.put, List.setIfInBounds_toArray, List.set_cons_zero, List.set_cons_succ, List.getElem_toArray, List.getElem_cons_zero, List.getElem_cons_succ]
  refine any_take (i := 3) (v := (.slice ap m cp)) #[true, true, true, false, false, false, false] rfl (by kernel_rfl) (by kernel_rfl) (by kernel_rfl) (by kernel_rfl) (fun _ _ _ h => h) (.inl ⟨by kernel_rfl, fun x_ hu => by kernel_rfl⟩) (hB.get 0 (x := ⟨w.heap.size, KK, 25⟩) rfl) ?_
  simp only [Act.put, List.setIfInBounds_toArray, List.set_cons_zero, List.set_cons_succ, List.getElem_toArray, List.getElem_cons_zero, List.getElem_cons_succ]
  refine any_one (i := 4) (by kernel_rfl) rfl (fun K hK => ?_)
  refine step_callw (by kernel_rfl) 50 #[.string t, .slice ap m cp] (by kernel_rfl) ((infoOf_ok t ht ps ap m cp (unhide hm) (unhide hp) _ ((unhide hP).gr hB.gr)).mono ?_)
  rintro r y1 ⟨v1, rfl, hO, hg⟩
  refine ⟨_, rfl, ?_⟩
  obtain ⟨a1, c1, rfl, l1⟩ := hO.lb (unhide hIb)
  clear hO
  obtain ⟨n1, hn1⟩ : ∃ n1, n1 = (infoL (tb t) ps).length := ⟨_, rfl⟩
  rw [← hn1] at hIl l1
  rw [← hn1]
  replace hn1 := hide hn1
  replace hB := hB.more hg
  clear hg
  refine hK.out _ _ (hB.get 0 (x := ⟨w.heap.size, KK, 25⟩) rfl) (fun _ => ?_)
  clear hK K
  simp only [Act.put, List.setIfInBounds_toArray, List.set_cons_zero, List.set_cons_succ, List.getElem_toArray, List.getElem_cons_zero, List.getElem_cons_succ]
  refine any_one (i := 5) (by kernel_rfl) rfl (fun K hK => ?_)
  rw [unhide hKK]
  refine step_callw (by kernel_rfl) 49 #[.agg (kc Ky), .slice a1 n1 c1, .int .i64 32] (by kernel_rfl) ((spread_ok Ky hKl (unhide hKb) (infoL (tb t) ps) a1 n1 c1 32 (by omega) (by omega) _ ((unhide hF).gr hB.gr) l1).mono ?_)
  rintro r y2 ⟨a2, rfl, l2, hfr, hg⟩
  refine ⟨_, rfl, ?_⟩
  rw [← unhide hKK]
  replace hB := hB.more hg
  clear hg l1
  refine hK.out _ _ (hB.get 0 (x := ⟨w.heap.size, KK, 25⟩) rfl) (fun _ => ?_)
  clear hK K
  simp only [Act.put, List.setIfInBounds_toArray, List.set_cons_zero, List.set_cons_succ, List.getElem_toArray, List.getElem_cons_zero, List.getElem_cons_succ]
  refine any_one (i := 6) (by kernel_rfl) rfl (fun K hK => ?_)
  obtain ⟨D, hD⟩ : ∃ D, D = spL Ky (infoL (tb t) ps) 32 := ⟨_, rfl⟩
  have hDl : D.length = 32 := by rw [hD]; exact spL_len _ _ _
  rw [← hD] at l2
  replace hD := hide hD
  rw [if_pos (by kernel_rfl)]
  refine copy_wp (.tmp 8) (.tmp 13) rfl (w.heap.size + 1 + 1) 0 32 32 a2 32 32 (by kernel_rfl) (by kernel_rfl) (Z32.map (Value.int .u8)) 25 (hB.get 2 (x := ⟨w.heap.size + 1 + 1, kc Z32, 25⟩) rfl) D (by rw [hDl]; rfl) (by rcases l2.sl with h | ⟨p, o, h1, h2⟩; exact .inl h; exact .inr ⟨p, o, h1, h2⟩) (by rw [hDl]; decide) ?_
  replace hB := hB.copy 2 (Z := Z32) (D := D) rfl rfl hDl
  simp only [List.set_cons_zero, List.set_cons_succ] at hB
  refine hK.out _ _ (hB.get 0 (x := ⟨w.heap.size, KK, 25⟩) rfl) (fun _ => ?_)
  clear hK K l2
  generalize World.setCells _ _ _ _ = y3 at *
  try simp only [Act.put, List.setIfInBounds_toArray, List.set_cons_zero, List.set_cons_succ, List.getElem_toArray, List.getElem_cons_zero, List.getElem_cons_succ]
  refine any_done (by kernel_rfl) ?_
  replace hB := hide hB
  go_upto_region 3 with fail
  replace hB := unhide hB
  refine wp_region_lit ?_
  refine list_val (.agg (kc D)) (by kernel_rfl) (exec_arr _ 25 (.tmp 7) rfl (w.heap.size + 1 + 1) (by kernel_rfl) (kc D) 25 _ (hB.get 2 (x := ⟨w.heap.size + 1 + 1, kc D, 25⟩) rfl) Tryd.underlying25 rfl (by rw [Tryd.infoKey, kc_size, hDl])) ?_
  simp only [Act.put, List.setIfInBounds_toArray, List.set_cons_zero, List.set_cons_succ, List.getElem_toArray, List.getElem_cons_zero, List.getElem_cons_succ]
  refine list_store 25 (.tmp 6) (.tmp 15) (w.heap.size + 1) (kc D) 25 (kc Z32) (by kernel_rfl) rfl (by kernel_rfl) (by kernel_rfl) (hB.get 1 (x := ⟨w.heap.size + 1, kc Z32, 25⟩) rfl) (by rw [Tryd.infoKey, kc_size, hDl]) ((show (kc Z32).size = 32 from rfl).trans ((kc_size _).trans hDl).symm) (kc_one _) ?_
  replace hB := hB.set 1 (x := ⟨w.heap.size + 1, kc Z32, 25⟩) rfl (kc D)
  simp only [List.set_cons_zero, List.set_cons_succ] at hB
  generalize World.setRow _ _ _ = y4 at *
  simp only [Act.put, List.setIfInBounds_toArray, List.set_cons_zero, List.set_cons_succ, List.getElem_toArray, List.getElem_cons_zero, List.getElem_cons_succ]
  refine wpList_nil ?_
  go_wp2_with fail
  rw [unhide hT]
  exact bodyPost_ret (v := .agg (kc D)) (results_cell_row Tryd.results35 _ _ (w.heap.size + 1) 25 (kc D) (0, 0) _ rfl (hB.get 1 (x := ⟨w.heap.size + 1, kc D, 25⟩) rfl) Tryd.underlying25 rfl (by rw [Tryd.infoKey, kc_size, hDl])) rfl ⟨by rw [unhide hD], hB.gr⟩
end Go.Proofs.YtpmgmpihmpifgaaDoor
