/-
  Of layer 16: what the proof leans on.
-/
import Derived.Test.YtpmgmpihmpifgaaDoorXK6
namespace Go.Proofs.YtpmgmpihmpifgaaDoor
open Go.RowKit
set_option maxRecDepth 100000
set_option linter.unusedSimpArgs false
set_option linter.unusedVariables false
theorem prA_comm (A B : List Int) (h : pubL A ≠ pubL B) : prA B (pubL A) = prA A (pubL B) := by
  have h1 := ltL_asym (pubL A) (pubL B) (by rw [(pubL_isK A).1, (pubL_isK B).1]) h
  unfold prA
  rw [h1]
  generalize pubL A = x at *
  generalize pubL B = y at *
  cases ltL y x <;> simp
theorem prK_comm (A B : List Int) (h : pubL A ≠ pubL B) : prK B (pubL A) = prK A (pubL B) := by
  unfold prK
  rw [prA_comm A B h, agL_comm B A]
theorem rkL_flip (r : Int) (S : List Int) (f m : Bool) : rkL r S (!f) (!m) = rkL r S f m := by
  unfold rkL
  cases f <;> cases m <;> rfl
theorem eq_Drs (D : List Int) (hD : D.length = 16) (w : World) : (Op.equalIn 10000 42 (.agg (kc D)) (.agg (kc D))).run Tryd.prog w = .ok true w :=
  eq_bytes Tryd.underlying42 9998 (kc D) (fun i hi => ⟨D.getD i 0, kc_get D i (by omega)⟩) w
theorem exec_neqDr {a : Act} {o : Oper} (w : World) (x y : Operand) (ho : o.op = .binOp .neq 42 x y 42) (D : List Int) (hD : D.length = 16) (hx : a.eval x = .agg (kc D)) (hy : a.eval y = .agg (kc D)) (hg : (eqGuard .neq 42 x y (.agg (kc D)) (.agg (kc D))).run Tryd.prog w = .ok () w) : (execOp a.eval o).run Tryd.prog w = .ok (.value (.bool false)) w := by
  have he := eq_Drs D hD w
  unfold execOp
  simp only [ho, hx, hy, Sem.run_bind, hg, Result.andThen_ok, run_neq_struct, he, Sem.run_pure]
  rfl
set_option maxHeartbeats 4000000 in
theorem ishares_ok (A B : List Int) (hA : IsK A) (hB0 : IsK B) (r : Int) (hr : 0 ≤ r) (hr2 : r < 18446744073709551616) (w : World) (hF : Fst w) : Calls Tryd.prog 8 #[.agg (kc A), .agg (kc B), .int .u64 r] w (Bod true w) := by
  obtain ⟨T, hT⟩ : ∃ T, T = Bod true w := ⟨_, rfl⟩
  rw [← hT]
  replace hT := hide hT
  have hAl := hA.1
  have hBl := hB0.1
  obtain ⟨SA, hSA⟩ : ∃ S, S = kc A := ⟨_, rfl⟩
  obtain ⟨SB, hSB⟩ : ∃ S, S = kc B := ⟨_, rfl⟩
  rw [← hSA, ← hSB]
  replace hSA := hide hSA
  replace hSB := hide hSB
  replace hA := hide hA
  replace hB0 := hide hB0
  replace hF := hide hF
  go_enter Tryd.func8, Tryd.ntmps8
  go_upto_region 1 with fail
  have hB := (((Bl.nil w).new SA 25).new SB 25)
  simp only [size_alloc, List.nil_append, List.cons_append] at hB
  generalize World.alloc _ _ = u at *
  rw [unhide hSA, unhide hSB] at hB
  replace hB : Bl w [⟨w.heap.size, kc A, 25⟩, ⟨w.heap.size + 1, kc B, 25⟩] u := hB
  refine wp_region_lit ?_
  refine list_call 9 #[] (by kernel_rfl) (by kernel_rfl) ((wakes16_ok _ ((unhide hF).gr hB.gr)).mono ?_)
  rintro r_ w_ ⟨rfl, hg⟩
  replace hB := hB.more hg
  clear hg
  refine ⟨_, rfl, ?_⟩
  simp only [nrm]
  refine list_val (.bool false) (by kernel_rfl) (by kernel_rfl) ?_
  simp only [nrm]
  refine wpList_nil ?_
  replace hB := hide hB
  go_upto_region 3 with fail
  replace hB := unhide hB
  refine any_start (S := fun v => v.heap[w.heap.size]? = some (.cells (kc A) 25 (0, 0)) ∧ v.heap[w.heap.size + 1]? = some (.cells (kc B) 25 (0, 0)) ∧ True) (by kernel_rfl) ?_
  replace hB := hB.drew
  generalize World.drew _ = v1_ at *
  simp only [List.size_toArray, List.length_cons, List.length_nil, Array.replicate, List.replicate]
  refine any_take (i := 0) (v := (.agg (kc A))) #[false, false, false, false, false, false, false, false] rfl (by kernel_rfl) (by kernel_rfl) (by kernel_rfl) (by kernel_rfl) (fun _ _ _ h => h) (.inl ⟨by kernel_rfl, fun x_ hu => exec_arr x_ 25 (.tmp 3) rfl w.heap.size (by kernel_rfl) (kc A) 25 _ hu.1 Tryd.underlying25 rfl (by rw [Tryd.infoKey, kc_size, hAl])⟩) ⟨(hB.get 0 (x := ⟨w.heap.size, (kc A), 25⟩) rfl), (hB.get 1 (x := ⟨w.heap.size + 1, (kc B), 25⟩) rfl), trivial⟩ ?_
  simp only [nrm]
  refine any_take (i := 2) (v := (.agg (kc B))) #[true, false, false, false, false, false, false, false] rfl (by kernel_rfl) (by kernel_rfl) (by kernel_rfl) (by kernel_rfl) (fun _ _ _ h => h) (.inl ⟨by kernel_rfl, fun x_ hu => exec_arr x_ 25 (.tmp 4) rfl (w.heap.size + 1) (by kernel_rfl) (kc B) 25 _ hu.2.1 Tryd.underlying25 rfl (by rw [Tryd.infoKey, kc_size, hBl])⟩) ⟨(hB.get 0 (x := ⟨w.heap.size, (kc A), 25⟩) rfl), (hB.get 1 (x := ⟨w.heap.size + 1, (kc B), 25⟩) rfl), trivial⟩ ?_
  simp only [nrm]
  have hSf : ∀ v, Gr v1_ v → (fun v => v.heap[w.heap.size]? = some (.cells (kc A) 25 (0, 0)) ∧ v.heap[w.heap.size + 1]? = some (.cells (kc B) 25 (0, 0)) ∧ True) v := fun v k => ⟨k.blk (hB.get 0 (x := ⟨w.heap.size, (kc A), 25⟩) rfl), k.blk (hB.get 1 (x := ⟨w.heap.size + 1, (kc B), 25⟩) rfl), trivial⟩
  refine stage2 v1_ #[.int .u8 0, .int .u8 0, .int .u8 0, .int .u8 0, .int .u8 0, .int .u8 0, .int .u8 0, .int .u8 0, .int .u8 0, .int .u8 0, .int .u8 0, .int .u8 0, .int .u8 0, .int .u8 0, .int .u8 0, .int .u8 0, .int .u8 0, .int .u8 0, .int .u8 0, .int .u8 0, .int .u8 0, .int .u8 0, .int .u8 0, .int .u8 0, .int .u8 0, .int .u8 0, .int .u8 0, .int .u8 0, .int .u8 0, .int .u8 0, .int .u8 0, .int .u8 0] 25 (fw2 _ 7 8) (fun b3_1 b3_2 => #[true, false, true, false, b3_1, b3_2, false, false]) 4 5 1 false hSf (by kernel_rfl) (fun _ _ => ⟨rfl, rfl⟩) ?_ ?_ ?_ (M2.first (fun b3_1 b3_2 => #[true, false, true, false, b3_1, b3_2, false, false]) _ rfl rfl)
  all_goals simp only [fw2, Act.put, List.setIfInBounds_toArray, List.set_cons_zero, List.set_cons_succ, List.getElem_toArray, List.getElem_cons_zero, List.getElem_cons_succ]
  · intro q3_1 q3_2 x K hK
    refine wpOp_step (o := _) rfl (fun K' hK' => ?_)
    replace hK' := hide hK'
    replace hK := hide hK
    go_simp
    exact unhide hK' _ _ (unhide hK)
  · intro q3_1 q3_2 x K hK
    refine wpOp_step (o := _) rfl (fun K' hK' => ?_)
    replace hK' := hide hK'
    replace hK := hide hK
    go_simp
    exact unhide hK' _ _ (unhide hK)
  intro b3_1 b3_2 q3_1 q3_2 g3_1 g3_2 v2_ hM _
  refine wpOp_step (o := _) rfl (fun K' hK' => ?_)
  replace hK' := hide hK'
  refine step_callw (by kernel_rfl) 26 #[.agg (kc A)] (by kernel_rfl) ((public_is A (unhide hA) _).mono ?_)
  rintro r v3_ ⟨rfl, hg⟩
  refine ⟨_, rfl, ?_⟩
  obtain ⟨X, hX⟩ : ∃ P, P = pubL A := ⟨_, rfl⟩
  have hXk : IsK X := by rw [hX]; exact pubL_isK A
  have hXl := hXk.1
  rw [← hX]
  replace hX := hide hX; replace hXk := hide hXk
  refine unhide hK' _ _ ⟨hSf _ (hM.gr.trans hg), ?_⟩
  clear hK' K'
  simp only [nrm]
  refine stage2 v1_ #[.int .u8 0, .int .u8 0, .int .u8 0, .int .u8 0, .int .u8 0, .int .u8 0, .int .u8 0, .int .u8 0, .int .u8 0, .int .u8 0, .int .u8 0, .int .u8 0, .int .u8 0, .int .u8 0, .int .u8 0, .int .u8 0, .int .u8 0, .int .u8 0, .int .u8 0, .int .u8 0, .int .u8 0, .int .u8 0, .int .u8 0, .int .u8 0, .int .u8 0, .int .u8 0, .int .u8 0, .int .u8 0, .int .u8 0, .int .u8 0, .int .u8 0, .int .u8 0] 25 (fw2 _ 7 8) (fun b3_1 b3_2 => #[true, true, true, false, b3_1, b3_2, false, false]) 4 5 3 false hSf (by kernel_rfl) (fun _ _ => ⟨rfl, rfl⟩) ?_ ?_ ?_ ⟨b3_1, b3_2, q3_1, q3_2, g3_1, g3_2, hM.again hg rfl rfl⟩
  all_goals simp only [fw2, Act.put, List.setIfInBounds_toArray, List.set_cons_zero, List.set_cons_succ, List.getElem_toArray, List.getElem_cons_zero, List.getElem_cons_succ]
  · intro q3_1 q3_2 x K hK
    refine wpOp_step (o := _) rfl (fun K' hK' => ?_)
    replace hK' := hide hK'
    replace hK := hide hK
    go_simp
    exact unhide hK' _ _ (unhide hK)
  · intro q3_1 q3_2 x K hK
    refine wpOp_step (o := _) rfl (fun K' hK' => ?_)
    replace hK' := hide hK'
    replace hK := hide hK
    go_simp
    exact unhide hK' _ _ (unhide hK)
  clear hM hg
  intro b3_1 b3_2 q3_1 q3_2 g3_1 g3_2 v4_ hM _
  refine wpOp_step (o := _) rfl (fun K' hK' => ?_)
  replace hK' := hide hK'
  refine step_callw (by kernel_rfl) 26 #[.agg (kc B)] (by kernel_rfl) ((public_is B (unhide hB0) _).mono ?_)
  rintro r v5_ ⟨rfl, hg⟩
  refine ⟨_, rfl, ?_⟩
  obtain ⟨Y, hY⟩ : ∃ P, P = pubL B := ⟨_, rfl⟩
  have hYk : IsK Y := by rw [hY]; exact pubL_isK B
  have hYl := hYk.1
  rw [← hY]
  replace hY := hide hY; replace hYk := hide hYk
  refine unhide hK' _ _ ⟨hSf _ (hM.gr.trans hg), ?_⟩
  clear hK' K'
  simp only [nrm]
  refine stage2 v1_ #[.int .u8 0, .int .u8 0, .int .u8 0, .int .u8 0, .int .u8 0, .int .u8 0, .int .u8 0, .int .u8 0, .int .u8 0, .int .u8 0, .int .u8 0, .int .u8 0, .int .u8 0, .int .u8 0, .int .u8 0, .int .u8 0, .int .u8 0, .int .u8 0, .int .u8 0, .int .u8 0, .int .u8 0, .int .u8 0, .int .u8 0, .int .u8 0, .int .u8 0, .int .u8 0, .int .u8 0, .int .u8 0, .int .u8 0, .int .u8 0, .int .u8 0, .int .u8 0] 25 (fw2 _ 7 8) (fun b3_1 b3_2 => #[true, true, true, true, b3_1, b3_2, false, false]) 4 5 6 true hSf (by kernel_rfl) (fun _ _ => ⟨rfl, rfl⟩) ?_ ?_ ?_ ⟨b3_1, b3_2, q3_1, q3_2, g3_1, g3_2, hM.again hg rfl rfl⟩
  all_goals simp only [fw2, Act.put, List.setIfInBounds_toArray, List.set_cons_zero, List.set_cons_succ, List.getElem_toArray, List.getElem_cons_zero, List.getElem_cons_succ]
  · intro q3_1 q3_2 x K hK
    refine wpOp_step (o := _) rfl (fun K' hK' => ?_)
    replace hK' := hide hK'
    replace hK := hide hK
    go_simp
    exact unhide hK' _ _ (unhide hK)
  · intro q3_1 q3_2 x K hK
    refine wpOp_step (o := _) rfl (fun K' hK' => ?_)
    replace hK' := hide hK'
    replace hK := hide hK
    go_simp
    exact unhide hK' _ _ (unhide hK)
  clear hM hg
  intro b3_1 b3_2 q3_1 q3_2 g3_1 g3_2 v6_ hM hall
  obtain ⟨rfl, rfl⟩ := hall (by trivial)
  obtain ⟨rfl, rfl, hB'⟩ := hM.all hB
  replace hB := hB'
  clear hB' hM hall
  simp only [List.cons_append, List.nil_append] at hB
  replace hB : Bl w [⟨w.heap.size, (kc A), 25⟩, ⟨w.heap.size + 1, (kc B), 25⟩, ⟨g3_1, (kc Z32), 25⟩, ⟨g3_2, (kc Z32), 25⟩] v6_ := hB
  refine wpOp_step (o := _) rfl (fun K' hK' => ?_)
  replace hK' := hide hK'
  rw [if_pos (by kernel_rfl)]
  refine wp_store_row 25 (.tmp 7) (.tmp 16) rfl g3_1 (kc X) (by kernel_rfl) (by kernel_rfl) 25 (kc Z32) (hB.get 2 (x := ⟨g3_1, (kc Z32), 25⟩) rfl) (by rw [Tryd.infoKey, kc_size, hXl]) (((kc_size _).trans Z32_len).trans ((kc_size _).trans hXl).symm) (kc_one _) ?_
  replace hB := hB.set 2 (x := ⟨g3_1, (kc Z32), 25⟩) rfl (kc X)
  simp only [List.set_cons_zero, List.set_cons_succ] at hB
  refine unhide hK' _ _ ⟨⟨(hB.get 0 (x := ⟨w.heap.size, (kc A), 25⟩) rfl), (hB.get 1 (x := ⟨w.heap.size + 1, (kc B), 25⟩) rfl), trivial⟩, ?_⟩
  clear hK' K' hSf
  generalize World.setRow _ _ _ = v7_ at *
  simp only [nrm]
  refine any_one (i := 7) (by kernel_rfl) rfl (fun K hK => ?_)
  rw [if_pos (by kernel_rfl)]
  refine wp_store_row 25 (.tmp 8) (.tmp 18) rfl g3_2 (kc Y) (by kernel_rfl) (by kernel_rfl) 25 (kc Z32) (hB.get 3 (x := ⟨g3_2, (kc Z32), 25⟩) rfl) (by rw [Tryd.infoKey, kc_size, hYl]) (((kc_size _).trans Z32_len).trans ((kc_size _).trans hYl).symm) (kc_one _) ?_
  replace hB := hB.set 3 (x := ⟨g3_2, (kc Z32), 25⟩) rfl (kc Y)
  simp only [List.set_cons_zero, List.set_cons_succ] at hB
  refine hK.out _ _ ⟨(hB.get 0 (x := ⟨w.heap.size, (kc A), 25⟩) rfl), (hB.get 1 (x := ⟨w.heap.size + 1, (kc B), 25⟩) rfl), trivial⟩ (fun _ => ?_)
  clear hK K
  generalize World.setRow _ _ _ = v8_ at *
  simp only [nrm]
  refine any_done (by kernel_rfl) ?_
  replace hB : Bl w [⟨w.heap.size, kc A, 25⟩, ⟨w.heap.size + 1, kc B, 25⟩, ⟨g3_1, kc X, 25⟩, ⟨g3_2, kc Y, 25⟩] v8_ := hB
  replace hB := hide hB
  go_upto_region 4 with fail
  replace hB := unhide hB
  by_cases hxy : X = Y
  · have hxyh := hide hxy
    have howA : Hid (Y = pubL A) := hide (by rw [← hxy]; exact unhide hX)
    have howB : Hid (X = pubL B) := hide (by rw [hxy]; exact unhide hY)
    clear hxy
    refine wp_region_lit ?_
    refine list_val (.agg (kc A)) (by kernel_rfl) (exec_arr _ 25 (.tmp 3) rfl (w.heap.size) (by kernel_rfl) (kc A) 25 _ (hB.get 0 (x := ⟨w.heap.size, kc A, 25⟩) rfl) Tryd.underlying25 rfl (by rw [Tryd.infoKey, kc_size, hAl])) ?_
    simp only [nrm]
    refine list_val (.agg (kc Y)) (by kernel_rfl) (exec_arr _ 25 (.tmp 8) rfl (g3_2) (by kernel_rfl) (kc Y) 25 _ (hB.get 3 (x := ⟨g3_2, kc Y, 25⟩) rfl) Tryd.underlying25 rfl (by rw [Tryd.infoKey, kc_size, hYl])) ?_
    simp only [nrm]
    refine list_call 18 #[.agg (kc A), .agg (kc Y)] (by kernel_rfl) (by kernel_rfl) ((pair_own A Y (unhide hA) (unhide hYk) (unhide howA) v8_ ((unhide hF).gr hB.gr)).mono ?_)
    rintro r_ y1 ⟨hr_, hg⟩
    subst hr_
    replace hB := hB.more hg
    clear hg
    refine ⟨_, rfl, ?_⟩
    simp only [nrm]
    refine list_val (.tuple #[.agg (pairv Z32 false), .int .i64 262]) (by kernel_rfl) (by kernel_rfl) ?_
    simp only [nrm]
    refine list_val (.agg (pairv Z32 false)) (by kernel_rfl) (by kernel_rfl) ?_
    simp only [nrm]
    refine list_val (.int .i64 262) (by kernel_rfl) (by kernel_rfl) ?_
    simp only [nrm]
    refine list_valw (.pointer (some ⟨y1.heap.size, 0, none⟩)) (y1.alloc (.cells (pairv Z32 false) 36 (0, 0))) (by kernel_rfl) (by kernel_rfl) ?_
    replace hB := hB.new (pairv Z32 false) 36
    simp only [List.nil_append, List.cons_append] at hB
    generalize World.alloc _ _ = y2 at *
    generalize y1.heap.size = gp at *
    replace hB : Bl w [⟨w.heap.size, kc A, 25⟩, ⟨w.heap.size + 1, kc B, 25⟩, ⟨g3_1, kc X, 25⟩, ⟨g3_2, kc Y, 25⟩, ⟨gp, pairv Z32 false, 36⟩] y2 := hB
    simp only [nrm]
    refine list_store 36 (.tmp 9) (.tmp 23) gp (pairv Z32 false) 36 (pairv Z32 false) (by kernel_rfl) rfl (by kernel_rfl) (by kernel_rfl) (hB.get 4 (x := ⟨gp, pairv Z32 false, 36⟩) rfl) (by rw [Tryd.infoPair, pairv_size, Z32_len]) (rfl) (pairv_one _ _) ?_
    replace hB := hB.set 4 (x := ⟨gp, pairv Z32 false, 36⟩) rfl (pairv Z32 false)
    simp only [List.set_cons_zero, List.set_cons_succ] at hB
    generalize World.setRow _ _ _ = y3 at *
    simp only [nrm]
    (refine wpList_step fun K hK => ?_; replace hK := hide hK; go_simp; refine unhide hK _ _ ?_; clear hK K)
    refine wpList_nil ?_
    replace hB := hide hB
    go_upto_region 5 with fail
    replace hB := unhide hB
    refine wp_region_lit ?_
    refine list_val (.agg (kc B)) (by kernel_rfl) (exec_arr _ 25 (.tmp 4) rfl (w.heap.size + 1) (by kernel_rfl) (kc B) 25 _ (hB.get 1 (x := ⟨w.heap.size + 1, kc B, 25⟩) rfl) Tryd.underlying25 rfl (by rw [Tryd.infoKey, kc_size, hBl])) ?_
    simp only [nrm]
    refine list_val (.agg (kc X)) (by kernel_rfl) (exec_arr _ 25 (.tmp 7) rfl (g3_1) (by kernel_rfl) (kc X) 25 _ (hB.get 2 (x := ⟨g3_1, kc X, 25⟩) rfl) Tryd.underlying25 rfl (by rw [Tryd.infoKey, kc_size, hXl])) ?_
    simp only [nrm]
    refine list_call 18 #[.agg (kc B), .agg (kc X)] (by kernel_rfl) (by kernel_rfl) ((pair_own B X (unhide hB0) (unhide hXk) (unhide howB) y3 ((unhide hF).gr hB.gr)).mono ?_)
    rintro r_ y4 ⟨hr_, hg⟩
    subst hr_
    replace hB := hB.more hg
    clear hg
    refine ⟨_, rfl, ?_⟩
    simp only [nrm]
    refine list_val (.tuple #[.agg (pairv Z32 false), .int .i64 262]) (by kernel_rfl) (by kernel_rfl) ?_
    simp only [nrm]
    refine list_val (.agg (pairv Z32 false)) (by kernel_rfl) (by kernel_rfl) ?_
    simp only [nrm]
    refine list_val (.int .i64 262) (by kernel_rfl) (by kernel_rfl) ?_
    simp only [nrm]
    refine list_valw (.pointer (some ⟨y4.heap.size, 0, none⟩)) (y4.alloc (.cells (pairv Z32 false) 36 (0, 0))) (by kernel_rfl) (by kernel_rfl) ?_
    replace hB := hB.new (pairv Z32 false) 36
    simp only [List.nil_append, List.cons_append] at hB
    generalize World.alloc _ _ = y5 at *
    generalize y4.heap.size = gq at *
    replace hB : Bl w [⟨w.heap.size, kc A, 25⟩, ⟨w.heap.size + 1, kc B, 25⟩, ⟨g3_1, kc X, 25⟩, ⟨g3_2, kc Y, 25⟩, ⟨gp, pairv Z32 false, 36⟩, ⟨gq, pairv Z32 false, 36⟩] y5 := hB
    simp only [nrm]
    refine list_store 36 (.tmp 11) (.tmp 29) gq (pairv Z32 false) 36 (pairv Z32 false) (by kernel_rfl) rfl (by kernel_rfl) (by kernel_rfl) (hB.get 5 (x := ⟨gq, pairv Z32 false, 36⟩) rfl) (by rw [Tryd.infoPair, pairv_size, Z32_len]) (rfl) (pairv_one _ _) ?_
    replace hB := hB.set 5 (x := ⟨gq, pairv Z32 false, 36⟩) rfl (pairv Z32 false)
    simp only [List.set_cons_zero, List.set_cons_succ] at hB
    generalize World.setRow _ _ _ = y6 at *
    simp only [nrm]
    (refine wpList_step fun K hK => ?_; replace hK := hide hK; go_simp; refine unhide hK _ _ ?_; clear hK K)
    refine wpList_nil ?_
    replace hB := hide hB
    go_upto_region 6 with fail
    replace hB := unhide hB
    refine wp_region_lit ?_
    refine list_val (.agg (kc X)) (by kernel_rfl) (exec_arr _ 25 (.tmp 7) rfl (g3_1) (by kernel_rfl) (kc X) 25 _ (hB.get 2 (x := ⟨g3_1, kc X, 25⟩) rfl) Tryd.underlying25 rfl (by rw [Tryd.infoKey, kc_size, hXl])) ?_
    simp only [nrm]
    refine list_val (.agg (kc Y)) (by kernel_rfl) (exec_arr _ 25 (.tmp 8) rfl (g3_2) (by kernel_rfl) (kc Y) 25 _ (hB.get 3 (x := ⟨g3_2, kc Y, 25⟩) rfl) Tryd.underlying25 rfl (by rw [Tryd.infoKey, kc_size, hYl])) ?_
    simp only [nrm]
    refine list_val (.bool true) (by kernel_rfl) (exec_eq_k _ (.tmp 31) (.tmp 32) rfl X Y hXl hYl (by kernel_rfl) (by kernel_rfl) (by kernel_rfl) true (by simpa using unhide hxyh)) ?_
    simp only [nrm]
    refine wpList_nil ?_
    replace hB := hide hB
    go_upto_region 7 with fail
    replace hB := unhide hB
    refine wp_region_lit ?_
    refine list_val (.int .i64 262) (by kernel_rfl) (by kernel_rfl) ?_
    simp only [nrm]
    refine list_val (.bool true) (by kernel_rfl) (by kernel_rfl) ?_
    simp only [nrm]
    refine list_val (.bool true) (by kernel_rfl) (by kernel_rfl) ?_
    simp only [nrm]
    refine list_val (.int .i64 262) (by kernel_rfl) (by kernel_rfl) ?_
    simp only [nrm]
    refine list_val (.bool true) (by kernel_rfl) (by kernel_rfl) ?_
    simp only [nrm]
    refine list_val (.bool true) (by kernel_rfl) (by kernel_rfl) ?_
    simp only [nrm]
    refine list_val (.bool true) (by kernel_rfl) (by kernel_rfl) ?_
    simp only [nrm]
    refine list_val (.agg (pairv Z32 false)) (by kernel_rfl) (exec_pp _ (.tmp 9) rfl gp (by kernel_rfl) Z32 Z32_len false (hB.get 4 (x := ⟨gp, pairv Z32 false, 36⟩) rfl)) ?_
    simp only [nrm]
    refine list_val (.agg (pairv Z32 false)) (by kernel_rfl) (by kernel_rfl) ?_
    simp only [nrm]
    refine list_val (.bool true) (by kernel_rfl) (by kernel_rfl) ?_
    simp only [nrm]
    refine list_val (.bool true) (by kernel_rfl) (by kernel_rfl) ?_
    simp only [nrm]
    refine list_val (.bool true) (by kernel_rfl) (by kernel_rfl) ?_
    simp only [nrm]
    refine list_val (.agg (pairv Z32 false)) (by kernel_rfl) (exec_pp _ (.tmp 11) rfl gq (by kernel_rfl) Z32 Z32_len false (hB.get 5 (x := ⟨gq, pairv Z32 false, 36⟩) rfl)) ?_
    simp only [nrm]
    refine list_val (.agg (pairv Z32 false)) (by kernel_rfl) (by kernel_rfl) ?_
    simp only [nrm]
    refine list_val (.bool true) (by kernel_rfl) (by kernel_rfl) ?_
    simp only [nrm]
    refine list_val (.bool true) (by kernel_rfl) (by kernel_rfl) ?_
    simp only [nrm]
    (refine wpList_step fun K hK => ?_; replace hK := hide hK; go_simp; refine unhide hK _ _ ?_; clear hK K)
    refine wpList_nil ?_
    have hZ : Hid (T (.returned (.bool true)) y6) := by
      rw [unhide hT]
      exact ⟨rfl, hB.gr⟩
    clear hB
    go_wp2_with fail
    exact unhide hZ
  · have hxyh := hide hxy
    have howA : Hid (¬ Y = pubL A) := hide (by rw [← unhide hX]; exact fun e => hxy e.symm)
    have howB : Hid (¬ X = pubL B) := hide (by rw [← unhide hY]; exact hxy)
    have hloA : Hid (NLow A Y) := hide (by rw [unhide hY]; exact nlow_pub B A)
    have hloB : Hid (NLow B X) := hide (by rw [unhide hX]; exact nlow_pub A B)
    have hcm := prK_comm A B (by rw [← unhide hX, ← unhide hY]; exact hxy)
    have hlt := ltL_asym X Y (by rw [hXl, hYl]) hxy
    rw [← unhide hX, ← unhide hY] at hcm
    obtain ⟨S, hS⟩ : ∃ S, S = prK A Y := ⟨_, rfl⟩
    have hSl : S.length = 32 := by rw [hS]; exact prK_len _ _
    have hSb := hide (show IsB S by rw [hS]; exact prK_isB _ _)
    rw [← hS] at hcm
    obtain ⟨fi, hfi⟩ : ∃ f, f = ltL X Y := ⟨_, rfl⟩
    have hfiA : Hid (ltL (pubL A) Y = fi) := hide (by rw [hfi, ← unhide hX])
    have hfiB : Hid (ltL (pubL B) X = !fi) := hide (by rw [hfi, hlt, ← unhide hY]; simp)
    have hprA : Hid (prK A Y = S) := hide hS.symm
    have hprB : Hid (prK B X = S) := hide hcm
    replace hfi := hide hfi
    clear hxy hcm hlt hS
    refine wp_region_lit ?_
    refine list_val (.agg (kc A)) (by kernel_rfl) (exec_arr _ 25 (.tmp 3) rfl (w.heap.size) (by kernel_rfl) (kc A) 25 _ (hB.get 0 (x := ⟨w.heap.size, kc A, 25⟩) rfl) Tryd.underlying25 rfl (by rw [Tryd.infoKey, kc_size, hAl])) ?_
    simp only [nrm]
    refine list_val (.agg (kc Y)) (by kernel_rfl) (exec_arr _ 25 (.tmp 8) rfl (g3_2) (by kernel_rfl) (kc Y) 25 _ (hB.get 3 (x := ⟨g3_2, kc Y, 25⟩) rfl) Tryd.underlying25 rfl (by rw [Tryd.infoKey, kc_size, hYl])) ?_
    simp only [nrm]
    refine list_call 18 #[.agg (kc A), .agg (kc Y)] (by kernel_rfl) (by kernel_rfl) ((pair_yes A Y (unhide hA) (unhide hYk) (unhide howA) (unhide hloA) v8_ ((unhide hF).gr hB.gr)).mono ?_)
    rintro r_ y1 ⟨hr_, hg⟩
    rw [unhide hprA, unhide hfiA] at hr_
    subst hr_
    replace hB := hB.more hg
    clear hg
    refine ⟨_, rfl, ?_⟩
    simp only [nrm]
    refine list_val (.tuple #[.agg (pairv S fi), .int .i64 0]) (by kernel_rfl) (by kernel_rfl) ?_
    simp only [nrm]
    refine list_val (.agg (pairv S fi)) (by kernel_rfl) (by kernel_rfl) ?_
    simp only [nrm]
    refine list_val (.int .i64 0) (by kernel_rfl) (by kernel_rfl) ?_
    simp only [nrm]
    refine list_valw (.pointer (some ⟨y1.heap.size, 0, none⟩)) (y1.alloc (.cells (pairv Z32 false) 36 (0, 0))) (by kernel_rfl) (by kernel_rfl) ?_
    replace hB := hB.new (pairv Z32 false) 36
    simp only [List.nil_append, List.cons_append] at hB
    generalize World.alloc _ _ = y2 at *
    generalize y1.heap.size = gp at *
    replace hB : Bl w [⟨w.heap.size, kc A, 25⟩, ⟨w.heap.size + 1, kc B, 25⟩, ⟨g3_1, kc X, 25⟩, ⟨g3_2, kc Y, 25⟩, ⟨gp, pairv Z32 false, 36⟩] y2 := hB
    simp only [nrm]
    refine list_store 36 (.tmp 9) (.tmp 23) gp (pairv S fi) 36 (pairv Z32 false) (by kernel_rfl) rfl (by kernel_rfl) (by kernel_rfl) (hB.get 4 (x := ⟨gp, pairv Z32 false, 36⟩) rfl) (by rw [Tryd.infoPair, pairv_size, hSl]) (by rw [pairv_size, pairv_size, hSl]; rfl) (pairv_one _ _) ?_
    replace hB := hB.set 4 (x := ⟨gp, pairv Z32 false, 36⟩) rfl (pairv S fi)
    simp only [List.set_cons_zero, List.set_cons_succ] at hB
    generalize World.setRow _ _ _ = y3 at *
    simp only [nrm]
    (refine wpList_step fun K hK => ?_; replace hK := hide hK; go_simp; refine unhide hK _ _ ?_; clear hK K)
    refine wpList_nil ?_
    replace hB := hide hB
    go_upto_region 5 with fail
    replace hB := unhide hB
    refine wp_region_lit ?_
    refine list_val (.agg (kc B)) (by kernel_rfl) (exec_arr _ 25 (.tmp 4) rfl (w.heap.size + 1) (by kernel_rfl) (kc B) 25 _ (hB.get 1 (x := ⟨w.heap.size + 1, kc B, 25⟩) rfl) Tryd.underlying25 rfl (by rw [Tryd.infoKey, kc_size, hBl])) ?_
    simp only [nrm]
    refine list_val (.agg (kc X)) (by kernel_rfl) (exec_arr _ 25 (.tmp 7) rfl (g3_1) (by kernel_rfl) (kc X) 25 _ (hB.get 2 (x := ⟨g3_1, kc X, 25⟩) rfl) Tryd.underlying25 rfl (by rw [Tryd.infoKey, kc_size, hXl])) ?_
    simp only [nrm]
    refine list_call 18 #[.agg (kc B), .agg (kc X)] (by kernel_rfl) (by kernel_rfl) ((pair_yes B X (unhide hB0) (unhide hXk) (unhide howB) (unhide hloB) y3 ((unhide hF).gr hB.gr)).mono ?_)
    rintro r_ y4 ⟨hr_, hg⟩
    rw [unhide hprB, unhide hfiB] at hr_
    subst hr_
    replace hB := hB.more hg
    clear hg
    refine ⟨_, rfl, ?_⟩
    simp only [nrm]
    refine list_val (.tuple #[.agg (pairv S (!fi)), .int .i64 0]) (by kernel_rfl) (by kernel_rfl) ?_
    simp only [nrm]
    refine list_val (.agg (pairv S (!fi))) (by kernel_rfl) (by kernel_rfl) ?_
    simp only [nrm]
    refine list_val (.int .i64 0) (by kernel_rfl) (by kernel_rfl) ?_
    simp only [nrm]
    refine list_valw (.pointer (some ⟨y4.heap.size, 0, none⟩)) (y4.alloc (.cells (pairv Z32 false) 36 (0, 0))) (by kernel_rfl) (by kernel_rfl) ?_
    replace hB := hB.new (pairv Z32 false) 36
    simp only [List.nil_append, List.cons_append] at hB
    generalize World.alloc _ _ = y5 at *
    generalize y4.heap.size = gq at *
    replace hB : Bl w [⟨w.heap.size, kc A, 25⟩, ⟨w.heap.size + 1, kc B, 25⟩, ⟨g3_1, kc X, 25⟩, ⟨g3_2, kc Y, 25⟩, ⟨gp, pairv S fi, 36⟩, ⟨gq, pairv Z32 false, 36⟩] y5 := hB
    simp only [nrm]
    refine list_store 36 (.tmp 11) (.tmp 29) gq (pairv S (!fi)) 36 (pairv Z32 false) (by kernel_rfl) rfl (by kernel_rfl) (by kernel_rfl) (hB.get 5 (x := ⟨gq, pairv Z32 false, 36⟩) rfl) (by rw [Tryd.infoPair, pairv_size, hSl]) (by rw [pairv_size, pairv_size, hSl]; rfl) (pairv_one _ _) ?_
    replace hB := hB.set 5 (x := ⟨gq, pairv Z32 false, 36⟩) rfl (pairv S (!fi))
    simp only [List.set_cons_zero, List.set_cons_succ] at hB
    generalize World.setRow _ _ _ = y6 at *
    simp only [nrm]
    (refine wpList_step fun K hK => ?_; replace hK := hide hK; go_simp; refine unhide hK _ _ ?_; clear hK K)
    refine wpList_nil ?_
    replace hB := hide hB
    go_upto_region 6 with fail
    replace hB := unhide hB
    refine wp_region_lit ?_
    refine list_val (.agg (kc X)) (by kernel_rfl) (exec_arr _ 25 (.tmp 7) rfl (g3_1) (by kernel_rfl) (kc X) 25 _ (hB.get 2 (x := ⟨g3_1, kc X, 25⟩) rfl) Tryd.underlying25 rfl (by rw [Tryd.infoKey, kc_size, hXl])) ?_
    simp only [nrm]
    refine list_val (.agg (kc Y)) (by kernel_rfl) (exec_arr _ 25 (.tmp 8) rfl (g3_2) (by kernel_rfl) (kc Y) 25 _ (hB.get 3 (x := ⟨g3_2, kc Y, 25⟩) rfl) Tryd.underlying25 rfl (by rw [Tryd.infoKey, kc_size, hYl])) ?_
    simp only [nrm]
    refine list_val (.bool false) (by kernel_rfl) (exec_eq_k _ (.tmp 31) (.tmp 32) rfl X Y hXl hYl (by kernel_rfl) (by kernel_rfl) (by kernel_rfl) false (by simpa using unhide hxyh)) ?_
    simp only [nrm]
    refine wpList_nil ?_
    replace hB := hide hB
    go_upto_region 8 with fail
    replace hB := unhide hB
    refine wp_region_lit ?_
    refine list_val (.int .i64 0) (by kernel_rfl) (by kernel_rfl) ?_
    simp only [nrm]
    refine list_val (.int .i64 0) (by kernel_rfl) (by kernel_rfl) ?_
    simp only [nrm]
    refine list_val (.bool false) (by kernel_rfl) (by kernel_rfl) ?_
    simp only [nrm]
    refine wpList_nil ?_
    replace hB := hide hB
    go_upto_region 10 with fail
    replace hB := unhide hB
    refine wp_region_lit ?_
    refine list_val (.int .i64 0) (by kernel_rfl) (by kernel_rfl) ?_
    simp only [nrm]
    refine list_val (.bool false) (by kernel_rfl) (by kernel_rfl) ?_
    simp only [nrm]
    refine wpList_nil ?_
    replace hB := hide hB
    go_upto_region 12 with fail
    replace hB := unhide hB
    refine any_start (S := fun (v : World) => Gr y6 v) (by kernel_rfl) ?_
    have hG : Gr y6 (World.drew y6) := (Gr.refl _).drew
    generalize World.drew _ = x0 at *
    have hqX := hide (hB.get 2 (x := ⟨g3_1, kc X, 25⟩) rfl)
    have hqY := hide (hB.get 3 (x := ⟨g3_2, kc Y, 25⟩) rfl)
    have hqp := hide (hB.get 4 (x := ⟨gp, pairv S fi, 36⟩) rfl)
    have hqq := hide (hB.get 5 (x := ⟨gq, pairv S (!fi), 36⟩) rfl)
    dsimp only at hqX hqY hqp hqq
    replace hB := hide hB.gr
    simp only [List.size_toArray, List.length_cons, List.length_nil, Array.replicate, List.replicate]
    refine any_take (i := 0) (v := (.pointer (some ⟨gp, 0, none⟩))) #[false, false, false, false, false, false, false, false, false, false, false, false, false, false, false, false, false, false, false, false, false, false, false, false, false, false, false, false, false] rfl (by kernel_rfl) (by kernel_rfl) (by kernel_rfl) (by kernel_rfl) (fun _ _ _ h => h) (.inl ⟨by kernel_rfl, fun x_ hu => by kernel_rfl⟩) hG ?_
    simp only [nrm]
    refine any_take (i := 1) (v := (.agg (kc S))) #[true, false, false, false, false, false, false, false, false, false, false, false, false, false, false, false, false, false, false, false, false, false, false, false, false, false, false, false, false] rfl (by kernel_rfl) (by kernel_rfl) (by kernel_rfl) (by kernel_rfl) (fun _ _ _ h => h) (.inl ⟨by kernel_rfl, fun x_ hu => exec_pk _ (.tmp 67) rfl gp (by kernel_rfl) S hSl fi (hu.blk (unhide hqp))⟩) hG ?_
    simp only [nrm]
    refine any_take (i := 2) (v := (.pointer (some ⟨gq, 0, none⟩))) #[true, true, false, false, false, false, false, false, false, false, false, false, false, false, false, false, false, false, false, false, false, false, false, false, false, false, false, false, false] rfl (by kernel_rfl) (by kernel_rfl) (by kernel_rfl) (by kernel_rfl) (fun _ _ _ h => h) (.inl ⟨by kernel_rfl, fun x_ hu => by kernel_rfl⟩) hG ?_
    simp only [nrm]
    refine any_take (i := 3) (v := (.agg (kc S))) #[true, true, true, false, false, false, false, false, false, false, false, false, false, false, false, false, false, false, false, false, false, false, false, false, false, false, false, false, false] rfl (by kernel_rfl) (by kernel_rfl) (by kernel_rfl) (by kernel_rfl) (fun _ _ _ h => h) (.inl ⟨by kernel_rfl, fun x_ hu => exec_pk _ (.tmp 69) rfl gq (by kernel_rfl) S hSl (!fi) (hu.blk (unhide hqq))⟩) hG ?_
    simp only [nrm]
    refine any_take (i := 4) (v := (.bool false)) #[true, true, true, true, false, false, false, false, false, false, false, false, false, false, false, false, false, false, false, false, false, false, false, false, false, false, false, false, false] rfl (by kernel_rfl) (by kernel_rfl) (by kernel_rfl) (by kernel_rfl) (fun _ _ _ h => h) (.inl ⟨by kernel_rfl, fun x_ hu => exec_neq_k _ (.tmp 68) (.tmp 70) rfl S S hSl hSl (by kernel_rfl) (by kernel_rfl) (by kernel_rfl) false (by simp)⟩) hG ?_
    simp only [nrm]
    refine any_take (i := 5) (v := (.bool false)) #[true, true, true, true, true, false, false, false, false, false, false, false, false, false, false, false, false, false, false, false, false, false, false, false, false, false, false, false, false] rfl (by kernel_rfl) (by kernel_rfl) (by kernel_rfl) (by kernel_rfl) (fun _ _ _ h => h) (.inl ⟨by kernel_rfl, fun x_ hu => by kernel_rfl⟩) hG ?_
    simp only [nrm]
    refine any_take (i := 6) (v := (.pointer (some ⟨gp, 32, none⟩))) #[true, true, true, true, true, true, false, false, false, false, false, false, false, false, false, false, false, false, false, false, false, false, false, false, false, false, false, false, false] rfl (by kernel_rfl) (by kernel_rfl) (by kernel_rfl) (by kernel_rfl) (fun _ _ _ h => h) (.inl ⟨by kernel_rfl, fun x_ hu => by kernel_rfl⟩) hG ?_
    simp only [nrm]
    refine any_take (i := 7) (v := (.bool fi)) #[true, true, true, true, true, true, true, false, false, false, false, false, false, false, false, false, false, false, false, false, false, false, false, false, false, false, false, false, false] rfl (by kernel_rfl) (by kernel_rfl) (by kernel_rfl) (by kernel_rfl) (fun _ _ _ h => h) (.inl ⟨by kernel_rfl, fun x_ hu => exec_pf _ (.tmp 73) rfl gp (by kernel_rfl) S hSl fi (hu.blk (unhide hqp))⟩) hG ?_
    simp only [nrm]
    refine any_take (i := 8) (v := (.pointer (some ⟨gq, 32, none⟩))) #[true, true, true, true, true, true, true, true, false, false, false, false, false, false, false, false, false, false, false, false, false, false, false, false, false, false, false, false, false] rfl (by kernel_rfl) (by kernel_rfl) (by kernel_rfl) (by kernel_rfl) (fun _ _ _ h => h) (.inl ⟨by kernel_rfl, fun x_ hu => by kernel_rfl⟩) hG ?_
    simp only [nrm]
    refine any_take (i := 9) (v := (.bool (!fi))) #[true, true, true, true, true, true, true, true, true, false, false, false, false, false, false, false, false, false, false, false, false, false, false, false, false, false, false, false, false] rfl (by kernel_rfl) (by kernel_rfl) (by kernel_rfl) (by kernel_rfl) (fun _ _ _ h => h) (.inl ⟨by kernel_rfl, fun x_ hu => exec_pf _ (.tmp 75) rfl gq (by kernel_rfl) S hSl (!fi) (hu.blk (unhide hqq))⟩) hG ?_
    simp only [nrm]
    refine any_take (i := 10) (v := (.bool false)) #[true, true, true, true, true, true, true, true, true, true, false, false, false, false, false, false, false, false, false, false, false, false, false, false, false, false, false, false, false] rfl (by kernel_rfl) (by kernel_rfl) (by kernel_rfl) (by kernel_rfl) (fun _ _ _ h => h) (.inl ⟨by kernel_rfl, fun x_ hu => by cases fi <;> kernel_rfl⟩) hG ?_
    simp only [nrm]
    refine any_take (i := 11) (v := (.bool false)) #[true, true, true, true, true, true, true, true, true, true, true, false, false, false, false, false, false, false, false, false, false, false, false, false, false, false, false, false, false] rfl (by kernel_rfl) (by kernel_rfl) (by kernel_rfl) (by kernel_rfl) (fun _ _ _ h => h) (.inl ⟨by kernel_rfl, fun x_ hu => by kernel_rfl⟩) hG ?_
    simp only [nrm]
    refine any_take (i := 12) (v := (.bool false)) #[true, true, true, true, true, true, true, true, true, true, true, true, false, false, false, false, false, false, false, false, false, false, false, false, false, false, false, false, false] rfl (by kernel_rfl) (by kernel_rfl) (by kernel_rfl) (by kernel_rfl) (fun _ _ _ h => h) (.inl ⟨by kernel_rfl, fun x_ hu => by kernel_rfl⟩) hG ?_
    simp only [nrm]
    refine any_take (i := 13) (v := (.pointer (some ⟨gp, 32, none⟩))) #[true, true, true, true, true, true, true, true, true, true, true, true, true, false, false, false, false, false, false, false, false, false, false, false, false, false, false, false, false] rfl (by kernel_rfl) (by kernel_rfl) (by kernel_rfl) (by kernel_rfl) (fun _ _ _ h => h) (.inl ⟨by kernel_rfl, fun x_ hu => by kernel_rfl⟩) hG ?_
    simp only [nrm]
    refine any_take (i := 14) (v := (.bool fi)) #[true, true, true, true, true, true, true, true, true, true, true, true, true, true, false, false, false, false, false, false, false, false, false, false, false, false, false, false, false] rfl (by kernel_rfl) (by kernel_rfl) (by kernel_rfl) (by kernel_rfl) (fun _ _ _ h => h) (.inl ⟨by kernel_rfl, fun x_ hu => exec_pf _ (.tmp 80) rfl gp (by kernel_rfl) S hSl fi (hu.blk (unhide hqp))⟩) hG ?_
    simp only [nrm]
    refine any_take (i := 15) (v := (.agg (kc X))) #[true, true, true, true, true, true, true, true, true, true, true, true, true, true, true, false, false, false, false, false, false, false, false, false, false, false, false, false, false] rfl (by kernel_rfl) (by kernel_rfl) (by kernel_rfl) (by kernel_rfl) (fun _ _ _ h => h) (.inl ⟨by kernel_rfl, fun x_ hu => exec_arr _ 25 (.tmp 7) rfl (g3_1) (by kernel_rfl) (kc X) 25 _ (hu.blk (unhide hqX)) Tryd.underlying25 rfl (by rw [Tryd.infoKey, kc_size, hXl])⟩) hG ?_
    simp only [nrm]
    refine any_take (i := 16) (v := (.agg (kc Y))) #[true, true, true, true, true, true, true, true, true, true, true, true, true, true, true, true, false, false, false, false, false, false, false, false, false, false, false, false, false] rfl (by kernel_rfl) (by kernel_rfl) (by kernel_rfl) (by kernel_rfl) (fun _ _ _ h => h) (.inl ⟨by kernel_rfl, fun x_ hu => exec_arr _ 25 (.tmp 8) rfl (g3_2) (by kernel_rfl) (kc Y) 25 _ (hu.blk (unhide hqY)) Tryd.underlying25 rfl (by rw [Tryd.infoKey, kc_size, hYl])⟩) hG ?_
    simp only [nrm]
    refine any_one (i := 17) (by kernel_rfl) rfl (fun K hK => ?_)
    refine step_callw (by kernel_rfl) 20 #[.agg (kc X), .agg (kc Y)] (by kernel_rfl) ((less_ok X Y hXl hYl _).mono ?_)
    rintro r z1 ⟨hr_, hg⟩
    rw [← unhide hfi] at hr_
    subst hr_
    refine ⟨_, rfl, ?_⟩
    replace hG := hG.trans hg
    clear hg
    refine hK.out _ _ hG (fun _ => ?_)
    clear hK K
    simp only [nrm]
    refine any_take (i := 18) (v := (.bool false)) #[true, true, true, true, true, true, true, true, true, true, true, true, true, true, true, true, true, true, false, false, false, false, false, false, false, false, false, false, false] rfl (by kernel_rfl) (by kernel_rfl) (by kernel_rfl) (by kernel_rfl) (fun _ _ _ h => h) (.inl ⟨by kernel_rfl, fun x_ hu => by cases fi <;> kernel_rfl⟩) hG ?_
    simp only [nrm]
    refine any_take (i := 19) (v := (.bool false)) #[true, true, true, true, true, true, true, true, true, true, true, true, true, true, true, true, true, true, true, false, false, false, false, false, false, false, false, false, false] rfl (by kernel_rfl) (by kernel_rfl) (by kernel_rfl) (by kernel_rfl) (fun _ _ _ h => h) (.inl ⟨by kernel_rfl, fun x_ hu => by kernel_rfl⟩) hG ?_
    simp only [nrm]
    refine any_take (i := 20) (v := (.bool false)) #[true, true, true, true, true, true, true, true, true, true, true, true, true, true, true, true, true, true, true, true, false, false, false, false, false, false, false, false, false] rfl (by kernel_rfl) (by kernel_rfl) (by kernel_rfl) (by kernel_rfl) (fun _ _ _ h => h) (.inl ⟨by kernel_rfl, fun x_ hu => by kernel_rfl⟩) hG ?_
    simp only [nrm]
    refine any_take (i := 21) (v := (.agg (pairv S fi))) #[true, true, true, true, true, true, true, true, true, true, true, true, true, true, true, true, true, true, true, true, true, false, false, false, false, false, false, false, false] rfl (by kernel_rfl) (by kernel_rfl) (by kernel_rfl) (by kernel_rfl) (fun _ _ _ h => h) (.inl ⟨by kernel_rfl, fun x_ hu => exec_pp _ (.tmp 9) rfl gp (by kernel_rfl) S hSl fi (hu.blk (unhide hqp))⟩) hG ?_
    simp only [nrm]
    refine any_take (i := 22) (v := (.int .u64 r)) #[true, true, true, true, true, true, true, true, true, true, true, true, true, true, true, true, true, true, true, true, true, true, false, false, false, false, false, false, false] rfl (by kernel_rfl) (by kernel_rfl) (by kernel_rfl) (by kernel_rfl) (fun _ _ _ h => h) (.inl ⟨by kernel_rfl, fun x_ hu => by kernel_rfl⟩) hG ?_
    simp only [nrm]
    refine any_take (i := 24) (v := (.agg (pairv S (!fi)))) #[true, true, true, true, true, true, true, true, true, true, true, true, true, true, true, true, true, true, true, true, true, true, true, false, false, false, false, false, false] rfl (by kernel_rfl) (by kernel_rfl) (by kernel_rfl) (by kernel_rfl) (fun _ _ _ h => h) (.inl ⟨by kernel_rfl, fun x_ hu => exec_pp _ (.tmp 11) rfl gq (by kernel_rfl) S hSl (!fi) (hu.blk (unhide hqq))⟩) hG ?_
    simp only [nrm]
    refine any_take (i := 25) (v := (.int .u64 r)) #[true, true, true, true, true, true, true, true, true, true, true, true, true, true, true, true, true, true, true, true, true, true, true, false, true, false, false, false, false] rfl (by kernel_rfl) (by kernel_rfl) (by kernel_rfl) (by kernel_rfl) (fun _ _ _ h => h) (.inl ⟨by kernel_rfl, fun x_ hu => by kernel_rfl⟩) hG ?_
    simp only [nrm]
    refine any_one (i := 23) (by kernel_rfl) rfl (fun K hK => ?_)
    refine step_callw (by kernel_rfl) 22 #[.agg (pairv S fi), .int .u64 r] (by kernel_rfl) ((drop_ok r hr S hSl (unhide hSb) fi _ ((unhide hF).gr ((unhide hB).trans hG))).mono ?_)
    rintro r z2 ⟨rfl, hg⟩
    refine ⟨_, rfl, ?_⟩
    replace hG := hG.trans hg
    clear hg
    obtain ⟨DR, hDR⟩ : ∃ t, t = drL r S := ⟨_, rfl⟩
    have hDRl : DR.length = 16 := by rw [hDR]; exact drL_len _ _
    rw [← hDR]
    replace hDR := hide hDR
    refine hK.out _ _ hG (fun _ => ?_)
    clear hK K
    simp only [nrm]
    refine any_one (i := 26) (by kernel_rfl) rfl (fun K hK => ?_)
    refine step_callw (by kernel_rfl) 22 #[.agg (pairv S (!fi)), .int .u64 r] (by kernel_rfl) ((drop_ok r hr S hSl (unhide hSb) (!fi) _ ((unhide hF).gr ((unhide hB).trans hG))).mono ?_)
    rintro r z3 ⟨rfl, hg⟩
    refine ⟨_, rfl, ?_⟩
    replace hG := hG.trans hg
    clear hg
    rw [← unhide hDR]
    refine hK.out _ _ hG (fun _ => ?_)
    clear hK K
    simp only [nrm]
    refine any_take (i := 27) (v := (.bool false)) #[true, true, true, true, true, true, true, true, true, true, true, true, true, true, true, true, true, true, true, true, true, true, true, true, true, true, true, false, false] rfl (by kernel_rfl) (by kernel_rfl) (by kernel_rfl) (by kernel_rfl) (fun _ _ _ h => h) (.inl ⟨by kernel_rfl, fun x_ hu => exec_neqDr _ (.tmp 90) (.tmp 93) rfl DR hDRl (by kernel_rfl) (by kernel_rfl) (by kernel_rfl)⟩) hG ?_
    simp only [nrm]
    refine any_take (i := 28) (v := (.bool false)) #[true, true, true, true, true, true, true, true, true, true, true, true, true, true, true, true, true, true, true, true, true, true, true, true, true, true, true, true, false] rfl (by kernel_rfl) (by kernel_rfl) (by kernel_rfl) (by kernel_rfl) (fun _ _ _ h => h) (.inl ⟨by kernel_rfl, fun x_ hu => by kernel_rfl⟩) hG ?_
    simp only [nrm]
    refine any_done (by kernel_rfl) ?_
    replace hqp := hide (hG.blk (unhide hqp))
    replace hqq := hide (hG.blk (unhide hqq))
    replace hB := hide ((unhide hB).trans hG)
    clear hG hqX hqY
    go_upto_region 14 with fail
    refine any_start (S := fun (v : World) => Gr z3 v) (by kernel_rfl) ?_
    have hG : Gr z3 (World.drew z3) := (Gr.refl _).drew
    generalize World.drew _ = x1 at *
    simp only [List.size_toArray, List.length_cons, List.length_nil, Array.replicate, List.replicate]
    refine any_take (i := 0) (v := (.agg (pairv S fi))) #[false, false, false, false, false, false, false, false, false, false, false, false, false, false, false, false, false] rfl (by kernel_rfl) (by kernel_rfl) (by kernel_rfl) (by kernel_rfl) (fun _ _ _ h => h) (.inl ⟨by kernel_rfl, fun x_ hu => exec_pp _ (.tmp 9) rfl gp (by kernel_rfl) S hSl fi (hu.blk (unhide hqp))⟩) hG ?_
    simp only [nrm]
    refine any_take (i := 1) (v := (.int .u64 r)) #[true, false, false, false, false, false, false, false, false, false, false, false, false, false, false, false, false] rfl (by kernel_rfl) (by kernel_rfl) (by kernel_rfl) (by kernel_rfl) (fun _ _ _ h => h) (.inl ⟨by kernel_rfl, fun x_ hu => by kernel_rfl⟩) hG ?_
    simp only [nrm]
    refine any_take (i := 3) (v := (.agg (pairv S (!fi)))) #[true, true, false, false, false, false, false, false, false, false, false, false, false, false, false, false, false] rfl (by kernel_rfl) (by kernel_rfl) (by kernel_rfl) (by kernel_rfl) (fun _ _ _ h => h) (.inl ⟨by kernel_rfl, fun x_ hu => exec_pp _ (.tmp 11) rfl gq (by kernel_rfl) S hSl (!fi) (hu.blk (unhide hqq))⟩) hG ?_
    simp only [nrm]
    refine any_take (i := 4) (v := (.int .u64 r)) #[true, true, false, true, false, false, false, false, false, false, false, false, false, false, false, false, false] rfl (by kernel_rfl) (by kernel_rfl) (by kernel_rfl) (by kernel_rfl) (fun _ _ _ h => h) (.inl ⟨by kernel_rfl, fun x_ hu => by kernel_rfl⟩) hG ?_
    simp only [nrm]
    refine any_one (i := 2) (by kernel_rfl) rfl (fun K hK => ?_)
    refine step_callw (by kernel_rfl) 24 #[.agg (pairv S fi), .int .u64 r, .bool true] (by kernel_rfl) ((roundkey_ok r hr S hSl (unhide hSb) fi true _ ((unhide hF).gr ((unhide hB).trans hG))).mono ?_)
    rintro r z4 ⟨rfl, hg⟩
    refine ⟨_, rfl, ?_⟩
    replace hG := hG.trans hg
    clear hg
    obtain ⟨RT, hRT⟩ : ∃ t, t = rkL r S fi true := ⟨_, rfl⟩
    have hRTl : RT.length = 32 := by rw [hRT]; exact rkL_len _ _ _ _
    rw [← hRT]
    replace hRT := hide hRT
    refine hK.out _ _ hG (fun _ => ?_)
    clear hK K
    simp only [nrm]
    refine any_one (i := 5) (by kernel_rfl) rfl (fun K hK => ?_)
    refine step_callw (by kernel_rfl) 24 #[.agg (pairv S (!fi)), .int .u64 r, .bool false] (by kernel_rfl) ((roundkey_ok r hr S hSl (unhide hSb) (!fi) false _ ((unhide hF).gr ((unhide hB).trans hG))).mono ?_)
    rintro r z5 ⟨rfl, hg⟩
    refine ⟨_, rfl, ?_⟩
    replace hG := hG.trans hg
    clear hg
    rw [show rkL r S (!fi) false = RT from by rw [unhide hRT]; exact rkL_flip r S fi true]
    refine hK.out _ _ hG (fun _ => ?_)
    clear hK K
    simp only [nrm]
    refine any_take (i := 6) (v := (.bool true)) #[true, true, true, true, true, true, false, false, false, false, false, false, false, false, false, false, false] rfl (by kernel_rfl) (by kernel_rfl) (by kernel_rfl) (by kernel_rfl) (fun _ _ _ h => h) (.inl ⟨by kernel_rfl, fun x_ hu => exec_eq_k _ (.tmp 98) (.tmp 101) rfl RT RT hRTl hRTl (by kernel_rfl) (by kernel_rfl) (by kernel_rfl) true (by simp)⟩) hG ?_
    simp only [nrm]
    refine any_take (i := 7) (v := (.bool true)) #[true, true, true, true, true, true, true, false, false, false, false, false, false, false, false, false, false] rfl (by kernel_rfl) (by kernel_rfl) (by kernel_rfl) (by kernel_rfl) (fun _ _ _ h => h) (.inl ⟨by kernel_rfl, fun x_ hu => by kernel_rfl⟩) hG ?_
    simp only [nrm]
    refine any_take (i := 8) (v := (.agg (pairv S fi))) #[true, true, true, true, true, true, true, true, false, false, false, false, false, false, false, false, false] rfl (by kernel_rfl) (by kernel_rfl) (by kernel_rfl) (by kernel_rfl) (fun _ _ _ h => h) (.inl ⟨by kernel_rfl, fun x_ hu => exec_pp _ (.tmp 9) rfl gp (by kernel_rfl) S hSl fi (hu.blk (unhide hqp))⟩) hG ?_
    simp only [nrm]
    refine any_take (i := 9) (v := (.int .u64 r)) #[true, true, true, true, true, true, true, true, true, false, false, false, false, false, false, false, false] rfl (by kernel_rfl) (by kernel_rfl) (by kernel_rfl) (by kernel_rfl) (fun _ _ _ h => h) (.inl ⟨by kernel_rfl, fun x_ hu => by kernel_rfl⟩) hG ?_
    simp only [nrm]
    refine any_take (i := 11) (v := (.agg (pairv S (!fi)))) #[true, true, true, true, true, true, true, true, true, true, false, false, false, false, false, false, false] rfl (by kernel_rfl) (by kernel_rfl) (by kernel_rfl) (by kernel_rfl) (fun _ _ _ h => h) (.inl ⟨by kernel_rfl, fun x_ hu => exec_pp _ (.tmp 11) rfl gq (by kernel_rfl) S hSl (!fi) (hu.blk (unhide hqq))⟩) hG ?_
    simp only [nrm]
    refine any_take (i := 12) (v := (.int .u64 r)) #[true, true, true, true, true, true, true, true, true, true, false, true, false, false, false, false, false] rfl (by kernel_rfl) (by kernel_rfl) (by kernel_rfl) (by kernel_rfl) (fun _ _ _ h => h) (.inl ⟨by kernel_rfl, fun x_ hu => by kernel_rfl⟩) hG ?_
    simp only [nrm]
    refine any_one (i := 10) (by kernel_rfl) rfl (fun K hK => ?_)
    refine step_callw (by kernel_rfl) 24 #[.agg (pairv S fi), .int .u64 r, .bool false] (by kernel_rfl) ((roundkey_ok r hr S hSl (unhide hSb) fi false _ ((unhide hF).gr ((unhide hB).trans hG))).mono ?_)
    rintro r z6 ⟨rfl, hg⟩
    refine ⟨_, rfl, ?_⟩
    replace hG := hG.trans hg
    clear hg
    obtain ⟨RF, hRF⟩ : ∃ t, t = rkL r S fi false := ⟨_, rfl⟩
    have hRFl : RF.length = 32 := by rw [hRF]; exact rkL_len _ _ _ _
    rw [← hRF]
    replace hRF := hide hRF
    refine hK.out _ _ hG (fun _ => ?_)
    clear hK K
    simp only [nrm]
    refine any_one (i := 13) (by kernel_rfl) rfl (fun K hK => ?_)
    refine step_callw (by kernel_rfl) 24 #[.agg (pairv S (!fi)), .int .u64 r, .bool true] (by kernel_rfl) ((roundkey_ok r hr S hSl (unhide hSb) (!fi) true _ ((unhide hF).gr ((unhide hB).trans hG))).mono ?_)
    rintro r z7 ⟨rfl, hg⟩
    refine ⟨_, rfl, ?_⟩
    replace hG := hG.trans hg
    clear hg
    rw [show rkL r S (!fi) true = RF from by rw [unhide hRF]; exact rkL_flip r S fi false]
    refine hK.out _ _ hG (fun _ => ?_)
    clear hK K
    simp only [nrm]
    refine any_take (i := 14) (v := (.bool true)) #[true, true, true, true, true, true, true, true, true, true, true, true, true, true, false, false, false] rfl (by kernel_rfl) (by kernel_rfl) (by kernel_rfl) (by kernel_rfl) (fun _ _ _ h => h) (.inl ⟨by kernel_rfl, fun x_ hu => exec_eq_k _ (.tmp 106) (.tmp 109) rfl RF RF hRFl hRFl (by kernel_rfl) (by kernel_rfl) (by kernel_rfl) true (by simp)⟩) hG ?_
    simp only [nrm]
    refine any_take (i := 15) (v := (.bool true)) #[true, true, true, true, true, true, true, true, true, true, true, true, true, true, true, false, false] rfl (by kernel_rfl) (by kernel_rfl) (by kernel_rfl) (by kernel_rfl) (fun _ _ _ h => h) (.inl ⟨by kernel_rfl, fun x_ hu => by kernel_rfl⟩) hG ?_
    simp only [nrm]
    refine any_one (i := 16) (by kernel_rfl) rfl (fun K hK => ?_)
    replace hK := hide hK
    go_simp
    refine (unhide hK).out _ _ hG (fun _ => ?_)
    clear hK K
    refine any_done (by kernel_rfl) ?_
    have hZ : Hid (T (.returned (.bool true)) z7) := by
      rw [unhide hT]
      exact ⟨rfl, (unhide hB).trans hG⟩
    go_wp2_with fail
    exact unhide hZ
end Go.Proofs.YtpmgmpihmpifgaaDoor
