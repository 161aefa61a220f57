/-
  The reference's X.
-/
import Derived.Test.YtpmgmpihmpifgaaDoorURefClamp
import Derived.Test.YtpmgmpihmpifgaaDoorXK1
namespace Go.Proofs.YtpmgmpihmpifgaaDoor.Cv
open Go.RowKit
set_option maxRecDepth 100000
set_option linter.unusedSimpArgs false

set_option maxHeartbeats 8000000 in
theorem rx_ok (M U : Nat) (hU : U < 115792089237316195423570985008687907853269984665640564039457584007913129639936) (w : World) :
    Calls Tryd.prog 36 #[.agg (kc (digs (M : Int) 32)), .agg (kc (digs (U : Int) 32))] w (fun r w' => r = .returned (.agg (kc (digs (xN M U : Int) 32))) ∧ Gr w w') := by
  replace hU := hide hU
  go_enter Tryd.func36, Tryd.ntmps36
  go_upto_region 1 with fail
  have hB := (((Bl.nil w).new (kc (digs (M : Int) 32)) 25).new (kc (digs (U : Int) 32)) 25).new #[.int .u8 0, .int .u8 0, .int .u8 0, .int .u8 0, .int .u8 0, .int .u8 0, .int .u8 0, .int .u8 0, .int .u8 0, .int .u8 0, .int .u8 0, .int .u8 0, .int .u8 0, .int .u8 0, .int .u8 0, .int .u8 0, .int .u8 0, .int .u8 0, .int .u8 0, .int .u8 0, .int .u8 0, .int .u8 0, .int .u8 0, .int .u8 0, .int .u8 0, .int .u8 0, .int .u8 0, .int .u8 0, .int .u8 0, .int .u8 0, .int .u8 0, .int .u8 0] 25
  simp only [size_alloc, List.nil_append, List.cons_append] at hB
  generalize World.alloc _ _ = v1_ at *
  replace hB : Bl w [⟨w.heap.size, (kc (digs (M : Int) 32)), 25⟩, ⟨w.heap.size + 1, (kc (digs (U : Int) 32)), 25⟩, ⟨w.heap.size + 1 + 1, Z32, 25⟩] v1_ := hB
  refine wp_region_lit ?_
  refine list_val (.agg (kc (digs (M : Int) 32))) (by kernel_rfl) (exec_arr _ 25 (.tmp 2) rfl w.heap.size (by kernel_rfl) (kc (digs (M : Int) 32)) 25 _ (hB.get 0 (x := ⟨w.heap.size, (kc (digs (M : Int) 32)), 25⟩) rfl) Tryd.underlying25 rfl (by rw [Tryd.infoKey, kc32])) ?_
  simp only [nrm]
  refine list_call 51 #[.agg (kc (digs (M : Int) 32))] (by kernel_rfl) (by kernel_rfl) ((rclamp_ok M _).mono ?_)
  rintro r v2_ ⟨rfl, hg⟩
  refine ⟨_, rfl, ?_⟩
  replace hB := hB.more hg
  clear hg
  simp only [nrm]
  refine wpList_step fun K hK => ?_
  replace hK := hide hK
  go_simp
  refine unhide hK _ _ ?_
  clear hK K
  replace hB := hB.new #[.int .u8 0, .int .u8 0, .int .u8 0, .int .u8 0, .int .u8 0, .int .u8 0, .int .u8 0, .int .u8 0, .int .u8 0, .int .u8 0, .int .u8 0, .int .u8 0, .int .u8 0, .int .u8 0, .int .u8 0, .int .u8 0, .int .u8 0, .int .u8 0, .int .u8 0, .int .u8 0, .int .u8 0, .int .u8 0, .int .u8 0, .int .u8 0, .int .u8 0, .int .u8 0, .int .u8 0, .int .u8 0, .int .u8 0, .int .u8 0, .int .u8 0, .int .u8 0] 25
  simp only [List.cons_append, List.nil_append] at hB
  generalize v2_.heap.size = g1_2 at *
  generalize World.alloc _ _ = v3_ at *
  replace hB : Bl w [⟨w.heap.size, (kc (digs (M : Int) 32)), 25⟩, ⟨w.heap.size + 1, (kc (digs (U : Int) 32)), 25⟩, ⟨w.heap.size + 1 + 1, Z32, 25⟩, ⟨g1_2, Z32, 25⟩] v3_ := hB
  refine list_store 25 (.tmp 5) (.tmp 26) g1_2 (kc (digs (cl M : Int) 32)) 25 Z32 (by kernel_rfl) rfl (by kernel_rfl) (by kernel_rfl) (hB.get 3 (x := ⟨g1_2, Z32, 25⟩) rfl) (by rw [Tryd.infoKey, kc32]) (Z32_size.trans (kc32 (cl M : Int) 32).symm) (kc_one _) ?_
  replace hB := hB.set 3 (x := ⟨g1_2, Z32, 25⟩) rfl (kc (digs (cl M : Int) 32))
  simp only [List.set_cons_zero, List.set_cons_succ] at hB
  generalize World.setRow _ _ _ = v4_ at *
  simp only [nrm]
  refine wpList_nil ?_
  go_upto_region 2 with fail
  refine wp_region_lit ?_
  refine list_val (.agg (kc (digs (U : Int) 32))) (by kernel_rfl) (exec_arr _ 25 (.tmp 3) rfl (w.heap.size + 1) (by kernel_rfl) (kc (digs (U : Int) 32)) 25 _ (hB.get 1 (x := ⟨w.heap.size + 1, (kc (digs (U : Int) 32)), 25⟩) rfl) Tryd.underlying25 rfl (by rw [Tryd.infoKey, kc32])) ?_
  simp only [nrm]
  refine list_call 52 #[.agg (kc (digs (U : Int) 32))] (by kernel_rfl) (by kernel_rfl) ((rFrom_ok U (unhide hU) _).mono ?_)
  rintro r v5_ ⟨c1, rfl, hc1, hg⟩
  refine ⟨_, rfl, ?_⟩
  replace hB := hB.more hg
  clear hg
  simp only [nrm]
  refine wpList_step fun K hK => ?_
  replace hK := hide hK
  go_simp
  refine unhide hK _ _ ?_
  clear hK K
  replace hB := hB.new #[.int .i64 0, .int .i64 0, .int .i64 0, .int .i64 0, .int .i64 0, .int .i64 0, .int .i64 0, .int .i64 0, .int .i64 0, .int .i64 0, .int .i64 0, .int .i64 0, .int .i64 0, .int .i64 0, .int .i64 0, .int .i64 0] 80
  simp only [List.cons_append, List.nil_append] at hB
  generalize v5_.heap.size = g2_2 at *
  generalize World.alloc _ _ = v6_ at *
  replace hB : Bl w [⟨w.heap.size, (kc (digs (M : Int) 32)), 25⟩, ⟨w.heap.size + 1, (kc (digs (U : Int) 32)), 25⟩, ⟨w.heap.size + 1 + 1, Z32, 25⟩, ⟨g1_2, (kc (digs (cl M : Int) 32)), 25⟩, ⟨g2_2, (nc Zl), 80⟩] v6_ := hB
  refine list_store 80 (.tmp 6) (.tmp 28) g2_2 c1 80 (nc Zl) (by kernel_rfl) rfl (by kernel_rfl) (by kernel_rfl) (hB.get 4 (x := ⟨g2_2, (nc Zl), 80⟩) rfl) (by rw [Tryd.infoNum, NC.size _ hc1]) ((show (nc Zl).size = 16 from rfl).trans (NC.size _ hc1).symm) (NC.one _ hc1) ?_
  replace hB := hB.set 4 (x := ⟨g2_2, (nc Zl), 80⟩) rfl c1
  simp only [List.set_cons_zero, List.set_cons_succ] at hB
  generalize World.setRow _ _ _ = v7_ at *
  simp only [nrm]
  refine wpList_nil ?_
  go_upto_region 3 with fail
  refine any_start (S := fun v => v.heap[g2_2]? = some (.cells c1 80 (0, 0)) ∧ True) (by kernel_rfl) ?_
  replace hB := hB.drew
  generalize World.drew _ = v8_ at *
  simp only [List.size_toArray, List.length_cons, List.length_nil, Array.replicate, List.replicate]
  refine any_take (i := 0) (v := (.agg (kc (digs ((1 : Nat) : Int) 32)))) #[false, false, false, false, false, false, false, false, false, false, false, false, false, false, false] rfl (by kernel_rfl) (by kernel_rfl) (by kernel_rfl) (by kernel_rfl) (fun _ _ _ h => h) (.inl ⟨by kernel_rfl, fun x_ hu => by kernel_rfl⟩) ⟨(hB.get 4 (x := ⟨g2_2, c1, 80⟩) rfl), trivial⟩ ?_
  simp only [nrm]
  refine any_take (i := 2) (v := (.agg (kc (digs ((0 : Nat) : Int) 32)))) #[true, false, false, false, false, false, false, false, false, false, false, false, false, false, false] rfl (by kernel_rfl) (by kernel_rfl) (by kernel_rfl) (by kernel_rfl) (fun _ _ _ h => h) (.inl ⟨by kernel_rfl, fun x_ hu => by kernel_rfl⟩) ⟨(hB.get 4 (x := ⟨g2_2, c1, 80⟩) rfl), trivial⟩ ?_
  simp only [nrm]
  refine any_take (i := 4) (v := (.agg c1)) #[true, false, true, false, false, false, false, false, false, false, false, false, false, false, false] rfl (by kernel_rfl) (by kernel_rfl) (by kernel_rfl) (by kernel_rfl) (fun _ _ _ h => h) (.inl ⟨by kernel_rfl, fun x_ hu => exec_arr x_ 80 (.tmp 6) rfl g2_2 (by kernel_rfl) c1 80 _ hu.1 Tryd.underlying80 rfl (by rw [Tryd.infoNum, NC.size _ hc1])⟩) ⟨(hB.get 4 (x := ⟨g2_2, c1, 80⟩) rfl), trivial⟩ ?_
  simp only [nrm]
  refine any_take (i := 5) (v := (.agg (kc (digs ((1 : Nat) : Int) 32)))) #[true, false, true, false, true, false, false, false, false, false, false, false, false, false, false] rfl (by kernel_rfl) (by kernel_rfl) (by kernel_rfl) (by kernel_rfl) (fun _ _ _ h => h) (.inl ⟨by kernel_rfl, fun x_ hu => by kernel_rfl⟩) ⟨(hB.get 4 (x := ⟨g2_2, c1, 80⟩) rfl), trivial⟩ ?_
  simp only [nrm]
  have hSf : ∀ v, Gr v8_ v → (fun v => v.heap[g2_2]? = some (.cells c1 80 (0, 0)) ∧ True) v := fun v k => ⟨k.blk (hB.get 4 (x := ⟨g2_2, c1, 80⟩) rfl), trivial⟩
  refine stage4 v8_ #[.int .i64 0, .int .i64 0, .int .i64 0, .int .i64 0, .int .i64 0, .int .i64 0, .int .i64 0, .int .i64 0, .int .i64 0, .int .i64 0, .int .i64 0, .int .i64 0, .int .i64 0, .int .i64 0, .int .i64 0, .int .i64 0] 80 (fw4 _ 7 8 9 10) (fun b3_1 b3_2 b3_3 b3_4 => #[true, false, true, false, true, true, false, b3_1, b3_2, b3_3, b3_4, false, false, false, false]) 7 8 9 10 1 false hSf (by kernel_rfl) (fun _ _ _ _ => ⟨rfl, rfl, rfl, rfl⟩) ?_ ?_ ?_ ?_ ?_ (M4.first (fun b3_1 b3_2 b3_3 b3_4 => #[true, false, true, false, true, true, false, b3_1, b3_2, b3_3, b3_4, false, false, false, false]) _ rfl rfl)
  all_goals simp only [fw4, Act.put, List.setIfInBounds_toArray, List.set_cons_zero, List.set_cons_succ, List.getElem_toArray, List.getElem_cons_zero, List.getElem_cons_succ]
  · intro q3_1 q3_2 q3_3 q3_4 x K hK
    refine wpOp_step (o := _) rfl (fun K' hK' => ?_)
    replace hK' := hide hK'
    replace hK := hide hK
    go_simp
    exact unhide hK' _ _ (unhide hK)
  · intro q3_1 q3_2 q3_3 q3_4 x K hK
    refine wpOp_step (o := _) rfl (fun K' hK' => ?_)
    replace hK' := hide hK'
    replace hK := hide hK
    go_simp
    exact unhide hK' _ _ (unhide hK)
  · intro q3_1 q3_2 q3_3 q3_4 x K hK
    refine wpOp_step (o := _) rfl (fun K' hK' => ?_)
    replace hK' := hide hK'
    replace hK := hide hK
    go_simp
    exact unhide hK' _ _ (unhide hK)
  · intro q3_1 q3_2 q3_3 q3_4 x K hK
    refine wpOp_step (o := _) rfl (fun K' hK' => ?_)
    replace hK' := hide hK'
    replace hK := hide hK
    go_simp
    exact unhide hK' _ _ (unhide hK)
  intro b3_1 b3_2 b3_3 b3_4 q3_1 q3_2 q3_3 q3_4 g3_1 g3_2 g3_3 g3_4 v9_ hM _
  refine wpOp_step (o := _) rfl (fun K' hK' => ?_)
  replace hK' := hide hK'
  refine step_callw (by kernel_rfl) 52 #[.agg (kc (digs ((1 : Nat) : Int) 32))] (by kernel_rfl) ((rFrom_ok 1 (by decide) _).mono ?_)
  rintro r v10_ ⟨c2, rfl, hc2, hg⟩
  refine ⟨_, rfl, ?_⟩
  replace hc2 : NC 1 c2 := NC.same hc2 rfl
  refine unhide hK' _ _ ⟨hSf _ (hM.gr.trans hg), ?_⟩
  clear hK' K'
  simp only [nrm]
  refine stage4 v8_ #[.int .i64 0, .int .i64 0, .int .i64 0, .int .i64 0, .int .i64 0, .int .i64 0, .int .i64 0, .int .i64 0, .int .i64 0, .int .i64 0, .int .i64 0, .int .i64 0, .int .i64 0, .int .i64 0, .int .i64 0, .int .i64 0] 80 (fw4 _ 7 8 9 10) (fun b3_1 b3_2 b3_3 b3_4 => #[true, true, true, false, true, true, false, b3_1, b3_2, b3_3, b3_4, false, false, false, false]) 7 8 9 10 3 false hSf (by kernel_rfl) (fun _ _ _ _ => ⟨rfl, rfl, rfl, rfl⟩) ?_ ?_ ?_ ?_ ?_ ⟨b3_1, b3_2, b3_3, b3_4, q3_1, q3_2, q3_3, q3_4, g3_1, g3_2, g3_3, g3_4, hM.again hg rfl rfl⟩
  all_goals simp only [fw4, Act.put, List.setIfInBounds_toArray, List.set_cons_zero, List.set_cons_succ, List.getElem_toArray, List.getElem_cons_zero, List.getElem_cons_succ]
  · intro q3_1 q3_2 q3_3 q3_4 x K hK
    refine wpOp_step (o := _) rfl (fun K' hK' => ?_)
    replace hK' := hide hK'
    replace hK := hide hK
    go_simp
    exact unhide hK' _ _ (unhide hK)
  · intro q3_1 q3_2 q3_3 q3_4 x K hK
    refine wpOp_step (o := _) rfl (fun K' hK' => ?_)
    replace hK' := hide hK'
    replace hK := hide hK
    go_simp
    exact unhide hK' _ _ (unhide hK)
  · intro q3_1 q3_2 q3_3 q3_4 x K hK
    refine wpOp_step (o := _) rfl (fun K' hK' => ?_)
    replace hK' := hide hK'
    replace hK := hide hK
    go_simp
    exact unhide hK' _ _ (unhide hK)
  · intro q3_1 q3_2 q3_3 q3_4 x K hK
    refine wpOp_step (o := _) rfl (fun K' hK' => ?_)
    replace hK' := hide hK'
    replace hK := hide hK
    go_simp
    exact unhide hK' _ _ (unhide hK)
  clear hM hg
  intro b3_1 b3_2 b3_3 b3_4 q3_1 q3_2 q3_3 q3_4 g3_1 g3_2 g3_3 g3_4 v11_ hM _
  refine wpOp_step (o := _) rfl (fun K' hK' => ?_)
  replace hK' := hide hK'
  refine step_callw (by kernel_rfl) 52 #[.agg (kc (digs ((0 : Nat) : Int) 32))] (by kernel_rfl) ((rFrom_ok 0 (by decide) _).mono ?_)
  rintro r v12_ ⟨c3, rfl, hc3, hg⟩
  refine ⟨_, rfl, ?_⟩
  replace hc3 : NC 0 c3 := NC.same hc3 rfl
  refine unhide hK' _ _ ⟨hSf _ (hM.gr.trans hg), ?_⟩
  clear hK' K'
  simp only [nrm]
  refine stage4 v8_ #[.int .i64 0, .int .i64 0, .int .i64 0, .int .i64 0, .int .i64 0, .int .i64 0, .int .i64 0, .int .i64 0, .int .i64 0, .int .i64 0, .int .i64 0, .int .i64 0, .int .i64 0, .int .i64 0, .int .i64 0, .int .i64 0] 80 (fw4 _ 7 8 9 10) (fun b3_1 b3_2 b3_3 b3_4 => #[true, true, true, true, true, true, false, b3_1, b3_2, b3_3, b3_4, false, false, false, false]) 7 8 9 10 6 false hSf (by kernel_rfl) (fun _ _ _ _ => ⟨rfl, rfl, rfl, rfl⟩) ?_ ?_ ?_ ?_ ?_ ⟨b3_1, b3_2, b3_3, b3_4, q3_1, q3_2, q3_3, q3_4, g3_1, g3_2, g3_3, g3_4, hM.again hg rfl rfl⟩
  all_goals simp only [fw4, Act.put, List.setIfInBounds_toArray, List.set_cons_zero, List.set_cons_succ, List.getElem_toArray, List.getElem_cons_zero, List.getElem_cons_succ]
  · intro q3_1 q3_2 q3_3 q3_4 x K hK
    refine wpOp_step (o := _) rfl (fun K' hK' => ?_)
    replace hK' := hide hK'
    replace hK := hide hK
    go_simp
    exact unhide hK' _ _ (unhide hK)
  · intro q3_1 q3_2 q3_3 q3_4 x K hK
    refine wpOp_step (o := _) rfl (fun K' hK' => ?_)
    replace hK' := hide hK'
    replace hK := hide hK
    go_simp
    exact unhide hK' _ _ (unhide hK)
  · intro q3_1 q3_2 q3_3 q3_4 x K hK
    refine wpOp_step (o := _) rfl (fun K' hK' => ?_)
    replace hK' := hide hK'
    replace hK := hide hK
    go_simp
    exact unhide hK' _ _ (unhide hK)
  · intro q3_1 q3_2 q3_3 q3_4 x K hK
    refine wpOp_step (o := _) rfl (fun K' hK' => ?_)
    replace hK' := hide hK'
    replace hK := hide hK
    go_simp
    exact unhide hK' _ _ (unhide hK)
  clear hM hg
  intro b3_1 b3_2 b3_3 b3_4 q3_1 q3_2 q3_3 q3_4 g3_1 g3_2 g3_3 g3_4 v13_ hM _
  refine wpOp_step (o := _) rfl (fun K' hK' => ?_)
  replace hK' := hide hK'
  refine step_callw (by kernel_rfl) 52 #[.agg (kc (digs ((1 : Nat) : Int) 32))] (by kernel_rfl) ((rFrom_ok 1 (by decide) _).mono ?_)
  rintro r v14_ ⟨c4, rfl, hc4, hg⟩
  refine ⟨_, rfl, ?_⟩
  replace hc4 : NC 1 c4 := NC.same hc4 rfl
  refine unhide hK' _ _ ⟨hSf _ (hM.gr.trans hg), ?_⟩
  clear hK' K'
  simp only [nrm]
  refine stage4 v8_ #[.int .i64 0, .int .i64 0, .int .i64 0, .int .i64 0, .int .i64 0, .int .i64 0, .int .i64 0, .int .i64 0, .int .i64 0, .int .i64 0, .int .i64 0, .int .i64 0, .int .i64 0, .int .i64 0, .int .i64 0, .int .i64 0] 80 (fw4 _ 7 8 9 10) (fun b3_1 b3_2 b3_3 b3_4 => #[true, true, true, true, true, true, true, b3_1, b3_2, b3_3, b3_4, false, false, false, false]) 7 8 9 10 11 true hSf (by kernel_rfl) (fun _ _ _ _ => ⟨rfl, rfl, rfl, rfl⟩) ?_ ?_ ?_ ?_ ?_ ⟨b3_1, b3_2, b3_3, b3_4, q3_1, q3_2, q3_3, q3_4, g3_1, g3_2, g3_3, g3_4, hM.again hg rfl rfl⟩
  all_goals simp only [fw4, Act.put, List.setIfInBounds_toArray, List.set_cons_zero, List.set_cons_succ, List.getElem_toArray, List.getElem_cons_zero, List.getElem_cons_succ]
  · intro q3_1 q3_2 q3_3 q3_4 x K hK
    refine wpOp_step (o := _) rfl (fun K' hK' => ?_)
    replace hK' := hide hK'
    replace hK := hide hK
    go_simp
    exact unhide hK' _ _ (unhide hK)
  · intro q3_1 q3_2 q3_3 q3_4 x K hK
    refine wpOp_step (o := _) rfl (fun K' hK' => ?_)
    replace hK' := hide hK'
    replace hK := hide hK
    go_simp
    exact unhide hK' _ _ (unhide hK)
  · intro q3_1 q3_2 q3_3 q3_4 x K hK
    refine wpOp_step (o := _) rfl (fun K' hK' => ?_)
    replace hK' := hide hK'
    replace hK := hide hK
    go_simp
    exact unhide hK' _ _ (unhide hK)
  · intro q3_1 q3_2 q3_3 q3_4 x K hK
    refine wpOp_step (o := _) rfl (fun K' hK' => ?_)
    replace hK' := hide hK'
    replace hK := hide hK
    go_simp
    exact unhide hK' _ _ (unhide hK)
  clear hM hg
  intro b3_1 b3_2 b3_3 b3_4 q3_1 q3_2 q3_3 q3_4 g3_1 g3_2 g3_3 g3_4 v15_ hM hall
  obtain ⟨rfl, rfl, rfl, rfl⟩ := hall (by trivial)
  obtain ⟨rfl, rfl, rfl, rfl, hB'⟩ := hM.all hB
  replace hB := hB'
  clear hB' hM hall
  simp only [List.cons_append, List.nil_append] at hB
  replace hB : Bl w [⟨w.heap.size, (kc (digs (M : Int) 32)), 25⟩, ⟨w.heap.size + 1, (kc (digs (U : Int) 32)), 25⟩, ⟨w.heap.size + 1 + 1, Z32, 25⟩, ⟨g1_2, (kc (digs (cl M : Int) 32)), 25⟩, ⟨g2_2, c1, 80⟩, ⟨g3_1, (nc Zl), 80⟩, ⟨g3_2, (nc Zl), 80⟩, ⟨g3_3, (nc Zl), 80⟩, ⟨g3_4, (nc Zl), 80⟩] v15_ := hB
  refine wpOp_step (o := _) rfl (fun K' hK' => ?_)
  replace hK' := hide hK'
  rw [if_pos (by kernel_rfl)]
  refine wp_store_row 80 (.tmp 7) (.tmp 30) rfl g3_1 c2 (by kernel_rfl) (by kernel_rfl) 80 (nc Zl) (hB.get 5 (x := ⟨g3_1, (nc Zl), 80⟩) rfl) (by rw [Tryd.infoNum, NC.size _ hc2]) ((show (nc Zl).size = 16 from rfl).trans (NC.size _ hc2).symm) (NC.one _ hc2) ?_
  replace hB := hB.set 5 (x := ⟨g3_1, (nc Zl), 80⟩) rfl c2
  simp only [List.set_cons_zero, List.set_cons_succ] at hB
  refine unhide hK' _ _ ⟨⟨(hB.get 4 (x := ⟨g2_2, c1, 80⟩) rfl), trivial⟩, ?_⟩
  clear hK' K' hSf
  generalize World.setRow _ _ _ = v16_ at *
  simp only [nrm]
  refine any_one (i := 12) (by kernel_rfl) rfl (fun K hK => ?_)
  rw [if_pos (by kernel_rfl)]
  refine wp_store_row 80 (.tmp 8) (.tmp 32) rfl g3_2 c3 (by kernel_rfl) (by kernel_rfl) 80 (nc Zl) (hB.get 6 (x := ⟨g3_2, (nc Zl), 80⟩) rfl) (by rw [Tryd.infoNum, NC.size _ hc3]) ((show (nc Zl).size = 16 from rfl).trans (NC.size _ hc3).symm) (NC.one _ hc3) ?_
  replace hB := hB.set 6 (x := ⟨g3_2, (nc Zl), 80⟩) rfl c3
  simp only [List.set_cons_zero, List.set_cons_succ] at hB
  refine hK.out _ _ ⟨(hB.get 4 (x := ⟨g2_2, c1, 80⟩) rfl), trivial⟩ (fun _ => ?_)
  clear hK K
  generalize World.setRow _ _ _ = v17_ at *
  simp only [nrm]
  refine any_one (i := 13) (by kernel_rfl) rfl (fun K hK => ?_)
  rw [if_pos (by kernel_rfl)]
  refine wp_store_row 80 (.tmp 9) (.tmp 33) rfl g3_3 c1 (by kernel_rfl) (by kernel_rfl) 80 (nc Zl) (hB.get 7 (x := ⟨g3_3, (nc Zl), 80⟩) rfl) (by rw [Tryd.infoNum, NC.size _ hc1]) ((show (nc Zl).size = 16 from rfl).trans (NC.size _ hc1).symm) (NC.one _ hc1) ?_
  replace hB := hB.set 7 (x := ⟨g3_3, (nc Zl), 80⟩) rfl c1
  simp only [List.set_cons_zero, List.set_cons_succ] at hB
  refine hK.out _ _ ⟨(hB.get 4 (x := ⟨g2_2, c1, 80⟩) rfl), trivial⟩ (fun _ => ?_)
  clear hK K
  generalize World.setRow _ _ _ = v18_ at *
  simp only [nrm]
  refine any_one (i := 14) (by kernel_rfl) rfl (fun K hK => ?_)
  rw [if_pos (by kernel_rfl)]
  refine wp_store_row 80 (.tmp 10) (.tmp 35) rfl g3_4 c4 (by kernel_rfl) (by kernel_rfl) 80 (nc Zl) (hB.get 8 (x := ⟨g3_4, (nc Zl), 80⟩) rfl) (by rw [Tryd.infoNum, NC.size _ hc4]) ((show (nc Zl).size = 16 from rfl).trans (NC.size _ hc4).symm) (NC.one _ hc4) ?_
  replace hB := hB.set 8 (x := ⟨g3_4, (nc Zl), 80⟩) rfl c4
  simp only [List.set_cons_zero, List.set_cons_succ] at hB
  refine hK.out _ _ ⟨(hB.get 4 (x := ⟨g2_2, c1, 80⟩) rfl), trivial⟩ (fun _ => ?_)
  clear hK K
  generalize World.setRow _ _ _ = v19_ at *
  simp only [nrm]
  refine any_done (by kernel_rfl) ?_
  have hx1 := hc1
  go_wp2_with fail
  obtain ⟨UU, hUU⟩ : ∃ UU, UU = (U : Int) % 57896044618658097711785492504343953926634992332820282019728792003956564819968 := ⟨_, rfl⟩
  rw [← hUU] at hx1
  have s1 : Hid (NC (Ed.lad UU (Ed.hi (cl M) (255 - 255))).a c2) := hide hc2
  have s2 : Hid (NC (Ed.lad UU (Ed.hi (cl M) (255 - 255))).b c3) := hide hc3
  have s3 : Hid (NC (Ed.lad UU (Ed.hi (cl M) (255 - 255))).c c1) := hide hx1
  have s4 : Hid (NC (Ed.lad UU (Ed.hi (cl M) (255 - 255))).d c4) := hide hc4
  replace hB := hide hB
  replace hUU := hide hUU
  go_loopw [11] (fun i wr => ∃ j : Nat, ∃ x y s t : Array Value, j ≤ 255 ∧ i = .int .i64 ((j : Int) - 1) ∧ Hid (NC (Ed.lad UU (Ed.hi (cl M) (255 - j))).a x) ∧ Hid (NC (Ed.lad UU (Ed.hi (cl M) (255 - j))).b y) ∧ Hid (NC (Ed.lad UU (Ed.hi (cl M) (255 - j))).c s) ∧ Hid (NC (Ed.lad UU (Ed.hi (cl M) (255 - j))).d t) ∧ Hid (Bl w [⟨w.heap.size, (kc (digs (M : Int) 32)), 25⟩, ⟨w.heap.size + 1, (kc (digs (U : Int) 32)), 25⟩, ⟨w.heap.size + 1 + 1, Z32, 25⟩, ⟨g1_2, (kc (digs (cl M : Int) 32)), 25⟩, ⟨g2_2, c1, 80⟩, ⟨g3_1, x, 80⟩, ⟨g3_2, y, 80⟩, ⟨g3_3, s, 80⟩, ⟨g3_4, t, 80⟩] wr)) (fun i _ => (intOf i + 1).toNat)
  case atStart => exact ⟨255, _, _, _, _, by omega, rfl, s1, s2, s3, s4, hB⟩
  case round =>
  clear hB s1 s2 s3 s4
  obtain ⟨j, x, y, s, t, hj, rfl, hx, hy, hs, ht, hB⟩ := hrel
  by_cases h0 : j = 0
  · subst h0
    have e0 : ((0 : Nat) : Int) - 1 = -1 := by omega
    rw [e0]
    go_upto_region 28 with fail
    replace hB := unhide hB
    replace hx : NC (Ed.lad UU (Ed.hi (cl M) 255)).a x := unhide hx
    replace hy : NC (Ed.lad UU (Ed.hi (cl M) 255)).b y := unhide hy
    refine any_start (S := fun v => v.heap[g3_1]? = some (.cells x 80 (0, 0)) ∧ v.heap[g3_2]? = some (.cells y 80 (0, 0)) ∧ True) (by kernel_rfl) ?_
    replace hB := hB.drew
    generalize World.drew _ = v20_ at *
    simp only [List.size_toArray, List.length_cons, List.length_nil, Array.replicate, List.replicate]
    refine any_take (i := 0) (v := (.agg x)) #[false, false, false, false, false, false] rfl (by kernel_rfl) (by kernel_rfl) (by kernel_rfl) (by kernel_rfl) (fun _ _ _ h => h) (.inl ⟨by kernel_rfl, fun x_ hu => exec_arr x_ 80 (.tmp 7) rfl g3_1 (by kernel_rfl) x 80 _ hu.1 Tryd.underlying80 rfl (by rw [Tryd.infoNum, NC.size _ hx])⟩) ⟨(hB.get 5 (x := ⟨g3_1, x, 80⟩) rfl), (hB.get 6 (x := ⟨g3_2, y, 80⟩) rfl), trivial⟩ ?_
    simp only [nrm]
    refine any_take (i := 1) (v := (.agg y)) #[true, false, false, false, false, false] rfl (by kernel_rfl) (by kernel_rfl) (by kernel_rfl) (by kernel_rfl) (fun _ _ _ h => h) (.inl ⟨by kernel_rfl, fun x_ hu => exec_arr x_ 80 (.tmp 8) rfl g3_2 (by kernel_rfl) y 80 _ hu.2.1 Tryd.underlying80 rfl (by rw [Tryd.infoNum, NC.size _ hy])⟩) ⟨(hB.get 5 (x := ⟨g3_1, x, 80⟩) rfl), (hB.get 6 (x := ⟨g3_2, y, 80⟩) rfl), trivial⟩ ?_
    simp only [nrm]
    refine any_one (i := 2) (by kernel_rfl) rfl (fun K hK => ?_)
    refine step_callw (by kernel_rfl) 57 #[.agg y] (by kernel_rfl) ((ninv_nc hy _).mono ?_)
    rintro r v21_ ⟨c5, rfl, hc5, hg⟩
    refine ⟨_, rfl, ?_⟩
    replace hB := hB.more hg
    clear hg
    refine hK.out _ _ ⟨(hB.get 5 (x := ⟨g3_1, x, 80⟩) rfl), (hB.get 6 (x := ⟨g3_2, y, 80⟩) rfl), trivial⟩ (fun _ => ?_)
    clear hK K
    simp only [nrm]
    refine any_one (i := 3) (by kernel_rfl) rfl (fun K hK => ?_)
    refine step_callw (by kernel_rfl) 55 #[.agg x, .agg c5] (by kernel_rfl) ((nmul_nc hx hc5 _).mono ?_)
    rintro r v22_ ⟨c6, rfl, hc6, hg⟩
    refine ⟨_, rfl, ?_⟩
    obtain ⟨V, hV⟩ : ∃ V, V = (Ed.lad UU (Ed.hi (cl M) 255)).a * (Ed.lad UU (Ed.hi (cl M) 255)).b ^ p2 := ⟨_, rfl⟩
    rw [← hV] at hc6
    replace hV := hide hV
    replace hB := hB.more hg
    clear hg
    refine hK.out _ _ ⟨(hB.get 5 (x := ⟨g3_1, x, 80⟩) rfl), (hB.get 6 (x := ⟨g3_2, y, 80⟩) rfl), trivial⟩ (fun _ => ?_)
    clear hK K
    simp only [nrm]
    refine any_one (i := 4) (by kernel_rfl) rfl (fun K hK => ?_)
    refine step_callw (by kernel_rfl) 58 #[.agg c6] (by kernel_rfl) ((nbytes_nc hc6 _).mono ?_)
    rintro r v23_ ⟨rfl, hg⟩
    refine ⟨_, rfl, ?_⟩
    replace hB := hB.more hg
    clear hg
    refine hK.out _ _ ⟨(hB.get 5 (x := ⟨g3_1, x, 80⟩) rfl), (hB.get 6 (x := ⟨g3_2, y, 80⟩) rfl), trivial⟩ (fun _ => ?_)
    clear hK K
    simp only [nrm]
    refine any_one (i := 5) (by kernel_rfl) rfl (fun K hK => ?_)
    rw [if_pos (by kernel_rfl)]
    refine wp_store_row 25 (.tmp 4) (.tmp 121) rfl (w.heap.size + 1 + 1) (kc (digs (V % pp) 32)) (by kernel_rfl) (by kernel_rfl) 25 Z32 (hB.get 2 (x := ⟨w.heap.size + 1 + 1, Z32, 25⟩) rfl) (by rw [Tryd.infoKey, kc32]) (Z32_size.trans (kc32 (V % pp) 32).symm) (kc_one _) ?_
    replace hB := hB.set 2 (x := ⟨w.heap.size + 1 + 1, Z32, 25⟩) rfl (kc (digs (V % pp) 32))
    simp only [List.set_cons_zero, List.set_cons_succ] at hB
    refine hK.out _ _ ⟨(hB.get 5 (x := ⟨g3_1, x, 80⟩) rfl), (hB.get 6 (x := ⟨g3_2, y, 80⟩) rfl), trivial⟩ (fun _ => ?_)
    clear hK K
    generalize World.setRow _ _ _ = v24_ at *
    simp only [nrm]
    refine any_done (by kernel_rfl) ?_
    go_wp2_with fail
    refine bodyPost_ret (v := .agg (kc (digs (V % pp) 32))) (results_cell_row Tryd.results36 _ _ (w.heap.size + 1 + 1) 25 (kc (digs (V % pp) 32)) (0, 0) _ rfl (hB.get 2 (x := ⟨w.heap.size + 1 + 1, (kc (digs (V % pp) 32)), 25⟩) rfl) Tryd.underlying25 rfl (by rw [Tryd.infoKey, kc32])) rfl ⟨?_, hB.gr⟩
    rw [xN_cast, unhide hV, unhide hUU]
    rfl
  · obtain ⟨tt, rfl⟩ : ∃ tt, j = tt + 1 := ⟨j - 1, by omega⟩
    have ej : ((tt + 1 : Nat) : Int) - 1 = (tt : Int) := by omega
    rw [ej]
    have et : 255 - (tt + 1) = 254 - tt := by omega
    rw [et] at hx hy hs ht
    have hnx := lad_next UU (cl M) tt (by omega)
    rw [show 254 - tt + 1 = 255 - tt from by omega] at hnx
    replace hnx := hide hnx
    obtain ⟨S, hS⟩ : ∃ S, S = Ed.lad UU (Ed.hi (cl M) (254 - tt)) := ⟨_, rfl⟩
    rw [← hS] at hx hy hs ht hnx
    clear hS
    obtain ⟨b, hb⟩ : ∃ b, b = tt / 8 := ⟨_, rfl⟩
    obtain ⟨q, hq⟩ : ∃ q, q = tt % 8 := ⟨_, rfl⟩
    have e1 : (tt : Int) / 8 = (b : Int) := by omega
    have e2 : (tt : Int) % 8 = (q : Int) := by omega
    have e3 : (tt : Int).tdiv 8 = (b : Int) := by rw [Int.tdiv_eq_ediv_of_nonneg (by omega)]; exact e1
    have e4 : (tt : Int).tmod 8 = (q : Int) := by rw [Int.tmod_eq_emod_of_nonneg (by omega)]; exact e2
    have hb2 : b < 32 := by omega
    have hq2 : q < 8 := by omega
    have bI : (b : Int) < 32 := by omega
    have hbit := hide (key_bit (cl M) tt b q hb hq)
    replace hb := hide hb; replace hq := hide hq
    have hk := key_cell (KB.of (Bl.get (unhide hB) 3 (x := ⟨g1_2, (kc (digs (cl M : Int) 32)), 25⟩) rfl)) b hb2
    have hkb : 0 ≤ (cl M : Int) / 256 ^ b % 256 ∧ (cl M : Int) / 256 ^ b % 256 < 256 := by omega
    generalize (cl M : Int) / 256 ^ b % 256 = kb at hk hbit hkb
    have wk : wrap64 kb = kb := by simp only [wrap64]; omega
    have wk2 : IntKind.i64.wrap kb = kb := by rw [IntKind.wrap_i64]; omega
    go_wp2_with fail
    go_loopw [12, 13] (fun o i wr => ∃ k : Nat, ∃ X : Int, k ≤ q ∧ i = .int .i64 k ∧ o = .int .i64 X ∧ Hid (X = kb / 2 ^ k) ∧ Hid (Bl w [⟨w.heap.size, (kc (digs (M : Int) 32)), 25⟩, ⟨w.heap.size + 1, (kc (digs (U : Int) 32)), 25⟩, ⟨w.heap.size + 1 + 1, Z32, 25⟩, ⟨g1_2, (kc (digs (cl M : Int) 32)), 25⟩, ⟨g2_2, c1, 80⟩, ⟨g3_1, x, 80⟩, ⟨g3_2, y, 80⟩, ⟨g3_3, s, 80⟩, ⟨g3_4, t, 80⟩] wr)) (fun _ i _ => q - (intOf i).toNat)
    case atStart => exact ⟨0, kb, by omega, rfl, rfl, hide (by rw [Int.pow_zero, Int.ediv_one]), hB⟩
    case round =>
    clear hB hk
    obtain ⟨k, X, hkq, rfl, rfl, hX, hB⟩ := hrel
    have hXb : 0 ≤ X ∧ X < 256 := by
      rw [unhide hX]
      have hp : (0 : Int) < 2 ^ k := Int.pow_pos (by decide)
      exact ⟨Int.ediv_nonneg hkb.1 (Int.le_of_lt hp), Int.lt_of_le_of_lt (Int.ediv_le_self _ hkb.1) hkb.2⟩
    by_cases hkl : k < q
    · have hX2 : Hid (X / 2 = kb / 2 ^ (k + 1)) := hide (by rw [unhide hX, Int.pow_succ, Int.ediv_ediv_of_nonneg (Int.pow_nonneg (by decide))])
      have t1 : X.tdiv 2 = X / 2 := Int.tdiv_eq_ediv_of_nonneg hXb.1
      have kI : (k : Int) < (q : Int) := by omega
      go_wp2_with fail
      exact ⟨⟨k + 1, _, by omega, by go_num, rfl, hX2, hB⟩, by simp [intOf]; omega⟩
    · have e : k = q := by omega
      subst e
      have t1 : X.tmod 2 = X % 2 := Int.tmod_eq_emod_of_nonneg hXb.1
      have kI : ¬ (k : Int) < (k : Int) := by omega
      rw [← unhide hX] at hbit
      rcases (show cl M / 2 ^ tt % 2 = 1 ∨ cl M / 2 ^ tt % 2 = 0 by omega) with hbt | hbt
      · have hX1 : X % 2 = 1 := by rw [unhide hbit, hbt]; rfl
        have htb : Ed.bt (cl M) tt = true := by unfold Ed.bt; rw [hbt]; rfl
        rw [htb] at hnx
        rw [hX1] at t1
        clear hbt htb hbit hX
        go_upto_region 14 with fail
        replace hB := unhide hB; replace hx := unhide hx; replace hy := unhide hy; replace hs := unhide hs; replace ht := unhide ht
        refine wp_region_lit ?_
        refine list_val (.agg s) (by kernel_rfl) (exec_arr _ 80 (.tmp 9) rfl g3_3 (by kernel_rfl) s 80 _ (hB.get 7 (x := ⟨g3_3, s, 80⟩) rfl) Tryd.underlying80 rfl (by rw [Tryd.infoNum, NC.size _ hs])) ?_
        simp only [nrm]
        refine list_val (.agg x) (by kernel_rfl) (exec_arr _ 80 (.tmp 7) rfl g3_1 (by kernel_rfl) x 80 _ (hB.get 5 (x := ⟨g3_1, x, 80⟩) rfl) Tryd.underlying80 rfl (by rw [Tryd.infoNum, NC.size _ hx])) ?_
        simp only [nrm]
        refine list_store 80 (.tmp 7) (.tmp 57) g3_1 s 80 x (by kernel_rfl) rfl (by kernel_rfl) (by kernel_rfl) (hB.get 5 (x := ⟨g3_1, x, 80⟩) rfl) (by rw [Tryd.infoNum, NC.size _ hs]) ((NC.size _ hx).trans (NC.size _ hs).symm) (NC.one _ hs) ?_
        replace hB := hB.set 5 (x := ⟨g3_1, x, 80⟩) rfl s
        simp only [List.set_cons_zero, List.set_cons_succ] at hB
        generalize World.setRow _ _ _ = v2001_ at *
        simp only [nrm]
        refine list_store 80 (.tmp 9) (.tmp 58) g3_3 x 80 s (by kernel_rfl) rfl (by kernel_rfl) (by kernel_rfl) (hB.get 7 (x := ⟨g3_3, s, 80⟩) rfl) (by rw [Tryd.infoNum, NC.size _ hx]) ((NC.size _ hs).trans (NC.size _ hx).symm) (NC.one _ hx) ?_
        replace hB := hB.set 7 (x := ⟨g3_3, s, 80⟩) rfl x
        simp only [List.set_cons_zero, List.set_cons_succ] at hB
        generalize World.setRow _ _ _ = v2002_ at *
        simp only [nrm]
        refine wpList_nil ?_
        go_upto_region 15 with fail
        refine wp_region_lit ?_
        refine list_val (.agg t) (by kernel_rfl) (exec_arr _ 80 (.tmp 10) rfl g3_4 (by kernel_rfl) t 80 _ (hB.get 8 (x := ⟨g3_4, t, 80⟩) rfl) Tryd.underlying80 rfl (by rw [Tryd.infoNum, NC.size _ ht])) ?_
        simp only [nrm]
        refine list_val (.agg y) (by kernel_rfl) (exec_arr _ 80 (.tmp 8) rfl g3_2 (by kernel_rfl) y 80 _ (hB.get 6 (x := ⟨g3_2, y, 80⟩) rfl) Tryd.underlying80 rfl (by rw [Tryd.infoNum, NC.size _ hy])) ?_
        simp only [nrm]
        refine list_store 80 (.tmp 8) (.tmp 59) g3_2 t 80 y (by kernel_rfl) rfl (by kernel_rfl) (by kernel_rfl) (hB.get 6 (x := ⟨g3_2, y, 80⟩) rfl) (by rw [Tryd.infoNum, NC.size _ ht]) ((NC.size _ hy).trans (NC.size _ ht).symm) (NC.one _ ht) ?_
        replace hB := hB.set 6 (x := ⟨g3_2, y, 80⟩) rfl t
        simp only [List.set_cons_zero, List.set_cons_succ] at hB
        generalize World.setRow _ _ _ = v2003_ at *
        simp only [nrm]
        refine list_store 80 (.tmp 10) (.tmp 60) g3_4 y 80 t (by kernel_rfl) rfl (by kernel_rfl) (by kernel_rfl) (hB.get 8 (x := ⟨g3_4, t, 80⟩) rfl) (by rw [Tryd.infoNum, NC.size _ hy]) ((NC.size _ ht).trans (NC.size _ hy).symm) (NC.one _ hy) ?_
        replace hB := hB.set 8 (x := ⟨g3_4, t, 80⟩) rfl y
        simp only [List.set_cons_zero, List.set_cons_succ] at hB
        generalize World.setRow _ _ _ = v2004_ at *
        simp only [nrm]
        refine wpList_nil ?_
        go_upto_region 16 with fail
        refine any_start (S := fun v => v.heap[g3_1]? = some (.cells s 80 (0, 0)) ∧ v.heap[g3_2]? = some (.cells t 80 (0, 0)) ∧ v.heap[g3_3]? = some (.cells x 80 (0, 0)) ∧ v.heap[g3_4]? = some (.cells y 80 (0, 0)) ∧ True) (by kernel_rfl) ?_
        replace hB := hB.drew
        generalize World.drew _ = v2005_ at *
        simp only [List.size_toArray, List.length_cons, List.length_nil, Array.replicate, List.replicate]
        refine any_take (i := 0) (v := (.agg s)) #[false, false, false, false, false, false, false, false, false, false, false, false, false, false, false, false, false, false, false, false] rfl (by kernel_rfl) (by kernel_rfl) (by kernel_rfl) (by kernel_rfl) (fun _ _ _ h => h) (.inl ⟨by kernel_rfl, fun x_ hu => exec_arr x_ 80 (.tmp 7) rfl g3_1 (by kernel_rfl) s 80 _ hu.1 Tryd.underlying80 rfl (by rw [Tryd.infoNum, NC.size _ hs])⟩) ⟨(hB.get 5 (x := ⟨g3_1, s, 80⟩) rfl), (hB.get 6 (x := ⟨g3_2, t, 80⟩) rfl), (hB.get 7 (x := ⟨g3_3, x, 80⟩) rfl), (hB.get 8 (x := ⟨g3_4, y, 80⟩) rfl), trivial⟩ ?_
        simp only [nrm]
        refine any_take (i := 1) (v := (.agg t)) #[true, false, false, false, false, false, false, false, false, false, false, false, false, false, false, false, false, false, false, false] rfl (by kernel_rfl) (by kernel_rfl) (by kernel_rfl) (by kernel_rfl) (fun _ _ _ h => h) (.inl ⟨by kernel_rfl, fun x_ hu => exec_arr x_ 80 (.tmp 8) rfl g3_2 (by kernel_rfl) t 80 _ hu.2.1 Tryd.underlying80 rfl (by rw [Tryd.infoNum, NC.size _ ht])⟩) ⟨(hB.get 5 (x := ⟨g3_1, s, 80⟩) rfl), (hB.get 6 (x := ⟨g3_2, t, 80⟩) rfl), (hB.get 7 (x := ⟨g3_3, x, 80⟩) rfl), (hB.get 8 (x := ⟨g3_4, y, 80⟩) rfl), trivial⟩ ?_
        simp only [nrm]
        refine any_take (i := 3) (v := (.agg s)) #[true, true, false, false, false, false, false, false, false, false, false, false, false, false, false, false, false, false, false, false] rfl (by kernel_rfl) (by kernel_rfl) (by kernel_rfl) (by kernel_rfl) (fun _ _ _ h => h) (.inl ⟨by kernel_rfl, fun x_ hu => exec_arr x_ 80 (.tmp 7) rfl g3_1 (by kernel_rfl) s 80 _ hu.1 Tryd.underlying80 rfl (by rw [Tryd.infoNum, NC.size _ hs])⟩) ⟨(hB.get 5 (x := ⟨g3_1, s, 80⟩) rfl), (hB.get 6 (x := ⟨g3_2, t, 80⟩) rfl), (hB.get 7 (x := ⟨g3_3, x, 80⟩) rfl), (hB.get 8 (x := ⟨g3_4, y, 80⟩) rfl), trivial⟩ ?_
        simp only [nrm]
        refine any_take (i := 4) (v := (.agg t)) #[true, true, false, true, false, false, false, false, false, false, false, false, false, false, false, false, false, false, false, false] rfl (by kernel_rfl) (by kernel_rfl) (by kernel_rfl) (by kernel_rfl) (fun _ _ _ h => h) (.inl ⟨by kernel_rfl, fun x_ hu => exec_arr x_ 80 (.tmp 8) rfl g3_2 (by kernel_rfl) t 80 _ hu.2.1 Tryd.underlying80 rfl (by rw [Tryd.infoNum, NC.size _ ht])⟩) ⟨(hB.get 5 (x := ⟨g3_1, s, 80⟩) rfl), (hB.get 6 (x := ⟨g3_2, t, 80⟩) rfl), (hB.get 7 (x := ⟨g3_3, x, 80⟩) rfl), (hB.get 8 (x := ⟨g3_4, y, 80⟩) rfl), trivial⟩ ?_
        simp only [nrm]
        refine any_take (i := 6) (v := (.agg x)) #[true, true, false, true, true, false, false, false, false, false, false, false, false, false, false, false, false, false, false, false] rfl (by kernel_rfl) (by kernel_rfl) (by kernel_rfl) (by kernel_rfl) (fun _ _ _ h => h) (.inl ⟨by kernel_rfl, fun x_ hu => exec_arr x_ 80 (.tmp 9) rfl g3_3 (by kernel_rfl) x 80 _ hu.2.2.1 Tryd.underlying80 rfl (by rw [Tryd.infoNum, NC.size _ hx])⟩) ⟨(hB.get 5 (x := ⟨g3_1, s, 80⟩) rfl), (hB.get 6 (x := ⟨g3_2, t, 80⟩) rfl), (hB.get 7 (x := ⟨g3_3, x, 80⟩) rfl), (hB.get 8 (x := ⟨g3_4, y, 80⟩) rfl), trivial⟩ ?_
        simp only [nrm]
        refine any_take (i := 7) (v := (.agg y)) #[true, true, false, true, true, false, true, false, false, false, false, false, false, false, false, false, false, false, false, false] rfl (by kernel_rfl) (by kernel_rfl) (by kernel_rfl) (by kernel_rfl) (fun _ _ _ h => h) (.inl ⟨by kernel_rfl, fun x_ hu => exec_arr x_ 80 (.tmp 10) rfl g3_4 (by kernel_rfl) y 80 _ hu.2.2.2.1 Tryd.underlying80 rfl (by rw [Tryd.infoNum, NC.size _ hy])⟩) ⟨(hB.get 5 (x := ⟨g3_1, s, 80⟩) rfl), (hB.get 6 (x := ⟨g3_2, t, 80⟩) rfl), (hB.get 7 (x := ⟨g3_3, x, 80⟩) rfl), (hB.get 8 (x := ⟨g3_4, y, 80⟩) rfl), trivial⟩ ?_
        simp only [nrm]
        refine any_take (i := 9) (v := (.agg x)) #[true, true, false, true, true, false, true, true, false, false, false, false, false, false, false, false, false, false, false, false] rfl (by kernel_rfl) (by kernel_rfl) (by kernel_rfl) (by kernel_rfl) (fun _ _ _ h => h) (.inl ⟨by kernel_rfl, fun x_ hu => exec_arr x_ 80 (.tmp 9) rfl g3_3 (by kernel_rfl) x 80 _ hu.2.2.1 Tryd.underlying80 rfl (by rw [Tryd.infoNum, NC.size _ hx])⟩) ⟨(hB.get 5 (x := ⟨g3_1, s, 80⟩) rfl), (hB.get 6 (x := ⟨g3_2, t, 80⟩) rfl), (hB.get 7 (x := ⟨g3_3, x, 80⟩) rfl), (hB.get 8 (x := ⟨g3_4, y, 80⟩) rfl), trivial⟩ ?_
        simp only [nrm]
        refine any_take (i := 10) (v := (.agg y)) #[true, true, false, true, true, false, true, true, false, true, false, false, false, false, false, false, false, false, false, false] rfl (by kernel_rfl) (by kernel_rfl) (by kernel_rfl) (by kernel_rfl) (fun _ _ _ h => h) (.inl ⟨by kernel_rfl, fun x_ hu => exec_arr x_ 80 (.tmp 10) rfl g3_4 (by kernel_rfl) y 80 _ hu.2.2.2.1 Tryd.underlying80 rfl (by rw [Tryd.infoNum, NC.size _ hy])⟩) ⟨(hB.get 5 (x := ⟨g3_1, s, 80⟩) rfl), (hB.get 6 (x := ⟨g3_2, t, 80⟩) rfl), (hB.get 7 (x := ⟨g3_3, x, 80⟩) rfl), (hB.get 8 (x := ⟨g3_4, y, 80⟩) rfl), trivial⟩ ?_
        simp only [nrm]
        have hSf : ∀ v, Gr v2005_ v → (fun v => v.heap[g3_1]? = some (.cells s 80 (0, 0)) ∧ v.heap[g3_2]? = some (.cells t 80 (0, 0)) ∧ v.heap[g3_3]? = some (.cells x 80 (0, 0)) ∧ v.heap[g3_4]? = some (.cells y 80 (0, 0)) ∧ True) v := fun v k => ⟨k.blk (hB.get 5 (x := ⟨g3_1, s, 80⟩) rfl), k.blk (hB.get 6 (x := ⟨g3_2, t, 80⟩) rfl), k.blk (hB.get 7 (x := ⟨g3_3, x, 80⟩) rfl), k.blk (hB.get 8 (x := ⟨g3_4, y, 80⟩) rfl), trivial⟩
        refine stage4 v2005_ #[.int .i64 0, .int .i64 0, .int .i64 0, .int .i64 0, .int .i64 0, .int .i64 0, .int .i64 0, .int .i64 0, .int .i64 0, .int .i64 0, .int .i64 0, .int .i64 0, .int .i64 0, .int .i64 0, .int .i64 0, .int .i64 0] 80 (fw4 _ 14 15 16 17) (fun b16_1 b16_2 b16_3 b16_4 => #[true, true, false, true, true, false, true, true, false, true, true, false, b16_1, b16_2, b16_3, b16_4, false, false, false, false]) 12 13 14 15 2 false hSf (by kernel_rfl) (fun _ _ _ _ => ⟨rfl, rfl, rfl, rfl⟩) ?_ ?_ ?_ ?_ ?_ (M4.first (fun b16_1 b16_2 b16_3 b16_4 => #[true, true, false, true, true, false, true, true, false, true, true, false, b16_1, b16_2, b16_3, b16_4, false, false, false, false]) _ rfl rfl)
        all_goals simp only [fw4, Act.put, List.setIfInBounds_toArray, List.set_cons_zero, List.set_cons_succ, List.getElem_toArray, List.getElem_cons_zero, List.getElem_cons_succ]
        · intro q16_1 q16_2 q16_3 q16_4 x K hK
          refine wpOp_step (o := _) rfl (fun K' hK' => ?_)
          replace hK' := hide hK'
          replace hK := hide hK
          go_simp
          exact unhide hK' _ _ (unhide hK)
        · intro q16_1 q16_2 q16_3 q16_4 x K hK
          refine wpOp_step (o := _) rfl (fun K' hK' => ?_)
          replace hK' := hide hK'
          replace hK := hide hK
          go_simp
          exact unhide hK' _ _ (unhide hK)
        · intro q16_1 q16_2 q16_3 q16_4 x K hK
          refine wpOp_step (o := _) rfl (fun K' hK' => ?_)
          replace hK' := hide hK'
          replace hK := hide hK
          go_simp
          exact unhide hK' _ _ (unhide hK)
        · intro q16_1 q16_2 q16_3 q16_4 x K hK
          refine wpOp_step (o := _) rfl (fun K' hK' => ?_)
          replace hK' := hide hK'
          replace hK := hide hK
          go_simp
          exact unhide hK' _ _ (unhide hK)
        intro b16_1 b16_2 b16_3 b16_4 q16_1 q16_2 q16_3 q16_4 g16_1 g16_2 g16_3 g16_4 v2006_ hM _
        refine wpOp_step (o := _) rfl (fun K' hK' => ?_)
        replace hK' := hide hK'
        refine step_callw (by kernel_rfl) 53 #[.agg s, .agg t] (by kernel_rfl) ((nadd_nc hs ht _).mono ?_)
        rintro r v2007_ ⟨c2001, rfl, hc2001, hg⟩
        refine ⟨_, rfl, ?_⟩
        refine unhide hK' _ _ ⟨hSf _ (hM.gr.trans hg), ?_⟩
        clear hK' K'
        simp only [nrm]
        refine stage4 v2005_ #[.int .i64 0, .int .i64 0, .int .i64 0, .int .i64 0, .int .i64 0, .int .i64 0, .int .i64 0, .int .i64 0, .int .i64 0, .int .i64 0, .int .i64 0, .int .i64 0, .int .i64 0, .int .i64 0, .int .i64 0, .int .i64 0] 80 (fw4 _ 14 15 16 17) (fun b16_1 b16_2 b16_3 b16_4 => #[true, true, true, true, true, false, true, true, false, true, true, false, b16_1, b16_2, b16_3, b16_4, false, false, false, false]) 12 13 14 15 5 false hSf (by kernel_rfl) (fun _ _ _ _ => ⟨rfl, rfl, rfl, rfl⟩) ?_ ?_ ?_ ?_ ?_ ⟨b16_1, b16_2, b16_3, b16_4, q16_1, q16_2, q16_3, q16_4, g16_1, g16_2, g16_3, g16_4, hM.again hg rfl rfl⟩
        all_goals simp only [fw4, Act.put, List.setIfInBounds_toArray, List.set_cons_zero, List.set_cons_succ, List.getElem_toArray, List.getElem_cons_zero, List.getElem_cons_succ]
        · intro q16_1 q16_2 q16_3 q16_4 x K hK
          refine wpOp_step (o := _) rfl (fun K' hK' => ?_)
          replace hK' := hide hK'
          replace hK := hide hK
          go_simp
          exact unhide hK' _ _ (unhide hK)
        · intro q16_1 q16_2 q16_3 q16_4 x K hK
          refine wpOp_step (o := _) rfl (fun K' hK' => ?_)
          replace hK' := hide hK'
          replace hK := hide hK
          go_simp
          exact unhide hK' _ _ (unhide hK)
        · intro q16_1 q16_2 q16_3 q16_4 x K hK
          refine wpOp_step (o := _) rfl (fun K' hK' => ?_)
          replace hK' := hide hK'
          replace hK := hide hK
          go_simp
          exact unhide hK' _ _ (unhide hK)
        · intro q16_1 q16_2 q16_3 q16_4 x K hK
          refine wpOp_step (o := _) rfl (fun K' hK' => ?_)
          replace hK' := hide hK'
          replace hK := hide hK
          go_simp
          exact unhide hK' _ _ (unhide hK)
        clear hM hg
        intro b16_1 b16_2 b16_3 b16_4 q16_1 q16_2 q16_3 q16_4 g16_1 g16_2 g16_3 g16_4 v2008_ hM _
        refine wpOp_step (o := _) rfl (fun K' hK' => ?_)
        replace hK' := hide hK'
        refine step_callw (by kernel_rfl) 54 #[.agg s, .agg t] (by kernel_rfl) ((nsub_nc hs ht _).mono ?_)
        rintro r v2009_ ⟨c2002, rfl, hc2002, hg⟩
        refine ⟨_, rfl, ?_⟩
        refine unhide hK' _ _ ⟨hSf _ (hM.gr.trans hg), ?_⟩
        clear hK' K'
        simp only [nrm]
        refine stage4 v2005_ #[.int .i64 0, .int .i64 0, .int .i64 0, .int .i64 0, .int .i64 0, .int .i64 0, .int .i64 0, .int .i64 0, .int .i64 0, .int .i64 0, .int .i64 0, .int .i64 0, .int .i64 0, .int .i64 0, .int .i64 0, .int .i64 0] 80 (fw4 _ 14 15 16 17) (fun b16_1 b16_2 b16_3 b16_4 => #[true, true, true, true, true, true, true, true, false, true, true, false, b16_1, b16_2, b16_3, b16_4, false, false, false, false]) 12 13 14 15 8 false hSf (by kernel_rfl) (fun _ _ _ _ => ⟨rfl, rfl, rfl, rfl⟩) ?_ ?_ ?_ ?_ ?_ ⟨b16_1, b16_2, b16_3, b16_4, q16_1, q16_2, q16_3, q16_4, g16_1, g16_2, g16_3, g16_4, hM.again hg rfl rfl⟩
        all_goals simp only [fw4, Act.put, List.setIfInBounds_toArray, List.set_cons_zero, List.set_cons_succ, List.getElem_toArray, List.getElem_cons_zero, List.getElem_cons_succ]
        · intro q16_1 q16_2 q16_3 q16_4 x K hK
          refine wpOp_step (o := _) rfl (fun K' hK' => ?_)
          replace hK' := hide hK'
          replace hK := hide hK
          go_simp
          exact unhide hK' _ _ (unhide hK)
        · intro q16_1 q16_2 q16_3 q16_4 x K hK
          refine wpOp_step (o := _) rfl (fun K' hK' => ?_)
          replace hK' := hide hK'
          replace hK := hide hK
          go_simp
          exact unhide hK' _ _ (unhide hK)
        · intro q16_1 q16_2 q16_3 q16_4 x K hK
          refine wpOp_step (o := _) rfl (fun K' hK' => ?_)
          replace hK' := hide hK'
          replace hK := hide hK
          go_simp
          exact unhide hK' _ _ (unhide hK)
        · intro q16_1 q16_2 q16_3 q16_4 x K hK
          refine wpOp_step (o := _) rfl (fun K' hK' => ?_)
          replace hK' := hide hK'
          replace hK := hide hK
          go_simp
          exact unhide hK' _ _ (unhide hK)
        clear hM hg
        intro b16_1 b16_2 b16_3 b16_4 q16_1 q16_2 q16_3 q16_4 g16_1 g16_2 g16_3 g16_4 v2010_ hM _
        refine wpOp_step (o := _) rfl (fun K' hK' => ?_)
        replace hK' := hide hK'
        refine step_callw (by kernel_rfl) 53 #[.agg x, .agg y] (by kernel_rfl) ((nadd_nc hx hy _).mono ?_)
        rintro r v2011_ ⟨c2003, rfl, hc2003, hg⟩
        refine ⟨_, rfl, ?_⟩
        refine unhide hK' _ _ ⟨hSf _ (hM.gr.trans hg), ?_⟩
        clear hK' K'
        simp only [nrm]
        refine stage4 v2005_ #[.int .i64 0, .int .i64 0, .int .i64 0, .int .i64 0, .int .i64 0, .int .i64 0, .int .i64 0, .int .i64 0, .int .i64 0, .int .i64 0, .int .i64 0, .int .i64 0, .int .i64 0, .int .i64 0, .int .i64 0, .int .i64 0] 80 (fw4 _ 14 15 16 17) (fun b16_1 b16_2 b16_3 b16_4 => #[true, true, true, true, true, true, true, true, true, true, true, false, b16_1, b16_2, b16_3, b16_4, false, false, false, false]) 12 13 14 15 11 false hSf (by kernel_rfl) (fun _ _ _ _ => ⟨rfl, rfl, rfl, rfl⟩) ?_ ?_ ?_ ?_ ?_ ⟨b16_1, b16_2, b16_3, b16_4, q16_1, q16_2, q16_3, q16_4, g16_1, g16_2, g16_3, g16_4, hM.again hg rfl rfl⟩
        all_goals simp only [fw4, Act.put, List.setIfInBounds_toArray, List.set_cons_zero, List.set_cons_succ, List.getElem_toArray, List.getElem_cons_zero, List.getElem_cons_succ]
        · intro q16_1 q16_2 q16_3 q16_4 x K hK
          refine wpOp_step (o := _) rfl (fun K' hK' => ?_)
          replace hK' := hide hK'
          replace hK := hide hK
          go_simp
          exact unhide hK' _ _ (unhide hK)
        · intro q16_1 q16_2 q16_3 q16_4 x K hK
          refine wpOp_step (o := _) rfl (fun K' hK' => ?_)
          replace hK' := hide hK'
          replace hK := hide hK
          go_simp
          exact unhide hK' _ _ (unhide hK)
        · intro q16_1 q16_2 q16_3 q16_4 x K hK
          refine wpOp_step (o := _) rfl (fun K' hK' => ?_)
          replace hK' := hide hK'
          replace hK := hide hK
          go_simp
          exact unhide hK' _ _ (unhide hK)
        · intro q16_1 q16_2 q16_3 q16_4 x K hK
          refine wpOp_step (o := _) rfl (fun K' hK' => ?_)
          replace hK' := hide hK'
          replace hK := hide hK
          go_simp
          exact unhide hK' _ _ (unhide hK)
        clear hM hg
        intro b16_1 b16_2 b16_3 b16_4 q16_1 q16_2 q16_3 q16_4 g16_1 g16_2 g16_3 g16_4 v2012_ hM _
        refine wpOp_step (o := _) rfl (fun K' hK' => ?_)
        replace hK' := hide hK'
        refine step_callw (by kernel_rfl) 54 #[.agg x, .agg y] (by kernel_rfl) ((nsub_nc hx hy _).mono ?_)
        rintro r v2013_ ⟨c2004, rfl, hc2004, hg⟩
        refine ⟨_, rfl, ?_⟩
        refine unhide hK' _ _ ⟨hSf _ (hM.gr.trans hg), ?_⟩
        clear hK' K'
        simp only [nrm]
        refine stage4 v2005_ #[.int .i64 0, .int .i64 0, .int .i64 0, .int .i64 0, .int .i64 0, .int .i64 0, .int .i64 0, .int .i64 0, .int .i64 0, .int .i64 0, .int .i64 0, .int .i64 0, .int .i64 0, .int .i64 0, .int .i64 0, .int .i64 0] 80 (fw4 _ 14 15 16 17) (fun b16_1 b16_2 b16_3 b16_4 => #[true, true, true, true, true, true, true, true, true, true, true, true, b16_1, b16_2, b16_3, b16_4, false, false, false, false]) 12 13 14 15 16 true hSf (by kernel_rfl) (fun _ _ _ _ => ⟨rfl, rfl, rfl, rfl⟩) ?_ ?_ ?_ ?_ ?_ ⟨b16_1, b16_2, b16_3, b16_4, q16_1, q16_2, q16_3, q16_4, g16_1, g16_2, g16_3, g16_4, hM.again hg rfl rfl⟩
        all_goals simp only [fw4, Act.put, List.setIfInBounds_toArray, List.set_cons_zero, List.set_cons_succ, List.getElem_toArray, List.getElem_cons_zero, List.getElem_cons_succ]
        · intro q16_1 q16_2 q16_3 q16_4 x K hK
          refine wpOp_step (o := _) rfl (fun K' hK' => ?_)
          replace hK' := hide hK'
          replace hK := hide hK
          go_simp
          exact unhide hK' _ _ (unhide hK)
        · intro q16_1 q16_2 q16_3 q16_4 x K hK
          refine wpOp_step (o := _) rfl (fun K' hK' => ?_)
          replace hK' := hide hK'
          replace hK := hide hK
          go_simp
          exact unhide hK' _ _ (unhide hK)
        · intro q16_1 q16_2 q16_3 q16_4 x K hK
          refine wpOp_step (o := _) rfl (fun K' hK' => ?_)
          replace hK' := hide hK'
          replace hK := hide hK
          go_simp
          exact unhide hK' _ _ (unhide hK)
        · intro q16_1 q16_2 q16_3 q16_4 x K hK
          refine wpOp_step (o := _) rfl (fun K' hK' => ?_)
          replace hK' := hide hK'
          replace hK := hide hK
          go_simp
          exact unhide hK' _ _ (unhide hK)
        clear hM hg
        intro b16_1 b16_2 b16_3 b16_4 q16_1 q16_2 q16_3 q16_4 g16_1 g16_2 g16_3 g16_4 v2014_ hM hall
        obtain ⟨rfl, rfl, rfl, rfl⟩ := hall (by trivial)
        obtain ⟨rfl, rfl, rfl, rfl, hB'⟩ := hM.all hB
        replace hB := hB'
        clear hB' hM hall
        simp only [List.cons_append, List.nil_append] at hB
        replace hB : Bl w [⟨w.heap.size, (kc (digs (M : Int) 32)), 25⟩, ⟨w.heap.size + 1, (kc (digs (U : Int) 32)), 25⟩, ⟨w.heap.size + 1 + 1, Z32, 25⟩, ⟨g1_2, (kc (digs (cl M : Int) 32)), 25⟩, ⟨g2_2, c1, 80⟩, ⟨g3_1, s, 80⟩, ⟨g3_2, t, 80⟩, ⟨g3_3, x, 80⟩, ⟨g3_4, y, 80⟩, ⟨g16_1, (nc Zl), 80⟩, ⟨g16_2, (nc Zl), 80⟩, ⟨g16_3, (nc Zl), 80⟩, ⟨g16_4, (nc Zl), 80⟩] v2014_ := hB
        refine wpOp_step (o := _) rfl (fun K' hK' => ?_)
        replace hK' := hide hK'
        rw [if_pos (by kernel_rfl)]
        refine wp_store_row 80 (.tmp 14) (.tmp 63) rfl g16_1 c2001 (by kernel_rfl) (by kernel_rfl) 80 (nc Zl) (hB.get 9 (x := ⟨g16_1, (nc Zl), 80⟩) rfl) (by rw [Tryd.infoNum, NC.size _ hc2001]) ((show (nc Zl).size = 16 from rfl).trans (NC.size _ hc2001).symm) (NC.one _ hc2001) ?_
        replace hB := hB.set 9 (x := ⟨g16_1, (nc Zl), 80⟩) rfl c2001
        simp only [List.set_cons_zero, List.set_cons_succ] at hB
        refine unhide hK' _ _ ⟨⟨(hB.get 5 (x := ⟨g3_1, s, 80⟩) rfl), (hB.get 6 (x := ⟨g3_2, t, 80⟩) rfl), (hB.get 7 (x := ⟨g3_3, x, 80⟩) rfl), (hB.get 8 (x := ⟨g3_4, y, 80⟩) rfl), trivial⟩, ?_⟩
        clear hK' K' hSf
        generalize World.setRow _ _ _ = v2015_ at *
        simp only [nrm]
        refine any_one (i := 17) (by kernel_rfl) rfl (fun K hK => ?_)
        rw [if_pos (by kernel_rfl)]
        refine wp_store_row 80 (.tmp 15) (.tmp 66) rfl g16_2 c2002 (by kernel_rfl) (by kernel_rfl) 80 (nc Zl) (hB.get 10 (x := ⟨g16_2, (nc Zl), 80⟩) rfl) (by rw [Tryd.infoNum, NC.size _ hc2002]) ((show (nc Zl).size = 16 from rfl).trans (NC.size _ hc2002).symm) (NC.one _ hc2002) ?_
        replace hB := hB.set 10 (x := ⟨g16_2, (nc Zl), 80⟩) rfl c2002
        simp only [List.set_cons_zero, List.set_cons_succ] at hB
        refine hK.out _ _ ⟨(hB.get 5 (x := ⟨g3_1, s, 80⟩) rfl), (hB.get 6 (x := ⟨g3_2, t, 80⟩) rfl), (hB.get 7 (x := ⟨g3_3, x, 80⟩) rfl), (hB.get 8 (x := ⟨g3_4, y, 80⟩) rfl), trivial⟩ (fun _ => ?_)
        clear hK K
        generalize World.setRow _ _ _ = v2016_ at *
        simp only [nrm]
        refine any_one (i := 18) (by kernel_rfl) rfl (fun K hK => ?_)
        rw [if_pos (by kernel_rfl)]
        refine wp_store_row 80 (.tmp 16) (.tmp 69) rfl g16_3 c2003 (by kernel_rfl) (by kernel_rfl) 80 (nc Zl) (hB.get 11 (x := ⟨g16_3, (nc Zl), 80⟩) rfl) (by rw [Tryd.infoNum, NC.size _ hc2003]) ((show (nc Zl).size = 16 from rfl).trans (NC.size _ hc2003).symm) (NC.one _ hc2003) ?_
        replace hB := hB.set 11 (x := ⟨g16_3, (nc Zl), 80⟩) rfl c2003
        simp only [List.set_cons_zero, List.set_cons_succ] at hB
        refine hK.out _ _ ⟨(hB.get 5 (x := ⟨g3_1, s, 80⟩) rfl), (hB.get 6 (x := ⟨g3_2, t, 80⟩) rfl), (hB.get 7 (x := ⟨g3_3, x, 80⟩) rfl), (hB.get 8 (x := ⟨g3_4, y, 80⟩) rfl), trivial⟩ (fun _ => ?_)
        clear hK K
        generalize World.setRow _ _ _ = v2017_ at *
        simp only [nrm]
        refine any_one (i := 19) (by kernel_rfl) rfl (fun K hK => ?_)
        rw [if_pos (by kernel_rfl)]
        refine wp_store_row 80 (.tmp 17) (.tmp 72) rfl g16_4 c2004 (by kernel_rfl) (by kernel_rfl) 80 (nc Zl) (hB.get 12 (x := ⟨g16_4, (nc Zl), 80⟩) rfl) (by rw [Tryd.infoNum, NC.size _ hc2004]) ((show (nc Zl).size = 16 from rfl).trans (NC.size _ hc2004).symm) (NC.one _ hc2004) ?_
        replace hB := hB.set 12 (x := ⟨g16_4, (nc Zl), 80⟩) rfl c2004
        simp only [List.set_cons_zero, List.set_cons_succ] at hB
        refine hK.out _ _ ⟨(hB.get 5 (x := ⟨g3_1, s, 80⟩) rfl), (hB.get 6 (x := ⟨g3_2, t, 80⟩) rfl), (hB.get 7 (x := ⟨g3_3, x, 80⟩) rfl), (hB.get 8 (x := ⟨g3_4, y, 80⟩) rfl), trivial⟩ (fun _ => ?_)
        clear hK K
        generalize World.setRow _ _ _ = v2018_ at *
        simp only [nrm]
        refine any_done (by kernel_rfl) ?_
        go_upto_region 17 with fail
        refine any_start (S := fun v => v.heap[g16_1]? = some (.cells c2001 80 (0, 0)) ∧ v.heap[g16_2]? = some (.cells c2002 80 (0, 0)) ∧ True) (by kernel_rfl) ?_
        replace hB := hB.drew
        generalize World.drew _ = v2019_ at *
        simp only [List.size_toArray, List.length_cons, List.length_nil, Array.replicate, List.replicate]
        refine any_take (i := 0) (v := (.agg c2001)) #[false, false, false, false, false, false, false, false, false, false] rfl (by kernel_rfl) (by kernel_rfl) (by kernel_rfl) (by kernel_rfl) (fun _ _ _ h => h) (.inl ⟨by kernel_rfl, fun x_ hu => exec_arr x_ 80 (.tmp 14) rfl g16_1 (by kernel_rfl) c2001 80 _ hu.1 Tryd.underlying80 rfl (by rw [Tryd.infoNum, NC.size _ hc2001])⟩) ⟨(hB.get 9 (x := ⟨g16_1, c2001, 80⟩) rfl), (hB.get 10 (x := ⟨g16_2, c2002, 80⟩) rfl), trivial⟩ ?_
        simp only [nrm]
        refine any_take (i := 1) (v := (.agg c2001)) #[true, false, false, false, false, false, false, false, false, false] rfl (by kernel_rfl) (by kernel_rfl) (by kernel_rfl) (by kernel_rfl) (fun _ _ _ h => h) (.inl ⟨by kernel_rfl, fun x_ hu => exec_arr x_ 80 (.tmp 14) rfl g16_1 (by kernel_rfl) c2001 80 _ hu.1 Tryd.underlying80 rfl (by rw [Tryd.infoNum, NC.size _ hc2001])⟩) ⟨(hB.get 9 (x := ⟨g16_1, c2001, 80⟩) rfl), (hB.get 10 (x := ⟨g16_2, c2002, 80⟩) rfl), trivial⟩ ?_
        simp only [nrm]
        refine any_take (i := 3) (v := (.agg c2002)) #[true, true, false, false, false, false, false, false, false, false] rfl (by kernel_rfl) (by kernel_rfl) (by kernel_rfl) (by kernel_rfl) (fun _ _ _ h => h) (.inl ⟨by kernel_rfl, fun x_ hu => exec_arr x_ 80 (.tmp 15) rfl g16_2 (by kernel_rfl) c2002 80 _ hu.2.1 Tryd.underlying80 rfl (by rw [Tryd.infoNum, NC.size _ hc2002])⟩) ⟨(hB.get 9 (x := ⟨g16_1, c2001, 80⟩) rfl), (hB.get 10 (x := ⟨g16_2, c2002, 80⟩) rfl), trivial⟩ ?_
        simp only [nrm]
        refine any_take (i := 4) (v := (.agg c2002)) #[true, true, false, true, false, false, false, false, false, false] rfl (by kernel_rfl) (by kernel_rfl) (by kernel_rfl) (by kernel_rfl) (fun _ _ _ h => h) (.inl ⟨by kernel_rfl, fun x_ hu => exec_arr x_ 80 (.tmp 15) rfl g16_2 (by kernel_rfl) c2002 80 _ hu.2.1 Tryd.underlying80 rfl (by rw [Tryd.infoNum, NC.size _ hc2002])⟩) ⟨(hB.get 9 (x := ⟨g16_1, c2001, 80⟩) rfl), (hB.get 10 (x := ⟨g16_2, c2002, 80⟩) rfl), trivial⟩ ?_
        simp only [nrm]
        have hSf : ∀ v, Gr v2019_ v → (fun v => v.heap[g16_1]? = some (.cells c2001 80 (0, 0)) ∧ v.heap[g16_2]? = some (.cells c2002 80 (0, 0)) ∧ True) v := fun v k => ⟨k.blk (hB.get 9 (x := ⟨g16_1, c2001, 80⟩) rfl), k.blk (hB.get 10 (x := ⟨g16_2, c2002, 80⟩) rfl), trivial⟩
        refine stage2 v2019_ #[.int .i64 0, .int .i64 0, .int .i64 0, .int .i64 0, .int .i64 0, .int .i64 0, .int .i64 0, .int .i64 0, .int .i64 0, .int .i64 0, .int .i64 0, .int .i64 0, .int .i64 0, .int .i64 0, .int .i64 0, .int .i64 0] 80 (fw2 _ 18 19) (fun b17_1 b17_2 => #[true, true, false, true, true, false, b17_1, b17_2, false, false]) 6 7 2 false hSf (by kernel_rfl) (fun _ _ => ⟨rfl, rfl⟩) ?_ ?_ ?_ (M2.first (fun b17_1 b17_2 => #[true, true, false, true, true, false, b17_1, b17_2, false, false]) _ rfl rfl)
        all_goals simp only [fw2, Act.put, List.setIfInBounds_toArray, List.set_cons_zero, List.set_cons_succ, List.getElem_toArray, List.getElem_cons_zero, List.getElem_cons_succ]
        · intro q17_1 q17_2 x K hK
          refine wpOp_step (o := _) rfl (fun K' hK' => ?_)
          replace hK' := hide hK'
          replace hK := hide hK
          go_simp
          exact unhide hK' _ _ (unhide hK)
        · intro q17_1 q17_2 x K hK
          refine wpOp_step (o := _) rfl (fun K' hK' => ?_)
          replace hK' := hide hK'
          replace hK := hide hK
          go_simp
          exact unhide hK' _ _ (unhide hK)
        intro b17_1 b17_2 q17_1 q17_2 g17_1 g17_2 v2020_ hM _
        refine wpOp_step (o := _) rfl (fun K' hK' => ?_)
        replace hK' := hide hK'
        refine step_callw (by kernel_rfl) 55 #[.agg c2001, .agg c2001] (by kernel_rfl) ((nmul_nc hc2001 hc2001 _).mono ?_)
        rintro r v2021_ ⟨c2005, rfl, hc2005, hg⟩
        refine ⟨_, rfl, ?_⟩
        refine unhide hK' _ _ ⟨hSf _ (hM.gr.trans hg), ?_⟩
        clear hK' K'
        simp only [nrm]
        refine stage2 v2019_ #[.int .i64 0, .int .i64 0, .int .i64 0, .int .i64 0, .int .i64 0, .int .i64 0, .int .i64 0, .int .i64 0, .int .i64 0, .int .i64 0, .int .i64 0, .int .i64 0, .int .i64 0, .int .i64 0, .int .i64 0, .int .i64 0] 80 (fw2 _ 18 19) (fun b17_1 b17_2 => #[true, true, true, true, true, false, b17_1, b17_2, false, false]) 6 7 5 false hSf (by kernel_rfl) (fun _ _ => ⟨rfl, rfl⟩) ?_ ?_ ?_ ⟨b17_1, b17_2, q17_1, q17_2, g17_1, g17_2, hM.again hg rfl rfl⟩
        all_goals simp only [fw2, Act.put, List.setIfInBounds_toArray, List.set_cons_zero, List.set_cons_succ, List.getElem_toArray, List.getElem_cons_zero, List.getElem_cons_succ]
        · intro q17_1 q17_2 x K hK
          refine wpOp_step (o := _) rfl (fun K' hK' => ?_)
          replace hK' := hide hK'
          replace hK := hide hK
          go_simp
          exact unhide hK' _ _ (unhide hK)
        · intro q17_1 q17_2 x K hK
          refine wpOp_step (o := _) rfl (fun K' hK' => ?_)
          replace hK' := hide hK'
          replace hK := hide hK
          go_simp
          exact unhide hK' _ _ (unhide hK)
        clear hM hg
        intro b17_1 b17_2 q17_1 q17_2 g17_1 g17_2 v2022_ hM _
        refine wpOp_step (o := _) rfl (fun K' hK' => ?_)
        replace hK' := hide hK'
        refine step_callw (by kernel_rfl) 55 #[.agg c2002, .agg c2002] (by kernel_rfl) ((nmul_nc hc2002 hc2002 _).mono ?_)
        rintro r v2023_ ⟨c2006, rfl, hc2006, hg⟩
        refine ⟨_, rfl, ?_⟩
        refine unhide hK' _ _ ⟨hSf _ (hM.gr.trans hg), ?_⟩
        clear hK' K'
        simp only [nrm]
        refine stage2 v2019_ #[.int .i64 0, .int .i64 0, .int .i64 0, .int .i64 0, .int .i64 0, .int .i64 0, .int .i64 0, .int .i64 0, .int .i64 0, .int .i64 0, .int .i64 0, .int .i64 0, .int .i64 0, .int .i64 0, .int .i64 0, .int .i64 0] 80 (fw2 _ 18 19) (fun b17_1 b17_2 => #[true, true, true, true, true, true, b17_1, b17_2, false, false]) 6 7 8 true hSf (by kernel_rfl) (fun _ _ => ⟨rfl, rfl⟩) ?_ ?_ ?_ ⟨b17_1, b17_2, q17_1, q17_2, g17_1, g17_2, hM.again hg rfl rfl⟩
        all_goals simp only [fw2, Act.put, List.setIfInBounds_toArray, List.set_cons_zero, List.set_cons_succ, List.getElem_toArray, List.getElem_cons_zero, List.getElem_cons_succ]
        · intro q17_1 q17_2 x K hK
          refine wpOp_step (o := _) rfl (fun K' hK' => ?_)
          replace hK' := hide hK'
          replace hK := hide hK
          go_simp
          exact unhide hK' _ _ (unhide hK)
        · intro q17_1 q17_2 x K hK
          refine wpOp_step (o := _) rfl (fun K' hK' => ?_)
          replace hK' := hide hK'
          replace hK := hide hK
          go_simp
          exact unhide hK' _ _ (unhide hK)
        clear hM hg
        intro b17_1 b17_2 q17_1 q17_2 g17_1 g17_2 v2024_ hM hall
        obtain ⟨rfl, rfl⟩ := hall (by trivial)
        obtain ⟨rfl, rfl, hB'⟩ := hM.all hB
        replace hB := hB'
        clear hB' hM hall
        simp only [List.cons_append, List.nil_append] at hB
        replace hB : Bl w [⟨w.heap.size, (kc (digs (M : Int) 32)), 25⟩, ⟨w.heap.size + 1, (kc (digs (U : Int) 32)), 25⟩, ⟨w.heap.size + 1 + 1, Z32, 25⟩, ⟨g1_2, (kc (digs (cl M : Int) 32)), 25⟩, ⟨g2_2, c1, 80⟩, ⟨g3_1, s, 80⟩, ⟨g3_2, t, 80⟩, ⟨g3_3, x, 80⟩, ⟨g3_4, y, 80⟩, ⟨g16_1, c2001, 80⟩, ⟨g16_2, c2002, 80⟩, ⟨g16_3, c2003, 80⟩, ⟨g16_4, c2004, 80⟩, ⟨g17_1, (nc Zl), 80⟩, ⟨g17_2, (nc Zl), 80⟩] v2024_ := hB
        refine wpOp_step (o := _) rfl (fun K' hK' => ?_)
        replace hK' := hide hK'
        rw [if_pos (by kernel_rfl)]
        refine wp_store_row 80 (.tmp 18) (.tmp 75) rfl g17_1 c2005 (by kernel_rfl) (by kernel_rfl) 80 (nc Zl) (hB.get 13 (x := ⟨g17_1, (nc Zl), 80⟩) rfl) (by rw [Tryd.infoNum, NC.size _ hc2005]) ((show (nc Zl).size = 16 from rfl).trans (NC.size _ hc2005).symm) (NC.one _ hc2005) ?_
        replace hB := hB.set 13 (x := ⟨g17_1, (nc Zl), 80⟩) rfl c2005
        simp only [List.set_cons_zero, List.set_cons_succ] at hB
        refine unhide hK' _ _ ⟨⟨(hB.get 9 (x := ⟨g16_1, c2001, 80⟩) rfl), (hB.get 10 (x := ⟨g16_2, c2002, 80⟩) rfl), trivial⟩, ?_⟩
        clear hK' K' hSf
        generalize World.setRow _ _ _ = v2025_ at *
        simp only [nrm]
        refine any_one (i := 9) (by kernel_rfl) rfl (fun K hK => ?_)
        rw [if_pos (by kernel_rfl)]
        refine wp_store_row 80 (.tmp 19) (.tmp 78) rfl g17_2 c2006 (by kernel_rfl) (by kernel_rfl) 80 (nc Zl) (hB.get 14 (x := ⟨g17_2, (nc Zl), 80⟩) rfl) (by rw [Tryd.infoNum, NC.size _ hc2006]) ((show (nc Zl).size = 16 from rfl).trans (NC.size _ hc2006).symm) (NC.one _ hc2006) ?_
        replace hB := hB.set 14 (x := ⟨g17_2, (nc Zl), 80⟩) rfl c2006
        simp only [List.set_cons_zero, List.set_cons_succ] at hB
        refine hK.out _ _ ⟨(hB.get 9 (x := ⟨g16_1, c2001, 80⟩) rfl), (hB.get 10 (x := ⟨g16_2, c2002, 80⟩) rfl), trivial⟩ (fun _ => ?_)
        clear hK K
        generalize World.setRow _ _ _ = v2026_ at *
        simp only [nrm]
        refine any_done (by kernel_rfl) ?_
        go_upto_region 18 with fail
        refine wp_region_lit ?_
        refine list_val (.agg c2005) (by kernel_rfl) (exec_arr _ 80 (.tmp 18) rfl g17_1 (by kernel_rfl) c2005 80 _ (hB.get 13 (x := ⟨g17_1, c2005, 80⟩) rfl) Tryd.underlying80 rfl (by rw [Tryd.infoNum, NC.size _ hc2005])) ?_
        simp only [nrm]
        refine list_val (.agg c2006) (by kernel_rfl) (exec_arr _ 80 (.tmp 19) rfl g17_2 (by kernel_rfl) c2006 80 _ (hB.get 14 (x := ⟨g17_2, c2006, 80⟩) rfl) Tryd.underlying80 rfl (by rw [Tryd.infoNum, NC.size _ hc2006])) ?_
        simp only [nrm]
        refine list_call 54 #[.agg c2005, .agg c2006] (by kernel_rfl) (by kernel_rfl) ((nsub_nc hc2005 hc2006 _).mono ?_)
        rintro r v2027_ ⟨c2007, rfl, hc2007, hg⟩
        refine ⟨_, rfl, ?_⟩
        replace hB := hB.more hg
        clear hg
        simp only [nrm]
        refine wpList_step fun K hK => ?_
        replace hK := hide hK
        go_simp
        refine unhide hK _ _ ?_
        clear hK K
        replace hB := hB.new #[.int .i64 0, .int .i64 0, .int .i64 0, .int .i64 0, .int .i64 0, .int .i64 0, .int .i64 0, .int .i64 0, .int .i64 0, .int .i64 0, .int .i64 0, .int .i64 0, .int .i64 0, .int .i64 0, .int .i64 0, .int .i64 0] 80
        simp only [List.cons_append, List.nil_append] at hB
        generalize v2027_.heap.size = g18_3 at *
        generalize World.alloc _ _ = v2028_ at *
        replace hB : Bl w [⟨w.heap.size, (kc (digs (M : Int) 32)), 25⟩, ⟨w.heap.size + 1, (kc (digs (U : Int) 32)), 25⟩, ⟨w.heap.size + 1 + 1, Z32, 25⟩, ⟨g1_2, (kc (digs (cl M : Int) 32)), 25⟩, ⟨g2_2, c1, 80⟩, ⟨g3_1, s, 80⟩, ⟨g3_2, t, 80⟩, ⟨g3_3, x, 80⟩, ⟨g3_4, y, 80⟩, ⟨g16_1, c2001, 80⟩, ⟨g16_2, c2002, 80⟩, ⟨g16_3, c2003, 80⟩, ⟨g16_4, c2004, 80⟩, ⟨g17_1, c2005, 80⟩, ⟨g17_2, c2006, 80⟩, ⟨g18_3, (nc Zl), 80⟩] v2028_ := hB
        refine list_store 80 (.tmp 20) (.tmp 81) g18_3 c2007 80 (nc Zl) (by kernel_rfl) rfl (by kernel_rfl) (by kernel_rfl) (hB.get 15 (x := ⟨g18_3, (nc Zl), 80⟩) rfl) (by rw [Tryd.infoNum, NC.size _ hc2007]) ((show (nc Zl).size = 16 from rfl).trans (NC.size _ hc2007).symm) (NC.one _ hc2007) ?_
        replace hB := hB.set 15 (x := ⟨g18_3, (nc Zl), 80⟩) rfl c2007
        simp only [List.set_cons_zero, List.set_cons_succ] at hB
        generalize World.setRow _ _ _ = v2029_ at *
        simp only [nrm]
        refine wpList_nil ?_
        go_upto_region 19 with fail
        refine any_start (S := fun v => v.heap[g16_1]? = some (.cells c2001 80 (0, 0)) ∧ v.heap[g16_2]? = some (.cells c2002 80 (0, 0)) ∧ v.heap[g16_3]? = some (.cells c2003 80 (0, 0)) ∧ v.heap[g16_4]? = some (.cells c2004 80 (0, 0)) ∧ True) (by kernel_rfl) ?_
        replace hB := hB.drew
        generalize World.drew _ = v2030_ at *
        simp only [List.size_toArray, List.length_cons, List.length_nil, Array.replicate, List.replicate]
        refine any_take (i := 0) (v := (.agg c2004)) #[false, false, false, false, false, false, false, false, false, false] rfl (by kernel_rfl) (by kernel_rfl) (by kernel_rfl) (by kernel_rfl) (fun _ _ _ h => h) (.inl ⟨by kernel_rfl, fun x_ hu => exec_arr x_ 80 (.tmp 17) rfl g16_4 (by kernel_rfl) c2004 80 _ hu.2.2.2.1 Tryd.underlying80 rfl (by rw [Tryd.infoNum, NC.size _ hc2004])⟩) ⟨(hB.get 9 (x := ⟨g16_1, c2001, 80⟩) rfl), (hB.get 10 (x := ⟨g16_2, c2002, 80⟩) rfl), (hB.get 11 (x := ⟨g16_3, c2003, 80⟩) rfl), (hB.get 12 (x := ⟨g16_4, c2004, 80⟩) rfl), trivial⟩ ?_
        simp only [nrm]
        refine any_take (i := 1) (v := (.agg c2001)) #[true, false, false, false, false, false, false, false, false, false] rfl (by kernel_rfl) (by kernel_rfl) (by kernel_rfl) (by kernel_rfl) (fun _ _ _ h => h) (.inl ⟨by kernel_rfl, fun x_ hu => exec_arr x_ 80 (.tmp 14) rfl g16_1 (by kernel_rfl) c2001 80 _ hu.1 Tryd.underlying80 rfl (by rw [Tryd.infoNum, NC.size _ hc2001])⟩) ⟨(hB.get 9 (x := ⟨g16_1, c2001, 80⟩) rfl), (hB.get 10 (x := ⟨g16_2, c2002, 80⟩) rfl), (hB.get 11 (x := ⟨g16_3, c2003, 80⟩) rfl), (hB.get 12 (x := ⟨g16_4, c2004, 80⟩) rfl), trivial⟩ ?_
        simp only [nrm]
        refine any_take (i := 3) (v := (.agg c2003)) #[true, true, false, false, false, false, false, false, false, false] rfl (by kernel_rfl) (by kernel_rfl) (by kernel_rfl) (by kernel_rfl) (fun _ _ _ h => h) (.inl ⟨by kernel_rfl, fun x_ hu => exec_arr x_ 80 (.tmp 16) rfl g16_3 (by kernel_rfl) c2003 80 _ hu.2.2.1 Tryd.underlying80 rfl (by rw [Tryd.infoNum, NC.size _ hc2003])⟩) ⟨(hB.get 9 (x := ⟨g16_1, c2001, 80⟩) rfl), (hB.get 10 (x := ⟨g16_2, c2002, 80⟩) rfl), (hB.get 11 (x := ⟨g16_3, c2003, 80⟩) rfl), (hB.get 12 (x := ⟨g16_4, c2004, 80⟩) rfl), trivial⟩ ?_
        simp only [nrm]
        refine any_take (i := 4) (v := (.agg c2002)) #[true, true, false, true, false, false, false, false, false, false] rfl (by kernel_rfl) (by kernel_rfl) (by kernel_rfl) (by kernel_rfl) (fun _ _ _ h => h) (.inl ⟨by kernel_rfl, fun x_ hu => exec_arr x_ 80 (.tmp 15) rfl g16_2 (by kernel_rfl) c2002 80 _ hu.2.1 Tryd.underlying80 rfl (by rw [Tryd.infoNum, NC.size _ hc2002])⟩) ⟨(hB.get 9 (x := ⟨g16_1, c2001, 80⟩) rfl), (hB.get 10 (x := ⟨g16_2, c2002, 80⟩) rfl), (hB.get 11 (x := ⟨g16_3, c2003, 80⟩) rfl), (hB.get 12 (x := ⟨g16_4, c2004, 80⟩) rfl), trivial⟩ ?_
        simp only [nrm]
        have hSf : ∀ v, Gr v2030_ v → (fun v => v.heap[g16_1]? = some (.cells c2001 80 (0, 0)) ∧ v.heap[g16_2]? = some (.cells c2002 80 (0, 0)) ∧ v.heap[g16_3]? = some (.cells c2003 80 (0, 0)) ∧ v.heap[g16_4]? = some (.cells c2004 80 (0, 0)) ∧ True) v := fun v k => ⟨k.blk (hB.get 9 (x := ⟨g16_1, c2001, 80⟩) rfl), k.blk (hB.get 10 (x := ⟨g16_2, c2002, 80⟩) rfl), k.blk (hB.get 11 (x := ⟨g16_3, c2003, 80⟩) rfl), k.blk (hB.get 12 (x := ⟨g16_4, c2004, 80⟩) rfl), trivial⟩
        refine stage2 v2030_ #[.int .i64 0, .int .i64 0, .int .i64 0, .int .i64 0, .int .i64 0, .int .i64 0, .int .i64 0, .int .i64 0, .int .i64 0, .int .i64 0, .int .i64 0, .int .i64 0, .int .i64 0, .int .i64 0, .int .i64 0, .int .i64 0] 80 (fw2 _ 21 22) (fun b19_1 b19_2 => #[true, true, false, true, true, false, b19_1, b19_2, false, false]) 6 7 2 false hSf (by kernel_rfl) (fun _ _ => ⟨rfl, rfl⟩) ?_ ?_ ?_ (M2.first (fun b19_1 b19_2 => #[true, true, false, true, true, false, b19_1, b19_2, false, false]) _ rfl rfl)
        all_goals simp only [fw2, Act.put, List.setIfInBounds_toArray, List.set_cons_zero, List.set_cons_succ, List.getElem_toArray, List.getElem_cons_zero, List.getElem_cons_succ]
        · intro q19_1 q19_2 x K hK
          refine wpOp_step (o := _) rfl (fun K' hK' => ?_)
          replace hK' := hide hK'
          replace hK := hide hK
          go_simp
          exact unhide hK' _ _ (unhide hK)
        · intro q19_1 q19_2 x K hK
          refine wpOp_step (o := _) rfl (fun K' hK' => ?_)
          replace hK' := hide hK'
          replace hK := hide hK
          go_simp
          exact unhide hK' _ _ (unhide hK)
        intro b19_1 b19_2 q19_1 q19_2 g19_1 g19_2 v2031_ hM _
        refine wpOp_step (o := _) rfl (fun K' hK' => ?_)
        replace hK' := hide hK'
        refine step_callw (by kernel_rfl) 55 #[.agg c2004, .agg c2001] (by kernel_rfl) ((nmul_nc hc2004 hc2001 _).mono ?_)
        rintro r v2032_ ⟨c2008, rfl, hc2008, hg⟩
        refine ⟨_, rfl, ?_⟩
        refine unhide hK' _ _ ⟨hSf _ (hM.gr.trans hg), ?_⟩
        clear hK' K'
        simp only [nrm]
        refine stage2 v2030_ #[.int .i64 0, .int .i64 0, .int .i64 0, .int .i64 0, .int .i64 0, .int .i64 0, .int .i64 0, .int .i64 0, .int .i64 0, .int .i64 0, .int .i64 0, .int .i64 0, .int .i64 0, .int .i64 0, .int .i64 0, .int .i64 0] 80 (fw2 _ 21 22) (fun b19_1 b19_2 => #[true, true, true, true, true, false, b19_1, b19_2, false, false]) 6 7 5 false hSf (by kernel_rfl) (fun _ _ => ⟨rfl, rfl⟩) ?_ ?_ ?_ ⟨b19_1, b19_2, q19_1, q19_2, g19_1, g19_2, hM.again hg rfl rfl⟩
        all_goals simp only [fw2, Act.put, List.setIfInBounds_toArray, List.set_cons_zero, List.set_cons_succ, List.getElem_toArray, List.getElem_cons_zero, List.getElem_cons_succ]
        · intro q19_1 q19_2 x K hK
          refine wpOp_step (o := _) rfl (fun K' hK' => ?_)
          replace hK' := hide hK'
          replace hK := hide hK
          go_simp
          exact unhide hK' _ _ (unhide hK)
        · intro q19_1 q19_2 x K hK
          refine wpOp_step (o := _) rfl (fun K' hK' => ?_)
          replace hK' := hide hK'
          replace hK := hide hK
          go_simp
          exact unhide hK' _ _ (unhide hK)
        clear hM hg
        intro b19_1 b19_2 q19_1 q19_2 g19_1 g19_2 v2033_ hM _
        refine wpOp_step (o := _) rfl (fun K' hK' => ?_)
        replace hK' := hide hK'
        refine step_callw (by kernel_rfl) 55 #[.agg c2003, .agg c2002] (by kernel_rfl) ((nmul_nc hc2003 hc2002 _).mono ?_)
        rintro r v2034_ ⟨c2009, rfl, hc2009, hg⟩
        refine ⟨_, rfl, ?_⟩
        refine unhide hK' _ _ ⟨hSf _ (hM.gr.trans hg), ?_⟩
        clear hK' K'
        simp only [nrm]
        refine stage2 v2030_ #[.int .i64 0, .int .i64 0, .int .i64 0, .int .i64 0, .int .i64 0, .int .i64 0, .int .i64 0, .int .i64 0, .int .i64 0, .int .i64 0, .int .i64 0, .int .i64 0, .int .i64 0, .int .i64 0, .int .i64 0, .int .i64 0] 80 (fw2 _ 21 22) (fun b19_1 b19_2 => #[true, true, true, true, true, true, b19_1, b19_2, false, false]) 6 7 8 true hSf (by kernel_rfl) (fun _ _ => ⟨rfl, rfl⟩) ?_ ?_ ?_ ⟨b19_1, b19_2, q19_1, q19_2, g19_1, g19_2, hM.again hg rfl rfl⟩
        all_goals simp only [fw2, Act.put, List.setIfInBounds_toArray, List.set_cons_zero, List.set_cons_succ, List.getElem_toArray, List.getElem_cons_zero, List.getElem_cons_succ]
        · intro q19_1 q19_2 x K hK
          refine wpOp_step (o := _) rfl (fun K' hK' => ?_)
          replace hK' := hide hK'
          replace hK := hide hK
          go_simp
          exact unhide hK' _ _ (unhide hK)
        · intro q19_1 q19_2 x K hK
          refine wpOp_step (o := _) rfl (fun K' hK' => ?_)
          replace hK' := hide hK'
          replace hK := hide hK
          go_simp
          exact unhide hK' _ _ (unhide hK)
        clear hM hg
        intro b19_1 b19_2 q19_1 q19_2 g19_1 g19_2 v2035_ hM hall
        obtain ⟨rfl, rfl⟩ := hall (by trivial)
        obtain ⟨rfl, rfl, hB'⟩ := hM.all hB
        replace hB := hB'
        clear hB' hM hall
        simp only [List.cons_append, List.nil_append] at hB
        replace hB : Bl w [⟨w.heap.size, (kc (digs (M : Int) 32)), 25⟩, ⟨w.heap.size + 1, (kc (digs (U : Int) 32)), 25⟩, ⟨w.heap.size + 1 + 1, Z32, 25⟩, ⟨g1_2, (kc (digs (cl M : Int) 32)), 25⟩, ⟨g2_2, c1, 80⟩, ⟨g3_1, s, 80⟩, ⟨g3_2, t, 80⟩, ⟨g3_3, x, 80⟩, ⟨g3_4, y, 80⟩, ⟨g16_1, c2001, 80⟩, ⟨g16_2, c2002, 80⟩, ⟨g16_3, c2003, 80⟩, ⟨g16_4, c2004, 80⟩, ⟨g17_1, c2005, 80⟩, ⟨g17_2, c2006, 80⟩, ⟨g18_3, c2007, 80⟩, ⟨g19_1, (nc Zl), 80⟩, ⟨g19_2, (nc Zl), 80⟩] v2035_ := hB
        refine wpOp_step (o := _) rfl (fun K' hK' => ?_)
        replace hK' := hide hK'
        rw [if_pos (by kernel_rfl)]
        refine wp_store_row 80 (.tmp 21) (.tmp 84) rfl g19_1 c2008 (by kernel_rfl) (by kernel_rfl) 80 (nc Zl) (hB.get 16 (x := ⟨g19_1, (nc Zl), 80⟩) rfl) (by rw [Tryd.infoNum, NC.size _ hc2008]) ((show (nc Zl).size = 16 from rfl).trans (NC.size _ hc2008).symm) (NC.one _ hc2008) ?_
        replace hB := hB.set 16 (x := ⟨g19_1, (nc Zl), 80⟩) rfl c2008
        simp only [List.set_cons_zero, List.set_cons_succ] at hB
        refine unhide hK' _ _ ⟨⟨(hB.get 9 (x := ⟨g16_1, c2001, 80⟩) rfl), (hB.get 10 (x := ⟨g16_2, c2002, 80⟩) rfl), (hB.get 11 (x := ⟨g16_3, c2003, 80⟩) rfl), (hB.get 12 (x := ⟨g16_4, c2004, 80⟩) rfl), trivial⟩, ?_⟩
        clear hK' K' hSf
        generalize World.setRow _ _ _ = v2036_ at *
        simp only [nrm]
        refine any_one (i := 9) (by kernel_rfl) rfl (fun K hK => ?_)
        rw [if_pos (by kernel_rfl)]
        refine wp_store_row 80 (.tmp 22) (.tmp 87) rfl g19_2 c2009 (by kernel_rfl) (by kernel_rfl) 80 (nc Zl) (hB.get 17 (x := ⟨g19_2, (nc Zl), 80⟩) rfl) (by rw [Tryd.infoNum, NC.size _ hc2009]) ((show (nc Zl).size = 16 from rfl).trans (NC.size _ hc2009).symm) (NC.one _ hc2009) ?_
        replace hB := hB.set 17 (x := ⟨g19_2, (nc Zl), 80⟩) rfl c2009
        simp only [List.set_cons_zero, List.set_cons_succ] at hB
        refine hK.out _ _ ⟨(hB.get 9 (x := ⟨g16_1, c2001, 80⟩) rfl), (hB.get 10 (x := ⟨g16_2, c2002, 80⟩) rfl), (hB.get 11 (x := ⟨g16_3, c2003, 80⟩) rfl), (hB.get 12 (x := ⟨g16_4, c2004, 80⟩) rfl), trivial⟩ (fun _ => ?_)
        clear hK K
        generalize World.setRow _ _ _ = v2037_ at *
        simp only [nrm]
        refine any_done (by kernel_rfl) ?_
        go_upto_region 20 with fail
        refine any_start (S := fun v => v.heap[g19_1]? = some (.cells c2008 80 (0, 0)) ∧ v.heap[g19_2]? = some (.cells c2009 80 (0, 0)) ∧ True) (by kernel_rfl) ?_
        replace hB := hB.drew
        generalize World.drew _ = v2038_ at *
        simp only [List.size_toArray, List.length_cons, List.length_nil, Array.replicate, List.replicate]
        refine any_take (i := 0) (v := (.agg c2008)) #[false, false, false, false, false, false, false, false, false, false] rfl (by kernel_rfl) (by kernel_rfl) (by kernel_rfl) (by kernel_rfl) (fun _ _ _ h => h) (.inl ⟨by kernel_rfl, fun x_ hu => exec_arr x_ 80 (.tmp 21) rfl g19_1 (by kernel_rfl) c2008 80 _ hu.1 Tryd.underlying80 rfl (by rw [Tryd.infoNum, NC.size _ hc2008])⟩) ⟨(hB.get 16 (x := ⟨g19_1, c2008, 80⟩) rfl), (hB.get 17 (x := ⟨g19_2, c2009, 80⟩) rfl), trivial⟩ ?_
        simp only [nrm]
        refine any_take (i := 1) (v := (.agg c2009)) #[true, false, false, false, false, false, false, false, false, false] rfl (by kernel_rfl) (by kernel_rfl) (by kernel_rfl) (by kernel_rfl) (fun _ _ _ h => h) (.inl ⟨by kernel_rfl, fun x_ hu => exec_arr x_ 80 (.tmp 22) rfl g19_2 (by kernel_rfl) c2009 80 _ hu.2.1 Tryd.underlying80 rfl (by rw [Tryd.infoNum, NC.size _ hc2009])⟩) ⟨(hB.get 16 (x := ⟨g19_1, c2008, 80⟩) rfl), (hB.get 17 (x := ⟨g19_2, c2009, 80⟩) rfl), trivial⟩ ?_
        simp only [nrm]
        refine any_take (i := 3) (v := (.agg c2008)) #[true, true, false, false, false, false, false, false, false, false] rfl (by kernel_rfl) (by kernel_rfl) (by kernel_rfl) (by kernel_rfl) (fun _ _ _ h => h) (.inl ⟨by kernel_rfl, fun x_ hu => exec_arr x_ 80 (.tmp 21) rfl g19_1 (by kernel_rfl) c2008 80 _ hu.1 Tryd.underlying80 rfl (by rw [Tryd.infoNum, NC.size _ hc2008])⟩) ⟨(hB.get 16 (x := ⟨g19_1, c2008, 80⟩) rfl), (hB.get 17 (x := ⟨g19_2, c2009, 80⟩) rfl), trivial⟩ ?_
        simp only [nrm]
        refine any_take (i := 4) (v := (.agg c2009)) #[true, true, false, true, false, false, false, false, false, false] rfl (by kernel_rfl) (by kernel_rfl) (by kernel_rfl) (by kernel_rfl) (fun _ _ _ h => h) (.inl ⟨by kernel_rfl, fun x_ hu => exec_arr x_ 80 (.tmp 22) rfl g19_2 (by kernel_rfl) c2009 80 _ hu.2.1 Tryd.underlying80 rfl (by rw [Tryd.infoNum, NC.size _ hc2009])⟩) ⟨(hB.get 16 (x := ⟨g19_1, c2008, 80⟩) rfl), (hB.get 17 (x := ⟨g19_2, c2009, 80⟩) rfl), trivial⟩ ?_
        simp only [nrm]
        have hSf : ∀ v, Gr v2038_ v → (fun v => v.heap[g19_1]? = some (.cells c2008 80 (0, 0)) ∧ v.heap[g19_2]? = some (.cells c2009 80 (0, 0)) ∧ True) v := fun v k => ⟨k.blk (hB.get 16 (x := ⟨g19_1, c2008, 80⟩) rfl), k.blk (hB.get 17 (x := ⟨g19_2, c2009, 80⟩) rfl), trivial⟩
        refine stage2 v2038_ #[.int .i64 0, .int .i64 0, .int .i64 0, .int .i64 0, .int .i64 0, .int .i64 0, .int .i64 0, .int .i64 0, .int .i64 0, .int .i64 0, .int .i64 0, .int .i64 0, .int .i64 0, .int .i64 0, .int .i64 0, .int .i64 0] 80 (fw2 _ 23 24) (fun b20_1 b20_2 => #[true, true, false, true, true, false, b20_1, b20_2, false, false]) 6 7 2 false hSf (by kernel_rfl) (fun _ _ => ⟨rfl, rfl⟩) ?_ ?_ ?_ (M2.first (fun b20_1 b20_2 => #[true, true, false, true, true, false, b20_1, b20_2, false, false]) _ rfl rfl)
        all_goals simp only [fw2, Act.put, List.setIfInBounds_toArray, List.set_cons_zero, List.set_cons_succ, List.getElem_toArray, List.getElem_cons_zero, List.getElem_cons_succ]
        · intro q20_1 q20_2 x K hK
          refine wpOp_step (o := _) rfl (fun K' hK' => ?_)
          replace hK' := hide hK'
          replace hK := hide hK
          go_simp
          exact unhide hK' _ _ (unhide hK)
        · intro q20_1 q20_2 x K hK
          refine wpOp_step (o := _) rfl (fun K' hK' => ?_)
          replace hK' := hide hK'
          replace hK := hide hK
          go_simp
          exact unhide hK' _ _ (unhide hK)
        intro b20_1 b20_2 q20_1 q20_2 g20_1 g20_2 v2039_ hM _
        refine wpOp_step (o := _) rfl (fun K' hK' => ?_)
        replace hK' := hide hK'
        refine step_callw (by kernel_rfl) 53 #[.agg c2008, .agg c2009] (by kernel_rfl) ((nadd_nc hc2008 hc2009 _).mono ?_)
        rintro r v2040_ ⟨c2010, rfl, hc2010, hg⟩
        refine ⟨_, rfl, ?_⟩
        refine unhide hK' _ _ ⟨hSf _ (hM.gr.trans hg), ?_⟩
        clear hK' K'
        simp only [nrm]
        refine stage2 v2038_ #[.int .i64 0, .int .i64 0, .int .i64 0, .int .i64 0, .int .i64 0, .int .i64 0, .int .i64 0, .int .i64 0, .int .i64 0, .int .i64 0, .int .i64 0, .int .i64 0, .int .i64 0, .int .i64 0, .int .i64 0, .int .i64 0] 80 (fw2 _ 23 24) (fun b20_1 b20_2 => #[true, true, true, true, true, false, b20_1, b20_2, false, false]) 6 7 5 false hSf (by kernel_rfl) (fun _ _ => ⟨rfl, rfl⟩) ?_ ?_ ?_ ⟨b20_1, b20_2, q20_1, q20_2, g20_1, g20_2, hM.again hg rfl rfl⟩
        all_goals simp only [fw2, Act.put, List.setIfInBounds_toArray, List.set_cons_zero, List.set_cons_succ, List.getElem_toArray, List.getElem_cons_zero, List.getElem_cons_succ]
        · intro q20_1 q20_2 x K hK
          refine wpOp_step (o := _) rfl (fun K' hK' => ?_)
          replace hK' := hide hK'
          replace hK := hide hK
          go_simp
          exact unhide hK' _ _ (unhide hK)
        · intro q20_1 q20_2 x K hK
          refine wpOp_step (o := _) rfl (fun K' hK' => ?_)
          replace hK' := hide hK'
          replace hK := hide hK
          go_simp
          exact unhide hK' _ _ (unhide hK)
        clear hM hg
        intro b20_1 b20_2 q20_1 q20_2 g20_1 g20_2 v2041_ hM _
        refine wpOp_step (o := _) rfl (fun K' hK' => ?_)
        replace hK' := hide hK'
        refine step_callw (by kernel_rfl) 54 #[.agg c2008, .agg c2009] (by kernel_rfl) ((nsub_nc hc2008 hc2009 _).mono ?_)
        rintro r v2042_ ⟨c2011, rfl, hc2011, hg⟩
        refine ⟨_, rfl, ?_⟩
        refine unhide hK' _ _ ⟨hSf _ (hM.gr.trans hg), ?_⟩
        clear hK' K'
        simp only [nrm]
        refine stage2 v2038_ #[.int .i64 0, .int .i64 0, .int .i64 0, .int .i64 0, .int .i64 0, .int .i64 0, .int .i64 0, .int .i64 0, .int .i64 0, .int .i64 0, .int .i64 0, .int .i64 0, .int .i64 0, .int .i64 0, .int .i64 0, .int .i64 0] 80 (fw2 _ 23 24) (fun b20_1 b20_2 => #[true, true, true, true, true, true, b20_1, b20_2, false, false]) 6 7 8 true hSf (by kernel_rfl) (fun _ _ => ⟨rfl, rfl⟩) ?_ ?_ ?_ ⟨b20_1, b20_2, q20_1, q20_2, g20_1, g20_2, hM.again hg rfl rfl⟩
        all_goals simp only [fw2, Act.put, List.setIfInBounds_toArray, List.set_cons_zero, List.set_cons_succ, List.getElem_toArray, List.getElem_cons_zero, List.getElem_cons_succ]
        · intro q20_1 q20_2 x K hK
          refine wpOp_step (o := _) rfl (fun K' hK' => ?_)
          replace hK' := hide hK'
          replace hK := hide hK
          go_simp
          exact unhide hK' _ _ (unhide hK)
        · intro q20_1 q20_2 x K hK
          refine wpOp_step (o := _) rfl (fun K' hK' => ?_)
          replace hK' := hide hK'
          replace hK := hide hK
          go_simp
          exact unhide hK' _ _ (unhide hK)
        clear hM hg
        intro b20_1 b20_2 q20_1 q20_2 g20_1 g20_2 v2043_ hM hall
        obtain ⟨rfl, rfl⟩ := hall (by trivial)
        obtain ⟨rfl, rfl, hB'⟩ := hM.all hB
        replace hB := hB'
        clear hB' hM hall
        simp only [List.cons_append, List.nil_append] at hB
        replace hB : Bl w [⟨w.heap.size, (kc (digs (M : Int) 32)), 25⟩, ⟨w.heap.size + 1, (kc (digs (U : Int) 32)), 25⟩, ⟨w.heap.size + 1 + 1, Z32, 25⟩, ⟨g1_2, (kc (digs (cl M : Int) 32)), 25⟩, ⟨g2_2, c1, 80⟩, ⟨g3_1, s, 80⟩, ⟨g3_2, t, 80⟩, ⟨g3_3, x, 80⟩, ⟨g3_4, y, 80⟩, ⟨g16_1, c2001, 80⟩, ⟨g16_2, c2002, 80⟩, ⟨g16_3, c2003, 80⟩, ⟨g16_4, c2004, 80⟩, ⟨g17_1, c2005, 80⟩, ⟨g17_2, c2006, 80⟩, ⟨g18_3, c2007, 80⟩, ⟨g19_1, c2008, 80⟩, ⟨g19_2, c2009, 80⟩, ⟨g20_1, (nc Zl), 80⟩, ⟨g20_2, (nc Zl), 80⟩] v2043_ := hB
        refine wpOp_step (o := _) rfl (fun K' hK' => ?_)
        replace hK' := hide hK'
        rw [if_pos (by kernel_rfl)]
        refine wp_store_row 80 (.tmp 23) (.tmp 90) rfl g20_1 c2010 (by kernel_rfl) (by kernel_rfl) 80 (nc Zl) (hB.get 18 (x := ⟨g20_1, (nc Zl), 80⟩) rfl) (by rw [Tryd.infoNum, NC.size _ hc2010]) ((show (nc Zl).size = 16 from rfl).trans (NC.size _ hc2010).symm) (NC.one _ hc2010) ?_
        replace hB := hB.set 18 (x := ⟨g20_1, (nc Zl), 80⟩) rfl c2010
        simp only [List.set_cons_zero, List.set_cons_succ] at hB
        refine unhide hK' _ _ ⟨⟨(hB.get 16 (x := ⟨g19_1, c2008, 80⟩) rfl), (hB.get 17 (x := ⟨g19_2, c2009, 80⟩) rfl), trivial⟩, ?_⟩
        clear hK' K' hSf
        generalize World.setRow _ _ _ = v2044_ at *
        simp only [nrm]
        refine any_one (i := 9) (by kernel_rfl) rfl (fun K hK => ?_)
        rw [if_pos (by kernel_rfl)]
        refine wp_store_row 80 (.tmp 24) (.tmp 93) rfl g20_2 c2011 (by kernel_rfl) (by kernel_rfl) 80 (nc Zl) (hB.get 19 (x := ⟨g20_2, (nc Zl), 80⟩) rfl) (by rw [Tryd.infoNum, NC.size _ hc2011]) ((show (nc Zl).size = 16 from rfl).trans (NC.size _ hc2011).symm) (NC.one _ hc2011) ?_
        replace hB := hB.set 19 (x := ⟨g20_2, (nc Zl), 80⟩) rfl c2011
        simp only [List.set_cons_zero, List.set_cons_succ] at hB
        refine hK.out _ _ ⟨(hB.get 16 (x := ⟨g19_1, c2008, 80⟩) rfl), (hB.get 17 (x := ⟨g19_2, c2009, 80⟩) rfl), trivial⟩ (fun _ => ?_)
        clear hK K
        generalize World.setRow _ _ _ = v2045_ at *
        simp only [nrm]
        refine any_done (by kernel_rfl) ?_
        go_upto_region 21 with fail
        refine wp_region_lit ?_
        refine list_val (.agg c2010) (by kernel_rfl) (exec_arr _ 80 (.tmp 23) rfl g20_1 (by kernel_rfl) c2010 80 _ (hB.get 18 (x := ⟨g20_1, c2010, 80⟩) rfl) Tryd.underlying80 rfl (by rw [Tryd.infoNum, NC.size _ hc2010])) ?_
        simp only [nrm]
        refine list_val (.agg c2010) (by kernel_rfl) (exec_arr _ 80 (.tmp 23) rfl g20_1 (by kernel_rfl) c2010 80 _ (hB.get 18 (x := ⟨g20_1, c2010, 80⟩) rfl) Tryd.underlying80 rfl (by rw [Tryd.infoNum, NC.size _ hc2010])) ?_
        simp only [nrm]
        refine list_call 55 #[.agg c2010, .agg c2010] (by kernel_rfl) (by kernel_rfl) ((nmul_nc hc2010 hc2010 _).mono ?_)
        rintro r v2046_ ⟨c2012, rfl, hc2012, hg⟩
        refine ⟨_, rfl, ?_⟩
        replace hB := hB.more hg
        clear hg
        simp only [nrm]
        refine list_store 80 (.tmp 9) (.tmp 96) g3_3 c2012 80 x (by kernel_rfl) rfl (by kernel_rfl) (by kernel_rfl) (hB.get 7 (x := ⟨g3_3, x, 80⟩) rfl) (by rw [Tryd.infoNum, NC.size _ hc2012]) ((NC.size _ hx).trans (NC.size _ hc2012).symm) (NC.one _ hc2012) ?_
        replace hB := hB.set 7 (x := ⟨g3_3, x, 80⟩) rfl c2012
        simp only [List.set_cons_zero, List.set_cons_succ] at hB
        generalize World.setRow _ _ _ = v2047_ at *
        simp only [nrm]
        refine wpList_nil ?_
        go_upto_region 22 with fail
        refine any_start (S := fun v => v.heap[g2_2]? = some (.cells c1 80 (0, 0)) ∧ v.heap[g20_2]? = some (.cells c2011 80 (0, 0)) ∧ True) (by kernel_rfl) ?_
        replace hB := hB.drew
        generalize World.drew _ = v2048_ at *
        simp only [List.size_toArray, List.length_cons, List.length_nil, Array.replicate, List.replicate]
        refine any_take (i := 0) (v := (.agg c1)) #[false, false, false, false, false, false] rfl (by kernel_rfl) (by kernel_rfl) (by kernel_rfl) (by kernel_rfl) (fun _ _ _ h => h) (.inl ⟨by kernel_rfl, fun x_ hu => exec_arr x_ 80 (.tmp 6) rfl g2_2 (by kernel_rfl) c1 80 _ hu.1 Tryd.underlying80 rfl (by rw [Tryd.infoNum, NC.size _ hx1])⟩) ⟨(hB.get 4 (x := ⟨g2_2, c1, 80⟩) rfl), (hB.get 19 (x := ⟨g20_2, c2011, 80⟩) rfl), trivial⟩ ?_
        simp only [nrm]
        refine any_take (i := 1) (v := (.agg c2011)) #[true, false, false, false, false, false] rfl (by kernel_rfl) (by kernel_rfl) (by kernel_rfl) (by kernel_rfl) (fun _ _ _ h => h) (.inl ⟨by kernel_rfl, fun x_ hu => exec_arr x_ 80 (.tmp 24) rfl g20_2 (by kernel_rfl) c2011 80 _ hu.2.1 Tryd.underlying80 rfl (by rw [Tryd.infoNum, NC.size _ hc2011])⟩) ⟨(hB.get 4 (x := ⟨g2_2, c1, 80⟩) rfl), (hB.get 19 (x := ⟨g20_2, c2011, 80⟩) rfl), trivial⟩ ?_
        simp only [nrm]
        refine any_take (i := 2) (v := (.agg c2011)) #[true, true, false, false, false, false] rfl (by kernel_rfl) (by kernel_rfl) (by kernel_rfl) (by kernel_rfl) (fun _ _ _ h => h) (.inl ⟨by kernel_rfl, fun x_ hu => exec_arr x_ 80 (.tmp 24) rfl g20_2 (by kernel_rfl) c2011 80 _ hu.2.1 Tryd.underlying80 rfl (by rw [Tryd.infoNum, NC.size _ hc2011])⟩) ⟨(hB.get 4 (x := ⟨g2_2, c1, 80⟩) rfl), (hB.get 19 (x := ⟨g20_2, c2011, 80⟩) rfl), trivial⟩ ?_
        simp only [nrm]
        refine any_one (i := 3) (by kernel_rfl) rfl (fun K hK => ?_)
        refine step_callw (by kernel_rfl) 55 #[.agg c2011, .agg c2011] (by kernel_rfl) ((nmul_nc hc2011 hc2011 _).mono ?_)
        rintro r v2049_ ⟨c2013, rfl, hc2013, hg⟩
        refine ⟨_, rfl, ?_⟩
        replace hB := hB.more hg
        clear hg
        refine hK.out _ _ ⟨(hB.get 4 (x := ⟨g2_2, c1, 80⟩) rfl), (hB.get 19 (x := ⟨g20_2, c2011, 80⟩) rfl), trivial⟩ (fun _ => ?_)
        clear hK K
        simp only [nrm]
        refine any_one (i := 4) (by kernel_rfl) rfl (fun K hK => ?_)
        refine step_callw (by kernel_rfl) 55 #[.agg c1, .agg c2013] (by kernel_rfl) ((nmul_nc hx1 hc2013 _).mono ?_)
        rintro r v2050_ ⟨c2014, rfl, hc2014, hg⟩
        refine ⟨_, rfl, ?_⟩
        replace hB := hB.more hg
        clear hg
        refine hK.out _ _ ⟨(hB.get 4 (x := ⟨g2_2, c1, 80⟩) rfl), (hB.get 19 (x := ⟨g20_2, c2011, 80⟩) rfl), trivial⟩ (fun _ => ?_)
        clear hK K
        simp only [nrm]
        refine any_one (i := 5) (by kernel_rfl) rfl (fun K hK => ?_)
        rw [if_pos (by kernel_rfl)]
        refine wp_store_row 80 (.tmp 10) (.tmp 101) rfl g3_4 c2014 (by kernel_rfl) (by kernel_rfl) 80 y (hB.get 8 (x := ⟨g3_4, y, 80⟩) rfl) (by rw [Tryd.infoNum, NC.size _ hc2014]) ((NC.size _ hy).trans (NC.size _ hc2014).symm) (NC.one _ hc2014) ?_
        replace hB := hB.set 8 (x := ⟨g3_4, y, 80⟩) rfl c2014
        simp only [List.set_cons_zero, List.set_cons_succ] at hB
        refine hK.out _ _ ⟨(hB.get 4 (x := ⟨g2_2, c1, 80⟩) rfl), (hB.get 19 (x := ⟨g20_2, c2011, 80⟩) rfl), trivial⟩ (fun _ => ?_)
        clear hK K
        generalize World.setRow _ _ _ = v2051_ at *
        simp only [nrm]
        refine any_done (by kernel_rfl) ?_
        go_upto_region 23 with fail
        refine wp_region_lit ?_
        refine list_val (.agg c2005) (by kernel_rfl) (exec_arr _ 80 (.tmp 18) rfl g17_1 (by kernel_rfl) c2005 80 _ (hB.get 13 (x := ⟨g17_1, c2005, 80⟩) rfl) Tryd.underlying80 rfl (by rw [Tryd.infoNum, NC.size _ hc2005])) ?_
        simp only [nrm]
        refine list_val (.agg c2006) (by kernel_rfl) (exec_arr _ 80 (.tmp 19) rfl g17_2 (by kernel_rfl) c2006 80 _ (hB.get 14 (x := ⟨g17_2, c2006, 80⟩) rfl) Tryd.underlying80 rfl (by rw [Tryd.infoNum, NC.size _ hc2006])) ?_
        simp only [nrm]
        refine list_call 55 #[.agg c2005, .agg c2006] (by kernel_rfl) (by kernel_rfl) ((nmul_nc hc2005 hc2006 _).mono ?_)
        rintro r v2052_ ⟨c2015, rfl, hc2015, hg⟩
        refine ⟨_, rfl, ?_⟩
        replace hB := hB.more hg
        clear hg
        simp only [nrm]
        refine list_store 80 (.tmp 7) (.tmp 104) g3_1 c2015 80 s (by kernel_rfl) rfl (by kernel_rfl) (by kernel_rfl) (hB.get 5 (x := ⟨g3_1, s, 80⟩) rfl) (by rw [Tryd.infoNum, NC.size _ hc2015]) ((NC.size _ hs).trans (NC.size _ hc2015).symm) (NC.one _ hc2015) ?_
        replace hB := hB.set 5 (x := ⟨g3_1, s, 80⟩) rfl c2015
        simp only [List.set_cons_zero, List.set_cons_succ] at hB
        generalize World.setRow _ _ _ = v2053_ at *
        simp only [nrm]
        refine wpList_nil ?_
        go_upto_region 24 with fail
        refine any_start (S := fun v => v.heap[g17_1]? = some (.cells c2005 80 (0, 0)) ∧ v.heap[g18_3]? = some (.cells c2007 80 (0, 0)) ∧ True) (by kernel_rfl) ?_
        replace hB := hB.drew
        generalize World.drew _ = v2054_ at *
        simp only [List.size_toArray, List.length_cons, List.length_nil, Array.replicate, List.replicate]
        refine any_take (i := 0) (v := (.agg c2007)) #[false, false, false, false, false, false, false] rfl (by kernel_rfl) (by kernel_rfl) (by kernel_rfl) (by kernel_rfl) (fun _ _ _ h => h) (.inl ⟨by kernel_rfl, fun x_ hu => exec_arr x_ 80 (.tmp 20) rfl g18_3 (by kernel_rfl) c2007 80 _ hu.2.1 Tryd.underlying80 rfl (by rw [Tryd.infoNum, NC.size _ hc2007])⟩) ⟨(hB.get 13 (x := ⟨g17_1, c2005, 80⟩) rfl), (hB.get 15 (x := ⟨g18_3, c2007, 80⟩) rfl), trivial⟩ ?_
        simp only [nrm]
        refine any_take (i := 1) (v := (.agg c2005)) #[true, false, false, false, false, false, false] rfl (by kernel_rfl) (by kernel_rfl) (by kernel_rfl) (by kernel_rfl) (fun _ _ _ h => h) (.inl ⟨by kernel_rfl, fun x_ hu => exec_arr x_ 80 (.tmp 18) rfl g17_1 (by kernel_rfl) c2005 80 _ hu.1 Tryd.underlying80 rfl (by rw [Tryd.infoNum, NC.size _ hc2005])⟩) ⟨(hB.get 13 (x := ⟨g17_1, c2005, 80⟩) rfl), (hB.get 15 (x := ⟨g18_3, c2007, 80⟩) rfl), trivial⟩ ?_
        simp only [nrm]
        refine any_take (i := 2) (v := (.agg c2007)) #[true, true, false, false, false, false, false] rfl (by kernel_rfl) (by kernel_rfl) (by kernel_rfl) (by kernel_rfl) (fun _ _ _ h => h) (.inl ⟨by kernel_rfl, fun x_ hu => exec_arr x_ 80 (.tmp 20) rfl g18_3 (by kernel_rfl) c2007 80 _ hu.2.1 Tryd.underlying80 rfl (by rw [Tryd.infoNum, NC.size _ hc2007])⟩) ⟨(hB.get 13 (x := ⟨g17_1, c2005, 80⟩) rfl), (hB.get 15 (x := ⟨g18_3, c2007, 80⟩) rfl), trivial⟩ ?_
        simp only [nrm]
        refine any_one (i := 3) (by kernel_rfl) rfl (fun K hK => ?_)
        refine step_callw (by kernel_rfl) 56 #[.agg c2007, .int .i64 121665] (by kernel_rfl) ((nsmall_nc 121665 (by omega) hc2007 _).mono ?_)
        rintro r v2055_ ⟨c2016, rfl, hc2016, hg⟩
        refine ⟨_, rfl, ?_⟩
        replace hB := hB.more hg
        clear hg
        refine hK.out _ _ ⟨(hB.get 13 (x := ⟨g17_1, c2005, 80⟩) rfl), (hB.get 15 (x := ⟨g18_3, c2007, 80⟩) rfl), trivial⟩ (fun _ => ?_)
        clear hK K
        simp only [nrm]
        refine any_one (i := 4) (by kernel_rfl) rfl (fun K hK => ?_)
        refine step_callw (by kernel_rfl) 53 #[.agg c2005, .agg c2016] (by kernel_rfl) ((nadd_nc hc2005 hc2016 _).mono ?_)
        rintro r v2056_ ⟨c2017, rfl, hc2017, hg⟩
        refine ⟨_, rfl, ?_⟩
        replace hB := hB.more hg
        clear hg
        refine hK.out _ _ ⟨(hB.get 13 (x := ⟨g17_1, c2005, 80⟩) rfl), (hB.get 15 (x := ⟨g18_3, c2007, 80⟩) rfl), trivial⟩ (fun _ => ?_)
        clear hK K
        simp only [nrm]
        refine any_one (i := 5) (by kernel_rfl) rfl (fun K hK => ?_)
        refine step_callw (by kernel_rfl) 55 #[.agg c2007, .agg c2017] (by kernel_rfl) ((nmul_nc hc2007 hc2017 _).mono ?_)
        rintro r v2057_ ⟨c2018, rfl, hc2018, hg⟩
        refine ⟨_, rfl, ?_⟩
        replace hB := hB.more hg
        clear hg
        refine hK.out _ _ ⟨(hB.get 13 (x := ⟨g17_1, c2005, 80⟩) rfl), (hB.get 15 (x := ⟨g18_3, c2007, 80⟩) rfl), trivial⟩ (fun _ => ?_)
        clear hK K
        simp only [nrm]
        refine any_one (i := 6) (by kernel_rfl) rfl (fun K hK => ?_)
        rw [if_pos (by kernel_rfl)]
        refine wp_store_row 80 (.tmp 8) (.tmp 110) rfl g3_2 c2018 (by kernel_rfl) (by kernel_rfl) 80 t (hB.get 6 (x := ⟨g3_2, t, 80⟩) rfl) (by rw [Tryd.infoNum, NC.size _ hc2018]) ((NC.size _ ht).trans (NC.size _ hc2018).symm) (NC.one _ hc2018) ?_
        replace hB := hB.set 6 (x := ⟨g3_2, t, 80⟩) rfl c2018
        simp only [List.set_cons_zero, List.set_cons_succ] at hB
        refine hK.out _ _ ⟨(hB.get 13 (x := ⟨g17_1, c2005, 80⟩) rfl), (hB.get 15 (x := ⟨g18_3, c2007, 80⟩) rfl), trivial⟩ (fun _ => ?_)
        clear hK K
        generalize World.setRow _ _ _ = v2058_ at *
        simp only [nrm]
        refine any_done (by kernel_rfl) ?_
        go_upto_region 26 with fail
        refine wp_region_lit ?_
        refine list_val (.agg c2012) (by kernel_rfl) (exec_arr _ 80 (.tmp 9) rfl g3_3 (by kernel_rfl) c2012 80 _ (hB.get 7 (x := ⟨g3_3, c2012, 80⟩) rfl) Tryd.underlying80 rfl (by rw [Tryd.infoNum, NC.size _ hc2012])) ?_
        simp only [nrm]
        refine list_val (.agg c2015) (by kernel_rfl) (exec_arr _ 80 (.tmp 7) rfl g3_1 (by kernel_rfl) c2015 80 _ (hB.get 5 (x := ⟨g3_1, c2015, 80⟩) rfl) Tryd.underlying80 rfl (by rw [Tryd.infoNum, NC.size _ hc2015])) ?_
        simp only [nrm]
        refine list_store 80 (.tmp 7) (.tmp 113) g3_1 c2012 80 c2015 (by kernel_rfl) rfl (by kernel_rfl) (by kernel_rfl) (hB.get 5 (x := ⟨g3_1, c2015, 80⟩) rfl) (by rw [Tryd.infoNum, NC.size _ hc2012]) ((NC.size _ hc2015).trans (NC.size _ hc2012).symm) (NC.one _ hc2012) ?_
        replace hB := hB.set 5 (x := ⟨g3_1, c2015, 80⟩) rfl c2012
        simp only [List.set_cons_zero, List.set_cons_succ] at hB
        generalize World.setRow _ _ _ = v2059_ at *
        simp only [nrm]
        refine list_store 80 (.tmp 9) (.tmp 114) g3_3 c2015 80 c2012 (by kernel_rfl) rfl (by kernel_rfl) (by kernel_rfl) (hB.get 7 (x := ⟨g3_3, c2012, 80⟩) rfl) (by rw [Tryd.infoNum, NC.size _ hc2015]) ((NC.size _ hc2012).trans (NC.size _ hc2015).symm) (NC.one _ hc2015) ?_
        replace hB := hB.set 7 (x := ⟨g3_3, c2012, 80⟩) rfl c2015
        simp only [List.set_cons_zero, List.set_cons_succ] at hB
        generalize World.setRow _ _ _ = v2060_ at *
        simp only [nrm]
        refine wpList_nil ?_
        go_upto_region 27 with fail
        refine wp_region_lit ?_
        refine list_val (.agg c2014) (by kernel_rfl) (exec_arr _ 80 (.tmp 10) rfl g3_4 (by kernel_rfl) c2014 80 _ (hB.get 8 (x := ⟨g3_4, c2014, 80⟩) rfl) Tryd.underlying80 rfl (by rw [Tryd.infoNum, NC.size _ hc2014])) ?_
        simp only [nrm]
        refine list_val (.agg c2018) (by kernel_rfl) (exec_arr _ 80 (.tmp 8) rfl g3_2 (by kernel_rfl) c2018 80 _ (hB.get 6 (x := ⟨g3_2, c2018, 80⟩) rfl) Tryd.underlying80 rfl (by rw [Tryd.infoNum, NC.size _ hc2018])) ?_
        simp only [nrm]
        refine list_store 80 (.tmp 8) (.tmp 115) g3_2 c2014 80 c2018 (by kernel_rfl) rfl (by kernel_rfl) (by kernel_rfl) (hB.get 6 (x := ⟨g3_2, c2018, 80⟩) rfl) (by rw [Tryd.infoNum, NC.size _ hc2014]) ((NC.size _ hc2018).trans (NC.size _ hc2014).symm) (NC.one _ hc2014) ?_
        replace hB := hB.set 6 (x := ⟨g3_2, c2018, 80⟩) rfl c2014
        simp only [List.set_cons_zero, List.set_cons_succ] at hB
        generalize World.setRow _ _ _ = v2061_ at *
        simp only [nrm]
        refine list_store 80 (.tmp 10) (.tmp 116) g3_4 c2018 80 c2014 (by kernel_rfl) rfl (by kernel_rfl) (by kernel_rfl) (hB.get 8 (x := ⟨g3_4, c2014, 80⟩) rfl) (by rw [Tryd.infoNum, NC.size _ hc2018]) ((NC.size _ hc2014).trans (NC.size _ hc2018).symm) (NC.one _ hc2018) ?_
        replace hB := hB.set 8 (x := ⟨g3_4, c2014, 80⟩) rfl c2018
        simp only [List.set_cons_zero, List.set_cons_succ] at hB
        generalize World.setRow _ _ _ = v2062_ at *
        simp only [nrm]
        refine wpList_nil ?_
        replace hB := hide (Bl.left (L := [⟨w.heap.size, (kc (digs (M : Int) 32)), 25⟩, ⟨w.heap.size + 1, (kc (digs (U : Int) 32)), 25⟩, ⟨w.heap.size + 1 + 1, Z32, 25⟩, ⟨g1_2, (kc (digs (cl M : Int) 32)), 25⟩, ⟨g2_2, c1, 80⟩, ⟨g3_1, c2012, 80⟩, ⟨g3_2, c2014, 80⟩, ⟨g3_3, c2015, 80⟩, ⟨g3_4, c2018, 80⟩]) (M := [⟨g16_1, c2001, 80⟩, ⟨g16_2, c2002, 80⟩, ⟨g16_3, c2003, 80⟩, ⟨g16_4, c2004, 80⟩, ⟨g17_1, c2005, 80⟩, ⟨g17_2, c2006, 80⟩, ⟨g18_3, c2007, 80⟩, ⟨g19_1, c2008, 80⟩, ⟨g19_2, c2009, 80⟩, ⟨g20_1, c2010, 80⟩, ⟨g20_2, c2011, 80⟩]) hB)
        have r1 : Hid (NC (Ed.lad UU (Ed.hi (cl M) (255 - tt))).a c2012) := by
          rw [unhide hnx]
          have h2 : NC (Ed.sX S.c S.d S.a S.b) c2012 := hc2012
          rw [sx_sym] at h2
          exact hide h2
        have r2 : Hid (NC (Ed.lad UU (Ed.hi (cl M) (255 - tt))).b c2014) := by
          rw [unhide hnx]
          have h2 : NC (Ed.sZ UU S.c S.d S.a S.b) c2014 := hc2014
          rw [sz_sym] at h2
          exact hide h2
        have r3 : Hid (NC (Ed.lad UU (Ed.hi (cl M) (255 - tt))).c c2015) := by rw [unhide hnx]; exact hide hc2015
        have r4 : Hid (NC (Ed.lad UU (Ed.hi (cl M) (255 - tt))).d c2018) := by
          rw [unhide hnx]
          exact hide (NC.same hc2018 (congrArg (· % pp) (by show _ = Ed.dZ S.c S.d; unfold Ed.dZ; rw [Int.mul_comm _ 121665])))
        clear hx hy hs ht hc2001 hc2002 hc2003 hc2004 hc2005 hc2006 hc2007 hc2008 hc2009 hc2010 hc2011 hc2012 hc2013 hc2014 hc2015 hc2016 hc2017 hc2018
        go_wp2_with fail
        go_roundw
        case rel => exact ⟨_, _, _, _, _, _, _, _, _, _, _, _, _, _, _, _, _, _, _, _, _, _, _, _, _, _, _, _, _, _, _, _, _, _, _, _, _, _, _, _, _, _, _, _, _, _, _, _, _, _, _, _, _, _, _, _, _, _, _, _, _, _, _, _, _, _, _, _, _, _, _, _, _, _, _, _, _, _, _, _, _, _, _, _, _, _, _, _, _, _, _, _, _, _, _, ⟨tt, _, _, _, _, by omega, rfl, r1, r2, r3, r4, hB⟩, rfl⟩
        case measure =>
          show (((tt : Int) - 1) + 1).toNat < ((tt : Int) + 1).toNat
          omega
      · have hX1 : X % 2 = 0 := by rw [unhide hbit, hbt]; rfl
        have htb : Ed.bt (cl M) tt = false := by unfold Ed.bt; rw [hbt]; rfl
        rw [htb] at hnx
        rw [hX1] at t1
        clear hbt htb hbit hX
        go_upto_region 16 with fail
        replace hB := unhide hB; replace hx := unhide hx; replace hy := unhide hy; replace hs := unhide hs; replace ht := unhide ht
        refine any_start (S := fun v => v.heap[g3_1]? = some (.cells x 80 (0, 0)) ∧ v.heap[g3_2]? = some (.cells y 80 (0, 0)) ∧ v.heap[g3_3]? = some (.cells s 80 (0, 0)) ∧ v.heap[g3_4]? = some (.cells t 80 (0, 0)) ∧ True) (by kernel_rfl) ?_
        replace hB := hB.drew
        generalize World.drew _ = v1001_ at *
        simp only [List.size_toArray, List.length_cons, List.length_nil, Array.replicate, List.replicate]
        refine any_take (i := 0) (v := (.agg x)) #[false, false, false, false, false, false, false, false, false, false, false, false, false, false, false, false, false, false, false, false] rfl (by kernel_rfl) (by kernel_rfl) (by kernel_rfl) (by kernel_rfl) (fun _ _ _ h => h) (.inl ⟨by kernel_rfl, fun x_ hu => exec_arr x_ 80 (.tmp 7) rfl g3_1 (by kernel_rfl) x 80 _ hu.1 Tryd.underlying80 rfl (by rw [Tryd.infoNum, NC.size _ hx])⟩) ⟨(hB.get 5 (x := ⟨g3_1, x, 80⟩) rfl), (hB.get 6 (x := ⟨g3_2, y, 80⟩) rfl), (hB.get 7 (x := ⟨g3_3, s, 80⟩) rfl), (hB.get 8 (x := ⟨g3_4, t, 80⟩) rfl), trivial⟩ ?_
        simp only [nrm]
        refine any_take (i := 1) (v := (.agg y)) #[true, false, false, false, false, false, false, false, false, false, false, false, false, false, false, false, false, false, false, false] rfl (by kernel_rfl) (by kernel_rfl) (by kernel_rfl) (by kernel_rfl) (fun _ _ _ h => h) (.inl ⟨by kernel_rfl, fun x_ hu => exec_arr x_ 80 (.tmp 8) rfl g3_2 (by kernel_rfl) y 80 _ hu.2.1 Tryd.underlying80 rfl (by rw [Tryd.infoNum, NC.size _ hy])⟩) ⟨(hB.get 5 (x := ⟨g3_1, x, 80⟩) rfl), (hB.get 6 (x := ⟨g3_2, y, 80⟩) rfl), (hB.get 7 (x := ⟨g3_3, s, 80⟩) rfl), (hB.get 8 (x := ⟨g3_4, t, 80⟩) rfl), trivial⟩ ?_
        simp only [nrm]
        refine any_take (i := 3) (v := (.agg x)) #[true, true, false, false, false, false, false, false, false, false, false, false, false, false, false, false, false, false, false, false] rfl (by kernel_rfl) (by kernel_rfl) (by kernel_rfl) (by kernel_rfl) (fun _ _ _ h => h) (.inl ⟨by kernel_rfl, fun x_ hu => exec_arr x_ 80 (.tmp 7) rfl g3_1 (by kernel_rfl) x 80 _ hu.1 Tryd.underlying80 rfl (by rw [Tryd.infoNum, NC.size _ hx])⟩) ⟨(hB.get 5 (x := ⟨g3_1, x, 80⟩) rfl), (hB.get 6 (x := ⟨g3_2, y, 80⟩) rfl), (hB.get 7 (x := ⟨g3_3, s, 80⟩) rfl), (hB.get 8 (x := ⟨g3_4, t, 80⟩) rfl), trivial⟩ ?_
        simp only [nrm]
        refine any_take (i := 4) (v := (.agg y)) #[true, true, false, true, false, false, false, false, false, false, false, false, false, false, false, false, false, false, false, false] rfl (by kernel_rfl) (by kernel_rfl) (by kernel_rfl) (by kernel_rfl) (fun _ _ _ h => h) (.inl ⟨by kernel_rfl, fun x_ hu => exec_arr x_ 80 (.tmp 8) rfl g3_2 (by kernel_rfl) y 80 _ hu.2.1 Tryd.underlying80 rfl (by rw [Tryd.infoNum, NC.size _ hy])⟩) ⟨(hB.get 5 (x := ⟨g3_1, x, 80⟩) rfl), (hB.get 6 (x := ⟨g3_2, y, 80⟩) rfl), (hB.get 7 (x := ⟨g3_3, s, 80⟩) rfl), (hB.get 8 (x := ⟨g3_4, t, 80⟩) rfl), trivial⟩ ?_
        simp only [nrm]
        refine any_take (i := 6) (v := (.agg s)) #[true, true, false, true, true, false, false, false, false, false, false, false, false, false, false, false, false, false, false, false] rfl (by kernel_rfl) (by kernel_rfl) (by kernel_rfl) (by kernel_rfl) (fun _ _ _ h => h) (.inl ⟨by kernel_rfl, fun x_ hu => exec_arr x_ 80 (.tmp 9) rfl g3_3 (by kernel_rfl) s 80 _ hu.2.2.1 Tryd.underlying80 rfl (by rw [Tryd.infoNum, NC.size _ hs])⟩) ⟨(hB.get 5 (x := ⟨g3_1, x, 80⟩) rfl), (hB.get 6 (x := ⟨g3_2, y, 80⟩) rfl), (hB.get 7 (x := ⟨g3_3, s, 80⟩) rfl), (hB.get 8 (x := ⟨g3_4, t, 80⟩) rfl), trivial⟩ ?_
        simp only [nrm]
        refine any_take (i := 7) (v := (.agg t)) #[true, true, false, true, true, false, true, false, false, false, false, false, false, false, false, false, false, false, false, false] rfl (by kernel_rfl) (by kernel_rfl) (by kernel_rfl) (by kernel_rfl) (fun _ _ _ h => h) (.inl ⟨by kernel_rfl, fun x_ hu => exec_arr x_ 80 (.tmp 10) rfl g3_4 (by kernel_rfl) t 80 _ hu.2.2.2.1 Tryd.underlying80 rfl (by rw [Tryd.infoNum, NC.size _ ht])⟩) ⟨(hB.get 5 (x := ⟨g3_1, x, 80⟩) rfl), (hB.get 6 (x := ⟨g3_2, y, 80⟩) rfl), (hB.get 7 (x := ⟨g3_3, s, 80⟩) rfl), (hB.get 8 (x := ⟨g3_4, t, 80⟩) rfl), trivial⟩ ?_
        simp only [nrm]
        refine any_take (i := 9) (v := (.agg s)) #[true, true, false, true, true, false, true, true, false, false, false, false, false, false, false, false, false, false, false, false] rfl (by kernel_rfl) (by kernel_rfl) (by kernel_rfl) (by kernel_rfl) (fun _ _ _ h => h) (.inl ⟨by kernel_rfl, fun x_ hu => exec_arr x_ 80 (.tmp 9) rfl g3_3 (by kernel_rfl) s 80 _ hu.2.2.1 Tryd.underlying80 rfl (by rw [Tryd.infoNum, NC.size _ hs])⟩) ⟨(hB.get 5 (x := ⟨g3_1, x, 80⟩) rfl), (hB.get 6 (x := ⟨g3_2, y, 80⟩) rfl), (hB.get 7 (x := ⟨g3_3, s, 80⟩) rfl), (hB.get 8 (x := ⟨g3_4, t, 80⟩) rfl), trivial⟩ ?_
        simp only [nrm]
        refine any_take (i := 10) (v := (.agg t)) #[true, true, false, true, true, false, true, true, false, true, false, false, false, false, false, false, false, false, false, false] rfl (by kernel_rfl) (by kernel_rfl) (by kernel_rfl) (by kernel_rfl) (fun _ _ _ h => h) (.inl ⟨by kernel_rfl, fun x_ hu => exec_arr x_ 80 (.tmp 10) rfl g3_4 (by kernel_rfl) t 80 _ hu.2.2.2.1 Tryd.underlying80 rfl (by rw [Tryd.infoNum, NC.size _ ht])⟩) ⟨(hB.get 5 (x := ⟨g3_1, x, 80⟩) rfl), (hB.get 6 (x := ⟨g3_2, y, 80⟩) rfl), (hB.get 7 (x := ⟨g3_3, s, 80⟩) rfl), (hB.get 8 (x := ⟨g3_4, t, 80⟩) rfl), trivial⟩ ?_
        simp only [nrm]
        have hSf : ∀ v, Gr v1001_ v → (fun v => v.heap[g3_1]? = some (.cells x 80 (0, 0)) ∧ v.heap[g3_2]? = some (.cells y 80 (0, 0)) ∧ v.heap[g3_3]? = some (.cells s 80 (0, 0)) ∧ v.heap[g3_4]? = some (.cells t 80 (0, 0)) ∧ True) v := fun v k => ⟨k.blk (hB.get 5 (x := ⟨g3_1, x, 80⟩) rfl), k.blk (hB.get 6 (x := ⟨g3_2, y, 80⟩) rfl), k.blk (hB.get 7 (x := ⟨g3_3, s, 80⟩) rfl), k.blk (hB.get 8 (x := ⟨g3_4, t, 80⟩) rfl), trivial⟩
        refine stage4 v1001_ #[.int .i64 0, .int .i64 0, .int .i64 0, .int .i64 0, .int .i64 0, .int .i64 0, .int .i64 0, .int .i64 0, .int .i64 0, .int .i64 0, .int .i64 0, .int .i64 0, .int .i64 0, .int .i64 0, .int .i64 0, .int .i64 0] 80 (fw4 _ 14 15 16 17) (fun b16_1 b16_2 b16_3 b16_4 => #[true, true, false, true, true, false, true, true, false, true, true, false, b16_1, b16_2, b16_3, b16_4, false, false, false, false]) 12 13 14 15 2 false hSf (by kernel_rfl) (fun _ _ _ _ => ⟨rfl, rfl, rfl, rfl⟩) ?_ ?_ ?_ ?_ ?_ (M4.first (fun b16_1 b16_2 b16_3 b16_4 => #[true, true, false, true, true, false, true, true, false, true, true, false, b16_1, b16_2, b16_3, b16_4, false, false, false, false]) _ rfl rfl)
        all_goals simp only [fw4, Act.put, List.setIfInBounds_toArray, List.set_cons_zero, List.set_cons_succ, List.getElem_toArray, List.getElem_cons_zero, List.getElem_cons_succ]
        · intro q16_1 q16_2 q16_3 q16_4 x K hK
          refine wpOp_step (o := _) rfl (fun K' hK' => ?_)
          replace hK' := hide hK'
          replace hK := hide hK
          go_simp
          exact unhide hK' _ _ (unhide hK)
        · intro q16_1 q16_2 q16_3 q16_4 x K hK
          refine wpOp_step (o := _) rfl (fun K' hK' => ?_)
          replace hK' := hide hK'
          replace hK := hide hK
          go_simp
          exact unhide hK' _ _ (unhide hK)
        · intro q16_1 q16_2 q16_3 q16_4 x K hK
          refine wpOp_step (o := _) rfl (fun K' hK' => ?_)
          replace hK' := hide hK'
          replace hK := hide hK
          go_simp
          exact unhide hK' _ _ (unhide hK)
        · intro q16_1 q16_2 q16_3 q16_4 x K hK
          refine wpOp_step (o := _) rfl (fun K' hK' => ?_)
          replace hK' := hide hK'
          replace hK := hide hK
          go_simp
          exact unhide hK' _ _ (unhide hK)
        intro b16_1 b16_2 b16_3 b16_4 q16_1 q16_2 q16_3 q16_4 g16_1 g16_2 g16_3 g16_4 v1002_ hM _
        refine wpOp_step (o := _) rfl (fun K' hK' => ?_)
        replace hK' := hide hK'
        refine step_callw (by kernel_rfl) 53 #[.agg x, .agg y] (by kernel_rfl) ((nadd_nc hx hy _).mono ?_)
        rintro r v1003_ ⟨c1001, rfl, hc1001, hg⟩
        refine ⟨_, rfl, ?_⟩
        refine unhide hK' _ _ ⟨hSf _ (hM.gr.trans hg), ?_⟩
        clear hK' K'
        simp only [nrm]
        refine stage4 v1001_ #[.int .i64 0, .int .i64 0, .int .i64 0, .int .i64 0, .int .i64 0, .int .i64 0, .int .i64 0, .int .i64 0, .int .i64 0, .int .i64 0, .int .i64 0, .int .i64 0, .int .i64 0, .int .i64 0, .int .i64 0, .int .i64 0] 80 (fw4 _ 14 15 16 17) (fun b16_1 b16_2 b16_3 b16_4 => #[true, true, true, true, true, false, true, true, false, true, true, false, b16_1, b16_2, b16_3, b16_4, false, false, false, false]) 12 13 14 15 5 false hSf (by kernel_rfl) (fun _ _ _ _ => ⟨rfl, rfl, rfl, rfl⟩) ?_ ?_ ?_ ?_ ?_ ⟨b16_1, b16_2, b16_3, b16_4, q16_1, q16_2, q16_3, q16_4, g16_1, g16_2, g16_3, g16_4, hM.again hg rfl rfl⟩
        all_goals simp only [fw4, Act.put, List.setIfInBounds_toArray, List.set_cons_zero, List.set_cons_succ, List.getElem_toArray, List.getElem_cons_zero, List.getElem_cons_succ]
        · intro q16_1 q16_2 q16_3 q16_4 x K hK
          refine wpOp_step (o := _) rfl (fun K' hK' => ?_)
          replace hK' := hide hK'
          replace hK := hide hK
          go_simp
          exact unhide hK' _ _ (unhide hK)
        · intro q16_1 q16_2 q16_3 q16_4 x K hK
          refine wpOp_step (o := _) rfl (fun K' hK' => ?_)
          replace hK' := hide hK'
          replace hK := hide hK
          go_simp
          exact unhide hK' _ _ (unhide hK)
        · intro q16_1 q16_2 q16_3 q16_4 x K hK
          refine wpOp_step (o := _) rfl (fun K' hK' => ?_)
          replace hK' := hide hK'
          replace hK := hide hK
          go_simp
          exact unhide hK' _ _ (unhide hK)
        · intro q16_1 q16_2 q16_3 q16_4 x K hK
          refine wpOp_step (o := _) rfl (fun K' hK' => ?_)
          replace hK' := hide hK'
          replace hK := hide hK
          go_simp
          exact unhide hK' _ _ (unhide hK)
        clear hM hg
        intro b16_1 b16_2 b16_3 b16_4 q16_1 q16_2 q16_3 q16_4 g16_1 g16_2 g16_3 g16_4 v1004_ hM _
        refine wpOp_step (o := _) rfl (fun K' hK' => ?_)
        replace hK' := hide hK'
        refine step_callw (by kernel_rfl) 54 #[.agg x, .agg y] (by kernel_rfl) ((nsub_nc hx hy _).mono ?_)
        rintro r v1005_ ⟨c1002, rfl, hc1002, hg⟩
        refine ⟨_, rfl, ?_⟩
        refine unhide hK' _ _ ⟨hSf _ (hM.gr.trans hg), ?_⟩
        clear hK' K'
        simp only [nrm]
        refine stage4 v1001_ #[.int .i64 0, .int .i64 0, .int .i64 0, .int .i64 0, .int .i64 0, .int .i64 0, .int .i64 0, .int .i64 0, .int .i64 0, .int .i64 0, .int .i64 0, .int .i64 0, .int .i64 0, .int .i64 0, .int .i64 0, .int .i64 0] 80 (fw4 _ 14 15 16 17) (fun b16_1 b16_2 b16_3 b16_4 => #[true, true, true, true, true, true, true, true, false, true, true, false, b16_1, b16_2, b16_3, b16_4, false, false, false, false]) 12 13 14 15 8 false hSf (by kernel_rfl) (fun _ _ _ _ => ⟨rfl, rfl, rfl, rfl⟩) ?_ ?_ ?_ ?_ ?_ ⟨b16_1, b16_2, b16_3, b16_4, q16_1, q16_2, q16_3, q16_4, g16_1, g16_2, g16_3, g16_4, hM.again hg rfl rfl⟩
        all_goals simp only [fw4, Act.put, List.setIfInBounds_toArray, List.set_cons_zero, List.set_cons_succ, List.getElem_toArray, List.getElem_cons_zero, List.getElem_cons_succ]
        · intro q16_1 q16_2 q16_3 q16_4 x K hK
          refine wpOp_step (o := _) rfl (fun K' hK' => ?_)
          replace hK' := hide hK'
          replace hK := hide hK
          go_simp
          exact unhide hK' _ _ (unhide hK)
        · intro q16_1 q16_2 q16_3 q16_4 x K hK
          refine wpOp_step (o := _) rfl (fun K' hK' => ?_)
          replace hK' := hide hK'
          replace hK := hide hK
          go_simp
          exact unhide hK' _ _ (unhide hK)
        · intro q16_1 q16_2 q16_3 q16_4 x K hK
          refine wpOp_step (o := _) rfl (fun K' hK' => ?_)
          replace hK' := hide hK'
          replace hK := hide hK
          go_simp
          exact unhide hK' _ _ (unhide hK)
        · intro q16_1 q16_2 q16_3 q16_4 x K hK
          refine wpOp_step (o := _) rfl (fun K' hK' => ?_)
          replace hK' := hide hK'
          replace hK := hide hK
          go_simp
          exact unhide hK' _ _ (unhide hK)
        clear hM hg
        intro b16_1 b16_2 b16_3 b16_4 q16_1 q16_2 q16_3 q16_4 g16_1 g16_2 g16_3 g16_4 v1006_ hM _
        refine wpOp_step (o := _) rfl (fun K' hK' => ?_)
        replace hK' := hide hK'
        refine step_callw (by kernel_rfl) 53 #[.agg s, .agg t] (by kernel_rfl) ((nadd_nc hs ht _).mono ?_)
        rintro r v1007_ ⟨c1003, rfl, hc1003, hg⟩
        refine ⟨_, rfl, ?_⟩
        refine unhide hK' _ _ ⟨hSf _ (hM.gr.trans hg), ?_⟩
        clear hK' K'
        simp only [nrm]
        refine stage4 v1001_ #[.int .i64 0, .int .i64 0, .int .i64 0, .int .i64 0, .int .i64 0, .int .i64 0, .int .i64 0, .int .i64 0, .int .i64 0, .int .i64 0, .int .i64 0, .int .i64 0, .int .i64 0, .int .i64 0, .int .i64 0, .int .i64 0] 80 (fw4 _ 14 15 16 17) (fun b16_1 b16_2 b16_3 b16_4 => #[true, true, true, true, true, true, true, true, true, true, true, false, b16_1, b16_2, b16_3, b16_4, false, false, false, false]) 12 13 14 15 11 false hSf (by kernel_rfl) (fun _ _ _ _ => ⟨rfl, rfl, rfl, rfl⟩) ?_ ?_ ?_ ?_ ?_ ⟨b16_1, b16_2, b16_3, b16_4, q16_1, q16_2, q16_3, q16_4, g16_1, g16_2, g16_3, g16_4, hM.again hg rfl rfl⟩
        all_goals simp only [fw4, Act.put, List.setIfInBounds_toArray, List.set_cons_zero, List.set_cons_succ, List.getElem_toArray, List.getElem_cons_zero, List.getElem_cons_succ]
        · intro q16_1 q16_2 q16_3 q16_4 x K hK
          refine wpOp_step (o := _) rfl (fun K' hK' => ?_)
          replace hK' := hide hK'
          replace hK := hide hK
          go_simp
          exact unhide hK' _ _ (unhide hK)
        · intro q16_1 q16_2 q16_3 q16_4 x K hK
          refine wpOp_step (o := _) rfl (fun K' hK' => ?_)
          replace hK' := hide hK'
          replace hK := hide hK
          go_simp
          exact unhide hK' _ _ (unhide hK)
        · intro q16_1 q16_2 q16_3 q16_4 x K hK
          refine wpOp_step (o := _) rfl (fun K' hK' => ?_)
          replace hK' := hide hK'
          replace hK := hide hK
          go_simp
          exact unhide hK' _ _ (unhide hK)
        · intro q16_1 q16_2 q16_3 q16_4 x K hK
          refine wpOp_step (o := _) rfl (fun K' hK' => ?_)
          replace hK' := hide hK'
          replace hK := hide hK
          go_simp
          exact unhide hK' _ _ (unhide hK)
        clear hM hg
        intro b16_1 b16_2 b16_3 b16_4 q16_1 q16_2 q16_3 q16_4 g16_1 g16_2 g16_3 g16_4 v1008_ hM _
        refine wpOp_step (o := _) rfl (fun K' hK' => ?_)
        replace hK' := hide hK'
        refine step_callw (by kernel_rfl) 54 #[.agg s, .agg t] (by kernel_rfl) ((nsub_nc hs ht _).mono ?_)
        rintro r v1009_ ⟨c1004, rfl, hc1004, hg⟩
        refine ⟨_, rfl, ?_⟩
        refine unhide hK' _ _ ⟨hSf _ (hM.gr.trans hg), ?_⟩
        clear hK' K'
        simp only [nrm]
        refine stage4 v1001_ #[.int .i64 0, .int .i64 0, .int .i64 0, .int .i64 0, .int .i64 0, .int .i64 0, .int .i64 0, .int .i64 0, .int .i64 0, .int .i64 0, .int .i64 0, .int .i64 0, .int .i64 0, .int .i64 0, .int .i64 0, .int .i64 0] 80 (fw4 _ 14 15 16 17) (fun b16_1 b16_2 b16_3 b16_4 => #[true, true, true, true, true, true, true, true, true, true, true, true, b16_1, b16_2, b16_3, b16_4, false, false, false, false]) 12 13 14 15 16 true hSf (by kernel_rfl) (fun _ _ _ _ => ⟨rfl, rfl, rfl, rfl⟩) ?_ ?_ ?_ ?_ ?_ ⟨b16_1, b16_2, b16_3, b16_4, q16_1, q16_2, q16_3, q16_4, g16_1, g16_2, g16_3, g16_4, hM.again hg rfl rfl⟩
        all_goals simp only [fw4, Act.put, List.setIfInBounds_toArray, List.set_cons_zero, List.set_cons_succ, List.getElem_toArray, List.getElem_cons_zero, List.getElem_cons_succ]
        · intro q16_1 q16_2 q16_3 q16_4 x K hK
          refine wpOp_step (o := _) rfl (fun K' hK' => ?_)
          replace hK' := hide hK'
          replace hK := hide hK
          go_simp
          exact unhide hK' _ _ (unhide hK)
        · intro q16_1 q16_2 q16_3 q16_4 x K hK
          refine wpOp_step (o := _) rfl (fun K' hK' => ?_)
          replace hK' := hide hK'
          replace hK := hide hK
          go_simp
          exact unhide hK' _ _ (unhide hK)
        · intro q16_1 q16_2 q16_3 q16_4 x K hK
          refine wpOp_step (o := _) rfl (fun K' hK' => ?_)
          replace hK' := hide hK'
          replace hK := hide hK
          go_simp
          exact unhide hK' _ _ (unhide hK)
        · intro q16_1 q16_2 q16_3 q16_4 x K hK
          refine wpOp_step (o := _) rfl (fun K' hK' => ?_)
          replace hK' := hide hK'
          replace hK := hide hK
          go_simp
          exact unhide hK' _ _ (unhide hK)
        clear hM hg
        intro b16_1 b16_2 b16_3 b16_4 q16_1 q16_2 q16_3 q16_4 g16_1 g16_2 g16_3 g16_4 v1010_ hM hall
        obtain ⟨rfl, rfl, rfl, rfl⟩ := hall (by trivial)
        obtain ⟨rfl, rfl, rfl, rfl, hB'⟩ := hM.all hB
        replace hB := hB'
        clear hB' hM hall
        simp only [List.cons_append, List.nil_append] at hB
        replace hB : Bl w [⟨w.heap.size, (kc (digs (M : Int) 32)), 25⟩, ⟨w.heap.size + 1, (kc (digs (U : Int) 32)), 25⟩, ⟨w.heap.size + 1 + 1, Z32, 25⟩, ⟨g1_2, (kc (digs (cl M : Int) 32)), 25⟩, ⟨g2_2, c1, 80⟩, ⟨g3_1, x, 80⟩, ⟨g3_2, y, 80⟩, ⟨g3_3, s, 80⟩, ⟨g3_4, t, 80⟩, ⟨g16_1, (nc Zl), 80⟩, ⟨g16_2, (nc Zl), 80⟩, ⟨g16_3, (nc Zl), 80⟩, ⟨g16_4, (nc Zl), 80⟩] v1010_ := hB
        refine wpOp_step (o := _) rfl (fun K' hK' => ?_)
        replace hK' := hide hK'
        rw [if_pos (by kernel_rfl)]
        refine wp_store_row 80 (.tmp 14) (.tmp 63) rfl g16_1 c1001 (by kernel_rfl) (by kernel_rfl) 80 (nc Zl) (hB.get 9 (x := ⟨g16_1, (nc Zl), 80⟩) rfl) (by rw [Tryd.infoNum, NC.size _ hc1001]) ((show (nc Zl).size = 16 from rfl).trans (NC.size _ hc1001).symm) (NC.one _ hc1001) ?_
        replace hB := hB.set 9 (x := ⟨g16_1, (nc Zl), 80⟩) rfl c1001
        simp only [List.set_cons_zero, List.set_cons_succ] at hB
        refine unhide hK' _ _ ⟨⟨(hB.get 5 (x := ⟨g3_1, x, 80⟩) rfl), (hB.get 6 (x := ⟨g3_2, y, 80⟩) rfl), (hB.get 7 (x := ⟨g3_3, s, 80⟩) rfl), (hB.get 8 (x := ⟨g3_4, t, 80⟩) rfl), trivial⟩, ?_⟩
        clear hK' K' hSf
        generalize World.setRow _ _ _ = v1011_ at *
        simp only [nrm]
        refine any_one (i := 17) (by kernel_rfl) rfl (fun K hK => ?_)
        rw [if_pos (by kernel_rfl)]
        refine wp_store_row 80 (.tmp 15) (.tmp 66) rfl g16_2 c1002 (by kernel_rfl) (by kernel_rfl) 80 (nc Zl) (hB.get 10 (x := ⟨g16_2, (nc Zl), 80⟩) rfl) (by rw [Tryd.infoNum, NC.size _ hc1002]) ((show (nc Zl).size = 16 from rfl).trans (NC.size _ hc1002).symm) (NC.one _ hc1002) ?_
        replace hB := hB.set 10 (x := ⟨g16_2, (nc Zl), 80⟩) rfl c1002
        simp only [List.set_cons_zero, List.set_cons_succ] at hB
        refine hK.out _ _ ⟨(hB.get 5 (x := ⟨g3_1, x, 80⟩) rfl), (hB.get 6 (x := ⟨g3_2, y, 80⟩) rfl), (hB.get 7 (x := ⟨g3_3, s, 80⟩) rfl), (hB.get 8 (x := ⟨g3_4, t, 80⟩) rfl), trivial⟩ (fun _ => ?_)
        clear hK K
        generalize World.setRow _ _ _ = v1012_ at *
        simp only [nrm]
        refine any_one (i := 18) (by kernel_rfl) rfl (fun K hK => ?_)
        rw [if_pos (by kernel_rfl)]
        refine wp_store_row 80 (.tmp 16) (.tmp 69) rfl g16_3 c1003 (by kernel_rfl) (by kernel_rfl) 80 (nc Zl) (hB.get 11 (x := ⟨g16_3, (nc Zl), 80⟩) rfl) (by rw [Tryd.infoNum, NC.size _ hc1003]) ((show (nc Zl).size = 16 from rfl).trans (NC.size _ hc1003).symm) (NC.one _ hc1003) ?_
        replace hB := hB.set 11 (x := ⟨g16_3, (nc Zl), 80⟩) rfl c1003
        simp only [List.set_cons_zero, List.set_cons_succ] at hB
        refine hK.out _ _ ⟨(hB.get 5 (x := ⟨g3_1, x, 80⟩) rfl), (hB.get 6 (x := ⟨g3_2, y, 80⟩) rfl), (hB.get 7 (x := ⟨g3_3, s, 80⟩) rfl), (hB.get 8 (x := ⟨g3_4, t, 80⟩) rfl), trivial⟩ (fun _ => ?_)
        clear hK K
        generalize World.setRow _ _ _ = v1013_ at *
        simp only [nrm]
        refine any_one (i := 19) (by kernel_rfl) rfl (fun K hK => ?_)
        rw [if_pos (by kernel_rfl)]
        refine wp_store_row 80 (.tmp 17) (.tmp 72) rfl g16_4 c1004 (by kernel_rfl) (by kernel_rfl) 80 (nc Zl) (hB.get 12 (x := ⟨g16_4, (nc Zl), 80⟩) rfl) (by rw [Tryd.infoNum, NC.size _ hc1004]) ((show (nc Zl).size = 16 from rfl).trans (NC.size _ hc1004).symm) (NC.one _ hc1004) ?_
        replace hB := hB.set 12 (x := ⟨g16_4, (nc Zl), 80⟩) rfl c1004
        simp only [List.set_cons_zero, List.set_cons_succ] at hB
        refine hK.out _ _ ⟨(hB.get 5 (x := ⟨g3_1, x, 80⟩) rfl), (hB.get 6 (x := ⟨g3_2, y, 80⟩) rfl), (hB.get 7 (x := ⟨g3_3, s, 80⟩) rfl), (hB.get 8 (x := ⟨g3_4, t, 80⟩) rfl), trivial⟩ (fun _ => ?_)
        clear hK K
        generalize World.setRow _ _ _ = v1014_ at *
        simp only [nrm]
        refine any_done (by kernel_rfl) ?_
        go_upto_region 17 with fail
        refine any_start (S := fun v => v.heap[g16_1]? = some (.cells c1001 80 (0, 0)) ∧ v.heap[g16_2]? = some (.cells c1002 80 (0, 0)) ∧ True) (by kernel_rfl) ?_
        replace hB := hB.drew
        generalize World.drew _ = v1015_ at *
        simp only [List.size_toArray, List.length_cons, List.length_nil, Array.replicate, List.replicate]
        refine any_take (i := 0) (v := (.agg c1001)) #[false, false, false, false, false, false, false, false, false, false] rfl (by kernel_rfl) (by kernel_rfl) (by kernel_rfl) (by kernel_rfl) (fun _ _ _ h => h) (.inl ⟨by kernel_rfl, fun x_ hu => exec_arr x_ 80 (.tmp 14) rfl g16_1 (by kernel_rfl) c1001 80 _ hu.1 Tryd.underlying80 rfl (by rw [Tryd.infoNum, NC.size _ hc1001])⟩) ⟨(hB.get 9 (x := ⟨g16_1, c1001, 80⟩) rfl), (hB.get 10 (x := ⟨g16_2, c1002, 80⟩) rfl), trivial⟩ ?_
        simp only [nrm]
        refine any_take (i := 1) (v := (.agg c1001)) #[true, false, false, false, false, false, false, false, false, false] rfl (by kernel_rfl) (by kernel_rfl) (by kernel_rfl) (by kernel_rfl) (fun _ _ _ h => h) (.inl ⟨by kernel_rfl, fun x_ hu => exec_arr x_ 80 (.tmp 14) rfl g16_1 (by kernel_rfl) c1001 80 _ hu.1 Tryd.underlying80 rfl (by rw [Tryd.infoNum, NC.size _ hc1001])⟩) ⟨(hB.get 9 (x := ⟨g16_1, c1001, 80⟩) rfl), (hB.get 10 (x := ⟨g16_2, c1002, 80⟩) rfl), trivial⟩ ?_
        simp only [nrm]
        refine any_take (i := 3) (v := (.agg c1002)) #[true, true, false, false, false, false, false, false, false, false] rfl (by kernel_rfl) (by kernel_rfl) (by kernel_rfl) (by kernel_rfl) (fun _ _ _ h => h) (.inl ⟨by kernel_rfl, fun x_ hu => exec_arr x_ 80 (.tmp 15) rfl g16_2 (by kernel_rfl) c1002 80 _ hu.2.1 Tryd.underlying80 rfl (by rw [Tryd.infoNum, NC.size _ hc1002])⟩) ⟨(hB.get 9 (x := ⟨g16_1, c1001, 80⟩) rfl), (hB.get 10 (x := ⟨g16_2, c1002, 80⟩) rfl), trivial⟩ ?_
        simp only [nrm]
        refine any_take (i := 4) (v := (.agg c1002)) #[true, true, false, true, false, false, false, false, false, false] rfl (by kernel_rfl) (by kernel_rfl) (by kernel_rfl) (by kernel_rfl) (fun _ _ _ h => h) (.inl ⟨by kernel_rfl, fun x_ hu => exec_arr x_ 80 (.tmp 15) rfl g16_2 (by kernel_rfl) c1002 80 _ hu.2.1 Tryd.underlying80 rfl (by rw [Tryd.infoNum, NC.size _ hc1002])⟩) ⟨(hB.get 9 (x := ⟨g16_1, c1001, 80⟩) rfl), (hB.get 10 (x := ⟨g16_2, c1002, 80⟩) rfl), trivial⟩ ?_
        simp only [nrm]
        have hSf : ∀ v, Gr v1015_ v → (fun v => v.heap[g16_1]? = some (.cells c1001 80 (0, 0)) ∧ v.heap[g16_2]? = some (.cells c1002 80 (0, 0)) ∧ True) v := fun v k => ⟨k.blk (hB.get 9 (x := ⟨g16_1, c1001, 80⟩) rfl), k.blk (hB.get 10 (x := ⟨g16_2, c1002, 80⟩) rfl), trivial⟩
        refine stage2 v1015_ #[.int .i64 0, .int .i64 0, .int .i64 0, .int .i64 0, .int .i64 0, .int .i64 0, .int .i64 0, .int .i64 0, .int .i64 0, .int .i64 0, .int .i64 0, .int .i64 0, .int .i64 0, .int .i64 0, .int .i64 0, .int .i64 0] 80 (fw2 _ 18 19) (fun b17_1 b17_2 => #[true, true, false, true, true, false, b17_1, b17_2, false, false]) 6 7 2 false hSf (by kernel_rfl) (fun _ _ => ⟨rfl, rfl⟩) ?_ ?_ ?_ (M2.first (fun b17_1 b17_2 => #[true, true, false, true, true, false, b17_1, b17_2, false, false]) _ rfl rfl)
        all_goals simp only [fw2, Act.put, List.setIfInBounds_toArray, List.set_cons_zero, List.set_cons_succ, List.getElem_toArray, List.getElem_cons_zero, List.getElem_cons_succ]
        · intro q17_1 q17_2 x K hK
          refine wpOp_step (o := _) rfl (fun K' hK' => ?_)
          replace hK' := hide hK'
          replace hK := hide hK
          go_simp
          exact unhide hK' _ _ (unhide hK)
        · intro q17_1 q17_2 x K hK
          refine wpOp_step (o := _) rfl (fun K' hK' => ?_)
          replace hK' := hide hK'
          replace hK := hide hK
          go_simp
          exact unhide hK' _ _ (unhide hK)
        intro b17_1 b17_2 q17_1 q17_2 g17_1 g17_2 v1016_ hM _
        refine wpOp_step (o := _) rfl (fun K' hK' => ?_)
        replace hK' := hide hK'
        refine step_callw (by kernel_rfl) 55 #[.agg c1001, .agg c1001] (by kernel_rfl) ((nmul_nc hc1001 hc1001 _).mono ?_)
        rintro r v1017_ ⟨c1005, rfl, hc1005, hg⟩
        refine ⟨_, rfl, ?_⟩
        refine unhide hK' _ _ ⟨hSf _ (hM.gr.trans hg), ?_⟩
        clear hK' K'
        simp only [nrm]
        refine stage2 v1015_ #[.int .i64 0, .int .i64 0, .int .i64 0, .int .i64 0, .int .i64 0, .int .i64 0, .int .i64 0, .int .i64 0, .int .i64 0, .int .i64 0, .int .i64 0, .int .i64 0, .int .i64 0, .int .i64 0, .int .i64 0, .int .i64 0] 80 (fw2 _ 18 19) (fun b17_1 b17_2 => #[true, true, true, true, true, false, b17_1, b17_2, false, false]) 6 7 5 false hSf (by kernel_rfl) (fun _ _ => ⟨rfl, rfl⟩) ?_ ?_ ?_ ⟨b17_1, b17_2, q17_1, q17_2, g17_1, g17_2, hM.again hg rfl rfl⟩
        all_goals simp only [fw2, Act.put, List.setIfInBounds_toArray, List.set_cons_zero, List.set_cons_succ, List.getElem_toArray, List.getElem_cons_zero, List.getElem_cons_succ]
        · intro q17_1 q17_2 x K hK
          refine wpOp_step (o := _) rfl (fun K' hK' => ?_)
          replace hK' := hide hK'
          replace hK := hide hK
          go_simp
          exact unhide hK' _ _ (unhide hK)
        · intro q17_1 q17_2 x K hK
          refine wpOp_step (o := _) rfl (fun K' hK' => ?_)
          replace hK' := hide hK'
          replace hK := hide hK
          go_simp
          exact unhide hK' _ _ (unhide hK)
        clear hM hg
        intro b17_1 b17_2 q17_1 q17_2 g17_1 g17_2 v1018_ hM _
        refine wpOp_step (o := _) rfl (fun K' hK' => ?_)
        replace hK' := hide hK'
        refine step_callw (by kernel_rfl) 55 #[.agg c1002, .agg c1002] (by kernel_rfl) ((nmul_nc hc1002 hc1002 _).mono ?_)
        rintro r v1019_ ⟨c1006, rfl, hc1006, hg⟩
        refine ⟨_, rfl, ?_⟩
        refine unhide hK' _ _ ⟨hSf _ (hM.gr.trans hg), ?_⟩
        clear hK' K'
        simp only [nrm]
        refine stage2 v1015_ #[.int .i64 0, .int .i64 0, .int .i64 0, .int .i64 0, .int .i64 0, .int .i64 0, .int .i64 0, .int .i64 0, .int .i64 0, .int .i64 0, .int .i64 0, .int .i64 0, .int .i64 0, .int .i64 0, .int .i64 0, .int .i64 0] 80 (fw2 _ 18 19) (fun b17_1 b17_2 => #[true, true, true, true, true, true, b17_1, b17_2, false, false]) 6 7 8 true hSf (by kernel_rfl) (fun _ _ => ⟨rfl, rfl⟩) ?_ ?_ ?_ ⟨b17_1, b17_2, q17_1, q17_2, g17_1, g17_2, hM.again hg rfl rfl⟩
        all_goals simp only [fw2, Act.put, List.setIfInBounds_toArray, List.set_cons_zero, List.set_cons_succ, List.getElem_toArray, List.getElem_cons_zero, List.getElem_cons_succ]
        · intro q17_1 q17_2 x K hK
          refine wpOp_step (o := _) rfl (fun K' hK' => ?_)
          replace hK' := hide hK'
          replace hK := hide hK
          go_simp
          exact unhide hK' _ _ (unhide hK)
        · intro q17_1 q17_2 x K hK
          refine wpOp_step (o := _) rfl (fun K' hK' => ?_)
          replace hK' := hide hK'
          replace hK := hide hK
          go_simp
          exact unhide hK' _ _ (unhide hK)
        clear hM hg
        intro b17_1 b17_2 q17_1 q17_2 g17_1 g17_2 v1020_ hM hall
        obtain ⟨rfl, rfl⟩ := hall (by trivial)
        obtain ⟨rfl, rfl, hB'⟩ := hM.all hB
        replace hB := hB'
        clear hB' hM hall
        simp only [List.cons_append, List.nil_append] at hB
        replace hB : Bl w [⟨w.heap.size, (kc (digs (M : Int) 32)), 25⟩, ⟨w.heap.size + 1, (kc (digs (U : Int) 32)), 25⟩, ⟨w.heap.size + 1 + 1, Z32, 25⟩, ⟨g1_2, (kc (digs (cl M : Int) 32)), 25⟩, ⟨g2_2, c1, 80⟩, ⟨g3_1, x, 80⟩, ⟨g3_2, y, 80⟩, ⟨g3_3, s, 80⟩, ⟨g3_4, t, 80⟩, ⟨g16_1, c1001, 80⟩, ⟨g16_2, c1002, 80⟩, ⟨g16_3, c1003, 80⟩, ⟨g16_4, c1004, 80⟩, ⟨g17_1, (nc Zl), 80⟩, ⟨g17_2, (nc Zl), 80⟩] v1020_ := hB
        refine wpOp_step (o := _) rfl (fun K' hK' => ?_)
        replace hK' := hide hK'
        rw [if_pos (by kernel_rfl)]
        refine wp_store_row 80 (.tmp 18) (.tmp 75) rfl g17_1 c1005 (by kernel_rfl) (by kernel_rfl) 80 (nc Zl) (hB.get 13 (x := ⟨g17_1, (nc Zl), 80⟩) rfl) (by rw [Tryd.infoNum, NC.size _ hc1005]) ((show (nc Zl).size = 16 from rfl).trans (NC.size _ hc1005).symm) (NC.one _ hc1005) ?_
        replace hB := hB.set 13 (x := ⟨g17_1, (nc Zl), 80⟩) rfl c1005
        simp only [List.set_cons_zero, List.set_cons_succ] at hB
        refine unhide hK' _ _ ⟨⟨(hB.get 9 (x := ⟨g16_1, c1001, 80⟩) rfl), (hB.get 10 (x := ⟨g16_2, c1002, 80⟩) rfl), trivial⟩, ?_⟩
        clear hK' K' hSf
        generalize World.setRow _ _ _ = v1021_ at *
        simp only [nrm]
        refine any_one (i := 9) (by kernel_rfl) rfl (fun K hK => ?_)
        rw [if_pos (by kernel_rfl)]
        refine wp_store_row 80 (.tmp 19) (.tmp 78) rfl g17_2 c1006 (by kernel_rfl) (by kernel_rfl) 80 (nc Zl) (hB.get 14 (x := ⟨g17_2, (nc Zl), 80⟩) rfl) (by rw [Tryd.infoNum, NC.size _ hc1006]) ((show (nc Zl).size = 16 from rfl).trans (NC.size _ hc1006).symm) (NC.one _ hc1006) ?_
        replace hB := hB.set 14 (x := ⟨g17_2, (nc Zl), 80⟩) rfl c1006
        simp only [List.set_cons_zero, List.set_cons_succ] at hB
        refine hK.out _ _ ⟨(hB.get 9 (x := ⟨g16_1, c1001, 80⟩) rfl), (hB.get 10 (x := ⟨g16_2, c1002, 80⟩) rfl), trivial⟩ (fun _ => ?_)
        clear hK K
        generalize World.setRow _ _ _ = v1022_ at *
        simp only [nrm]
        refine any_done (by kernel_rfl) ?_
        go_upto_region 18 with fail
        refine wp_region_lit ?_
        refine list_val (.agg c1005) (by kernel_rfl) (exec_arr _ 80 (.tmp 18) rfl g17_1 (by kernel_rfl) c1005 80 _ (hB.get 13 (x := ⟨g17_1, c1005, 80⟩) rfl) Tryd.underlying80 rfl (by rw [Tryd.infoNum, NC.size _ hc1005])) ?_
        simp only [nrm]
        refine list_val (.agg c1006) (by kernel_rfl) (exec_arr _ 80 (.tmp 19) rfl g17_2 (by kernel_rfl) c1006 80 _ (hB.get 14 (x := ⟨g17_2, c1006, 80⟩) rfl) Tryd.underlying80 rfl (by rw [Tryd.infoNum, NC.size _ hc1006])) ?_
        simp only [nrm]
        refine list_call 54 #[.agg c1005, .agg c1006] (by kernel_rfl) (by kernel_rfl) ((nsub_nc hc1005 hc1006 _).mono ?_)
        rintro r v1023_ ⟨c1007, rfl, hc1007, hg⟩
        refine ⟨_, rfl, ?_⟩
        replace hB := hB.more hg
        clear hg
        simp only [nrm]
        refine wpList_step fun K hK => ?_
        replace hK := hide hK
        go_simp
        refine unhide hK _ _ ?_
        clear hK K
        replace hB := hB.new #[.int .i64 0, .int .i64 0, .int .i64 0, .int .i64 0, .int .i64 0, .int .i64 0, .int .i64 0, .int .i64 0, .int .i64 0, .int .i64 0, .int .i64 0, .int .i64 0, .int .i64 0, .int .i64 0, .int .i64 0, .int .i64 0] 80
        simp only [List.cons_append, List.nil_append] at hB
        generalize v1023_.heap.size = g18_3 at *
        generalize World.alloc _ _ = v1024_ at *
        replace hB : Bl w [⟨w.heap.size, (kc (digs (M : Int) 32)), 25⟩, ⟨w.heap.size + 1, (kc (digs (U : Int) 32)), 25⟩, ⟨w.heap.size + 1 + 1, Z32, 25⟩, ⟨g1_2, (kc (digs (cl M : Int) 32)), 25⟩, ⟨g2_2, c1, 80⟩, ⟨g3_1, x, 80⟩, ⟨g3_2, y, 80⟩, ⟨g3_3, s, 80⟩, ⟨g3_4, t, 80⟩, ⟨g16_1, c1001, 80⟩, ⟨g16_2, c1002, 80⟩, ⟨g16_3, c1003, 80⟩, ⟨g16_4, c1004, 80⟩, ⟨g17_1, c1005, 80⟩, ⟨g17_2, c1006, 80⟩, ⟨g18_3, (nc Zl), 80⟩] v1024_ := hB
        refine list_store 80 (.tmp 20) (.tmp 81) g18_3 c1007 80 (nc Zl) (by kernel_rfl) rfl (by kernel_rfl) (by kernel_rfl) (hB.get 15 (x := ⟨g18_3, (nc Zl), 80⟩) rfl) (by rw [Tryd.infoNum, NC.size _ hc1007]) ((show (nc Zl).size = 16 from rfl).trans (NC.size _ hc1007).symm) (NC.one _ hc1007) ?_
        replace hB := hB.set 15 (x := ⟨g18_3, (nc Zl), 80⟩) rfl c1007
        simp only [List.set_cons_zero, List.set_cons_succ] at hB
        generalize World.setRow _ _ _ = v1025_ at *
        simp only [nrm]
        refine wpList_nil ?_
        go_upto_region 19 with fail
        refine any_start (S := fun v => v.heap[g16_1]? = some (.cells c1001 80 (0, 0)) ∧ v.heap[g16_2]? = some (.cells c1002 80 (0, 0)) ∧ v.heap[g16_3]? = some (.cells c1003 80 (0, 0)) ∧ v.heap[g16_4]? = some (.cells c1004 80 (0, 0)) ∧ True) (by kernel_rfl) ?_
        replace hB := hB.drew
        generalize World.drew _ = v1026_ at *
        simp only [List.size_toArray, List.length_cons, List.length_nil, Array.replicate, List.replicate]
        refine any_take (i := 0) (v := (.agg c1004)) #[false, false, false, false, false, false, false, false, false, false] rfl (by kernel_rfl) (by kernel_rfl) (by kernel_rfl) (by kernel_rfl) (fun _ _ _ h => h) (.inl ⟨by kernel_rfl, fun x_ hu => exec_arr x_ 80 (.tmp 17) rfl g16_4 (by kernel_rfl) c1004 80 _ hu.2.2.2.1 Tryd.underlying80 rfl (by rw [Tryd.infoNum, NC.size _ hc1004])⟩) ⟨(hB.get 9 (x := ⟨g16_1, c1001, 80⟩) rfl), (hB.get 10 (x := ⟨g16_2, c1002, 80⟩) rfl), (hB.get 11 (x := ⟨g16_3, c1003, 80⟩) rfl), (hB.get 12 (x := ⟨g16_4, c1004, 80⟩) rfl), trivial⟩ ?_
        simp only [nrm]
        refine any_take (i := 1) (v := (.agg c1001)) #[true, false, false, false, false, false, false, false, false, false] rfl (by kernel_rfl) (by kernel_rfl) (by kernel_rfl) (by kernel_rfl) (fun _ _ _ h => h) (.inl ⟨by kernel_rfl, fun x_ hu => exec_arr x_ 80 (.tmp 14) rfl g16_1 (by kernel_rfl) c1001 80 _ hu.1 Tryd.underlying80 rfl (by rw [Tryd.infoNum, NC.size _ hc1001])⟩) ⟨(hB.get 9 (x := ⟨g16_1, c1001, 80⟩) rfl), (hB.get 10 (x := ⟨g16_2, c1002, 80⟩) rfl), (hB.get 11 (x := ⟨g16_3, c1003, 80⟩) rfl), (hB.get 12 (x := ⟨g16_4, c1004, 80⟩) rfl), trivial⟩ ?_
        simp only [nrm]
        refine any_take (i := 3) (v := (.agg c1003)) #[true, true, false, false, false, false, false, false, false, false] rfl (by kernel_rfl) (by kernel_rfl) (by kernel_rfl) (by kernel_rfl) (fun _ _ _ h => h) (.inl ⟨by kernel_rfl, fun x_ hu => exec_arr x_ 80 (.tmp 16) rfl g16_3 (by kernel_rfl) c1003 80 _ hu.2.2.1 Tryd.underlying80 rfl (by rw [Tryd.infoNum, NC.size _ hc1003])⟩) ⟨(hB.get 9 (x := ⟨g16_1, c1001, 80⟩) rfl), (hB.get 10 (x := ⟨g16_2, c1002, 80⟩) rfl), (hB.get 11 (x := ⟨g16_3, c1003, 80⟩) rfl), (hB.get 12 (x := ⟨g16_4, c1004, 80⟩) rfl), trivial⟩ ?_
        simp only [nrm]
        refine any_take (i := 4) (v := (.agg c1002)) #[true, true, false, true, false, false, false, false, false, false] rfl (by kernel_rfl) (by kernel_rfl) (by kernel_rfl) (by kernel_rfl) (fun _ _ _ h => h) (.inl ⟨by kernel_rfl, fun x_ hu => exec_arr x_ 80 (.tmp 15) rfl g16_2 (by kernel_rfl) c1002 80 _ hu.2.1 Tryd.underlying80 rfl (by rw [Tryd.infoNum, NC.size _ hc1002])⟩) ⟨(hB.get 9 (x := ⟨g16_1, c1001, 80⟩) rfl), (hB.get 10 (x := ⟨g16_2, c1002, 80⟩) rfl), (hB.get 11 (x := ⟨g16_3, c1003, 80⟩) rfl), (hB.get 12 (x := ⟨g16_4, c1004, 80⟩) rfl), trivial⟩ ?_
        simp only [nrm]
        have hSf : ∀ v, Gr v1026_ v → (fun v => v.heap[g16_1]? = some (.cells c1001 80 (0, 0)) ∧ v.heap[g16_2]? = some (.cells c1002 80 (0, 0)) ∧ v.heap[g16_3]? = some (.cells c1003 80 (0, 0)) ∧ v.heap[g16_4]? = some (.cells c1004 80 (0, 0)) ∧ True) v := fun v k => ⟨k.blk (hB.get 9 (x := ⟨g16_1, c1001, 80⟩) rfl), k.blk (hB.get 10 (x := ⟨g16_2, c1002, 80⟩) rfl), k.blk (hB.get 11 (x := ⟨g16_3, c1003, 80⟩) rfl), k.blk (hB.get 12 (x := ⟨g16_4, c1004, 80⟩) rfl), trivial⟩
        refine stage2 v1026_ #[.int .i64 0, .int .i64 0, .int .i64 0, .int .i64 0, .int .i64 0, .int .i64 0, .int .i64 0, .int .i64 0, .int .i64 0, .int .i64 0, .int .i64 0, .int .i64 0, .int .i64 0, .int .i64 0, .int .i64 0, .int .i64 0] 80 (fw2 _ 21 22) (fun b19_1 b19_2 => #[true, true, false, true, true, false, b19_1, b19_2, false, false]) 6 7 2 false hSf (by kernel_rfl) (fun _ _ => ⟨rfl, rfl⟩) ?_ ?_ ?_ (M2.first (fun b19_1 b19_2 => #[true, true, false, true, true, false, b19_1, b19_2, false, false]) _ rfl rfl)
        all_goals simp only [fw2, Act.put, List.setIfInBounds_toArray, List.set_cons_zero, List.set_cons_succ, List.getElem_toArray, List.getElem_cons_zero, List.getElem_cons_succ]
        · intro q19_1 q19_2 x K hK
          refine wpOp_step (o := _) rfl (fun K' hK' => ?_)
          replace hK' := hide hK'
          replace hK := hide hK
          go_simp
          exact unhide hK' _ _ (unhide hK)
        · intro q19_1 q19_2 x K hK
          refine wpOp_step (o := _) rfl (fun K' hK' => ?_)
          replace hK' := hide hK'
          replace hK := hide hK
          go_simp
          exact unhide hK' _ _ (unhide hK)
        intro b19_1 b19_2 q19_1 q19_2 g19_1 g19_2 v1027_ hM _
        refine wpOp_step (o := _) rfl (fun K' hK' => ?_)
        replace hK' := hide hK'
        refine step_callw (by kernel_rfl) 55 #[.agg c1004, .agg c1001] (by kernel_rfl) ((nmul_nc hc1004 hc1001 _).mono ?_)
        rintro r v1028_ ⟨c1008, rfl, hc1008, hg⟩
        refine ⟨_, rfl, ?_⟩
        refine unhide hK' _ _ ⟨hSf _ (hM.gr.trans hg), ?_⟩
        clear hK' K'
        simp only [nrm]
        refine stage2 v1026_ #[.int .i64 0, .int .i64 0, .int .i64 0, .int .i64 0, .int .i64 0, .int .i64 0, .int .i64 0, .int .i64 0, .int .i64 0, .int .i64 0, .int .i64 0, .int .i64 0, .int .i64 0, .int .i64 0, .int .i64 0, .int .i64 0] 80 (fw2 _ 21 22) (fun b19_1 b19_2 => #[true, true, true, true, true, false, b19_1, b19_2, false, false]) 6 7 5 false hSf (by kernel_rfl) (fun _ _ => ⟨rfl, rfl⟩) ?_ ?_ ?_ ⟨b19_1, b19_2, q19_1, q19_2, g19_1, g19_2, hM.again hg rfl rfl⟩
        all_goals simp only [fw2, Act.put, List.setIfInBounds_toArray, List.set_cons_zero, List.set_cons_succ, List.getElem_toArray, List.getElem_cons_zero, List.getElem_cons_succ]
        · intro q19_1 q19_2 x K hK
          refine wpOp_step (o := _) rfl (fun K' hK' => ?_)
          replace hK' := hide hK'
          replace hK := hide hK
          go_simp
          exact unhide hK' _ _ (unhide hK)
        · intro q19_1 q19_2 x K hK
          refine wpOp_step (o := _) rfl (fun K' hK' => ?_)
          replace hK' := hide hK'
          replace hK := hide hK
          go_simp
          exact unhide hK' _ _ (unhide hK)
        clear hM hg
        intro b19_1 b19_2 q19_1 q19_2 g19_1 g19_2 v1029_ hM _
        refine wpOp_step (o := _) rfl (fun K' hK' => ?_)
        replace hK' := hide hK'
        refine step_callw (by kernel_rfl) 55 #[.agg c1003, .agg c1002] (by kernel_rfl) ((nmul_nc hc1003 hc1002 _).mono ?_)
        rintro r v1030_ ⟨c1009, rfl, hc1009, hg⟩
        refine ⟨_, rfl, ?_⟩
        refine unhide hK' _ _ ⟨hSf _ (hM.gr.trans hg), ?_⟩
        clear hK' K'
        simp only [nrm]
        refine stage2 v1026_ #[.int .i64 0, .int .i64 0, .int .i64 0, .int .i64 0, .int .i64 0, .int .i64 0, .int .i64 0, .int .i64 0, .int .i64 0, .int .i64 0, .int .i64 0, .int .i64 0, .int .i64 0, .int .i64 0, .int .i64 0, .int .i64 0] 80 (fw2 _ 21 22) (fun b19_1 b19_2 => #[true, true, true, true, true, true, b19_1, b19_2, false, false]) 6 7 8 true hSf (by kernel_rfl) (fun _ _ => ⟨rfl, rfl⟩) ?_ ?_ ?_ ⟨b19_1, b19_2, q19_1, q19_2, g19_1, g19_2, hM.again hg rfl rfl⟩
        all_goals simp only [fw2, Act.put, List.setIfInBounds_toArray, List.set_cons_zero, List.set_cons_succ, List.getElem_toArray, List.getElem_cons_zero, List.getElem_cons_succ]
        · intro q19_1 q19_2 x K hK
          refine wpOp_step (o := _) rfl (fun K' hK' => ?_)
          replace hK' := hide hK'
          replace hK := hide hK
          go_simp
          exact unhide hK' _ _ (unhide hK)
        · intro q19_1 q19_2 x K hK
          refine wpOp_step (o := _) rfl (fun K' hK' => ?_)
          replace hK' := hide hK'
          replace hK := hide hK
          go_simp
          exact unhide hK' _ _ (unhide hK)
        clear hM hg
        intro b19_1 b19_2 q19_1 q19_2 g19_1 g19_2 v1031_ hM hall
        obtain ⟨rfl, rfl⟩ := hall (by trivial)
        obtain ⟨rfl, rfl, hB'⟩ := hM.all hB
        replace hB := hB'
        clear hB' hM hall
        simp only [List.cons_append, List.nil_append] at hB
        replace hB : Bl w [⟨w.heap.size, (kc (digs (M : Int) 32)), 25⟩, ⟨w.heap.size + 1, (kc (digs (U : Int) 32)), 25⟩, ⟨w.heap.size + 1 + 1, Z32, 25⟩, ⟨g1_2, (kc (digs (cl M : Int) 32)), 25⟩, ⟨g2_2, c1, 80⟩, ⟨g3_1, x, 80⟩, ⟨g3_2, y, 80⟩, ⟨g3_3, s, 80⟩, ⟨g3_4, t, 80⟩, ⟨g16_1, c1001, 80⟩, ⟨g16_2, c1002, 80⟩, ⟨g16_3, c1003, 80⟩, ⟨g16_4, c1004, 80⟩, ⟨g17_1, c1005, 80⟩, ⟨g17_2, c1006, 80⟩, ⟨g18_3, c1007, 80⟩, ⟨g19_1, (nc Zl), 80⟩, ⟨g19_2, (nc Zl), 80⟩] v1031_ := hB
        refine wpOp_step (o := _) rfl (fun K' hK' => ?_)
        replace hK' := hide hK'
        rw [if_pos (by kernel_rfl)]
        refine wp_store_row 80 (.tmp 21) (.tmp 84) rfl g19_1 c1008 (by kernel_rfl) (by kernel_rfl) 80 (nc Zl) (hB.get 16 (x := ⟨g19_1, (nc Zl), 80⟩) rfl) (by rw [Tryd.infoNum, NC.size _ hc1008]) ((show (nc Zl).size = 16 from rfl).trans (NC.size _ hc1008).symm) (NC.one _ hc1008) ?_
        replace hB := hB.set 16 (x := ⟨g19_1, (nc Zl), 80⟩) rfl c1008
        simp only [List.set_cons_zero, List.set_cons_succ] at hB
        refine unhide hK' _ _ ⟨⟨(hB.get 9 (x := ⟨g16_1, c1001, 80⟩) rfl), (hB.get 10 (x := ⟨g16_2, c1002, 80⟩) rfl), (hB.get 11 (x := ⟨g16_3, c1003, 80⟩) rfl), (hB.get 12 (x := ⟨g16_4, c1004, 80⟩) rfl), trivial⟩, ?_⟩
        clear hK' K' hSf
        generalize World.setRow _ _ _ = v1032_ at *
        simp only [nrm]
        refine any_one (i := 9) (by kernel_rfl) rfl (fun K hK => ?_)
        rw [if_pos (by kernel_rfl)]
        refine wp_store_row 80 (.tmp 22) (.tmp 87) rfl g19_2 c1009 (by kernel_rfl) (by kernel_rfl) 80 (nc Zl) (hB.get 17 (x := ⟨g19_2, (nc Zl), 80⟩) rfl) (by rw [Tryd.infoNum, NC.size _ hc1009]) ((show (nc Zl).size = 16 from rfl).trans (NC.size _ hc1009).symm) (NC.one _ hc1009) ?_
        replace hB := hB.set 17 (x := ⟨g19_2, (nc Zl), 80⟩) rfl c1009
        simp only [List.set_cons_zero, List.set_cons_succ] at hB
        refine hK.out _ _ ⟨(hB.get 9 (x := ⟨g16_1, c1001, 80⟩) rfl), (hB.get 10 (x := ⟨g16_2, c1002, 80⟩) rfl), (hB.get 11 (x := ⟨g16_3, c1003, 80⟩) rfl), (hB.get 12 (x := ⟨g16_4, c1004, 80⟩) rfl), trivial⟩ (fun _ => ?_)
        clear hK K
        generalize World.setRow _ _ _ = v1033_ at *
        simp only [nrm]
        refine any_done (by kernel_rfl) ?_
        go_upto_region 20 with fail
        refine any_start (S := fun v => v.heap[g19_1]? = some (.cells c1008 80 (0, 0)) ∧ v.heap[g19_2]? = some (.cells c1009 80 (0, 0)) ∧ True) (by kernel_rfl) ?_
        replace hB := hB.drew
        generalize World.drew _ = v1034_ at *
        simp only [List.size_toArray, List.length_cons, List.length_nil, Array.replicate, List.replicate]
        refine any_take (i := 0) (v := (.agg c1008)) #[false, false, false, false, false, false, false, false, false, false] rfl (by kernel_rfl) (by kernel_rfl) (by kernel_rfl) (by kernel_rfl) (fun _ _ _ h => h) (.inl ⟨by kernel_rfl, fun x_ hu => exec_arr x_ 80 (.tmp 21) rfl g19_1 (by kernel_rfl) c1008 80 _ hu.1 Tryd.underlying80 rfl (by rw [Tryd.infoNum, NC.size _ hc1008])⟩) ⟨(hB.get 16 (x := ⟨g19_1, c1008, 80⟩) rfl), (hB.get 17 (x := ⟨g19_2, c1009, 80⟩) rfl), trivial⟩ ?_
        simp only [nrm]
        refine any_take (i := 1) (v := (.agg c1009)) #[true, false, false, false, false, false, false, false, false, false] rfl (by kernel_rfl) (by kernel_rfl) (by kernel_rfl) (by kernel_rfl) (fun _ _ _ h => h) (.inl ⟨by kernel_rfl, fun x_ hu => exec_arr x_ 80 (.tmp 22) rfl g19_2 (by kernel_rfl) c1009 80 _ hu.2.1 Tryd.underlying80 rfl (by rw [Tryd.infoNum, NC.size _ hc1009])⟩) ⟨(hB.get 16 (x := ⟨g19_1, c1008, 80⟩) rfl), (hB.get 17 (x := ⟨g19_2, c1009, 80⟩) rfl), trivial⟩ ?_
        simp only [nrm]
        refine any_take (i := 3) (v := (.agg c1008)) #[true, true, false, false, false, false, false, false, false, false] rfl (by kernel_rfl) (by kernel_rfl) (by kernel_rfl) (by kernel_rfl) (fun _ _ _ h => h) (.inl ⟨by kernel_rfl, fun x_ hu => exec_arr x_ 80 (.tmp 21) rfl g19_1 (by kernel_rfl) c1008 80 _ hu.1 Tryd.underlying80 rfl (by rw [Tryd.infoNum, NC.size _ hc1008])⟩) ⟨(hB.get 16 (x := ⟨g19_1, c1008, 80⟩) rfl), (hB.get 17 (x := ⟨g19_2, c1009, 80⟩) rfl), trivial⟩ ?_
        simp only [nrm]
        refine any_take (i := 4) (v := (.agg c1009)) #[true, true, false, true, false, false, false, false, false, false] rfl (by kernel_rfl) (by kernel_rfl) (by kernel_rfl) (by kernel_rfl) (fun _ _ _ h => h) (.inl ⟨by kernel_rfl, fun x_ hu => exec_arr x_ 80 (.tmp 22) rfl g19_2 (by kernel_rfl) c1009 80 _ hu.2.1 Tryd.underlying80 rfl (by rw [Tryd.infoNum, NC.size _ hc1009])⟩) ⟨(hB.get 16 (x := ⟨g19_1, c1008, 80⟩) rfl), (hB.get 17 (x := ⟨g19_2, c1009, 80⟩) rfl), trivial⟩ ?_
        simp only [nrm]
        have hSf : ∀ v, Gr v1034_ v → (fun v => v.heap[g19_1]? = some (.cells c1008 80 (0, 0)) ∧ v.heap[g19_2]? = some (.cells c1009 80 (0, 0)) ∧ True) v := fun v k => ⟨k.blk (hB.get 16 (x := ⟨g19_1, c1008, 80⟩) rfl), k.blk (hB.get 17 (x := ⟨g19_2, c1009, 80⟩) rfl), trivial⟩
        refine stage2 v1034_ #[.int .i64 0, .int .i64 0, .int .i64 0, .int .i64 0, .int .i64 0, .int .i64 0, .int .i64 0, .int .i64 0, .int .i64 0, .int .i64 0, .int .i64 0, .int .i64 0, .int .i64 0, .int .i64 0, .int .i64 0, .int .i64 0] 80 (fw2 _ 23 24) (fun b20_1 b20_2 => #[true, true, false, true, true, false, b20_1, b20_2, false, false]) 6 7 2 false hSf (by kernel_rfl) (fun _ _ => ⟨rfl, rfl⟩) ?_ ?_ ?_ (M2.first (fun b20_1 b20_2 => #[true, true, false, true, true, false, b20_1, b20_2, false, false]) _ rfl rfl)
        all_goals simp only [fw2, Act.put, List.setIfInBounds_toArray, List.set_cons_zero, List.set_cons_succ, List.getElem_toArray, List.getElem_cons_zero, List.getElem_cons_succ]
        · intro q20_1 q20_2 x K hK
          refine wpOp_step (o := _) rfl (fun K' hK' => ?_)
          replace hK' := hide hK'
          replace hK := hide hK
          go_simp
          exact unhide hK' _ _ (unhide hK)
        · intro q20_1 q20_2 x K hK
          refine wpOp_step (o := _) rfl (fun K' hK' => ?_)
          replace hK' := hide hK'
          replace hK := hide hK
          go_simp
          exact unhide hK' _ _ (unhide hK)
        intro b20_1 b20_2 q20_1 q20_2 g20_1 g20_2 v1035_ hM _
        refine wpOp_step (o := _) rfl (fun K' hK' => ?_)
        replace hK' := hide hK'
        refine step_callw (by kernel_rfl) 53 #[.agg c1008, .agg c1009] (by kernel_rfl) ((nadd_nc hc1008 hc1009 _).mono ?_)
        rintro r v1036_ ⟨c1010, rfl, hc1010, hg⟩
        refine ⟨_, rfl, ?_⟩
        refine unhide hK' _ _ ⟨hSf _ (hM.gr.trans hg), ?_⟩
        clear hK' K'
        simp only [nrm]
        refine stage2 v1034_ #[.int .i64 0, .int .i64 0, .int .i64 0, .int .i64 0, .int .i64 0, .int .i64 0, .int .i64 0, .int .i64 0, .int .i64 0, .int .i64 0, .int .i64 0, .int .i64 0, .int .i64 0, .int .i64 0, .int .i64 0, .int .i64 0] 80 (fw2 _ 23 24) (fun b20_1 b20_2 => #[true, true, true, true, true, false, b20_1, b20_2, false, false]) 6 7 5 false hSf (by kernel_rfl) (fun _ _ => ⟨rfl, rfl⟩) ?_ ?_ ?_ ⟨b20_1, b20_2, q20_1, q20_2, g20_1, g20_2, hM.again hg rfl rfl⟩
        all_goals simp only [fw2, Act.put, List.setIfInBounds_toArray, List.set_cons_zero, List.set_cons_succ, List.getElem_toArray, List.getElem_cons_zero, List.getElem_cons_succ]
        · intro q20_1 q20_2 x K hK
          refine wpOp_step (o := _) rfl (fun K' hK' => ?_)
          replace hK' := hide hK'
          replace hK := hide hK
          go_simp
          exact unhide hK' _ _ (unhide hK)
        · intro q20_1 q20_2 x K hK
          refine wpOp_step (o := _) rfl (fun K' hK' => ?_)
          replace hK' := hide hK'
          replace hK := hide hK
          go_simp
          exact unhide hK' _ _ (unhide hK)
        clear hM hg
        intro b20_1 b20_2 q20_1 q20_2 g20_1 g20_2 v1037_ hM _
        refine wpOp_step (o := _) rfl (fun K' hK' => ?_)
        replace hK' := hide hK'
        refine step_callw (by kernel_rfl) 54 #[.agg c1008, .agg c1009] (by kernel_rfl) ((nsub_nc hc1008 hc1009 _).mono ?_)
        rintro r v1038_ ⟨c1011, rfl, hc1011, hg⟩
        refine ⟨_, rfl, ?_⟩
        refine unhide hK' _ _ ⟨hSf _ (hM.gr.trans hg), ?_⟩
        clear hK' K'
        simp only [nrm]
        refine stage2 v1034_ #[.int .i64 0, .int .i64 0, .int .i64 0, .int .i64 0, .int .i64 0, .int .i64 0, .int .i64 0, .int .i64 0, .int .i64 0, .int .i64 0, .int .i64 0, .int .i64 0, .int .i64 0, .int .i64 0, .int .i64 0, .int .i64 0] 80 (fw2 _ 23 24) (fun b20_1 b20_2 => #[true, true, true, true, true, true, b20_1, b20_2, false, false]) 6 7 8 true hSf (by kernel_rfl) (fun _ _ => ⟨rfl, rfl⟩) ?_ ?_ ?_ ⟨b20_1, b20_2, q20_1, q20_2, g20_1, g20_2, hM.again hg rfl rfl⟩
        all_goals simp only [fw2, Act.put, List.setIfInBounds_toArray, List.set_cons_zero, List.set_cons_succ, List.getElem_toArray, List.getElem_cons_zero, List.getElem_cons_succ]
        · intro q20_1 q20_2 x K hK
          refine wpOp_step (o := _) rfl (fun K' hK' => ?_)
          replace hK' := hide hK'
          replace hK := hide hK
          go_simp
          exact unhide hK' _ _ (unhide hK)
        · intro q20_1 q20_2 x K hK
          refine wpOp_step (o := _) rfl (fun K' hK' => ?_)
          replace hK' := hide hK'
          replace hK := hide hK
          go_simp
          exact unhide hK' _ _ (unhide hK)
        clear hM hg
        intro b20_1 b20_2 q20_1 q20_2 g20_1 g20_2 v1039_ hM hall
        obtain ⟨rfl, rfl⟩ := hall (by trivial)
        obtain ⟨rfl, rfl, hB'⟩ := hM.all hB
        replace hB := hB'
        clear hB' hM hall
        simp only [List.cons_append, List.nil_append] at hB
        replace hB : Bl w [⟨w.heap.size, (kc (digs (M : Int) 32)), 25⟩, ⟨w.heap.size + 1, (kc (digs (U : Int) 32)), 25⟩, ⟨w.heap.size + 1 + 1, Z32, 25⟩, ⟨g1_2, (kc (digs (cl M : Int) 32)), 25⟩, ⟨g2_2, c1, 80⟩, ⟨g3_1, x, 80⟩, ⟨g3_2, y, 80⟩, ⟨g3_3, s, 80⟩, ⟨g3_4, t, 80⟩, ⟨g16_1, c1001, 80⟩, ⟨g16_2, c1002, 80⟩, ⟨g16_3, c1003, 80⟩, ⟨g16_4, c1004, 80⟩, ⟨g17_1, c1005, 80⟩, ⟨g17_2, c1006, 80⟩, ⟨g18_3, c1007, 80⟩, ⟨g19_1, c1008, 80⟩, ⟨g19_2, c1009, 80⟩, ⟨g20_1, (nc Zl), 80⟩, ⟨g20_2, (nc Zl), 80⟩] v1039_ := hB
        refine wpOp_step (o := _) rfl (fun K' hK' => ?_)
        replace hK' := hide hK'
        rw [if_pos (by kernel_rfl)]
        refine wp_store_row 80 (.tmp 23) (.tmp 90) rfl g20_1 c1010 (by kernel_rfl) (by kernel_rfl) 80 (nc Zl) (hB.get 18 (x := ⟨g20_1, (nc Zl), 80⟩) rfl) (by rw [Tryd.infoNum, NC.size _ hc1010]) ((show (nc Zl).size = 16 from rfl).trans (NC.size _ hc1010).symm) (NC.one _ hc1010) ?_
        replace hB := hB.set 18 (x := ⟨g20_1, (nc Zl), 80⟩) rfl c1010
        simp only [List.set_cons_zero, List.set_cons_succ] at hB
        refine unhide hK' _ _ ⟨⟨(hB.get 16 (x := ⟨g19_1, c1008, 80⟩) rfl), (hB.get 17 (x := ⟨g19_2, c1009, 80⟩) rfl), trivial⟩, ?_⟩
        clear hK' K' hSf
        generalize World.setRow _ _ _ = v1040_ at *
        simp only [nrm]
        refine any_one (i := 9) (by kernel_rfl) rfl (fun K hK => ?_)
        rw [if_pos (by kernel_rfl)]
        refine wp_store_row 80 (.tmp 24) (.tmp 93) rfl g20_2 c1011 (by kernel_rfl) (by kernel_rfl) 80 (nc Zl) (hB.get 19 (x := ⟨g20_2, (nc Zl), 80⟩) rfl) (by rw [Tryd.infoNum, NC.size _ hc1011]) ((show (nc Zl).size = 16 from rfl).trans (NC.size _ hc1011).symm) (NC.one _ hc1011) ?_
        replace hB := hB.set 19 (x := ⟨g20_2, (nc Zl), 80⟩) rfl c1011
        simp only [List.set_cons_zero, List.set_cons_succ] at hB
        refine hK.out _ _ ⟨(hB.get 16 (x := ⟨g19_1, c1008, 80⟩) rfl), (hB.get 17 (x := ⟨g19_2, c1009, 80⟩) rfl), trivial⟩ (fun _ => ?_)
        clear hK K
        generalize World.setRow _ _ _ = v1041_ at *
        simp only [nrm]
        refine any_done (by kernel_rfl) ?_
        go_upto_region 21 with fail
        refine wp_region_lit ?_
        refine list_val (.agg c1010) (by kernel_rfl) (exec_arr _ 80 (.tmp 23) rfl g20_1 (by kernel_rfl) c1010 80 _ (hB.get 18 (x := ⟨g20_1, c1010, 80⟩) rfl) Tryd.underlying80 rfl (by rw [Tryd.infoNum, NC.size _ hc1010])) ?_
        simp only [nrm]
        refine list_val (.agg c1010) (by kernel_rfl) (exec_arr _ 80 (.tmp 23) rfl g20_1 (by kernel_rfl) c1010 80 _ (hB.get 18 (x := ⟨g20_1, c1010, 80⟩) rfl) Tryd.underlying80 rfl (by rw [Tryd.infoNum, NC.size _ hc1010])) ?_
        simp only [nrm]
        refine list_call 55 #[.agg c1010, .agg c1010] (by kernel_rfl) (by kernel_rfl) ((nmul_nc hc1010 hc1010 _).mono ?_)
        rintro r v1042_ ⟨c1012, rfl, hc1012, hg⟩
        refine ⟨_, rfl, ?_⟩
        replace hB := hB.more hg
        clear hg
        simp only [nrm]
        refine list_store 80 (.tmp 9) (.tmp 96) g3_3 c1012 80 s (by kernel_rfl) rfl (by kernel_rfl) (by kernel_rfl) (hB.get 7 (x := ⟨g3_3, s, 80⟩) rfl) (by rw [Tryd.infoNum, NC.size _ hc1012]) ((NC.size _ hs).trans (NC.size _ hc1012).symm) (NC.one _ hc1012) ?_
        replace hB := hB.set 7 (x := ⟨g3_3, s, 80⟩) rfl c1012
        simp only [List.set_cons_zero, List.set_cons_succ] at hB
        generalize World.setRow _ _ _ = v1043_ at *
        simp only [nrm]
        refine wpList_nil ?_
        go_upto_region 22 with fail
        refine any_start (S := fun v => v.heap[g2_2]? = some (.cells c1 80 (0, 0)) ∧ v.heap[g20_2]? = some (.cells c1011 80 (0, 0)) ∧ True) (by kernel_rfl) ?_
        replace hB := hB.drew
        generalize World.drew _ = v1044_ at *
        simp only [List.size_toArray, List.length_cons, List.length_nil, Array.replicate, List.replicate]
        refine any_take (i := 0) (v := (.agg c1)) #[false, false, false, false, false, false] rfl (by kernel_rfl) (by kernel_rfl) (by kernel_rfl) (by kernel_rfl) (fun _ _ _ h => h) (.inl ⟨by kernel_rfl, fun x_ hu => exec_arr x_ 80 (.tmp 6) rfl g2_2 (by kernel_rfl) c1 80 _ hu.1 Tryd.underlying80 rfl (by rw [Tryd.infoNum, NC.size _ hx1])⟩) ⟨(hB.get 4 (x := ⟨g2_2, c1, 80⟩) rfl), (hB.get 19 (x := ⟨g20_2, c1011, 80⟩) rfl), trivial⟩ ?_
        simp only [nrm]
        refine any_take (i := 1) (v := (.agg c1011)) #[true, false, false, false, false, false] rfl (by kernel_rfl) (by kernel_rfl) (by kernel_rfl) (by kernel_rfl) (fun _ _ _ h => h) (.inl ⟨by kernel_rfl, fun x_ hu => exec_arr x_ 80 (.tmp 24) rfl g20_2 (by kernel_rfl) c1011 80 _ hu.2.1 Tryd.underlying80 rfl (by rw [Tryd.infoNum, NC.size _ hc1011])⟩) ⟨(hB.get 4 (x := ⟨g2_2, c1, 80⟩) rfl), (hB.get 19 (x := ⟨g20_2, c1011, 80⟩) rfl), trivial⟩ ?_
        simp only [nrm]
        refine any_take (i := 2) (v := (.agg c1011)) #[true, true, false, false, false, false] rfl (by kernel_rfl) (by kernel_rfl) (by kernel_rfl) (by kernel_rfl) (fun _ _ _ h => h) (.inl ⟨by kernel_rfl, fun x_ hu => exec_arr x_ 80 (.tmp 24) rfl g20_2 (by kernel_rfl) c1011 80 _ hu.2.1 Tryd.underlying80 rfl (by rw [Tryd.infoNum, NC.size _ hc1011])⟩) ⟨(hB.get 4 (x := ⟨g2_2, c1, 80⟩) rfl), (hB.get 19 (x := ⟨g20_2, c1011, 80⟩) rfl), trivial⟩ ?_
        simp only [nrm]
        refine any_one (i := 3) (by kernel_rfl) rfl (fun K hK => ?_)
        refine step_callw (by kernel_rfl) 55 #[.agg c1011, .agg c1011] (by kernel_rfl) ((nmul_nc hc1011 hc1011 _).mono ?_)
        rintro r v1045_ ⟨c1013, rfl, hc1013, hg⟩
        refine ⟨_, rfl, ?_⟩
        replace hB := hB.more hg
        clear hg
        refine hK.out _ _ ⟨(hB.get 4 (x := ⟨g2_2, c1, 80⟩) rfl), (hB.get 19 (x := ⟨g20_2, c1011, 80⟩) rfl), trivial⟩ (fun _ => ?_)
        clear hK K
        simp only [nrm]
        refine any_one (i := 4) (by kernel_rfl) rfl (fun K hK => ?_)
        refine step_callw (by kernel_rfl) 55 #[.agg c1, .agg c1013] (by kernel_rfl) ((nmul_nc hx1 hc1013 _).mono ?_)
        rintro r v1046_ ⟨c1014, rfl, hc1014, hg⟩
        refine ⟨_, rfl, ?_⟩
        replace hB := hB.more hg
        clear hg
        refine hK.out _ _ ⟨(hB.get 4 (x := ⟨g2_2, c1, 80⟩) rfl), (hB.get 19 (x := ⟨g20_2, c1011, 80⟩) rfl), trivial⟩ (fun _ => ?_)
        clear hK K
        simp only [nrm]
        refine any_one (i := 5) (by kernel_rfl) rfl (fun K hK => ?_)
        rw [if_pos (by kernel_rfl)]
        refine wp_store_row 80 (.tmp 10) (.tmp 101) rfl g3_4 c1014 (by kernel_rfl) (by kernel_rfl) 80 t (hB.get 8 (x := ⟨g3_4, t, 80⟩) rfl) (by rw [Tryd.infoNum, NC.size _ hc1014]) ((NC.size _ ht).trans (NC.size _ hc1014).symm) (NC.one _ hc1014) ?_
        replace hB := hB.set 8 (x := ⟨g3_4, t, 80⟩) rfl c1014
        simp only [List.set_cons_zero, List.set_cons_succ] at hB
        refine hK.out _ _ ⟨(hB.get 4 (x := ⟨g2_2, c1, 80⟩) rfl), (hB.get 19 (x := ⟨g20_2, c1011, 80⟩) rfl), trivial⟩ (fun _ => ?_)
        clear hK K
        generalize World.setRow _ _ _ = v1047_ at *
        simp only [nrm]
        refine any_done (by kernel_rfl) ?_
        go_upto_region 23 with fail
        refine wp_region_lit ?_
        refine list_val (.agg c1005) (by kernel_rfl) (exec_arr _ 80 (.tmp 18) rfl g17_1 (by kernel_rfl) c1005 80 _ (hB.get 13 (x := ⟨g17_1, c1005, 80⟩) rfl) Tryd.underlying80 rfl (by rw [Tryd.infoNum, NC.size _ hc1005])) ?_
        simp only [nrm]
        refine list_val (.agg c1006) (by kernel_rfl) (exec_arr _ 80 (.tmp 19) rfl g17_2 (by kernel_rfl) c1006 80 _ (hB.get 14 (x := ⟨g17_2, c1006, 80⟩) rfl) Tryd.underlying80 rfl (by rw [Tryd.infoNum, NC.size _ hc1006])) ?_
        simp only [nrm]
        refine list_call 55 #[.agg c1005, .agg c1006] (by kernel_rfl) (by kernel_rfl) ((nmul_nc hc1005 hc1006 _).mono ?_)
        rintro r v1048_ ⟨c1015, rfl, hc1015, hg⟩
        refine ⟨_, rfl, ?_⟩
        replace hB := hB.more hg
        clear hg
        simp only [nrm]
        refine list_store 80 (.tmp 7) (.tmp 104) g3_1 c1015 80 x (by kernel_rfl) rfl (by kernel_rfl) (by kernel_rfl) (hB.get 5 (x := ⟨g3_1, x, 80⟩) rfl) (by rw [Tryd.infoNum, NC.size _ hc1015]) ((NC.size _ hx).trans (NC.size _ hc1015).symm) (NC.one _ hc1015) ?_
        replace hB := hB.set 5 (x := ⟨g3_1, x, 80⟩) rfl c1015
        simp only [List.set_cons_zero, List.set_cons_succ] at hB
        generalize World.setRow _ _ _ = v1049_ at *
        simp only [nrm]
        refine wpList_nil ?_
        go_upto_region 24 with fail
        refine any_start (S := fun v => v.heap[g17_1]? = some (.cells c1005 80 (0, 0)) ∧ v.heap[g18_3]? = some (.cells c1007 80 (0, 0)) ∧ True) (by kernel_rfl) ?_
        replace hB := hB.drew
        generalize World.drew _ = v1050_ at *
        simp only [List.size_toArray, List.length_cons, List.length_nil, Array.replicate, List.replicate]
        refine any_take (i := 0) (v := (.agg c1007)) #[false, false, false, false, false, false, false] rfl (by kernel_rfl) (by kernel_rfl) (by kernel_rfl) (by kernel_rfl) (fun _ _ _ h => h) (.inl ⟨by kernel_rfl, fun x_ hu => exec_arr x_ 80 (.tmp 20) rfl g18_3 (by kernel_rfl) c1007 80 _ hu.2.1 Tryd.underlying80 rfl (by rw [Tryd.infoNum, NC.size _ hc1007])⟩) ⟨(hB.get 13 (x := ⟨g17_1, c1005, 80⟩) rfl), (hB.get 15 (x := ⟨g18_3, c1007, 80⟩) rfl), trivial⟩ ?_
        simp only [nrm]
        refine any_take (i := 1) (v := (.agg c1005)) #[true, false, false, false, false, false, false] rfl (by kernel_rfl) (by kernel_rfl) (by kernel_rfl) (by kernel_rfl) (fun _ _ _ h => h) (.inl ⟨by kernel_rfl, fun x_ hu => exec_arr x_ 80 (.tmp 18) rfl g17_1 (by kernel_rfl) c1005 80 _ hu.1 Tryd.underlying80 rfl (by rw [Tryd.infoNum, NC.size _ hc1005])⟩) ⟨(hB.get 13 (x := ⟨g17_1, c1005, 80⟩) rfl), (hB.get 15 (x := ⟨g18_3, c1007, 80⟩) rfl), trivial⟩ ?_
        simp only [nrm]
        refine any_take (i := 2) (v := (.agg c1007)) #[true, true, false, false, false, false, false] rfl (by kernel_rfl) (by kernel_rfl) (by kernel_rfl) (by kernel_rfl) (fun _ _ _ h => h) (.inl ⟨by kernel_rfl, fun x_ hu => exec_arr x_ 80 (.tmp 20) rfl g18_3 (by kernel_rfl) c1007 80 _ hu.2.1 Tryd.underlying80 rfl (by rw [Tryd.infoNum, NC.size _ hc1007])⟩) ⟨(hB.get 13 (x := ⟨g17_1, c1005, 80⟩) rfl), (hB.get 15 (x := ⟨g18_3, c1007, 80⟩) rfl), trivial⟩ ?_
        simp only [nrm]
        refine any_one (i := 3) (by kernel_rfl) rfl (fun K hK => ?_)
        refine step_callw (by kernel_rfl) 56 #[.agg c1007, .int .i64 121665] (by kernel_rfl) ((nsmall_nc 121665 (by omega) hc1007 _).mono ?_)
        rintro r v1051_ ⟨c1016, rfl, hc1016, hg⟩
        refine ⟨_, rfl, ?_⟩
        replace hB := hB.more hg
        clear hg
        refine hK.out _ _ ⟨(hB.get 13 (x := ⟨g17_1, c1005, 80⟩) rfl), (hB.get 15 (x := ⟨g18_3, c1007, 80⟩) rfl), trivial⟩ (fun _ => ?_)
        clear hK K
        simp only [nrm]
        refine any_one (i := 4) (by kernel_rfl) rfl (fun K hK => ?_)
        refine step_callw (by kernel_rfl) 53 #[.agg c1005, .agg c1016] (by kernel_rfl) ((nadd_nc hc1005 hc1016 _).mono ?_)
        rintro r v1052_ ⟨c1017, rfl, hc1017, hg⟩
        refine ⟨_, rfl, ?_⟩
        replace hB := hB.more hg
        clear hg
        refine hK.out _ _ ⟨(hB.get 13 (x := ⟨g17_1, c1005, 80⟩) rfl), (hB.get 15 (x := ⟨g18_3, c1007, 80⟩) rfl), trivial⟩ (fun _ => ?_)
        clear hK K
        simp only [nrm]
        refine any_one (i := 5) (by kernel_rfl) rfl (fun K hK => ?_)
        refine step_callw (by kernel_rfl) 55 #[.agg c1007, .agg c1017] (by kernel_rfl) ((nmul_nc hc1007 hc1017 _).mono ?_)
        rintro r v1053_ ⟨c1018, rfl, hc1018, hg⟩
        refine ⟨_, rfl, ?_⟩
        replace hB := hB.more hg
        clear hg
        refine hK.out _ _ ⟨(hB.get 13 (x := ⟨g17_1, c1005, 80⟩) rfl), (hB.get 15 (x := ⟨g18_3, c1007, 80⟩) rfl), trivial⟩ (fun _ => ?_)
        clear hK K
        simp only [nrm]
        refine any_one (i := 6) (by kernel_rfl) rfl (fun K hK => ?_)
        rw [if_pos (by kernel_rfl)]
        refine wp_store_row 80 (.tmp 8) (.tmp 110) rfl g3_2 c1018 (by kernel_rfl) (by kernel_rfl) 80 y (hB.get 6 (x := ⟨g3_2, y, 80⟩) rfl) (by rw [Tryd.infoNum, NC.size _ hc1018]) ((NC.size _ hy).trans (NC.size _ hc1018).symm) (NC.one _ hc1018) ?_
        replace hB := hB.set 6 (x := ⟨g3_2, y, 80⟩) rfl c1018
        simp only [List.set_cons_zero, List.set_cons_succ] at hB
        refine hK.out _ _ ⟨(hB.get 13 (x := ⟨g17_1, c1005, 80⟩) rfl), (hB.get 15 (x := ⟨g18_3, c1007, 80⟩) rfl), trivial⟩ (fun _ => ?_)
        clear hK K
        generalize World.setRow _ _ _ = v1054_ at *
        simp only [nrm]
        refine any_done (by kernel_rfl) ?_
        replace hB := hide (Bl.left (L := [⟨w.heap.size, (kc (digs (M : Int) 32)), 25⟩, ⟨w.heap.size + 1, (kc (digs (U : Int) 32)), 25⟩, ⟨w.heap.size + 1 + 1, Z32, 25⟩, ⟨g1_2, (kc (digs (cl M : Int) 32)), 25⟩, ⟨g2_2, c1, 80⟩, ⟨g3_1, c1015, 80⟩, ⟨g3_2, c1018, 80⟩, ⟨g3_3, c1012, 80⟩, ⟨g3_4, c1014, 80⟩]) (M := [⟨g16_1, c1001, 80⟩, ⟨g16_2, c1002, 80⟩, ⟨g16_3, c1003, 80⟩, ⟨g16_4, c1004, 80⟩, ⟨g17_1, c1005, 80⟩, ⟨g17_2, c1006, 80⟩, ⟨g18_3, c1007, 80⟩, ⟨g19_1, c1008, 80⟩, ⟨g19_2, c1009, 80⟩, ⟨g20_1, c1010, 80⟩, ⟨g20_2, c1011, 80⟩]) hB)
        have r1 : Hid (NC (Ed.lad UU (Ed.hi (cl M) (255 - tt))).a c1015) := by rw [unhide hnx]; exact hide hc1015
        have r2 : Hid (NC (Ed.lad UU (Ed.hi (cl M) (255 - tt))).b c1018) := by
          rw [unhide hnx]
          exact hide (NC.same hc1018 (congrArg (· % pp) (by show _ = Ed.dZ S.a S.b; unfold Ed.dZ; rw [Int.mul_comm _ 121665])))
        have r3 : Hid (NC (Ed.lad UU (Ed.hi (cl M) (255 - tt))).c c1012) := by rw [unhide hnx]; exact hide hc1012
        have r4 : Hid (NC (Ed.lad UU (Ed.hi (cl M) (255 - tt))).d c1014) := by rw [unhide hnx]; exact hide hc1014
        clear hx hy hs ht hc1001 hc1002 hc1003 hc1004 hc1005 hc1006 hc1007 hc1008 hc1009 hc1010 hc1011 hc1012 hc1013 hc1014 hc1015 hc1016 hc1017 hc1018
        go_wp2_with fail
        go_roundw
        case rel => exact ⟨_, _, _, _, _, _, _, _, _, _, _, _, _, _, _, _, _, _, _, _, _, _, _, _, _, _, _, _, _, _, _, _, _, _, _, _, _, _, _, _, _, _, _, _, _, _, _, _, _, _, _, _, _, _, _, _, _, _, _, _, _, _, _, _, _, _, _, _, _, _, _, _, _, _, _, _, _, _, _, _, _, _, _, _, _, _, _, _, _, _, _, _, _, _, _, ⟨tt, _, _, _, _, by omega, rfl, r1, r2, r3, r4, hB⟩, rfl⟩
        case measure =>
          show (((tt : Int) - 1) + 1).toNat < ((tt : Int) + 1).toNat
          omega
end Go.Proofs.YtpmgmpihmpifgaaDoor.Cv
