/-
  convo.Same.
-/
import Derived.Test.YtcefkkoombmndaaUI
namespace Go.Proofs.Ytcefkkoombmndaa
open Go.RowKit
set_option maxRecDepth 100000
set_option linter.unusedSimpArgs false
set_option linter.unusedVariables false
theorem cm_eq {c d : Cm} : c = d ↔ c.nx = d.nx ∧ c.tn = d.tn ∧ c.dl = d.dl ∧ c.O = d.O ∧ c.H = d.H := by
  obtain ⟨a1, a2, a3, a4, a5⟩ := c
  obtain ⟨b1, b2, b3, b4, b5⟩ := d
  simp only [Cm.mk.injEq]
  constructor
  · rintro ⟨h1, h2, h3, h4, h5⟩; exact ⟨h1, h3, h4, h2, h5⟩
  · rintro ⟨h1, h3, h4, h2, h5⟩; exact ⟨h1, h2, h3, h4, h5⟩
set_option maxHeartbeats 4000000 in
theorem same_ok (c d : Cm) (x y : Lc) (w : World) (hc : Cin w c x) (hd : Cin w d y) : Calls Try.prog 32 #[.agg (fl [[.int .u32 c.nx], [.slice x.ao x.no x.co], [.int .i64 c.tn], [.int .u32 c.dl], [.slice x.ah x.nh x.ch]]), .agg (fl [[.int .u32 d.nx], [.slice y.ao y.no y.co], [.int .i64 d.tn], [.int .u32 d.dl], [.slice y.ah y.nh y.ch]])] w (Vl (.bool (decide (c = d))) w) := by
  obtain ⟨T, hT⟩ : ∃ T : Ending → World → Prop, T = (Vl (.bool (decide (c = d))) w) := ⟨_, rfl⟩
  rw [← hT]
  replace hT := hide hT
  replace hc := hide hc
  replace hd := hide hd
  obtain ⟨A0_, hA0_⟩ : ∃ S_, S_ = fl [[.int .u32 c.nx], [.slice x.ao x.no x.co], [.int .i64 c.tn], [.int .u32 c.dl], [.slice x.ah x.nh x.ch]] := ⟨_, rfl⟩
  rw [← hA0_]
  replace hA0_ := hide hA0_
  obtain ⟨A1_, hA1_⟩ : ∃ S_, S_ = fl [[.int .u32 d.nx], [.slice y.ao y.no y.co], [.int .i64 d.tn], [.int .u32 d.dl], [.slice y.ah y.nh y.ch]] := ⟨_, rfl⟩
  rw [← hA1_]
  replace hA1_ := hide hA1_
  go_enter Try.func32, Try.ntmps32
  go_upto_region 1 with fail
  have hB := (((Bl.nil w).new A0_ 26).new A1_ 26)
  simp only [size_alloc, List.nil_append, List.cons_append] at hB
  rw [unhide hA0_, unhide hA1_] at hB
  generalize hu_ : World.alloc _ _ = u0
  replace hB : Bl w [⟨w.heap.size, fl [[.int .u32 c.nx], [.slice x.ao x.no x.co], [.int .i64 c.tn], [.int .u32 c.dl], [.slice x.ah x.nh x.ch]], 26⟩, ⟨w.heap.size + 1, fl [[.int .u32 d.nx], [.slice y.ao y.no y.co], [.int .i64 d.tn], [.int .u32 d.dl], [.slice y.ah y.nh y.ch]], 26⟩] u0 := by
    rw [← hu_]
    rw [unhide hA0_, unhide hA1_]
    exact hB
  clear hu_ hA0_ hA1_
  by_cases h1 : c.nx = d.nx
  rotate_left
  · have hv : decide (c = d) = false := decide_eq_false (fun e => h1 (cm_eq.1 e).1)
    replace h1 := hide h1
    refine wp_region_lit ?_
    refine wpList_gen fun ops_ hops => ?_
    replace hops := hide hops
    refine list_val (.pointer (some ⟨w.heap.size, 0, none⟩)) (by rw [unhide hops]; kernel_rfl) (by kernel_rfl) ?_
    simp only [nrm]
    refine list_val (.int .u32 c.nx) (by rw [unhide hops]; kernel_rfl) (exec_c32 _ (.tmp 6) rfl (w.heap.size) 0 (by kernel_rfl) c.nx (seg_cell (nC  _ _ _ _ _) (hB.get 0 (x := ⟨w.heap.size, fl [[.int .u32 c.nx], [.slice x.ao x.no x.co], [.int .i64 c.tn], [.int .u32 c.dl], [.slice x.ah x.nh x.ch]], 26⟩) rfl) 0 (v := .int .u32 c.nx) rfl rfl)) ?_
    simp only [nrm]
    refine list_val (.pointer (some ⟨w.heap.size + 1, 0, none⟩)) (by rw [unhide hops]; kernel_rfl) (by kernel_rfl) ?_
    simp only [nrm]
    refine list_val (.int .u32 d.nx) (by rw [unhide hops]; kernel_rfl) (exec_c32 _ (.tmp 8) rfl (w.heap.size + 1) 0 (by kernel_rfl) d.nx (seg_cell (nC  _ _ _ _ _) (hB.get 1 (x := ⟨w.heap.size + 1, fl [[.int .u32 d.nx], [.slice y.ao y.no y.co], [.int .i64 d.tn], [.int .u32 d.dl], [.slice y.ah y.nh y.ch]], 26⟩) rfl) 0 (v := .int .u32 d.nx) rfl rfl)) ?_
    simp only [nrm]
    refine list_val (.bool false) (by rw [unhide hops]; kernel_rfl) (eql_32 _ (.tmp 7) (.tmp 9) c.nx d.nx false rfl (by kernel_rfl) (by kernel_rfl) (decide_eq_false (unhide h1))) ?_
    simp only [nrm]
    refine list_val (.bool false) (by rw [unhide hops]; kernel_rfl) (by kernel_rfl) ?_
    simp only [nrm]
    refine list_off (by rw [unhide hops]; kernel_rfl) ?_
    simp only [nrm]
    refine list_off (by rw [unhide hops]; kernel_rfl) ?_
    simp only [nrm]
    refine list_off (by rw [unhide hops]; kernel_rfl) ?_
    simp only [nrm]
    refine list_off (by rw [unhide hops]; kernel_rfl) ?_
    simp only [nrm]
    refine list_off (by rw [unhide hops]; kernel_rfl) ?_
    simp only [nrm]
    refine list_val (.bool false) (by rw [unhide hops]; kernel_rfl) (by kernel_rfl) ?_
    simp only [nrm]
    refine list_val (.bool false) (by rw [unhide hops]; kernel_rfl) (by kernel_rfl) ?_
    simp only [nrm]
    refine list_off (by rw [unhide hops]; kernel_rfl) ?_
    simp only [nrm]
    refine list_off (by rw [unhide hops]; kernel_rfl) ?_
    simp only [nrm]
    refine list_off (by rw [unhide hops]; kernel_rfl) ?_
    simp only [nrm]
    refine list_off (by rw [unhide hops]; kernel_rfl) ?_
    simp only [nrm]
    refine list_off (by rw [unhide hops]; kernel_rfl) ?_
    simp only [nrm]
    refine list_val (.bool false) (by rw [unhide hops]; kernel_rfl) (by kernel_rfl) ?_
    simp only [nrm]
    (refine wpList_step fun K hK => ?_; replace hK := hide hK; go_simp; refine unhide hK _ _ ?_; clear hK K)
    refine wpList_nil ?_
    replace hB := hide hB
    go_upto_region 2 with fail
    replace hB := unhide hB
    refine wp_region_lit ?_
    refine wpList_gen fun ops_ hops => ?_
    replace hops := hide hops
    refine list_val (.bool false) (by rw [unhide hops]; kernel_rfl) (by kernel_rfl) ?_
    simp only [nrm]
    refine list_val (.bool false) (by rw [unhide hops]; kernel_rfl) (by kernel_rfl) ?_
    simp only [nrm]
    refine list_off (by rw [unhide hops]; kernel_rfl) ?_
    simp only [nrm]
    refine list_off (by rw [unhide hops]; kernel_rfl) ?_
    simp only [nrm]
    refine list_off (by rw [unhide hops]; kernel_rfl) ?_
    simp only [nrm]
    refine list_off (by rw [unhide hops]; kernel_rfl) ?_
    simp only [nrm]
    refine list_off (by rw [unhide hops]; kernel_rfl) ?_
    simp only [nrm]
    refine list_val (.bool false) (by rw [unhide hops]; kernel_rfl) (by kernel_rfl) ?_
    simp only [nrm]
    refine list_val (.bool false) (by rw [unhide hops]; kernel_rfl) (by kernel_rfl) ?_
    simp only [nrm]
    refine list_off (by rw [unhide hops]; kernel_rfl) ?_
    simp only [nrm]
    refine list_off (by rw [unhide hops]; kernel_rfl) ?_
    simp only [nrm]
    refine list_off (by rw [unhide hops]; kernel_rfl) ?_
    simp only [nrm]
    refine list_off (by rw [unhide hops]; kernel_rfl) ?_
    simp only [nrm]
    refine list_off (by rw [unhide hops]; kernel_rfl) ?_
    simp only [nrm]
    refine list_val (.bool false) (by rw [unhide hops]; kernel_rfl) (by kernel_rfl) ?_
    simp only [nrm]
    (refine wpList_step fun K hK => ?_; replace hK := hide hK; go_simp; refine unhide hK _ _ ?_; clear hK K)
    refine wpList_nil ?_
    replace hB := hide hB
    go_wp2_with fail
    replace hB := unhide hB
    rw [unhide hT]
    exact (⟨by rw [hv] <;> rfl, hB.gr⟩)
  replace h1 := hide h1
  by_cases h2 : c.tn = d.tn
  rotate_left
  · have hv : decide (c = d) = false := decide_eq_false (fun e => h2 (cm_eq.1 e).2.1)
    replace h2 := hide h2
    refine wp_region_lit ?_
    refine wpList_gen fun ops_ hops => ?_
    replace hops := hide hops
    refine list_val (.pointer (some ⟨w.heap.size, 0, none⟩)) (by rw [unhide hops]; kernel_rfl) (by kernel_rfl) ?_
    simp only [nrm]
    refine list_val (.int .u32 c.nx) (by rw [unhide hops]; kernel_rfl) (exec_c32 _ (.tmp 6) rfl (w.heap.size) 0 (by kernel_rfl) c.nx (seg_cell (nC  _ _ _ _ _) (hB.get 0 (x := ⟨w.heap.size, fl [[.int .u32 c.nx], [.slice x.ao x.no x.co], [.int .i64 c.tn], [.int .u32 c.dl], [.slice x.ah x.nh x.ch]], 26⟩) rfl) 0 (v := .int .u32 c.nx) rfl rfl)) ?_
    simp only [nrm]
    refine list_val (.pointer (some ⟨w.heap.size + 1, 0, none⟩)) (by rw [unhide hops]; kernel_rfl) (by kernel_rfl) ?_
    simp only [nrm]
    refine list_val (.int .u32 d.nx) (by rw [unhide hops]; kernel_rfl) (exec_c32 _ (.tmp 8) rfl (w.heap.size + 1) 0 (by kernel_rfl) d.nx (seg_cell (nC  _ _ _ _ _) (hB.get 1 (x := ⟨w.heap.size + 1, fl [[.int .u32 d.nx], [.slice y.ao y.no y.co], [.int .i64 d.tn], [.int .u32 d.dl], [.slice y.ah y.nh y.ch]], 26⟩) rfl) 0 (v := .int .u32 d.nx) rfl rfl)) ?_
    simp only [nrm]
    refine list_val (.bool true) (by rw [unhide hops]; kernel_rfl) (eql_32 _ (.tmp 7) (.tmp 9) c.nx d.nx true rfl (by kernel_rfl) (by kernel_rfl) (decide_eq_true (unhide h1))) ?_
    simp only [nrm]
    refine list_val (.bool true) (by rw [unhide hops]; kernel_rfl) (by kernel_rfl) ?_
    simp only [nrm]
    refine list_val (.pointer (some ⟨w.heap.size, 2, none⟩)) (by rw [unhide hops]; kernel_rfl) (by kernel_rfl) ?_
    simp only [nrm]
    refine list_val (.int .i64 c.tn) (by rw [unhide hops]; kernel_rfl) (exec_ci _ (.tmp 12) rfl (w.heap.size) 2 (by kernel_rfl) c.tn (seg_cell (nC  _ _ _ _ _) (hB.get 0 (x := ⟨w.heap.size, fl [[.int .u32 c.nx], [.slice x.ao x.no x.co], [.int .i64 c.tn], [.int .u32 c.dl], [.slice x.ah x.nh x.ch]], 26⟩) rfl) 2 (v := .int .i64 c.tn) rfl rfl)) ?_
    simp only [nrm]
    refine list_val (.pointer (some ⟨w.heap.size + 1, 2, none⟩)) (by rw [unhide hops]; kernel_rfl) (by kernel_rfl) ?_
    simp only [nrm]
    refine list_val (.int .i64 d.tn) (by rw [unhide hops]; kernel_rfl) (exec_ci _ (.tmp 14) rfl (w.heap.size + 1) 2 (by kernel_rfl) d.tn (seg_cell (nC  _ _ _ _ _) (hB.get 1 (x := ⟨w.heap.size + 1, fl [[.int .u32 d.nx], [.slice y.ao y.no y.co], [.int .i64 d.tn], [.int .u32 d.dl], [.slice y.ah y.nh y.ch]], 26⟩) rfl) 2 (v := .int .i64 d.tn) rfl rfl)) ?_
    simp only [nrm]
    refine list_val (.bool false) (by rw [unhide hops]; kernel_rfl) (eql_i _ (.tmp 13) (.tmp 15) c.tn d.tn false rfl (by kernel_rfl) (by kernel_rfl) (decide_eq_false (unhide h2))) ?_
    simp only [nrm]
    refine list_val (.bool false) (by rw [unhide hops]; kernel_rfl) (by kernel_rfl) ?_
    simp only [nrm]
    refine list_val (.bool false) (by rw [unhide hops]; kernel_rfl) (by kernel_rfl) ?_
    simp only [nrm]
    refine list_off (by rw [unhide hops]; kernel_rfl) ?_
    simp only [nrm]
    refine list_off (by rw [unhide hops]; kernel_rfl) ?_
    simp only [nrm]
    refine list_off (by rw [unhide hops]; kernel_rfl) ?_
    simp only [nrm]
    refine list_off (by rw [unhide hops]; kernel_rfl) ?_
    simp only [nrm]
    refine list_off (by rw [unhide hops]; kernel_rfl) ?_
    simp only [nrm]
    refine list_val (.bool false) (by rw [unhide hops]; kernel_rfl) (by kernel_rfl) ?_
    simp only [nrm]
    (refine wpList_step fun K hK => ?_; replace hK := hide hK; go_simp; refine unhide hK _ _ ?_; clear hK K)
    refine wpList_nil ?_
    replace hB := hide hB
    go_upto_region 2 with fail
    replace hB := unhide hB
    refine wp_region_lit ?_
    refine wpList_gen fun ops_ hops => ?_
    replace hops := hide hops
    refine list_val (.bool false) (by rw [unhide hops]; kernel_rfl) (by kernel_rfl) ?_
    simp only [nrm]
    refine list_val (.bool false) (by rw [unhide hops]; kernel_rfl) (by kernel_rfl) ?_
    simp only [nrm]
    refine list_off (by rw [unhide hops]; kernel_rfl) ?_
    simp only [nrm]
    refine list_off (by rw [unhide hops]; kernel_rfl) ?_
    simp only [nrm]
    refine list_off (by rw [unhide hops]; kernel_rfl) ?_
    simp only [nrm]
    refine list_off (by rw [unhide hops]; kernel_rfl) ?_
    simp only [nrm]
    refine list_off (by rw [unhide hops]; kernel_rfl) ?_
    simp only [nrm]
    refine list_val (.bool false) (by rw [unhide hops]; kernel_rfl) (by kernel_rfl) ?_
    simp only [nrm]
    refine list_val (.bool false) (by rw [unhide hops]; kernel_rfl) (by kernel_rfl) ?_
    simp only [nrm]
    refine list_off (by rw [unhide hops]; kernel_rfl) ?_
    simp only [nrm]
    refine list_off (by rw [unhide hops]; kernel_rfl) ?_
    simp only [nrm]
    refine list_off (by rw [unhide hops]; kernel_rfl) ?_
    simp only [nrm]
    refine list_off (by rw [unhide hops]; kernel_rfl) ?_
    simp only [nrm]
    refine list_off (by rw [unhide hops]; kernel_rfl) ?_
    simp only [nrm]
    refine list_val (.bool false) (by rw [unhide hops]; kernel_rfl) (by kernel_rfl) ?_
    simp only [nrm]
    (refine wpList_step fun K hK => ?_; replace hK := hide hK; go_simp; refine unhide hK _ _ ?_; clear hK K)
    refine wpList_nil ?_
    replace hB := hide hB
    go_wp2_with fail
    replace hB := unhide hB
    rw [unhide hT]
    exact (⟨by rw [hv] <;> rfl, hB.gr⟩)
  replace h2 := hide h2
  by_cases h3 : c.dl = d.dl
  rotate_left
  · have hv : decide (c = d) = false := decide_eq_false (fun e => h3 (cm_eq.1 e).2.2.1)
    replace h3 := hide h3
    refine wp_region_lit ?_
    refine wpList_gen fun ops_ hops => ?_
    replace hops := hide hops
    refine list_val (.pointer (some ⟨w.heap.size, 0, none⟩)) (by rw [unhide hops]; kernel_rfl) (by kernel_rfl) ?_
    simp only [nrm]
    refine list_val (.int .u32 c.nx) (by rw [unhide hops]; kernel_rfl) (exec_c32 _ (.tmp 6) rfl (w.heap.size) 0 (by kernel_rfl) c.nx (seg_cell (nC  _ _ _ _ _) (hB.get 0 (x := ⟨w.heap.size, fl [[.int .u32 c.nx], [.slice x.ao x.no x.co], [.int .i64 c.tn], [.int .u32 c.dl], [.slice x.ah x.nh x.ch]], 26⟩) rfl) 0 (v := .int .u32 c.nx) rfl rfl)) ?_
    simp only [nrm]
    refine list_val (.pointer (some ⟨w.heap.size + 1, 0, none⟩)) (by rw [unhide hops]; kernel_rfl) (by kernel_rfl) ?_
    simp only [nrm]
    refine list_val (.int .u32 d.nx) (by rw [unhide hops]; kernel_rfl) (exec_c32 _ (.tmp 8) rfl (w.heap.size + 1) 0 (by kernel_rfl) d.nx (seg_cell (nC  _ _ _ _ _) (hB.get 1 (x := ⟨w.heap.size + 1, fl [[.int .u32 d.nx], [.slice y.ao y.no y.co], [.int .i64 d.tn], [.int .u32 d.dl], [.slice y.ah y.nh y.ch]], 26⟩) rfl) 0 (v := .int .u32 d.nx) rfl rfl)) ?_
    simp only [nrm]
    refine list_val (.bool true) (by rw [unhide hops]; kernel_rfl) (eql_32 _ (.tmp 7) (.tmp 9) c.nx d.nx true rfl (by kernel_rfl) (by kernel_rfl) (decide_eq_true (unhide h1))) ?_
    simp only [nrm]
    refine list_val (.bool true) (by rw [unhide hops]; kernel_rfl) (by kernel_rfl) ?_
    simp only [nrm]
    refine list_val (.pointer (some ⟨w.heap.size, 2, none⟩)) (by rw [unhide hops]; kernel_rfl) (by kernel_rfl) ?_
    simp only [nrm]
    refine list_val (.int .i64 c.tn) (by rw [unhide hops]; kernel_rfl) (exec_ci _ (.tmp 12) rfl (w.heap.size) 2 (by kernel_rfl) c.tn (seg_cell (nC  _ _ _ _ _) (hB.get 0 (x := ⟨w.heap.size, fl [[.int .u32 c.nx], [.slice x.ao x.no x.co], [.int .i64 c.tn], [.int .u32 c.dl], [.slice x.ah x.nh x.ch]], 26⟩) rfl) 2 (v := .int .i64 c.tn) rfl rfl)) ?_
    simp only [nrm]
    refine list_val (.pointer (some ⟨w.heap.size + 1, 2, none⟩)) (by rw [unhide hops]; kernel_rfl) (by kernel_rfl) ?_
    simp only [nrm]
    refine list_val (.int .i64 d.tn) (by rw [unhide hops]; kernel_rfl) (exec_ci _ (.tmp 14) rfl (w.heap.size + 1) 2 (by kernel_rfl) d.tn (seg_cell (nC  _ _ _ _ _) (hB.get 1 (x := ⟨w.heap.size + 1, fl [[.int .u32 d.nx], [.slice y.ao y.no y.co], [.int .i64 d.tn], [.int .u32 d.dl], [.slice y.ah y.nh y.ch]], 26⟩) rfl) 2 (v := .int .i64 d.tn) rfl rfl)) ?_
    simp only [nrm]
    refine list_val (.bool true) (by rw [unhide hops]; kernel_rfl) (eql_i _ (.tmp 13) (.tmp 15) c.tn d.tn true rfl (by kernel_rfl) (by kernel_rfl) (decide_eq_true (unhide h2))) ?_
    simp only [nrm]
    refine list_val (.bool true) (by rw [unhide hops]; kernel_rfl) (by kernel_rfl) ?_
    simp only [nrm]
    refine list_val (.bool true) (by rw [unhide hops]; kernel_rfl) (by kernel_rfl) ?_
    simp only [nrm]
    refine list_val (.pointer (some ⟨w.heap.size, 3, none⟩)) (by rw [unhide hops]; kernel_rfl) (by kernel_rfl) ?_
    simp only [nrm]
    refine list_val (.int .u32 c.dl) (by rw [unhide hops]; kernel_rfl) (exec_c32 _ (.tmp 19) rfl (w.heap.size) 3 (by kernel_rfl) c.dl (seg_cell (nC  _ _ _ _ _) (hB.get 0 (x := ⟨w.heap.size, fl [[.int .u32 c.nx], [.slice x.ao x.no x.co], [.int .i64 c.tn], [.int .u32 c.dl], [.slice x.ah x.nh x.ch]], 26⟩) rfl) 3 (v := .int .u32 c.dl) rfl rfl)) ?_
    simp only [nrm]
    refine list_val (.pointer (some ⟨w.heap.size + 1, 3, none⟩)) (by rw [unhide hops]; kernel_rfl) (by kernel_rfl) ?_
    simp only [nrm]
    refine list_val (.int .u32 d.dl) (by rw [unhide hops]; kernel_rfl) (exec_c32 _ (.tmp 21) rfl (w.heap.size + 1) 3 (by kernel_rfl) d.dl (seg_cell (nC  _ _ _ _ _) (hB.get 1 (x := ⟨w.heap.size + 1, fl [[.int .u32 d.nx], [.slice y.ao y.no y.co], [.int .i64 d.tn], [.int .u32 d.dl], [.slice y.ah y.nh y.ch]], 26⟩) rfl) 3 (v := .int .u32 d.dl) rfl rfl)) ?_
    simp only [nrm]
    refine list_val (.bool false) (by rw [unhide hops]; kernel_rfl) (eql_32 _ (.tmp 20) (.tmp 22) c.dl d.dl false rfl (by kernel_rfl) (by kernel_rfl) (decide_eq_false (unhide h3))) ?_
    simp only [nrm]
    refine list_val (.bool false) (by rw [unhide hops]; kernel_rfl) (by kernel_rfl) ?_
    simp only [nrm]
    (refine wpList_step fun K hK => ?_; replace hK := hide hK; go_simp; refine unhide hK _ _ ?_; clear hK K)
    refine wpList_nil ?_
    replace hB := hide hB
    go_upto_region 2 with fail
    replace hB := unhide hB
    refine wp_region_lit ?_
    refine wpList_gen fun ops_ hops => ?_
    replace hops := hide hops
    refine list_val (.bool false) (by rw [unhide hops]; kernel_rfl) (by kernel_rfl) ?_
    simp only [nrm]
    refine list_val (.bool false) (by rw [unhide hops]; kernel_rfl) (by kernel_rfl) ?_
    simp only [nrm]
    refine list_off (by rw [unhide hops]; kernel_rfl) ?_
    simp only [nrm]
    refine list_off (by rw [unhide hops]; kernel_rfl) ?_
    simp only [nrm]
    refine list_off (by rw [unhide hops]; kernel_rfl) ?_
    simp only [nrm]
    refine list_off (by rw [unhide hops]; kernel_rfl) ?_
    simp only [nrm]
    refine list_off (by rw [unhide hops]; kernel_rfl) ?_
    simp only [nrm]
    refine list_val (.bool false) (by rw [unhide hops]; kernel_rfl) (by kernel_rfl) ?_
    simp only [nrm]
    refine list_val (.bool false) (by rw [unhide hops]; kernel_rfl) (by kernel_rfl) ?_
    simp only [nrm]
    refine list_off (by rw [unhide hops]; kernel_rfl) ?_
    simp only [nrm]
    refine list_off (by rw [unhide hops]; kernel_rfl) ?_
    simp only [nrm]
    refine list_off (by rw [unhide hops]; kernel_rfl) ?_
    simp only [nrm]
    refine list_off (by rw [unhide hops]; kernel_rfl) ?_
    simp only [nrm]
    refine list_off (by rw [unhide hops]; kernel_rfl) ?_
    simp only [nrm]
    refine list_val (.bool false) (by rw [unhide hops]; kernel_rfl) (by kernel_rfl) ?_
    simp only [nrm]
    (refine wpList_step fun K hK => ?_; replace hK := hide hK; go_simp; refine unhide hK _ _ ?_; clear hK K)
    refine wpList_nil ?_
    replace hB := hide hB
    go_wp2_with fail
    replace hB := unhide hB
    rw [unhide hT]
    exact (⟨by rw [hv] <;> rfl, hB.gr⟩)
  replace h3 := hide h3
  refine wp_region_lit ?_
  refine wpList_gen fun ops_ hops => ?_
  replace hops := hide hops
  refine list_val (.pointer (some ⟨w.heap.size, 0, none⟩)) (by rw [unhide hops]; kernel_rfl) (by kernel_rfl) ?_
  simp only [nrm]
  refine list_val (.int .u32 c.nx) (by rw [unhide hops]; kernel_rfl) (exec_c32 _ (.tmp 6) rfl (w.heap.size) 0 (by kernel_rfl) c.nx (seg_cell (nC  _ _ _ _ _) (hB.get 0 (x := ⟨w.heap.size, fl [[.int .u32 c.nx], [.slice x.ao x.no x.co], [.int .i64 c.tn], [.int .u32 c.dl], [.slice x.ah x.nh x.ch]], 26⟩) rfl) 0 (v := .int .u32 c.nx) rfl rfl)) ?_
  simp only [nrm]
  refine list_val (.pointer (some ⟨w.heap.size + 1, 0, none⟩)) (by rw [unhide hops]; kernel_rfl) (by kernel_rfl) ?_
  simp only [nrm]
  refine list_val (.int .u32 d.nx) (by rw [unhide hops]; kernel_rfl) (exec_c32 _ (.tmp 8) rfl (w.heap.size + 1) 0 (by kernel_rfl) d.nx (seg_cell (nC  _ _ _ _ _) (hB.get 1 (x := ⟨w.heap.size + 1, fl [[.int .u32 d.nx], [.slice y.ao y.no y.co], [.int .i64 d.tn], [.int .u32 d.dl], [.slice y.ah y.nh y.ch]], 26⟩) rfl) 0 (v := .int .u32 d.nx) rfl rfl)) ?_
  simp only [nrm]
  refine list_val (.bool true) (by rw [unhide hops]; kernel_rfl) (eql_32 _ (.tmp 7) (.tmp 9) c.nx d.nx true rfl (by kernel_rfl) (by kernel_rfl) (decide_eq_true (unhide h1))) ?_
  simp only [nrm]
  refine list_val (.bool true) (by rw [unhide hops]; kernel_rfl) (by kernel_rfl) ?_
  simp only [nrm]
  refine list_val (.pointer (some ⟨w.heap.size, 2, none⟩)) (by rw [unhide hops]; kernel_rfl) (by kernel_rfl) ?_
  simp only [nrm]
  refine list_val (.int .i64 c.tn) (by rw [unhide hops]; kernel_rfl) (exec_ci _ (.tmp 12) rfl (w.heap.size) 2 (by kernel_rfl) c.tn (seg_cell (nC  _ _ _ _ _) (hB.get 0 (x := ⟨w.heap.size, fl [[.int .u32 c.nx], [.slice x.ao x.no x.co], [.int .i64 c.tn], [.int .u32 c.dl], [.slice x.ah x.nh x.ch]], 26⟩) rfl) 2 (v := .int .i64 c.tn) rfl rfl)) ?_
  simp only [nrm]
  refine list_val (.pointer (some ⟨w.heap.size + 1, 2, none⟩)) (by rw [unhide hops]; kernel_rfl) (by kernel_rfl) ?_
  simp only [nrm]
  refine list_val (.int .i64 d.tn) (by rw [unhide hops]; kernel_rfl) (exec_ci _ (.tmp 14) rfl (w.heap.size + 1) 2 (by kernel_rfl) d.tn (seg_cell (nC  _ _ _ _ _) (hB.get 1 (x := ⟨w.heap.size + 1, fl [[.int .u32 d.nx], [.slice y.ao y.no y.co], [.int .i64 d.tn], [.int .u32 d.dl], [.slice y.ah y.nh y.ch]], 26⟩) rfl) 2 (v := .int .i64 d.tn) rfl rfl)) ?_
  simp only [nrm]
  refine list_val (.bool true) (by rw [unhide hops]; kernel_rfl) (eql_i _ (.tmp 13) (.tmp 15) c.tn d.tn true rfl (by kernel_rfl) (by kernel_rfl) (decide_eq_true (unhide h2))) ?_
  simp only [nrm]
  refine list_val (.bool true) (by rw [unhide hops]; kernel_rfl) (by kernel_rfl) ?_
  simp only [nrm]
  refine list_val (.bool true) (by rw [unhide hops]; kernel_rfl) (by kernel_rfl) ?_
  simp only [nrm]
  refine list_val (.pointer (some ⟨w.heap.size, 3, none⟩)) (by rw [unhide hops]; kernel_rfl) (by kernel_rfl) ?_
  simp only [nrm]
  refine list_val (.int .u32 c.dl) (by rw [unhide hops]; kernel_rfl) (exec_c32 _ (.tmp 19) rfl (w.heap.size) 3 (by kernel_rfl) c.dl (seg_cell (nC  _ _ _ _ _) (hB.get 0 (x := ⟨w.heap.size, fl [[.int .u32 c.nx], [.slice x.ao x.no x.co], [.int .i64 c.tn], [.int .u32 c.dl], [.slice x.ah x.nh x.ch]], 26⟩) rfl) 3 (v := .int .u32 c.dl) rfl rfl)) ?_
  simp only [nrm]
  refine list_val (.pointer (some ⟨w.heap.size + 1, 3, none⟩)) (by rw [unhide hops]; kernel_rfl) (by kernel_rfl) ?_
  simp only [nrm]
  refine list_val (.int .u32 d.dl) (by rw [unhide hops]; kernel_rfl) (exec_c32 _ (.tmp 21) rfl (w.heap.size + 1) 3 (by kernel_rfl) d.dl (seg_cell (nC  _ _ _ _ _) (hB.get 1 (x := ⟨w.heap.size + 1, fl [[.int .u32 d.nx], [.slice y.ao y.no y.co], [.int .i64 d.tn], [.int .u32 d.dl], [.slice y.ah y.nh y.ch]], 26⟩) rfl) 3 (v := .int .u32 d.dl) rfl rfl)) ?_
  simp only [nrm]
  refine list_val (.bool true) (by rw [unhide hops]; kernel_rfl) (eql_32 _ (.tmp 20) (.tmp 22) c.dl d.dl true rfl (by kernel_rfl) (by kernel_rfl) (decide_eq_true (unhide h3))) ?_
  simp only [nrm]
  refine list_val (.bool true) (by rw [unhide hops]; kernel_rfl) (by kernel_rfl) ?_
  simp only [nrm]
  (refine wpList_step fun K hK => ?_; replace hK := hide hK; go_simp; refine unhide hK _ _ ?_; clear hK K)
  refine wpList_nil ?_
  cases h4 : decide (c.O = d.O) with
  | false =>
    have hv : decide (c = d) = false := decide_eq_false (fun e => of_decide_eq_false h4 (cm_eq.1 e).2.2.2.1)
    replace hB := hide hB
    go_upto_region 2 with fail
    replace hB := unhide hB
    refine wp_region_lit ?_
    refine wpList_gen fun ops_ hops => ?_
    replace hops := hide hops
    refine list_val (.bool true) (by rw [unhide hops]; kernel_rfl) (by kernel_rfl) ?_
    simp only [nrm]
    refine list_val (.bool true) (by rw [unhide hops]; kernel_rfl) (by kernel_rfl) ?_
    simp only [nrm]
    refine list_val (.pointer (some ⟨w.heap.size, 1, none⟩)) (by rw [unhide hops]; kernel_rfl) (by kernel_rfl) ?_
    simp only [nrm]
    refine list_val (.slice x.ao x.no x.co) (by rw [unhide hops]; kernel_rfl) (exec_csO _ (.tmp 27) rfl (w.heap.size) 1 (by kernel_rfl) x.ao x.no x.co (seg_cell (nC  _ _ _ _ _) (hB.get 0 (x := ⟨w.heap.size, fl [[.int .u32 c.nx], [.slice x.ao x.no x.co], [.int .i64 c.tn], [.int .u32 c.dl], [.slice x.ah x.nh x.ch]], 26⟩) rfl) 1 (v := .slice x.ao x.no x.co) rfl rfl)) ?_
    simp only [nrm]
    refine list_val (.pointer (some ⟨w.heap.size + 1, 1, none⟩)) (by rw [unhide hops]; kernel_rfl) (by kernel_rfl) ?_
    simp only [nrm]
    refine list_val (.slice y.ao y.no y.co) (by rw [unhide hops]; kernel_rfl) (exec_csO _ (.tmp 29) rfl (w.heap.size + 1) 1 (by kernel_rfl) y.ao y.no y.co (seg_cell (nC  _ _ _ _ _) (hB.get 1 (x := ⟨w.heap.size + 1, fl [[.int .u32 d.nx], [.slice y.ao y.no y.co], [.int .i64 d.tn], [.int .u32 d.dl], [.slice y.ah y.nh y.ch]], 26⟩) rfl) 1 (v := .slice y.ao y.no y.co) rfl rfl)) ?_
    simp only [nrm]
    refine list_call 49 #[.slice x.ao x.no x.co, .slice y.ao y.no y.co] (by rw [unhide hops]; kernel_rfl) (by kernel_rfl) (((show Calls Try.prog 49 #[.slice x.ao x.no x.co, .slice y.ao y.no y.co] u0 (Vl (.bool false) u0) from h4 ▸ eq_o _ _ _ _ _ _ _ _ u0 ((unhide hc).gr hB.gr).o ((unhide hd).gr hB.gr).o)).mono ?_)
    rintro r_ u1 ⟨rfl, hg⟩
    replace hB := hB.more hg
    clear hg
    refine ⟨_, rfl, ?_⟩
    simp only [nrm]
    refine list_val (.bool false) (by rw [unhide hops]; kernel_rfl) (by kernel_rfl) ?_
    simp only [nrm]
    refine list_val (.bool false) (by rw [unhide hops]; kernel_rfl) (by kernel_rfl) ?_
    simp only [nrm]
    refine list_off (by rw [unhide hops]; kernel_rfl) ?_
    simp only [nrm]
    refine list_off (by rw [unhide hops]; kernel_rfl) ?_
    simp only [nrm]
    refine list_off (by rw [unhide hops]; kernel_rfl) ?_
    simp only [nrm]
    refine list_off (by rw [unhide hops]; kernel_rfl) ?_
    simp only [nrm]
    refine list_off (by rw [unhide hops]; kernel_rfl) ?_
    simp only [nrm]
    refine list_val (.bool false) (by rw [unhide hops]; kernel_rfl) (by kernel_rfl) ?_
    simp only [nrm]
    (refine wpList_step fun K hK => ?_; replace hK := hide hK; go_simp; refine unhide hK _ _ ?_; clear hK K)
    refine wpList_nil ?_
    replace hB := hide hB
    go_wp2_with fail
    replace hB := unhide hB
    rw [unhide hT]
    exact (⟨by rw [hv] <;> rfl, hB.gr⟩)
  | true =>
    cases h5 : decide (c.H = d.H) with
    | false =>
      have hv : decide (c = d) = false := decide_eq_false (fun e => of_decide_eq_false h5 (cm_eq.1 e).2.2.2.2)
      replace hB := hide hB
      go_upto_region 2 with fail
      replace hB := unhide hB
      refine wp_region_lit ?_
      refine wpList_gen fun ops_ hops => ?_
      replace hops := hide hops
      refine list_val (.bool true) (by rw [unhide hops]; kernel_rfl) (by kernel_rfl) ?_
      simp only [nrm]
      refine list_val (.bool true) (by rw [unhide hops]; kernel_rfl) (by kernel_rfl) ?_
      simp only [nrm]
      refine list_val (.pointer (some ⟨w.heap.size, 1, none⟩)) (by rw [unhide hops]; kernel_rfl) (by kernel_rfl) ?_
      simp only [nrm]
      refine list_val (.slice x.ao x.no x.co) (by rw [unhide hops]; kernel_rfl) (exec_csO _ (.tmp 27) rfl (w.heap.size) 1 (by kernel_rfl) x.ao x.no x.co (seg_cell (nC  _ _ _ _ _) (hB.get 0 (x := ⟨w.heap.size, fl [[.int .u32 c.nx], [.slice x.ao x.no x.co], [.int .i64 c.tn], [.int .u32 c.dl], [.slice x.ah x.nh x.ch]], 26⟩) rfl) 1 (v := .slice x.ao x.no x.co) rfl rfl)) ?_
      simp only [nrm]
      refine list_val (.pointer (some ⟨w.heap.size + 1, 1, none⟩)) (by rw [unhide hops]; kernel_rfl) (by kernel_rfl) ?_
      simp only [nrm]
      refine list_val (.slice y.ao y.no y.co) (by rw [unhide hops]; kernel_rfl) (exec_csO _ (.tmp 29) rfl (w.heap.size + 1) 1 (by kernel_rfl) y.ao y.no y.co (seg_cell (nC  _ _ _ _ _) (hB.get 1 (x := ⟨w.heap.size + 1, fl [[.int .u32 d.nx], [.slice y.ao y.no y.co], [.int .i64 d.tn], [.int .u32 d.dl], [.slice y.ah y.nh y.ch]], 26⟩) rfl) 1 (v := .slice y.ao y.no y.co) rfl rfl)) ?_
      simp only [nrm]
      refine list_call 49 #[.slice x.ao x.no x.co, .slice y.ao y.no y.co] (by rw [unhide hops]; kernel_rfl) (by kernel_rfl) (((show Calls Try.prog 49 #[.slice x.ao x.no x.co, .slice y.ao y.no y.co] u0 (Vl (.bool true) u0) from h4 ▸ eq_o _ _ _ _ _ _ _ _ u0 ((unhide hc).gr hB.gr).o ((unhide hd).gr hB.gr).o)).mono ?_)
      rintro r_ u1 ⟨rfl, hg⟩
      replace hB := hB.more hg
      clear hg
      refine ⟨_, rfl, ?_⟩
      simp only [nrm]
      refine list_val (.bool true) (by rw [unhide hops]; kernel_rfl) (by kernel_rfl) ?_
      simp only [nrm]
      refine list_val (.bool true) (by rw [unhide hops]; kernel_rfl) (by kernel_rfl) ?_
      simp only [nrm]
      refine list_val (.pointer (some ⟨w.heap.size, 4, none⟩)) (by rw [unhide hops]; kernel_rfl) (by kernel_rfl) ?_
      simp only [nrm]
      refine list_val (.slice x.ah x.nh x.ch) (by rw [unhide hops]; kernel_rfl) (exec_csI _ (.tmp 34) rfl (w.heap.size) 4 (by kernel_rfl) x.ah x.nh x.ch (seg_cell (nC  _ _ _ _ _) (hB.get 0 (x := ⟨w.heap.size, fl [[.int .u32 c.nx], [.slice x.ao x.no x.co], [.int .i64 c.tn], [.int .u32 c.dl], [.slice x.ah x.nh x.ch]], 26⟩) rfl) 4 (v := .slice x.ah x.nh x.ch) rfl rfl)) ?_
      simp only [nrm]
      refine list_val (.pointer (some ⟨w.heap.size + 1, 4, none⟩)) (by rw [unhide hops]; kernel_rfl) (by kernel_rfl) ?_
      simp only [nrm]
      refine list_val (.slice y.ah y.nh y.ch) (by rw [unhide hops]; kernel_rfl) (exec_csI _ (.tmp 36) rfl (w.heap.size + 1) 4 (by kernel_rfl) y.ah y.nh y.ch (seg_cell (nC  _ _ _ _ _) (hB.get 1 (x := ⟨w.heap.size + 1, fl [[.int .u32 d.nx], [.slice y.ao y.no y.co], [.int .i64 d.tn], [.int .u32 d.dl], [.slice y.ah y.nh y.ch]], 26⟩) rfl) 4 (v := .slice y.ah y.nh y.ch) rfl rfl)) ?_
      simp only [nrm]
      refine list_call 50 #[.slice x.ah x.nh x.ch, .slice y.ah y.nh y.ch] (by rw [unhide hops]; kernel_rfl) (by kernel_rfl) (((show Calls Try.prog 50 #[.slice x.ah x.nh x.ch, .slice y.ah y.nh y.ch] u1 (Vl (.bool false) u1) from h5 ▸ eq_i _ _ _ _ _ _ _ _ u1 ((unhide hc).gr hB.gr).h ((unhide hd).gr hB.gr).h)).mono ?_)
      rintro r_ u2 ⟨rfl, hg⟩
      replace hB := hB.more hg
      clear hg
      refine ⟨_, rfl, ?_⟩
      simp only [nrm]
      refine list_val (.bool false) (by rw [unhide hops]; kernel_rfl) (by kernel_rfl) ?_
      simp only [nrm]
      (refine wpList_step fun K hK => ?_; replace hK := hide hK; go_simp; refine unhide hK _ _ ?_; clear hK K)
      refine wpList_nil ?_
      replace hB := hide hB
      go_wp2_with fail
      replace hB := unhide hB
      rw [unhide hT]
      exact (⟨by rw [hv] <;> rfl, hB.gr⟩)
    | true =>
      have hv : decide (c = d) = true := decide_eq_true (cm_eq.2 ⟨unhide h1, unhide h2, unhide h3, of_decide_eq_true h4, of_decide_eq_true h5⟩)
      replace hB := hide hB
      go_upto_region 2 with fail
      replace hB := unhide hB
      refine wp_region_lit ?_
      refine wpList_gen fun ops_ hops => ?_
      replace hops := hide hops
      refine list_val (.bool true) (by rw [unhide hops]; kernel_rfl) (by kernel_rfl) ?_
      simp only [nrm]
      refine list_val (.bool true) (by rw [unhide hops]; kernel_rfl) (by kernel_rfl) ?_
      simp only [nrm]
      refine list_val (.pointer (some ⟨w.heap.size, 1, none⟩)) (by rw [unhide hops]; kernel_rfl) (by kernel_rfl) ?_
      simp only [nrm]
      refine list_val (.slice x.ao x.no x.co) (by rw [unhide hops]; kernel_rfl) (exec_csO _ (.tmp 27) rfl (w.heap.size) 1 (by kernel_rfl) x.ao x.no x.co (seg_cell (nC  _ _ _ _ _) (hB.get 0 (x := ⟨w.heap.size, fl [[.int .u32 c.nx], [.slice x.ao x.no x.co], [.int .i64 c.tn], [.int .u32 c.dl], [.slice x.ah x.nh x.ch]], 26⟩) rfl) 1 (v := .slice x.ao x.no x.co) rfl rfl)) ?_
      simp only [nrm]
      refine list_val (.pointer (some ⟨w.heap.size + 1, 1, none⟩)) (by rw [unhide hops]; kernel_rfl) (by kernel_rfl) ?_
      simp only [nrm]
      refine list_val (.slice y.ao y.no y.co) (by rw [unhide hops]; kernel_rfl) (exec_csO _ (.tmp 29) rfl (w.heap.size + 1) 1 (by kernel_rfl) y.ao y.no y.co (seg_cell (nC  _ _ _ _ _) (hB.get 1 (x := ⟨w.heap.size + 1, fl [[.int .u32 d.nx], [.slice y.ao y.no y.co], [.int .i64 d.tn], [.int .u32 d.dl], [.slice y.ah y.nh y.ch]], 26⟩) rfl) 1 (v := .slice y.ao y.no y.co) rfl rfl)) ?_
      simp only [nrm]
      refine list_call 49 #[.slice x.ao x.no x.co, .slice y.ao y.no y.co] (by rw [unhide hops]; kernel_rfl) (by kernel_rfl) (((show Calls Try.prog 49 #[.slice x.ao x.no x.co, .slice y.ao y.no y.co] u0 (Vl (.bool true) u0) from h4 ▸ eq_o _ _ _ _ _ _ _ _ u0 ((unhide hc).gr hB.gr).o ((unhide hd).gr hB.gr).o)).mono ?_)
      rintro r_ u1 ⟨rfl, hg⟩
      replace hB := hB.more hg
      clear hg
      refine ⟨_, rfl, ?_⟩
      simp only [nrm]
      refine list_val (.bool true) (by rw [unhide hops]; kernel_rfl) (by kernel_rfl) ?_
      simp only [nrm]
      refine list_val (.bool true) (by rw [unhide hops]; kernel_rfl) (by kernel_rfl) ?_
      simp only [nrm]
      refine list_val (.pointer (some ⟨w.heap.size, 4, none⟩)) (by rw [unhide hops]; kernel_rfl) (by kernel_rfl) ?_
      simp only [nrm]
      refine list_val (.slice x.ah x.nh x.ch) (by rw [unhide hops]; kernel_rfl) (exec_csI _ (.tmp 34) rfl (w.heap.size) 4 (by kernel_rfl) x.ah x.nh x.ch (seg_cell (nC  _ _ _ _ _) (hB.get 0 (x := ⟨w.heap.size, fl [[.int .u32 c.nx], [.slice x.ao x.no x.co], [.int .i64 c.tn], [.int .u32 c.dl], [.slice x.ah x.nh x.ch]], 26⟩) rfl) 4 (v := .slice x.ah x.nh x.ch) rfl rfl)) ?_
      simp only [nrm]
      refine list_val (.pointer (some ⟨w.heap.size + 1, 4, none⟩)) (by rw [unhide hops]; kernel_rfl) (by kernel_rfl) ?_
      simp only [nrm]
      refine list_val (.slice y.ah y.nh y.ch) (by rw [unhide hops]; kernel_rfl) (exec_csI _ (.tmp 36) rfl (w.heap.size + 1) 4 (by kernel_rfl) y.ah y.nh y.ch (seg_cell (nC  _ _ _ _ _) (hB.get 1 (x := ⟨w.heap.size + 1, fl [[.int .u32 d.nx], [.slice y.ao y.no y.co], [.int .i64 d.tn], [.int .u32 d.dl], [.slice y.ah y.nh y.ch]], 26⟩) rfl) 4 (v := .slice y.ah y.nh y.ch) rfl rfl)) ?_
      simp only [nrm]
      refine list_call 50 #[.slice x.ah x.nh x.ch, .slice y.ah y.nh y.ch] (by rw [unhide hops]; kernel_rfl) (by kernel_rfl) (((show Calls Try.prog 50 #[.slice x.ah x.nh x.ch, .slice y.ah y.nh y.ch] u1 (Vl (.bool true) u1) from h5 ▸ eq_i _ _ _ _ _ _ _ _ u1 ((unhide hc).gr hB.gr).h ((unhide hd).gr hB.gr).h)).mono ?_)
      rintro r_ u2 ⟨rfl, hg⟩
      replace hB := hB.more hg
      clear hg
      refine ⟨_, rfl, ?_⟩
      simp only [nrm]
      refine list_val (.bool true) (by rw [unhide hops]; kernel_rfl) (by kernel_rfl) ?_
      simp only [nrm]
      (refine wpList_step fun K hK => ?_; replace hK := hide hK; go_simp; refine unhide hK _ _ ?_; clear hK K)
      refine wpList_nil ?_
      replace hB := hide hB
      go_wp2_with fail
      replace hB := unhide hB
      rw [unhide hT]
      exact (⟨by rw [hv] <;> rfl, hB.gr⟩)
end Go.Proofs.Ytcefkkoombmndaa
