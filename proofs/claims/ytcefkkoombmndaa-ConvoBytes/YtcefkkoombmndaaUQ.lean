/-
  The reference's Right; what is acked.
-/
import Derived.Test.YtcefkkoombmndaaUO
namespace Go.Proofs.Ytcefkkoombmndaa
open Go.RowKit
set_option maxRecDepth 100000
set_option linter.unusedSimpArgs false
set_option linter.unusedVariables false
theorem seqs_of {c : Cm} {k : Int} (h : c.nx = k) : True := trivial
/-- where the first number stands that is not as it ought to be: Out -/
theorem rt_no1 {c : Cm} (h : ¬ (c.nx ≤ 2147483648 ∧ c.dl ≤ 2147483648 ∧ c.O.length ≤ 4 ∧ (c.O.length : Int) ≤ c.nx ∧ c.H.length ≤ 3)) : rt c = false := by
  rw [Bool.eq_false_iff]
  intro e
  have h1 := rt_le e
  omega
theorem rt_no2 {c : Cm} (h : ¬ (0 ≤ c.tn ∧ c.tn < max (c.O.length : Int) 1)) : rt c = false := by
  rw [Bool.eq_false_iff]
  intro e
  have h1 := rt_le e
  omega
theorem rt_seqs {c : Cm} (h : rt c = true) : seqs (c.nx - c.O.length) c.O = true := by
  unfold rt outB at h
  simp only [Bool.and_eq_true, decide_eq_true_eq] at h
  exact h.2.1.2
theorem rt_mk {c : Cm} (h1 : c.nx ≤ 2147483648 ∧ c.dl ≤ 2147483648 ∧ c.O.length ≤ 4 ∧ (c.O.length : Int) ≤ c.nx ∧ c.H.length ≤ 3) (h2 : 0 ≤ c.tn ∧ c.tn < max (c.O.length : Int) 1) (h3 : seqs (c.nx - c.O.length) c.O = true) (h4 : rises c.dl (min (c.dl + 4) 2147483648) c.H = true) : rt c = true := by
  unfold rt outB heldB
  simp only [Bool.and_eq_true, decide_eq_true_eq]
  exact ⟨⟨h1.1, h1.2.1⟩, ⟨⟨h1.2.2.1, h1.2.2.2.1, h2⟩, h3⟩, h1.2.2.2.2, h4⟩
theorem rt_no3 {c : Cm} (h : seqs (c.nx - c.O.length) c.O = false) : rt c = false := by
  rw [Bool.eq_false_iff]
  intro e
  rw [rt_seqs e] at h
  cases h
theorem rt_no4 {c : Cm} (h : rises c.dl (min (c.dl + 4) 2147483648) c.H = false) : rt c = false := by
  rw [Bool.eq_false_iff]
  intro e
  rw [rt_rises e] at h
  cases h
set_option maxHeartbeats 4000000 in
theorem right_ok (c : Cm) (x : Lc) (w : World) (hc : Cin w c x) : Calls Try.prog 13 #[.agg (fl [[.int .u32 c.nx], [.slice x.ao x.no x.co], [.int .i64 c.tn], [.int .u32 c.dl], [.slice x.ah x.nh x.ch]])] w (Vl (.bool (rt c)) w) := by
  obtain ⟨T, hT⟩ : ∃ T : Ending → World → Prop, T = (Vl (.bool (rt c)) w) := ⟨_, rfl⟩
  rw [← hT]
  replace hT := hide hT
  have hn := hc.o.len
  have hm := hc.h.len
  have hnx := hc.nx
  have htn := hc.tn
  have hdl := hc.dl
  have hb1 := hc.o.2.cap
  have hb2 := hc.o.2.max
  have hb3 := hc.h.2.cap
  have hb4 := hc.h.2.max
  replace hc := hide hc
  obtain ⟨A0_, hA0_⟩ : ∃ S_, S_ = fl [[.int .u32 c.nx], [.slice x.ao x.no x.co], [.int .i64 c.tn], [.int .u32 c.dl], [.slice x.ah x.nh x.ch]] := ⟨_, rfl⟩
  rw [← hA0_]
  replace hA0_ := hide hA0_
  go_enter Try.func13, Try.ntmps13
  go_upto_region 1 with fail
  have hB := ((Bl.nil w).new A0_ 26)
  simp only [size_alloc, List.nil_append, List.cons_append] at hB
  rw [unhide hA0_] at hB
  generalize hu_ : World.alloc _ _ = u0
  replace hB : Bl w [⟨w.heap.size, fl [[.int .u32 c.nx], [.slice x.ao x.no x.co], [.int .i64 c.tn], [.int .u32 c.dl], [.slice x.ah x.nh x.ch]], 26⟩] u0 := by
    rw [← hu_]
    rw [unhide hA0_]
    exact hB
  clear hu_ hA0_
  refine wp_region_lit ?_
  refine lvk (.pointer (some ⟨w.heap.size, 1, none⟩)) ?_
  simp only [nrm]
  refine list_val (.slice x.ao x.no x.co) (by kernel_rfl) (exec_csO _ (.tmp 8) rfl (w.heap.size) 1 (by kernel_rfl) x.ao x.no x.co (seg_cell (nC  _ _ _ _ _) (hB.get 0 (x := ⟨w.heap.size, fl [[.int .u32 c.nx], [.slice x.ao x.no x.co], [.int .i64 c.tn], [.int .u32 c.dl], [.slice x.ah x.nh x.ch]], 26⟩) rfl) 1 (v := .slice x.ao x.no x.co) rfl rfl)) ?_
  simp only [nrm]
  refine lvk (.int .i64 (x.no : Int)) ?_
  simp only [nrm]
  (refine wpList_step fun K hK => ?_; replace hK := hide hK; go_simp; refine unhide hK _ _ ?_; clear hK K)
  refine wpList_nil ?_
  by_cases h1 : 2147483648 < c.nx
  · have hv : rt c = false := rt_no1 (by rw [hn, hm]; omega)
    replace hB := hide hB
    go_upto_region 2 with fail
    replace hB := unhide hB
    refine wp_region_lit ?_
    refine wpList_gen fun ops_ hops => ?_
    replace hops := hide hops
    refine list_val (.pointer (some ⟨w.heap.size, 0, none⟩)) (by rw [unhide hops]; kernel_rfl) (by kernel_rfl) ?_
    simp only [nrm]
    refine list_val (.int .u32 c.nx) (by rw [unhide hops]; kernel_rfl) (exec_c32 _ (.tmp 11) rfl (w.heap.size) 0 (by kernel_rfl) c.nx (seg_cell (nC  _ _ _ _ _) (hB.get 0 (x := ⟨w.heap.size, fl [[.int .u32 c.nx], [.slice x.ao x.no x.co], [.int .i64 c.tn], [.int .u32 c.dl], [.slice x.ah x.nh x.ch]], 26⟩) rfl) 0 (v := .int .u32 c.nx) rfl rfl)) ?_
    simp only [nrm]
    refine list_val (.bool true) (by rw [unhide hops]; kernel_rfl) (gtr_32 _ (.tmp 12) (.const (.int .u32 2147483648)) c.nx 2147483648 true rfl (by kernel_rfl) (by kernel_rfl) (decide_eq_true h1)) ?_
    simp only [nrm]
    refine list_val (.bool true) (by rw [unhide hops]; kernel_rfl) (by kernel_rfl) ?_
    simp only [nrm]
    refine list_off (by rw [unhide hops]; kernel_rfl) ?_
    simp only [nrm]
    refine list_off (by rw [unhide hops]; kernel_rfl) ?_
    simp only [nrm]
    refine list_val (.bool true) (by rw [unhide hops]; kernel_rfl) (by kernel_rfl) ?_
    simp only [nrm]
    refine list_val (.bool true) (by rw [unhide hops]; kernel_rfl) (by kernel_rfl) ?_
    simp only [nrm]
    refine list_off (by rw [unhide hops]; kernel_rfl) ?_
    simp only [nrm]
    refine list_off (by rw [unhide hops]; kernel_rfl) ?_
    simp only [nrm]
    refine list_off (by rw [unhide hops]; kernel_rfl) ?_
    simp only [nrm]
    refine list_off (by rw [unhide hops]; kernel_rfl) ?_
    simp only [nrm]
    refine list_off (by rw [unhide hops]; kernel_rfl) ?_
    simp only [nrm]
    refine list_val (.bool true) (by rw [unhide hops]; kernel_rfl) (by kernel_rfl) ?_
    simp only [nrm]
    refine list_val (.bool true) (by rw [unhide hops]; kernel_rfl) (by kernel_rfl) ?_
    simp only [nrm]
    refine list_off (by rw [unhide hops]; kernel_rfl) ?_
    simp only [nrm]
    refine list_off (by rw [unhide hops]; kernel_rfl) ?_
    simp only [nrm]
    refine list_off (by rw [unhide hops]; kernel_rfl) ?_
    simp only [nrm]
    refine list_val (.bool true) (by rw [unhide hops]; kernel_rfl) (by kernel_rfl) ?_
    simp only [nrm]
    refine list_val (.bool true) (by rw [unhide hops]; kernel_rfl) (by kernel_rfl) ?_
    simp only [nrm]
    refine list_off (by rw [unhide hops]; kernel_rfl) ?_
    simp only [nrm]
    refine list_off (by rw [unhide hops]; kernel_rfl) ?_
    simp only [nrm]
    refine list_off (by rw [unhide hops]; kernel_rfl) ?_
    simp only [nrm]
    refine list_off (by rw [unhide hops]; kernel_rfl) ?_
    simp only [nrm]
    refine list_val (.bool true) (by rw [unhide hops]; kernel_rfl) (by kernel_rfl) ?_
    simp only [nrm]
    refine wpList_nil ?_
    replace hB := hide hB
    go_upto_region 3 with fail
    replace hB := unhide hB
    refine wp_region_lit ?_
    (refine wpList_step fun K hK => ?_; replace hK := hide hK; go_simp; refine unhide hK _ _ ?_; clear hK K)
    refine wpList_nil ?_
    replace hB := hide hB
    go_wp2_with fail
    replace hB := unhide hB
    rw [unhide hT]
    exact (⟨by rw [hv] <;> rfl, hB.gr⟩)
  by_cases h2 : 4 < (x.no : Int)
  · have hv : rt c = false := rt_no1 (by rw [hn, hm]; omega)
    replace hB := hide hB
    go_upto_region 2 with fail
    replace hB := unhide hB
    refine wp_region_lit ?_
    refine wpList_gen fun ops_ hops => ?_
    replace hops := hide hops
    refine list_val (.pointer (some ⟨w.heap.size, 0, none⟩)) (by rw [unhide hops]; kernel_rfl) (by kernel_rfl) ?_
    simp only [nrm]
    refine list_val (.int .u32 c.nx) (by rw [unhide hops]; kernel_rfl) (exec_c32 _ (.tmp 11) rfl (w.heap.size) 0 (by kernel_rfl) c.nx (seg_cell (nC  _ _ _ _ _) (hB.get 0 (x := ⟨w.heap.size, fl [[.int .u32 c.nx], [.slice x.ao x.no x.co], [.int .i64 c.tn], [.int .u32 c.dl], [.slice x.ah x.nh x.ch]], 26⟩) rfl) 0 (v := .int .u32 c.nx) rfl rfl)) ?_
    simp only [nrm]
    refine list_val (.bool false) (by rw [unhide hops]; kernel_rfl) (gtr_32 _ (.tmp 12) (.const (.int .u32 2147483648)) c.nx 2147483648 false rfl (by kernel_rfl) (by kernel_rfl) (decide_eq_false h1)) ?_
    simp only [nrm]
    refine list_val (.bool false) (by rw [unhide hops]; kernel_rfl) (by kernel_rfl) ?_
    simp only [nrm]
    refine list_val (.int .i64 (x.no : Int)) (by rw [unhide hops]; kernel_rfl) (by kernel_rfl) ?_
    simp only [nrm]
    refine list_val (.bool true) (by rw [unhide hops]; kernel_rfl) (gtr_i _ (.tmp 15) (.const (.int .i64 4)) (x.no : Int) 4 true rfl (by kernel_rfl) (by kernel_rfl) (decide_eq_true h2)) ?_
    simp only [nrm]
    refine list_val (.bool true) (by rw [unhide hops]; kernel_rfl) (by kernel_rfl) ?_
    simp only [nrm]
    refine list_val (.bool true) (by rw [unhide hops]; kernel_rfl) (by kernel_rfl) ?_
    simp only [nrm]
    refine list_off (by rw [unhide hops]; kernel_rfl) ?_
    simp only [nrm]
    refine list_off (by rw [unhide hops]; kernel_rfl) ?_
    simp only [nrm]
    refine list_off (by rw [unhide hops]; kernel_rfl) ?_
    simp only [nrm]
    refine list_off (by rw [unhide hops]; kernel_rfl) ?_
    simp only [nrm]
    refine list_off (by rw [unhide hops]; kernel_rfl) ?_
    simp only [nrm]
    refine list_val (.bool true) (by rw [unhide hops]; kernel_rfl) (by kernel_rfl) ?_
    simp only [nrm]
    refine list_val (.bool true) (by rw [unhide hops]; kernel_rfl) (by kernel_rfl) ?_
    simp only [nrm]
    refine list_off (by rw [unhide hops]; kernel_rfl) ?_
    simp only [nrm]
    refine list_off (by rw [unhide hops]; kernel_rfl) ?_
    simp only [nrm]
    refine list_off (by rw [unhide hops]; kernel_rfl) ?_
    simp only [nrm]
    refine list_val (.bool true) (by rw [unhide hops]; kernel_rfl) (by kernel_rfl) ?_
    simp only [nrm]
    refine list_val (.bool true) (by rw [unhide hops]; kernel_rfl) (by kernel_rfl) ?_
    simp only [nrm]
    refine list_off (by rw [unhide hops]; kernel_rfl) ?_
    simp only [nrm]
    refine list_off (by rw [unhide hops]; kernel_rfl) ?_
    simp only [nrm]
    refine list_off (by rw [unhide hops]; kernel_rfl) ?_
    simp only [nrm]
    refine list_off (by rw [unhide hops]; kernel_rfl) ?_
    simp only [nrm]
    refine list_val (.bool true) (by rw [unhide hops]; kernel_rfl) (by kernel_rfl) ?_
    simp only [nrm]
    refine wpList_nil ?_
    replace hB := hide hB
    go_upto_region 3 with fail
    replace hB := unhide hB
    refine wp_region_lit ?_
    (refine wpList_step fun K hK => ?_; replace hK := hide hK; go_simp; refine unhide hK _ _ ?_; clear hK K)
    refine wpList_nil ?_
    replace hB := hide hB
    go_wp2_with fail
    replace hB := unhide hB
    rw [unhide hT]
    exact (⟨by rw [hv] <;> rfl, hB.gr⟩)
  by_cases h3 : c.nx < (x.no : Int)
  · have hv : rt c = false := rt_no1 (by rw [hn, hm]; omega)
    replace hB := hide hB
    go_upto_region 2 with fail
    replace hB := unhide hB
    refine wp_region_lit ?_
    refine wpList_gen fun ops_ hops => ?_
    replace hops := hide hops
    refine list_val (.pointer (some ⟨w.heap.size, 0, none⟩)) (by rw [unhide hops]; kernel_rfl) (by kernel_rfl) ?_
    simp only [nrm]
    refine list_val (.int .u32 c.nx) (by rw [unhide hops]; kernel_rfl) (exec_c32 _ (.tmp 11) rfl (w.heap.size) 0 (by kernel_rfl) c.nx (seg_cell (nC  _ _ _ _ _) (hB.get 0 (x := ⟨w.heap.size, fl [[.int .u32 c.nx], [.slice x.ao x.no x.co], [.int .i64 c.tn], [.int .u32 c.dl], [.slice x.ah x.nh x.ch]], 26⟩) rfl) 0 (v := .int .u32 c.nx) rfl rfl)) ?_
    simp only [nrm]
    refine list_val (.bool false) (by rw [unhide hops]; kernel_rfl) (gtr_32 _ (.tmp 12) (.const (.int .u32 2147483648)) c.nx 2147483648 false rfl (by kernel_rfl) (by kernel_rfl) (decide_eq_false h1)) ?_
    simp only [nrm]
    refine list_val (.bool false) (by rw [unhide hops]; kernel_rfl) (by kernel_rfl) ?_
    simp only [nrm]
    refine list_val (.int .i64 (x.no : Int)) (by rw [unhide hops]; kernel_rfl) (by kernel_rfl) ?_
    simp only [nrm]
    refine list_val (.bool false) (by rw [unhide hops]; kernel_rfl) (gtr_i _ (.tmp 15) (.const (.int .i64 4)) (x.no : Int) 4 false rfl (by kernel_rfl) (by kernel_rfl) (decide_eq_false h2)) ?_
    simp only [nrm]
    refine list_val (.bool false) (by rw [unhide hops]; kernel_rfl) (by kernel_rfl) ?_
    simp only [nrm]
    refine list_val (.bool false) (by rw [unhide hops]; kernel_rfl) (by kernel_rfl) ?_
    simp only [nrm]
    refine list_val (.int .i64 (x.no : Int)) (by rw [unhide hops]; kernel_rfl) (by kernel_rfl) ?_
    simp only [nrm]
    refine list_val (.int .u32 (x.no : Int)) (by rw [unhide hops]; kernel_rfl) (conv_u32 _ (.tmp 19) (x.no : Int) rfl (by kernel_rfl) (by omega)) ?_
    simp only [nrm]
    refine list_val (.pointer (some ⟨w.heap.size, 0, none⟩)) (by rw [unhide hops]; kernel_rfl) (by kernel_rfl) ?_
    simp only [nrm]
    refine list_val (.int .u32 c.nx) (by rw [unhide hops]; kernel_rfl) (exec_c32 _ (.tmp 21) rfl (w.heap.size) 0 (by kernel_rfl) c.nx (seg_cell (nC  _ _ _ _ _) (hB.get 0 (x := ⟨w.heap.size, fl [[.int .u32 c.nx], [.slice x.ao x.no x.co], [.int .i64 c.tn], [.int .u32 c.dl], [.slice x.ah x.nh x.ch]], 26⟩) rfl) 0 (v := .int .u32 c.nx) rfl rfl)) ?_
    simp only [nrm]
    refine list_val (.bool true) (by rw [unhide hops]; kernel_rfl) (gtr_32 _ (.tmp 20) (.tmp 22) (x.no : Int) c.nx true rfl (by kernel_rfl) (by kernel_rfl) (decide_eq_true h3)) ?_
    simp only [nrm]
    refine list_val (.bool true) (by rw [unhide hops]; kernel_rfl) (by kernel_rfl) ?_
    simp only [nrm]
    refine list_val (.bool true) (by rw [unhide hops]; kernel_rfl) (by kernel_rfl) ?_
    simp only [nrm]
    refine list_off (by rw [unhide hops]; kernel_rfl) ?_
    simp only [nrm]
    refine list_off (by rw [unhide hops]; kernel_rfl) ?_
    simp only [nrm]
    refine list_off (by rw [unhide hops]; kernel_rfl) ?_
    simp only [nrm]
    refine list_val (.bool true) (by rw [unhide hops]; kernel_rfl) (by kernel_rfl) ?_
    simp only [nrm]
    refine list_val (.bool true) (by rw [unhide hops]; kernel_rfl) (by kernel_rfl) ?_
    simp only [nrm]
    refine list_off (by rw [unhide hops]; kernel_rfl) ?_
    simp only [nrm]
    refine list_off (by rw [unhide hops]; kernel_rfl) ?_
    simp only [nrm]
    refine list_off (by rw [unhide hops]; kernel_rfl) ?_
    simp only [nrm]
    refine list_off (by rw [unhide hops]; kernel_rfl) ?_
    simp only [nrm]
    refine list_val (.bool true) (by rw [unhide hops]; kernel_rfl) (by kernel_rfl) ?_
    simp only [nrm]
    refine wpList_nil ?_
    replace hB := hide hB
    go_upto_region 3 with fail
    replace hB := unhide hB
    refine wp_region_lit ?_
    (refine wpList_step fun K hK => ?_; replace hK := hide hK; go_simp; refine unhide hK _ _ ?_; clear hK K)
    refine wpList_nil ?_
    replace hB := hide hB
    go_wp2_with fail
    replace hB := unhide hB
    rw [unhide hT]
    exact (⟨by rw [hv] <;> rfl, hB.gr⟩)
  by_cases h4 : 2147483648 < c.dl
  · have hv : rt c = false := rt_no1 (by rw [hn, hm]; omega)
    replace hB := hide hB
    go_upto_region 2 with fail
    replace hB := unhide hB
    refine wp_region_lit ?_
    refine wpList_gen fun ops_ hops => ?_
    replace hops := hide hops
    refine list_val (.pointer (some ⟨w.heap.size, 0, none⟩)) (by rw [unhide hops]; kernel_rfl) (by kernel_rfl) ?_
    simp only [nrm]
    refine list_val (.int .u32 c.nx) (by rw [unhide hops]; kernel_rfl) (exec_c32 _ (.tmp 11) rfl (w.heap.size) 0 (by kernel_rfl) c.nx (seg_cell (nC  _ _ _ _ _) (hB.get 0 (x := ⟨w.heap.size, fl [[.int .u32 c.nx], [.slice x.ao x.no x.co], [.int .i64 c.tn], [.int .u32 c.dl], [.slice x.ah x.nh x.ch]], 26⟩) rfl) 0 (v := .int .u32 c.nx) rfl rfl)) ?_
    simp only [nrm]
    refine list_val (.bool false) (by rw [unhide hops]; kernel_rfl) (gtr_32 _ (.tmp 12) (.const (.int .u32 2147483648)) c.nx 2147483648 false rfl (by kernel_rfl) (by kernel_rfl) (decide_eq_false h1)) ?_
    simp only [nrm]
    refine list_val (.bool false) (by rw [unhide hops]; kernel_rfl) (by kernel_rfl) ?_
    simp only [nrm]
    refine list_val (.int .i64 (x.no : Int)) (by rw [unhide hops]; kernel_rfl) (by kernel_rfl) ?_
    simp only [nrm]
    refine list_val (.bool false) (by rw [unhide hops]; kernel_rfl) (gtr_i _ (.tmp 15) (.const (.int .i64 4)) (x.no : Int) 4 false rfl (by kernel_rfl) (by kernel_rfl) (decide_eq_false h2)) ?_
    simp only [nrm]
    refine list_val (.bool false) (by rw [unhide hops]; kernel_rfl) (by kernel_rfl) ?_
    simp only [nrm]
    refine list_val (.bool false) (by rw [unhide hops]; kernel_rfl) (by kernel_rfl) ?_
    simp only [nrm]
    refine list_val (.int .i64 (x.no : Int)) (by rw [unhide hops]; kernel_rfl) (by kernel_rfl) ?_
    simp only [nrm]
    refine list_val (.int .u32 (x.no : Int)) (by rw [unhide hops]; kernel_rfl) (conv_u32 _ (.tmp 19) (x.no : Int) rfl (by kernel_rfl) (by omega)) ?_
    simp only [nrm]
    refine list_val (.pointer (some ⟨w.heap.size, 0, none⟩)) (by rw [unhide hops]; kernel_rfl) (by kernel_rfl) ?_
    simp only [nrm]
    refine list_val (.int .u32 c.nx) (by rw [unhide hops]; kernel_rfl) (exec_c32 _ (.tmp 21) rfl (w.heap.size) 0 (by kernel_rfl) c.nx (seg_cell (nC  _ _ _ _ _) (hB.get 0 (x := ⟨w.heap.size, fl [[.int .u32 c.nx], [.slice x.ao x.no x.co], [.int .i64 c.tn], [.int .u32 c.dl], [.slice x.ah x.nh x.ch]], 26⟩) rfl) 0 (v := .int .u32 c.nx) rfl rfl)) ?_
    simp only [nrm]
    refine list_val (.bool false) (by rw [unhide hops]; kernel_rfl) (gtr_32 _ (.tmp 20) (.tmp 22) (x.no : Int) c.nx false rfl (by kernel_rfl) (by kernel_rfl) (decide_eq_false h3)) ?_
    simp only [nrm]
    refine list_val (.bool false) (by rw [unhide hops]; kernel_rfl) (by kernel_rfl) ?_
    simp only [nrm]
    refine list_val (.bool false) (by rw [unhide hops]; kernel_rfl) (by kernel_rfl) ?_
    simp only [nrm]
    refine list_val (.pointer (some ⟨w.heap.size, 3, none⟩)) (by rw [unhide hops]; kernel_rfl) (by kernel_rfl) ?_
    simp only [nrm]
    refine list_val (.int .u32 c.dl) (by rw [unhide hops]; kernel_rfl) (exec_c32 _ (.tmp 26) rfl (w.heap.size) 3 (by kernel_rfl) c.dl (seg_cell (nC  _ _ _ _ _) (hB.get 0 (x := ⟨w.heap.size, fl [[.int .u32 c.nx], [.slice x.ao x.no x.co], [.int .i64 c.tn], [.int .u32 c.dl], [.slice x.ah x.nh x.ch]], 26⟩) rfl) 3 (v := .int .u32 c.dl) rfl rfl)) ?_
    simp only [nrm]
    refine list_val (.bool true) (by rw [unhide hops]; kernel_rfl) (gtr_32 _ (.tmp 27) (.const (.int .u32 2147483648)) c.dl 2147483648 true rfl (by kernel_rfl) (by kernel_rfl) (decide_eq_true h4)) ?_
    simp only [nrm]
    refine list_val (.bool true) (by rw [unhide hops]; kernel_rfl) (by kernel_rfl) ?_
    simp only [nrm]
    refine list_val (.bool true) (by rw [unhide hops]; kernel_rfl) (by kernel_rfl) ?_
    simp only [nrm]
    refine list_off (by rw [unhide hops]; kernel_rfl) ?_
    simp only [nrm]
    refine list_off (by rw [unhide hops]; kernel_rfl) ?_
    simp only [nrm]
    refine list_off (by rw [unhide hops]; kernel_rfl) ?_
    simp only [nrm]
    refine list_off (by rw [unhide hops]; kernel_rfl) ?_
    simp only [nrm]
    refine list_val (.bool true) (by rw [unhide hops]; kernel_rfl) (by kernel_rfl) ?_
    simp only [nrm]
    refine wpList_nil ?_
    replace hB := hide hB
    go_upto_region 3 with fail
    replace hB := unhide hB
    refine wp_region_lit ?_
    (refine wpList_step fun K hK => ?_; replace hK := hide hK; go_simp; refine unhide hK _ _ ?_; clear hK K)
    refine wpList_nil ?_
    replace hB := hide hB
    go_wp2_with fail
    replace hB := unhide hB
    rw [unhide hT]
    exact (⟨by rw [hv] <;> rfl, hB.gr⟩)
  by_cases h5 : 3 < (x.nh : Int)
  · have hv : rt c = false := rt_no1 (by rw [hn, hm]; omega)
    replace hB := hide hB
    go_upto_region 2 with fail
    replace hB := unhide hB
    refine wp_region_lit ?_
    refine wpList_gen fun ops_ hops => ?_
    replace hops := hide hops
    refine list_val (.pointer (some ⟨w.heap.size, 0, none⟩)) (by rw [unhide hops]; kernel_rfl) (by kernel_rfl) ?_
    simp only [nrm]
    refine list_val (.int .u32 c.nx) (by rw [unhide hops]; kernel_rfl) (exec_c32 _ (.tmp 11) rfl (w.heap.size) 0 (by kernel_rfl) c.nx (seg_cell (nC  _ _ _ _ _) (hB.get 0 (x := ⟨w.heap.size, fl [[.int .u32 c.nx], [.slice x.ao x.no x.co], [.int .i64 c.tn], [.int .u32 c.dl], [.slice x.ah x.nh x.ch]], 26⟩) rfl) 0 (v := .int .u32 c.nx) rfl rfl)) ?_
    simp only [nrm]
    refine list_val (.bool false) (by rw [unhide hops]; kernel_rfl) (gtr_32 _ (.tmp 12) (.const (.int .u32 2147483648)) c.nx 2147483648 false rfl (by kernel_rfl) (by kernel_rfl) (decide_eq_false h1)) ?_
    simp only [nrm]
    refine list_val (.bool false) (by rw [unhide hops]; kernel_rfl) (by kernel_rfl) ?_
    simp only [nrm]
    refine list_val (.int .i64 (x.no : Int)) (by rw [unhide hops]; kernel_rfl) (by kernel_rfl) ?_
    simp only [nrm]
    refine list_val (.bool false) (by rw [unhide hops]; kernel_rfl) (gtr_i _ (.tmp 15) (.const (.int .i64 4)) (x.no : Int) 4 false rfl (by kernel_rfl) (by kernel_rfl) (decide_eq_false h2)) ?_
    simp only [nrm]
    refine list_val (.bool false) (by rw [unhide hops]; kernel_rfl) (by kernel_rfl) ?_
    simp only [nrm]
    refine list_val (.bool false) (by rw [unhide hops]; kernel_rfl) (by kernel_rfl) ?_
    simp only [nrm]
    refine list_val (.int .i64 (x.no : Int)) (by rw [unhide hops]; kernel_rfl) (by kernel_rfl) ?_
    simp only [nrm]
    refine list_val (.int .u32 (x.no : Int)) (by rw [unhide hops]; kernel_rfl) (conv_u32 _ (.tmp 19) (x.no : Int) rfl (by kernel_rfl) (by omega)) ?_
    simp only [nrm]
    refine list_val (.pointer (some ⟨w.heap.size, 0, none⟩)) (by rw [unhide hops]; kernel_rfl) (by kernel_rfl) ?_
    simp only [nrm]
    refine list_val (.int .u32 c.nx) (by rw [unhide hops]; kernel_rfl) (exec_c32 _ (.tmp 21) rfl (w.heap.size) 0 (by kernel_rfl) c.nx (seg_cell (nC  _ _ _ _ _) (hB.get 0 (x := ⟨w.heap.size, fl [[.int .u32 c.nx], [.slice x.ao x.no x.co], [.int .i64 c.tn], [.int .u32 c.dl], [.slice x.ah x.nh x.ch]], 26⟩) rfl) 0 (v := .int .u32 c.nx) rfl rfl)) ?_
    simp only [nrm]
    refine list_val (.bool false) (by rw [unhide hops]; kernel_rfl) (gtr_32 _ (.tmp 20) (.tmp 22) (x.no : Int) c.nx false rfl (by kernel_rfl) (by kernel_rfl) (decide_eq_false h3)) ?_
    simp only [nrm]
    refine list_val (.bool false) (by rw [unhide hops]; kernel_rfl) (by kernel_rfl) ?_
    simp only [nrm]
    refine list_val (.bool false) (by rw [unhide hops]; kernel_rfl) (by kernel_rfl) ?_
    simp only [nrm]
    refine list_val (.pointer (some ⟨w.heap.size, 3, none⟩)) (by rw [unhide hops]; kernel_rfl) (by kernel_rfl) ?_
    simp only [nrm]
    refine list_val (.int .u32 c.dl) (by rw [unhide hops]; kernel_rfl) (exec_c32 _ (.tmp 26) rfl (w.heap.size) 3 (by kernel_rfl) c.dl (seg_cell (nC  _ _ _ _ _) (hB.get 0 (x := ⟨w.heap.size, fl [[.int .u32 c.nx], [.slice x.ao x.no x.co], [.int .i64 c.tn], [.int .u32 c.dl], [.slice x.ah x.nh x.ch]], 26⟩) rfl) 3 (v := .int .u32 c.dl) rfl rfl)) ?_
    simp only [nrm]
    refine list_val (.bool false) (by rw [unhide hops]; kernel_rfl) (gtr_32 _ (.tmp 27) (.const (.int .u32 2147483648)) c.dl 2147483648 false rfl (by kernel_rfl) (by kernel_rfl) (decide_eq_false h4)) ?_
    simp only [nrm]
    refine list_val (.bool false) (by rw [unhide hops]; kernel_rfl) (by kernel_rfl) ?_
    simp only [nrm]
    refine list_val (.bool false) (by rw [unhide hops]; kernel_rfl) (by kernel_rfl) ?_
    simp only [nrm]
    refine list_val (.pointer (some ⟨w.heap.size, 4, none⟩)) (by rw [unhide hops]; kernel_rfl) (by kernel_rfl) ?_
    simp only [nrm]
    refine list_val (.slice x.ah x.nh x.ch) (by rw [unhide hops]; kernel_rfl) (exec_csI _ (.tmp 31) rfl (w.heap.size) 4 (by kernel_rfl) x.ah x.nh x.ch (seg_cell (nC  _ _ _ _ _) (hB.get 0 (x := ⟨w.heap.size, fl [[.int .u32 c.nx], [.slice x.ao x.no x.co], [.int .i64 c.tn], [.int .u32 c.dl], [.slice x.ah x.nh x.ch]], 26⟩) rfl) 4 (v := .slice x.ah x.nh x.ch) rfl rfl)) ?_
    simp only [nrm]
    refine list_val (.int .i64 (x.nh : Int)) (by rw [unhide hops]; kernel_rfl) (by kernel_rfl) ?_
    simp only [nrm]
    refine list_val (.bool true) (by rw [unhide hops]; kernel_rfl) (gtr_i _ (.tmp 33) (.const (.int .i64 3)) (x.nh : Int) 3 true rfl (by kernel_rfl) (by kernel_rfl) (decide_eq_true h5)) ?_
    simp only [nrm]
    refine list_val (.bool true) (by rw [unhide hops]; kernel_rfl) (by kernel_rfl) ?_
    simp only [nrm]
    refine wpList_nil ?_
    replace hB := hide hB
    go_upto_region 3 with fail
    replace hB := unhide hB
    refine wp_region_lit ?_
    (refine wpList_step fun K hK => ?_; replace hK := hide hK; go_simp; refine unhide hK _ _ ?_; clear hK K)
    refine wpList_nil ?_
    replace hB := hide hB
    go_wp2_with fail
    replace hB := unhide hB
    rw [unhide hT]
    exact (⟨by rw [hv] <;> rfl, hB.gr⟩)
  replace hB := hide hB
  go_upto_region 2 with fail
  replace hB := unhide hB
  refine wp_region_lit ?_
  refine wpList_gen fun ops_ hops => ?_
  replace hops := hide hops
  refine list_val (.pointer (some ⟨w.heap.size, 0, none⟩)) (by rw [unhide hops]; kernel_rfl) (by kernel_rfl) ?_
  simp only [nrm]
  refine list_val (.int .u32 c.nx) (by rw [unhide hops]; kernel_rfl) (exec_c32 _ (.tmp 11) rfl (w.heap.size) 0 (by kernel_rfl) c.nx (seg_cell (nC  _ _ _ _ _) (hB.get 0 (x := ⟨w.heap.size, fl [[.int .u32 c.nx], [.slice x.ao x.no x.co], [.int .i64 c.tn], [.int .u32 c.dl], [.slice x.ah x.nh x.ch]], 26⟩) rfl) 0 (v := .int .u32 c.nx) rfl rfl)) ?_
  simp only [nrm]
  refine list_val (.bool false) (by rw [unhide hops]; kernel_rfl) (gtr_32 _ (.tmp 12) (.const (.int .u32 2147483648)) c.nx 2147483648 false rfl (by kernel_rfl) (by kernel_rfl) (decide_eq_false h1)) ?_
  simp only [nrm]
  refine list_val (.bool false) (by rw [unhide hops]; kernel_rfl) (by kernel_rfl) ?_
  simp only [nrm]
  refine list_val (.int .i64 (x.no : Int)) (by rw [unhide hops]; kernel_rfl) (by kernel_rfl) ?_
  simp only [nrm]
  refine list_val (.bool false) (by rw [unhide hops]; kernel_rfl) (gtr_i _ (.tmp 15) (.const (.int .i64 4)) (x.no : Int) 4 false rfl (by kernel_rfl) (by kernel_rfl) (decide_eq_false h2)) ?_
  simp only [nrm]
  refine list_val (.bool false) (by rw [unhide hops]; kernel_rfl) (by kernel_rfl) ?_
  simp only [nrm]
  refine list_val (.bool false) (by rw [unhide hops]; kernel_rfl) (by kernel_rfl) ?_
  simp only [nrm]
  refine list_val (.int .i64 (x.no : Int)) (by rw [unhide hops]; kernel_rfl) (by kernel_rfl) ?_
  simp only [nrm]
  refine list_val (.int .u32 (x.no : Int)) (by rw [unhide hops]; kernel_rfl) (conv_u32 _ (.tmp 19) (x.no : Int) rfl (by kernel_rfl) (by omega)) ?_
  simp only [nrm]
  refine list_val (.pointer (some ⟨w.heap.size, 0, none⟩)) (by rw [unhide hops]; kernel_rfl) (by kernel_rfl) ?_
  simp only [nrm]
  refine list_val (.int .u32 c.nx) (by rw [unhide hops]; kernel_rfl) (exec_c32 _ (.tmp 21) rfl (w.heap.size) 0 (by kernel_rfl) c.nx (seg_cell (nC  _ _ _ _ _) (hB.get 0 (x := ⟨w.heap.size, fl [[.int .u32 c.nx], [.slice x.ao x.no x.co], [.int .i64 c.tn], [.int .u32 c.dl], [.slice x.ah x.nh x.ch]], 26⟩) rfl) 0 (v := .int .u32 c.nx) rfl rfl)) ?_
  simp only [nrm]
  refine list_val (.bool false) (by rw [unhide hops]; kernel_rfl) (gtr_32 _ (.tmp 20) (.tmp 22) (x.no : Int) c.nx false rfl (by kernel_rfl) (by kernel_rfl) (decide_eq_false h3)) ?_
  simp only [nrm]
  refine list_val (.bool false) (by rw [unhide hops]; kernel_rfl) (by kernel_rfl) ?_
  simp only [nrm]
  refine list_val (.bool false) (by rw [unhide hops]; kernel_rfl) (by kernel_rfl) ?_
  simp only [nrm]
  refine list_val (.pointer (some ⟨w.heap.size, 3, none⟩)) (by rw [unhide hops]; kernel_rfl) (by kernel_rfl) ?_
  simp only [nrm]
  refine list_val (.int .u32 c.dl) (by rw [unhide hops]; kernel_rfl) (exec_c32 _ (.tmp 26) rfl (w.heap.size) 3 (by kernel_rfl) c.dl (seg_cell (nC  _ _ _ _ _) (hB.get 0 (x := ⟨w.heap.size, fl [[.int .u32 c.nx], [.slice x.ao x.no x.co], [.int .i64 c.tn], [.int .u32 c.dl], [.slice x.ah x.nh x.ch]], 26⟩) rfl) 3 (v := .int .u32 c.dl) rfl rfl)) ?_
  simp only [nrm]
  refine list_val (.bool false) (by rw [unhide hops]; kernel_rfl) (gtr_32 _ (.tmp 27) (.const (.int .u32 2147483648)) c.dl 2147483648 false rfl (by kernel_rfl) (by kernel_rfl) (decide_eq_false h4)) ?_
  simp only [nrm]
  refine list_val (.bool false) (by rw [unhide hops]; kernel_rfl) (by kernel_rfl) ?_
  simp only [nrm]
  refine list_val (.bool false) (by rw [unhide hops]; kernel_rfl) (by kernel_rfl) ?_
  simp only [nrm]
  refine list_val (.pointer (some ⟨w.heap.size, 4, none⟩)) (by rw [unhide hops]; kernel_rfl) (by kernel_rfl) ?_
  simp only [nrm]
  refine list_val (.slice x.ah x.nh x.ch) (by rw [unhide hops]; kernel_rfl) (exec_csI _ (.tmp 31) rfl (w.heap.size) 4 (by kernel_rfl) x.ah x.nh x.ch (seg_cell (nC  _ _ _ _ _) (hB.get 0 (x := ⟨w.heap.size, fl [[.int .u32 c.nx], [.slice x.ao x.no x.co], [.int .i64 c.tn], [.int .u32 c.dl], [.slice x.ah x.nh x.ch]], 26⟩) rfl) 4 (v := .slice x.ah x.nh x.ch) rfl rfl)) ?_
  simp only [nrm]
  refine list_val (.int .i64 (x.nh : Int)) (by rw [unhide hops]; kernel_rfl) (by kernel_rfl) ?_
  simp only [nrm]
  refine list_val (.bool false) (by rw [unhide hops]; kernel_rfl) (gtr_i _ (.tmp 33) (.const (.int .i64 3)) (x.nh : Int) 3 false rfl (by kernel_rfl) (by kernel_rfl) (decide_eq_false h5)) ?_
  simp only [nrm]
  refine list_val (.bool false) (by rw [unhide hops]; kernel_rfl) (by kernel_rfl) ?_
  simp only [nrm]
  refine wpList_nil ?_
  replace hB := hide hB
  go_upto_region 4 with fail
  replace hB := unhide hB
  refine wp_region_lit ?_
  refine lvk (.pointer (some ⟨w.heap.size, 1, none⟩)) ?_
  simp only [nrm]
  refine list_val (.slice x.ao x.no x.co) (by kernel_rfl) (exec_csO _ (.tmp 36) rfl (w.heap.size) 1 (by kernel_rfl) x.ao x.no x.co (seg_cell (nC  _ _ _ _ _) (hB.get 0 (x := ⟨w.heap.size, fl [[.int .u32 c.nx], [.slice x.ao x.no x.co], [.int .i64 c.tn], [.int .u32 c.dl], [.slice x.ah x.nh x.ch]], 26⟩) rfl) 1 (v := .slice x.ao x.no x.co) rfl rfl)) ?_
  simp only [nrm]
  refine lvk (.int .i64 (x.no : Int)) ?_
  simp only [nrm]
  refine lvk (.int .i64 0) ?_
  simp only [nrm]
  refine wpList_nil ?_
  obtain ⟨k0, hk0⟩ : ∃ k, k = c.nx - (x.no : Int) := ⟨_, rfl⟩
  have hkn : c.nx - (c.O.length : Int) = k0 := by rw [hn, hk0]
  have hs0 : Hid (seqs k0 c.O = seqs (k0 + ((0 : Nat) : Int)) (c.O.drop 0)) := hide (by rw [List.drop_zero]; simp)
  have hk1 : k0 + x.no = c.nx := by omega
  replace hk0 := hide hk0; replace hkn := hide hkn
  have hB0 := hide hB
  clear hB
  go_wp2_with fail
  go_loopw [39] (fun i wr => ∃ j : Nat, j ≤ x.no ∧ i = .int .i64 (j : Int) ∧ Hid (seqs k0 c.O = seqs (k0 + (j : Int)) (c.O.drop j)) ∧ Hid (Bl w [⟨w.heap.size, fl [[.int .u32 c.nx], [.slice x.ao x.no x.co], [.int .i64 c.tn], [.int .u32 c.dl], [.slice x.ah x.nh x.ch]], 26⟩] wr)) (fun i _ => x.no - (intOf i).toNat)
  case atStart => exact ⟨0, by omega, rfl, hs0, hB0⟩
  case round =>
  clear hs0 hB0
  obtain ⟨j, hj, rfl, hs, hB0⟩ := hrel
  have hB := unhide hB0
  clear hB0
  by_cases hlt : j < x.no
  · have jI : (j : Int) < (x.no : Int) := by omega
    obtain ⟨s, hsj⟩ : ∃ s, c.O[j]? = some s := ⟨_, List.getElem?_eq_getElem (by omega)⟩
    have hok := ((unhide hc).o).ok j s hsj
    obtain ⟨p, o, ha, hr⟩ := ((unhide hc).o.gr hB.gr).at_ j s hsj
    rw [seqs_step _ _ j s hsj] at hs
    have hok2 := hok.2.1
    replace hok := hide hok; replace hr := hide hr; replace hsj := hide hsj; replace ha := hide ha; replace hs := hide hs; replace hok2 := hide hok2
    replace hB := hide hB
    go_upto_region 6 with fail
    replace hB := unhide hB
    refine wp_region_lit ?_
    refine lvk (.int .i64 (j : Int)) ?_
    simp only [nrm]
    refine list_val (.pointer (some ⟨p, o + 106 * j, none⟩)) (by kernel_rfl) (exec_iso _ (.tmp 37) (.tmp 39) rfl p o x.no x.co j (by rw [← unhide ha]; kernel_rfl) (by kernel_rfl) hlt) ?_
    simp only [nrm]
    refine list_val (.agg (fl [[.int .u32 s.n], bw s.B])) (by kernel_rfl) (exec_lo _ (.tmp 42) rfl p (o + 106 * j) (by kernel_rfl) s (unhide hok) (unhide hr)) ?_
    simp only [nrm]
    refine list_valw (.pointer (some ⟨wr.heap.size, 0, none⟩)) (wr.alloc (.cells (fl [[.int .u32 0], bw Z105]) 39 (0, 0))) (by kernel_rfl) (by kernel_rfl) ?_
    replace hB := hB.new (fl [[.int .u32 0], bw Z105]) 39
    simp only [List.nil_append, List.cons_append] at hB
    generalize World.alloc _ _ = u1 at *
    generalize wr.heap.size = g5 at *
    simp only [nrm]
    (refine wpList_step fun K hK => ?_; replace hK := hide hK; go_simp; refine unhide hK _ _ ?_; clear hK K)
    refine list_all 39 (.tmp 5) (.tmp 43) (g5) (S2 := [[.int .u32 s.n], bw s.B]) (by kernel_rfl) rfl (by kernel_rfl) (by kernel_rfl) hB 1 rfl NO (nO Z105_len _) (nO (unhide hok2) _) (by kernel_rfl) (oO _ rfl) ?_
    intro u2 hB_ hbt_
    clear hB
    replace hB : Bl w [⟨w.heap.size, fl [[.int .u32 c.nx], [.slice x.ao x.no x.co], [.int .i64 c.tn], [.int .u32 c.dl], [.slice x.ah x.nh x.ch]], 26⟩, ⟨g5, fl [[.int .u32 s.n], bw s.B], 39⟩] u2 := hB_
    clear hB_
    clear hbt_
    simp only [nrm]
    refine wpList_nil ?_
    by_cases hne : s.n = k0 + (j : Int)
    · have hs2 : Hid (seqs k0 c.O = seqs (k0 + ((j + 1 : Nat) : Int)) (c.O.drop (j + 1))) := by
        rw [unhide hs, decide_eq_true hne, Bool.true_and, Int.natCast_add, Int.add_assoc]
        rfl
      replace hB := hide hB
      go_upto_region 7 with fail
      replace hB := unhide hB
      refine wp_region_lit ?_
      refine lvk (.pointer (some ⟨g5, 0, none⟩)) ?_
      simp only [nrm]
      refine list_val (.int .u32 s.n) (by kernel_rfl) (exec_c32 _ (.tmp 44) rfl (g5) 0 (by kernel_rfl) s.n (seg_cell (nO (unhide hok2) _) (hB.get 1 (x := ⟨g5, fl [[.int .u32 s.n], bw s.B], 39⟩) rfl) 0 (v := .int .u32 s.n) rfl rfl)) ?_
      simp only [nrm]
      refine lvk (.pointer (some ⟨w.heap.size, 0, none⟩)) ?_
      simp only [nrm]
      refine list_val (.int .u32 c.nx) (by kernel_rfl) (exec_c32 _ (.tmp 46) rfl (w.heap.size) 0 (by kernel_rfl) c.nx (seg_cell (nC  _ _ _ _ _) (hB.get 0 (x := ⟨w.heap.size, fl [[.int .u32 c.nx], [.slice x.ao x.no x.co], [.int .i64 c.tn], [.int .u32 c.dl], [.slice x.ah x.nh x.ch]], 26⟩) rfl) 0 (v := .int .u32 c.nx) rfl rfl)) ?_
      simp only [nrm]
      refine lvk (.int .i64 (x.no : Int)) ?_
      simp only [nrm]
      refine lvk (.int .i64 (j : Int)) ?_
      simp only [nrm]
      refine list_val (.int .i64 ((x.no : Int) - (j : Int))) (by kernel_rfl) (sub_i _ (.tmp 48) (.tmp 49) (x.no : Int) (j : Int) rfl (by kernel_rfl) (by kernel_rfl) _ rfl (by omega)) ?_
      simp only [nrm]
      refine list_val (.int .u32 ((x.no : Int) - (j : Int))) (by kernel_rfl) (conv_u32 _ (.tmp 50) _ rfl (by kernel_rfl) (by omega)) ?_
      simp only [nrm]
      refine list_val (.int .u32 (k0 + (j : Int))) (by kernel_rfl) (sub_32 _ (.tmp 47) (.tmp 51) c.nx ((x.no : Int) - (j : Int)) rfl (by kernel_rfl) (by kernel_rfl) _ (by omega) (by omega)) ?_
      simp only [nrm]
      refine list_val (.bool false) (by kernel_rfl) (neq_32 _ (.tmp 45) (.tmp 52) s.n (k0 + (j : Int)) false rfl (by kernel_rfl) (by kernel_rfl) (by simp [hne])) ?_
      simp only [nrm]
      refine wpList_nil ?_
      replace hB := Bl.left (L := [⟨w.heap.size, fl [[.int .u32 c.nx], [.slice x.ao x.no x.co], [.int .i64 c.tn], [.int .u32 c.dl], [.slice x.ah x.nh x.ch]], 26⟩]) (M := [⟨g5, fl [[.int .u32 s.n], bw s.B], 39⟩]) hB
      have jw : IntKind.i64.wrap ((j : Int) + 1) = (j : Int) + 1 := by rw [IntKind.wrap_i64]; omega
      replace hB := hide hB
      clear hs hr hsj ha hok hok2 hne
      go_wp2_with fail
      go_roundw
      case rel => exact ⟨j + 1, by omega, by simp, hs2, hB⟩
      case measure => simp [intOf]; omega
    · have hv : rt c = false := rt_no3 (by rw [unhide hkn, unhide hs, decide_eq_false hne, Bool.false_and])
      replace hB := hide hB
      go_upto_region 7 with fail
      replace hB := unhide hB
      refine wp_region_lit ?_
      refine lvk (.pointer (some ⟨g5, 0, none⟩)) ?_
      simp only [nrm]
      refine list_val (.int .u32 s.n) (by kernel_rfl) (exec_c32 _ (.tmp 44) rfl (g5) 0 (by kernel_rfl) s.n (seg_cell (nO (unhide hok2) _) (hB.get 1 (x := ⟨g5, fl [[.int .u32 s.n], bw s.B], 39⟩) rfl) 0 (v := .int .u32 s.n) rfl rfl)) ?_
      simp only [nrm]
      refine lvk (.pointer (some ⟨w.heap.size, 0, none⟩)) ?_
      simp only [nrm]
      refine list_val (.int .u32 c.nx) (by kernel_rfl) (exec_c32 _ (.tmp 46) rfl (w.heap.size) 0 (by kernel_rfl) c.nx (seg_cell (nC  _ _ _ _ _) (hB.get 0 (x := ⟨w.heap.size, fl [[.int .u32 c.nx], [.slice x.ao x.no x.co], [.int .i64 c.tn], [.int .u32 c.dl], [.slice x.ah x.nh x.ch]], 26⟩) rfl) 0 (v := .int .u32 c.nx) rfl rfl)) ?_
      simp only [nrm]
      refine lvk (.int .i64 (x.no : Int)) ?_
      simp only [nrm]
      refine lvk (.int .i64 (j : Int)) ?_
      simp only [nrm]
      refine list_val (.int .i64 ((x.no : Int) - (j : Int))) (by kernel_rfl) (sub_i _ (.tmp 48) (.tmp 49) (x.no : Int) (j : Int) rfl (by kernel_rfl) (by kernel_rfl) _ rfl (by omega)) ?_
      simp only [nrm]
      refine list_val (.int .u32 ((x.no : Int) - (j : Int))) (by kernel_rfl) (conv_u32 _ (.tmp 50) _ rfl (by kernel_rfl) (by omega)) ?_
      simp only [nrm]
      refine list_val (.int .u32 (k0 + (j : Int))) (by kernel_rfl) (sub_32 _ (.tmp 47) (.tmp 51) c.nx ((x.no : Int) - (j : Int)) rfl (by kernel_rfl) (by kernel_rfl) _ (by omega) (by omega)) ?_
      simp only [nrm]
      refine list_val (.bool true) (by kernel_rfl) (neq_32 _ (.tmp 45) (.tmp 52) s.n (k0 + (j : Int)) true rfl (by kernel_rfl) (by kernel_rfl) (by simp [hne])) ?_
      simp only [nrm]
      refine wpList_nil ?_
      replace hB := hide hB
      go_upto_region 8 with fail
      replace hB := unhide hB
      refine wp_region_lit ?_
      (refine wpList_step fun K hK => ?_; replace hK := hide hK; go_simp; refine unhide hK _ _ ?_; clear hK K)
      refine wpList_nil ?_
      replace hB := hide hB
      go_wp2_with fail
      replace hB := unhide hB
      rw [unhide hT]
      exact (⟨by rw [hv] <;> rfl, hB.gr⟩)
  · have jI : ¬ (j : Int) < (x.no : Int) := by omega
    have hS1 : Hid (seqs (c.nx - (c.O.length : Int)) c.O = true) := hide (by
      rw [unhide hkn, unhide hs, List.drop_eq_nil_of_le (by omega)]
      rfl)
    obtain ⟨w9, hw9⟩ : ∃ w9, w9 = wr := ⟨_, rfl⟩
    rw [← hw9] at hB ⊢
    clear hw9
    replace hB := hide hB
    go_upto_region 10 with fail
    replace hB := unhide hB
    clear hs hj jI hlt
    by_cases h6 : c.tn < 0
    · have hv : rt c = false := rt_no2 (by omega)
      refine wp_region_lit ?_
      refine wpList_gen fun ops_ hops => ?_
      replace hops := hide hops
      refine list_val (.pointer (some ⟨w.heap.size, 2, none⟩)) (by rw [unhide hops]; kernel_rfl) (by kernel_rfl) ?_
      simp only [nrm]
      refine list_val (.int .i64 c.tn) (by rw [unhide hops]; kernel_rfl) (exec_ci _ (.tmp 55) rfl (w.heap.size) 2 (by kernel_rfl) c.tn (seg_cell (nC  _ _ _ _ _) (hB.get 0 (x := ⟨w.heap.size, fl [[.int .u32 c.nx], [.slice x.ao x.no x.co], [.int .i64 c.tn], [.int .u32 c.dl], [.slice x.ah x.nh x.ch]], 26⟩) rfl) 2 (v := .int .i64 c.tn) rfl rfl)) ?_
      simp only [nrm]
      refine list_val (.bool true) (by rw [unhide hops]; kernel_rfl) (lss_i _ (.tmp 56) (.const (.int .i64 0)) c.tn 0 true rfl (by kernel_rfl) (by kernel_rfl) (decide_eq_true h6)) ?_
      simp only [nrm]
      refine list_val (.bool true) (by rw [unhide hops]; kernel_rfl) (by kernel_rfl) ?_
      simp only [nrm]
      refine list_off (by rw [unhide hops]; kernel_rfl) ?_
      simp only [nrm]
      refine list_off (by rw [unhide hops]; kernel_rfl) ?_
      simp only [nrm]
      refine list_off (by rw [unhide hops]; kernel_rfl) ?_
      simp only [nrm]
      refine list_off (by rw [unhide hops]; kernel_rfl) ?_
      simp only [nrm]
      refine list_off (by rw [unhide hops]; kernel_rfl) ?_
      simp only [nrm]
      refine list_off (by rw [unhide hops]; kernel_rfl) ?_
      simp only [nrm]
      refine list_off (by rw [unhide hops]; kernel_rfl) ?_
      simp only [nrm]
      refine list_off (by rw [unhide hops]; kernel_rfl) ?_
      simp only [nrm]
      refine list_off (by rw [unhide hops]; kernel_rfl) ?_
      simp only [nrm]
      refine list_off (by rw [unhide hops]; kernel_rfl) ?_
      simp only [nrm]
      refine list_off (by rw [unhide hops]; kernel_rfl) ?_
      simp only [nrm]
      refine list_off (by rw [unhide hops]; kernel_rfl) ?_
      simp only [nrm]
      refine list_off (by rw [unhide hops]; kernel_rfl) ?_
      simp only [nrm]
      refine list_off (by rw [unhide hops]; kernel_rfl) ?_
      simp only [nrm]
      refine list_val (.bool true) (by rw [unhide hops]; kernel_rfl) (by kernel_rfl) ?_
      simp only [nrm]
      refine wpList_nil ?_
      replace hB := hide hB
      go_upto_region 11 with fail
      replace hB := unhide hB
      refine wp_region_lit ?_
      (refine wpList_step fun K hK => ?_; replace hK := hide hK; go_simp; refine unhide hK _ _ ?_; clear hK K)
      refine wpList_nil ?_
      replace hB := hide hB
      go_wp2_with fail
      replace hB := unhide hB
      rw [unhide hT]
      exact (⟨by rw [hv] <;> rfl, hB.gr⟩)
    by_cases h7 : (x.no : Int) ≤ c.tn
    · by_cases h8 : x.no = 0
      · by_cases h9 : c.tn = 0
        · have ht : 0 ≤ c.tn ∧ c.tn < max (c.O.length : Int) 1 := by rw [hn]; omega
          replace ht := hide ht
          refine wp_region_lit ?_
          refine wpList_gen fun ops_ hops => ?_
          replace hops := hide hops
          refine list_val (.pointer (some ⟨w.heap.size, 2, none⟩)) (by rw [unhide hops]; kernel_rfl) (by kernel_rfl) ?_
          simp only [nrm]
          refine list_val (.int .i64 c.tn) (by rw [unhide hops]; kernel_rfl) (exec_ci _ (.tmp 55) rfl (w.heap.size) 2 (by kernel_rfl) c.tn (seg_cell (nC  _ _ _ _ _) (hB.get 0 (x := ⟨w.heap.size, fl [[.int .u32 c.nx], [.slice x.ao x.no x.co], [.int .i64 c.tn], [.int .u32 c.dl], [.slice x.ah x.nh x.ch]], 26⟩) rfl) 2 (v := .int .i64 c.tn) rfl rfl)) ?_
          simp only [nrm]
          refine list_val (.bool false) (by rw [unhide hops]; kernel_rfl) (lss_i _ (.tmp 56) (.const (.int .i64 0)) c.tn 0 false rfl (by kernel_rfl) (by kernel_rfl) (decide_eq_false h6)) ?_
          simp only [nrm]
          refine list_val (.bool false) (by rw [unhide hops]; kernel_rfl) (by kernel_rfl) ?_
          simp only [nrm]
          refine list_val (.pointer (some ⟨w.heap.size, 2, none⟩)) (by rw [unhide hops]; kernel_rfl) (by kernel_rfl) ?_
          simp only [nrm]
          refine list_val (.int .i64 c.tn) (by rw [unhide hops]; kernel_rfl) (exec_ci _ (.tmp 59) rfl (w.heap.size) 2 (by kernel_rfl) c.tn (seg_cell (nC  _ _ _ _ _) (hB.get 0 (x := ⟨w.heap.size, fl [[.int .u32 c.nx], [.slice x.ao x.no x.co], [.int .i64 c.tn], [.int .u32 c.dl], [.slice x.ah x.nh x.ch]], 26⟩) rfl) 2 (v := .int .i64 c.tn) rfl rfl)) ?_
          simp only [nrm]
          refine list_val (.int .i64 (x.no : Int)) (by rw [unhide hops]; kernel_rfl) (by kernel_rfl) ?_
          simp only [nrm]
          refine list_val (.bool true) (by rw [unhide hops]; kernel_rfl) (geq_i _ (.tmp 60) (.tmp 61) c.tn (x.no : Int) true rfl (by kernel_rfl) (by kernel_rfl) (decide_eq_true h7)) ?_
          simp only [nrm]
          refine list_val (.bool true) (by rw [unhide hops]; kernel_rfl) (by kernel_rfl) ?_
          simp only [nrm]
          refine list_val (.int .i64 (x.no : Int)) (by rw [unhide hops]; kernel_rfl) (by kernel_rfl) ?_
          simp only [nrm]
          refine list_val (.bool true) (by rw [unhide hops]; kernel_rfl) (eql_i _ (.tmp 64) (.const (.int .i64 0)) (x.no : Int) 0 true rfl (by kernel_rfl) (by kernel_rfl) (decide_eq_true (by omega))) ?_
          simp only [nrm]
          refine list_val (.bool true) (by rw [unhide hops]; kernel_rfl) (by kernel_rfl) ?_
          simp only [nrm]
          refine list_val (.pointer (some ⟨w.heap.size, 2, none⟩)) (by rw [unhide hops]; kernel_rfl) (by kernel_rfl) ?_
          simp only [nrm]
          refine list_val (.int .i64 c.tn) (by rw [unhide hops]; kernel_rfl) (exec_ci _ (.tmp 67) rfl (w.heap.size) 2 (by kernel_rfl) c.tn (seg_cell (nC  _ _ _ _ _) (hB.get 0 (x := ⟨w.heap.size, fl [[.int .u32 c.nx], [.slice x.ao x.no x.co], [.int .i64 c.tn], [.int .u32 c.dl], [.slice x.ah x.nh x.ch]], 26⟩) rfl) 2 (v := .int .i64 c.tn) rfl rfl)) ?_
          simp only [nrm]
          refine list_val (.bool true) (by rw [unhide hops]; kernel_rfl) (eql_i _ (.tmp 68) (.const (.int .i64 0)) c.tn 0 true rfl (by kernel_rfl) (by kernel_rfl) (decide_eq_true h9)) ?_
          simp only [nrm]
          refine list_val (.bool true) (by rw [unhide hops]; kernel_rfl) (by kernel_rfl) ?_
          simp only [nrm]
          refine list_val (.bool false) (by rw [unhide hops]; kernel_rfl) (by kernel_rfl) ?_
          simp only [nrm]
          refine list_val (.bool false) (by rw [unhide hops]; kernel_rfl) (by kernel_rfl) ?_
          simp only [nrm]
          refine list_val (.bool false) (by rw [unhide hops]; kernel_rfl) (by kernel_rfl) ?_
          simp only [nrm]
          refine wpList_nil ?_
          replace hB := hide hB
          go_upto_region 12 with fail
          replace hB := unhide hB
          refine wp_region_lit ?_
          refine lvk (.pointer (some ⟨w.heap.size, 4, none⟩)) ?_
          simp only [nrm]
          refine list_val (.slice x.ah x.nh x.ch) (by kernel_rfl) (exec_csI _ (.tmp 74) rfl (w.heap.size) 4 (by kernel_rfl) x.ah x.nh x.ch (seg_cell (nC  _ _ _ _ _) (hB.get 0 (x := ⟨w.heap.size, fl [[.int .u32 c.nx], [.slice x.ao x.no x.co], [.int .i64 c.tn], [.int .u32 c.dl], [.slice x.ah x.nh x.ch]], 26⟩) rfl) 4 (v := .slice x.ah x.nh x.ch) rfl rfl)) ?_
          simp only [nrm]
          refine lvk (.int .i64 (x.nh : Int)) ?_
          simp only [nrm]
          refine lvk (.int .i64 0) ?_
          simp only [nrm]
          refine wpList_nil ?_
          obtain ⟨e, he⟩ : ∃ e, e = min (c.dl + 4) 2147483648 := ⟨_, rfl⟩
          have he1 : e = min (c.dl + 4) 2147483648 := he
          replace he := hide he
          have hB0 := hide hB
          clear hB
          go_wp2_with fail
          go_loopw [77] (fun i wr => ∃ j : Nat, j ≤ x.nh ∧ i = .int .i64 (j : Int) ∧ Hid (∃ f, rises c.dl e c.H = rises f e (c.H.drop j) ∧ c.dl ≤ f ∧ ((j = 0 ∧ f = c.dl) ∨ ∃ u, 0 < j ∧ c.H[j - 1]? = some u ∧ f = u.n)) ∧ Hid (Bl w [⟨w.heap.size, fl [[.int .u32 c.nx], [.slice x.ao x.no x.co], [.int .i64 c.tn], [.int .u32 c.dl], [.slice x.ah x.nh x.ch]], 26⟩] wr)) (fun i _ => x.nh - (intOf i).toNat)
          case atStart => exact ⟨0, by omega, rfl, hide ⟨c.dl, by rw [List.drop_zero], by omega, .inl ⟨rfl, rfl⟩⟩, hB0⟩
          case round =>
          clear hB0
          obtain ⟨j, hj, rfl, hs, hB0⟩ := hrel
          have hB := unhide hB0
          clear hB0
          by_cases hlt : j < x.nh
          · have jI : (j : Int) < (x.nh : Int) := by omega
            obtain ⟨f, hs1, hfd, hf⟩ := unhide hs
            clear hs
            obtain ⟨s, hsj⟩ : ∃ s, c.H[j]? = some s := ⟨_, List.getElem?_eq_getElem (by omega)⟩
            have hok := ((unhide hc).h).ok j s hsj
            obtain ⟨p, o, ha, hr⟩ := ((unhide hc).h.gr hB.gr).at_ j s hsj
            rw [rises_step _ _ _ j s hsj] at hs1
            have hsn := hok.1
            have hss := hok.2
            replace hr := hide hr; replace hsj := hide hsj; replace ha := hide ha; replace hs1 := hide hs1; replace hok := hide hok; replace hf := hide hf
            replace hB := hide hB
            go_upto_region 14 with fail
            replace hB := unhide hB
            refine wp_region_lit ?_
            refine lvk (.int .i64 (j : Int)) ?_
            simp only [nrm]
            refine list_val (.pointer (some ⟨p, o + 2 * j, none⟩)) (by kernel_rfl) (exec_isi _ (.tmp 75) (.tmp 77) rfl p o x.nh x.ch j (by rw [← unhide ha]; kernel_rfl) (by kernel_rfl) hlt) ?_
            simp only [nrm]
            refine list_val (.agg (fl [[.int .u32 s.n], [.string s.s]])) (by kernel_rfl) (exec_li _ (.tmp 80) rfl p (o + 2 * j) (by kernel_rfl) s (unhide hr)) ?_
            simp only [nrm]
            refine list_valw (.pointer (some ⟨wr.heap.size, 0, none⟩)) (wr.alloc (.cells (fl [[.int .u32 0], [.string ByteArray.empty]]) 47 (0, 0))) (by kernel_rfl) (by kernel_rfl) ?_
            replace hB := hB.new (fl [[.int .u32 0], [.string ByteArray.empty]]) 47
            simp only [List.nil_append, List.cons_append] at hB
            generalize World.alloc _ _ = u3 at *
            generalize wr.heap.size = g7 at *
            simp only [nrm]
            (refine wpList_step fun K hK => ?_; replace hK := hide hK; go_simp; refine unhide hK _ _ ?_; clear hK K)
            refine list_all 47 (.tmp 7) (.tmp 81) (g7) (S2 := [[.int .u32 s.n], [.string s.s]]) (by kernel_rfl) rfl (by kernel_rfl) (by kernel_rfl) hB 1 rfl NI (nI  _ _) (nI  _ _) (by kernel_rfl) (oI  rfl rfl) ?_
            intro u4 hB_ hbt_
            clear hB
            replace hB : Bl w [⟨w.heap.size, fl [[.int .u32 c.nx], [.slice x.ao x.no x.co], [.int .i64 c.tn], [.int .u32 c.dl], [.slice x.ah x.nh x.ch]], 26⟩, ⟨g7, fl [[.int .u32 s.n], [.string s.s]], 47⟩] u4 := hB_
            clear hB_
            clear hbt_
            simp only [nrm]
            refine wpList_nil ?_
            clear hr ha
            by_cases q1 : s.n ≤ c.dl
            · skip
              have hv : rt c = false := rt_no4 (by rw [← he1, unhide hs1, decide_eq_false (show ¬ f < s.n by omega), Bool.false_and, Bool.false_and, Bool.false_and])
              replace hB := hide hB
              go_upto_region 15 with fail
              replace hB := unhide hB
              refine any_start (S := fun v_ => v_.heap[w.heap.size]? = some (.cells (fl [[.int .u32 c.nx], [.slice x.ao x.no x.co], [.int .i64 c.tn], [.int .u32 c.dl], [.slice x.ah x.nh x.ch]]) 26 (0, 0)) ∧ v_.heap[g7]? = some (.cells (fl [[.int .u32 s.n], [.string s.s]]) 47 (0, 0))) (by kernel_rfl) ?_
              replace hB := hB.drew
              generalize World.drew _ = u5 at *
              simp only [List.size_toArray, List.length_cons, List.length_nil, Array.replicate, List.replicate]
              have hS_ := hide (show (fun v_ => v_.heap[w.heap.size]? = some (.cells (fl [[.int .u32 c.nx], [.slice x.ao x.no x.co], [.int .i64 c.tn], [.int .u32 c.dl], [.slice x.ah x.nh x.ch]]) 26 (0, 0)) ∧ v_.heap[g7]? = some (.cells (fl [[.int .u32 s.n], [.string s.s]]) 47 (0, 0))) u5 from ⟨(hB.get 0 (x := ⟨w.heap.size, fl [[.int .u32 c.nx], [.slice x.ao x.no x.co], [.int .i64 c.tn], [.int .u32 c.dl], [.slice x.ah x.nh x.ch]], 26⟩) rfl), (hB.get 1 (x := ⟨g7, fl [[.int .u32 s.n], [.string s.s]], 47⟩) rfl)⟩)
              refine any_tk 0 (.pointer (some ⟨g7, 0, none⟩)) (tf 46 0) rfl (fun x_ hu => by kernel_rfl) (unhide hS_) ?_
              simp only [nrm]
              refine any_tk 1 (.int .u32 s.n) (tf 46 1) rfl (fun x_ hu => exec_c32 _ (.tmp 82) rfl (g7) 0 (by kernel_rfl) s.n (seg_cell (nI  _ _) hu.2 0 (v := .int .u32 s.n) rfl rfl)) (unhide hS_) ?_
              simp only [nrm]
              refine any_tk 2 (.pointer (some ⟨w.heap.size, 3, none⟩)) (tf 46 2) rfl (fun x_ hu => by kernel_rfl) (unhide hS_) ?_
              simp only [nrm]
              refine any_tk 3 (.int .u32 c.dl) (tf 46 3) rfl (fun x_ hu => exec_c32 _ (.tmp 84) rfl (w.heap.size) 3 (by kernel_rfl) c.dl (seg_cell (nC  _ _ _ _ _) hu.1 3 (v := .int .u32 c.dl) rfl rfl)) (unhide hS_) ?_
              simp only [nrm]
              refine any_tk 4 (.bool true) (tf 46 4) rfl (fun x_ hu => leq_32 _ (.tmp 83) (.tmp 85) s.n c.dl true rfl (by kernel_rfl) (by kernel_rfl) (decide_eq_true q1)) (unhide hS_) ?_
              simp only [nrm]
              refine any_tk 5 (.bool true) (tf 46 5) rfl (fun x_ hu => by kernel_rfl) (unhide hS_) ?_
              simp only [nrm]
              refine any_to 6 (tf 46 6) rfl (unhide hS_) ?_
              simp only [nrm]
              refine any_to 7 (tf 46 7) rfl (unhide hS_) ?_
              simp only [nrm]
              refine any_to 8 (tf 46 8) rfl (unhide hS_) ?_
              simp only [nrm]
              refine any_to 9 (tf 46 9) rfl (unhide hS_) ?_
              simp only [nrm]
              refine any_to 10 (tf 46 10) rfl (unhide hS_) ?_
              simp only [nrm]
              refine any_to 11 (tf 46 11) rfl (unhide hS_) ?_
              simp only [nrm]
              refine any_tk 12 (.bool true) (tf 46 12) rfl (fun x_ hu => by kernel_rfl) (unhide hS_) ?_
              simp only [nrm]
              refine any_tk 13 (.bool true) (tf 46 13) rfl (fun x_ hu => by kernel_rfl) (unhide hS_) ?_
              simp only [nrm]
              refine any_to 14 (tf 46 14) rfl (unhide hS_) ?_
              simp only [nrm]
              refine any_to 15 (tf 46 15) rfl (unhide hS_) ?_
              simp only [nrm]
              refine any_to 16 (tf 46 16) rfl (unhide hS_) ?_
              simp only [nrm]
              refine any_tk 17 (.bool true) (tf 46 17) rfl (fun x_ hu => by kernel_rfl) (unhide hS_) ?_
              simp only [nrm]
              refine any_tk 18 (.bool true) (tf 46 18) rfl (fun x_ hu => by kernel_rfl) (unhide hS_) ?_
              simp only [nrm]
              refine any_to 19 (tf 46 19) rfl (unhide hS_) ?_
              simp only [nrm]
              refine any_to 20 (tf 46 20) rfl (unhide hS_) ?_
              simp only [nrm]
              refine any_to 21 (tf 46 21) rfl (unhide hS_) ?_
              simp only [nrm]
              refine any_to 22 (tf 46 22) rfl (unhide hS_) ?_
              simp only [nrm]
              refine any_to 23 (tf 46 23) rfl (unhide hS_) ?_
              simp only [nrm]
              refine any_to 24 (tf 46 24) rfl (unhide hS_) ?_
              simp only [nrm]
              refine any_to 25 (tf 46 25) rfl (unhide hS_) ?_
              simp only [nrm]
              refine any_to 26 (tf 46 26) rfl (unhide hS_) ?_
              simp only [nrm]
              refine any_to 27 (tf 46 27) rfl (unhide hS_) ?_
              simp only [nrm]
              refine any_to 28 (tf 46 28) rfl (unhide hS_) ?_
              simp only [nrm]
              refine any_to 29 (tf 46 29) rfl (unhide hS_) ?_
              simp only [nrm]
              refine any_to 30 (tf 46 30) rfl (unhide hS_) ?_
              simp only [nrm]
              refine any_to 31 (tf 46 31) rfl (unhide hS_) ?_
              simp only [nrm]
              refine any_to 32 (tf 46 32) rfl (unhide hS_) ?_
              simp only [nrm]
              refine any_tk 33 (.bool true) (tf 46 33) rfl (fun x_ hu => by kernel_rfl) (unhide hS_) ?_
              simp only [nrm]
              refine any_tk 34 (.bool true) (tf 46 34) rfl (fun x_ hu => by kernel_rfl) (unhide hS_) ?_
              simp only [nrm]
              refine any_to 35 (tf 46 35) rfl (unhide hS_) ?_
              simp only [nrm]
              refine any_to 36 (tf 46 36) rfl (unhide hS_) ?_
              simp only [nrm]
              refine any_to 37 (tf 46 37) rfl (unhide hS_) ?_
              simp only [nrm]
              refine any_to 38 (tf 46 38) rfl (unhide hS_) ?_
              simp only [nrm]
              refine any_tk 39 (.bool true) (tf 46 39) rfl (fun x_ hu => by kernel_rfl) (unhide hS_) ?_
              simp only [nrm]
              refine any_tk 40 (.bool true) (tf 46 40) rfl (fun x_ hu => by kernel_rfl) (unhide hS_) ?_
              simp only [nrm]
              refine any_to 41 (tf 46 41) rfl (unhide hS_) ?_
              simp only [nrm]
              refine any_to 42 (tf 46 42) rfl (unhide hS_) ?_
              simp only [nrm]
              refine any_to 43 (tf 46 43) rfl (unhide hS_) ?_
              simp only [nrm]
              refine any_to 44 (tf 46 44) rfl (unhide hS_) ?_
              simp only [nrm]
              refine any_tk 45 (.bool true) (tf 46 45) rfl (fun x_ hu => by kernel_rfl) (unhide hS_) ?_
              simp only [nrm]
              refine any_done (by kernel_rfl) ?_
              clear hS_
              replace hB := hide hB
              go_upto_region 16 with fail
              replace hB := unhide hB
              refine wp_region_lit ?_
              (refine wpList_step fun K hK => ?_; replace hK := hide hK; go_simp; refine unhide hK _ _ ?_; clear hK K)
              refine wpList_nil ?_
              replace hB := hide hB
              go_wp2_with fail
              replace hB := unhide hB
              rw [unhide hT]
              exact (⟨by rw [hv] <;> rfl, hB.gr⟩)
            by_cases q2 : c.dl + 4 ≤ s.n
            · skip
              have hv : rt c = false := rt_no4 (by rw [← he1, unhide hs1, decide_eq_false (show ¬ s.n < e by omega), Bool.and_false, Bool.false_and, Bool.false_and])
              replace hB := hide hB
              go_upto_region 15 with fail
              replace hB := unhide hB
              refine any_start (S := fun v_ => v_.heap[w.heap.size]? = some (.cells (fl [[.int .u32 c.nx], [.slice x.ao x.no x.co], [.int .i64 c.tn], [.int .u32 c.dl], [.slice x.ah x.nh x.ch]]) 26 (0, 0)) ∧ v_.heap[g7]? = some (.cells (fl [[.int .u32 s.n], [.string s.s]]) 47 (0, 0))) (by kernel_rfl) ?_
              replace hB := hB.drew
              generalize World.drew _ = u5 at *
              simp only [List.size_toArray, List.length_cons, List.length_nil, Array.replicate, List.replicate]
              have hS_ := hide (show (fun v_ => v_.heap[w.heap.size]? = some (.cells (fl [[.int .u32 c.nx], [.slice x.ao x.no x.co], [.int .i64 c.tn], [.int .u32 c.dl], [.slice x.ah x.nh x.ch]]) 26 (0, 0)) ∧ v_.heap[g7]? = some (.cells (fl [[.int .u32 s.n], [.string s.s]]) 47 (0, 0))) u5 from ⟨(hB.get 0 (x := ⟨w.heap.size, fl [[.int .u32 c.nx], [.slice x.ao x.no x.co], [.int .i64 c.tn], [.int .u32 c.dl], [.slice x.ah x.nh x.ch]], 26⟩) rfl), (hB.get 1 (x := ⟨g7, fl [[.int .u32 s.n], [.string s.s]], 47⟩) rfl)⟩)
              refine any_tk 0 (.pointer (some ⟨g7, 0, none⟩)) (tf 46 0) rfl (fun x_ hu => by kernel_rfl) (unhide hS_) ?_
              simp only [nrm]
              refine any_tk 1 (.int .u32 s.n) (tf 46 1) rfl (fun x_ hu => exec_c32 _ (.tmp 82) rfl (g7) 0 (by kernel_rfl) s.n (seg_cell (nI  _ _) hu.2 0 (v := .int .u32 s.n) rfl rfl)) (unhide hS_) ?_
              simp only [nrm]
              refine any_tk 2 (.pointer (some ⟨w.heap.size, 3, none⟩)) (tf 46 2) rfl (fun x_ hu => by kernel_rfl) (unhide hS_) ?_
              simp only [nrm]
              refine any_tk 3 (.int .u32 c.dl) (tf 46 3) rfl (fun x_ hu => exec_c32 _ (.tmp 84) rfl (w.heap.size) 3 (by kernel_rfl) c.dl (seg_cell (nC  _ _ _ _ _) hu.1 3 (v := .int .u32 c.dl) rfl rfl)) (unhide hS_) ?_
              simp only [nrm]
              refine any_tk 4 (.bool false) (tf 46 4) rfl (fun x_ hu => leq_32 _ (.tmp 83) (.tmp 85) s.n c.dl false rfl (by kernel_rfl) (by kernel_rfl) (decide_eq_false q1)) (unhide hS_) ?_
              simp only [nrm]
              refine any_tk 5 (.bool false) (tf 46 5) rfl (fun x_ hu => by kernel_rfl) (unhide hS_) ?_
              simp only [nrm]
              refine any_tk 6 (.pointer (some ⟨g7, 0, none⟩)) (tf 46 6) rfl (fun x_ hu => by kernel_rfl) (unhide hS_) ?_
              simp only [nrm]
              refine any_tk 7 (.int .u32 s.n) (tf 46 7) rfl (fun x_ hu => exec_c32 _ (.tmp 88) rfl (g7) 0 (by kernel_rfl) s.n (seg_cell (nI  _ _) hu.2 0 (v := .int .u32 s.n) rfl rfl)) (unhide hS_) ?_
              simp only [nrm]
              refine any_tk 8 (.pointer (some ⟨w.heap.size, 3, none⟩)) (tf 46 8) rfl (fun x_ hu => by kernel_rfl) (unhide hS_) ?_
              simp only [nrm]
              refine any_tk 9 (.int .u32 c.dl) (tf 46 9) rfl (fun x_ hu => exec_c32 _ (.tmp 90) rfl (w.heap.size) 3 (by kernel_rfl) c.dl (seg_cell (nC  _ _ _ _ _) hu.1 3 (v := .int .u32 c.dl) rfl rfl)) (unhide hS_) ?_
              simp only [nrm]
              refine any_tk 10 (.int .u32 (c.dl + 4)) (tf 46 10) rfl (fun x_ hu => add_32 _ (.tmp 91) (.const (.int .u32 4)) c.dl 4 rfl (by kernel_rfl) (by kernel_rfl) _ rfl (by omega)) (unhide hS_) ?_
              simp only [nrm]
              refine any_tk 11 (.bool true) (tf 46 11) rfl (fun x_ hu => geq_32 _ (.tmp 89) (.tmp 92) s.n (c.dl + 4) true rfl (by kernel_rfl) (by kernel_rfl) (decide_eq_true q2)) (unhide hS_) ?_
              simp only [nrm]
              refine any_tk 12 (.bool true) (tf 46 12) rfl (fun x_ hu => by kernel_rfl) (unhide hS_) ?_
              simp only [nrm]
              refine any_tk 13 (.bool true) (tf 46 13) rfl (fun x_ hu => by kernel_rfl) (unhide hS_) ?_
              simp only [nrm]
              refine any_to 14 (tf 46 14) rfl (unhide hS_) ?_
              simp only [nrm]
              refine any_to 15 (tf 46 15) rfl (unhide hS_) ?_
              simp only [nrm]
              refine any_to 16 (tf 46 16) rfl (unhide hS_) ?_
              simp only [nrm]
              refine any_tk 17 (.bool true) (tf 46 17) rfl (fun x_ hu => by kernel_rfl) (unhide hS_) ?_
              simp only [nrm]
              refine any_tk 18 (.bool true) (tf 46 18) rfl (fun x_ hu => by kernel_rfl) (unhide hS_) ?_
              simp only [nrm]
              refine any_to 19 (tf 46 19) rfl (unhide hS_) ?_
              simp only [nrm]
              refine any_to 20 (tf 46 20) rfl (unhide hS_) ?_
              simp only [nrm]
              refine any_to 21 (tf 46 21) rfl (unhide hS_) ?_
              simp only [nrm]
              refine any_to 22 (tf 46 22) rfl (unhide hS_) ?_
              simp only [nrm]
              refine any_to 23 (tf 46 23) rfl (unhide hS_) ?_
              simp only [nrm]
              refine any_to 24 (tf 46 24) rfl (unhide hS_) ?_
              simp only [nrm]
              refine any_to 25 (tf 46 25) rfl (unhide hS_) ?_
              simp only [nrm]
              refine any_to 26 (tf 46 26) rfl (unhide hS_) ?_
              simp only [nrm]
              refine any_to 27 (tf 46 27) rfl (unhide hS_) ?_
              simp only [nrm]
              refine any_to 28 (tf 46 28) rfl (unhide hS_) ?_
              simp only [nrm]
              refine any_to 29 (tf 46 29) rfl (unhide hS_) ?_
              simp only [nrm]
              refine any_to 30 (tf 46 30) rfl (unhide hS_) ?_
              simp only [nrm]
              refine any_to 31 (tf 46 31) rfl (unhide hS_) ?_
              simp only [nrm]
              refine any_to 32 (tf 46 32) rfl (unhide hS_) ?_
              simp only [nrm]
              refine any_tk 33 (.bool true) (tf 46 33) rfl (fun x_ hu => by kernel_rfl) (unhide hS_) ?_
              simp only [nrm]
              refine any_tk 34 (.bool true) (tf 46 34) rfl (fun x_ hu => by kernel_rfl) (unhide hS_) ?_
              simp only [nrm]
              refine any_to 35 (tf 46 35) rfl (unhide hS_) ?_
              simp only [nrm]
              refine any_to 36 (tf 46 36) rfl (unhide hS_) ?_
              simp only [nrm]
              refine any_to 37 (tf 46 37) rfl (unhide hS_) ?_
              simp only [nrm]
              refine any_to 38 (tf 46 38) rfl (unhide hS_) ?_
              simp only [nrm]
              refine any_tk 39 (.bool true) (tf 46 39) rfl (fun x_ hu => by kernel_rfl) (unhide hS_) ?_
              simp only [nrm]
              refine any_tk 40 (.bool true) (tf 46 40) rfl (fun x_ hu => by kernel_rfl) (unhide hS_) ?_
              simp only [nrm]
              refine any_to 41 (tf 46 41) rfl (unhide hS_) ?_
              simp only [nrm]
              refine any_to 42 (tf 46 42) rfl (unhide hS_) ?_
              simp only [nrm]
              refine any_to 43 (tf 46 43) rfl (unhide hS_) ?_
              simp only [nrm]
              refine any_to 44 (tf 46 44) rfl (unhide hS_) ?_
              simp only [nrm]
              refine any_tk 45 (.bool true) (tf 46 45) rfl (fun x_ hu => by kernel_rfl) (unhide hS_) ?_
              simp only [nrm]
              refine any_done (by kernel_rfl) ?_
              clear hS_
              replace hB := hide hB
              go_upto_region 16 with fail
              replace hB := unhide hB
              refine wp_region_lit ?_
              (refine wpList_step fun K hK => ?_; replace hK := hide hK; go_simp; refine unhide hK _ _ ?_; clear hK K)
              refine wpList_nil ?_
              replace hB := hide hB
              go_wp2_with fail
              replace hB := unhide hB
              rw [unhide hT]
              exact (⟨by rw [hv] <;> rfl, hB.gr⟩)
            by_cases q3 : 2147483648 ≤ s.n
            · skip
              have hv : rt c = false := rt_no4 (by rw [← he1, unhide hs1, decide_eq_false (show ¬ s.n < e by omega), Bool.and_false, Bool.false_and, Bool.false_and])
              replace hB := hide hB
              go_upto_region 15 with fail
              replace hB := unhide hB
              refine any_start (S := fun v_ => v_.heap[w.heap.size]? = some (.cells (fl [[.int .u32 c.nx], [.slice x.ao x.no x.co], [.int .i64 c.tn], [.int .u32 c.dl], [.slice x.ah x.nh x.ch]]) 26 (0, 0)) ∧ v_.heap[g7]? = some (.cells (fl [[.int .u32 s.n], [.string s.s]]) 47 (0, 0))) (by kernel_rfl) ?_
              replace hB := hB.drew
              generalize World.drew _ = u5 at *
              simp only [List.size_toArray, List.length_cons, List.length_nil, Array.replicate, List.replicate]
              have hS_ := hide (show (fun v_ => v_.heap[w.heap.size]? = some (.cells (fl [[.int .u32 c.nx], [.slice x.ao x.no x.co], [.int .i64 c.tn], [.int .u32 c.dl], [.slice x.ah x.nh x.ch]]) 26 (0, 0)) ∧ v_.heap[g7]? = some (.cells (fl [[.int .u32 s.n], [.string s.s]]) 47 (0, 0))) u5 from ⟨(hB.get 0 (x := ⟨w.heap.size, fl [[.int .u32 c.nx], [.slice x.ao x.no x.co], [.int .i64 c.tn], [.int .u32 c.dl], [.slice x.ah x.nh x.ch]], 26⟩) rfl), (hB.get 1 (x := ⟨g7, fl [[.int .u32 s.n], [.string s.s]], 47⟩) rfl)⟩)
              refine any_tk 0 (.pointer (some ⟨g7, 0, none⟩)) (tf 46 0) rfl (fun x_ hu => by kernel_rfl) (unhide hS_) ?_
              simp only [nrm]
              refine any_tk 1 (.int .u32 s.n) (tf 46 1) rfl (fun x_ hu => exec_c32 _ (.tmp 82) rfl (g7) 0 (by kernel_rfl) s.n (seg_cell (nI  _ _) hu.2 0 (v := .int .u32 s.n) rfl rfl)) (unhide hS_) ?_
              simp only [nrm]
              refine any_tk 2 (.pointer (some ⟨w.heap.size, 3, none⟩)) (tf 46 2) rfl (fun x_ hu => by kernel_rfl) (unhide hS_) ?_
              simp only [nrm]
              refine any_tk 3 (.int .u32 c.dl) (tf 46 3) rfl (fun x_ hu => exec_c32 _ (.tmp 84) rfl (w.heap.size) 3 (by kernel_rfl) c.dl (seg_cell (nC  _ _ _ _ _) hu.1 3 (v := .int .u32 c.dl) rfl rfl)) (unhide hS_) ?_
              simp only [nrm]
              refine any_tk 4 (.bool false) (tf 46 4) rfl (fun x_ hu => leq_32 _ (.tmp 83) (.tmp 85) s.n c.dl false rfl (by kernel_rfl) (by kernel_rfl) (decide_eq_false q1)) (unhide hS_) ?_
              simp only [nrm]
              refine any_tk 5 (.bool false) (tf 46 5) rfl (fun x_ hu => by kernel_rfl) (unhide hS_) ?_
              simp only [nrm]
              refine any_tk 6 (.pointer (some ⟨g7, 0, none⟩)) (tf 46 6) rfl (fun x_ hu => by kernel_rfl) (unhide hS_) ?_
              simp only [nrm]
              refine any_tk 7 (.int .u32 s.n) (tf 46 7) rfl (fun x_ hu => exec_c32 _ (.tmp 88) rfl (g7) 0 (by kernel_rfl) s.n (seg_cell (nI  _ _) hu.2 0 (v := .int .u32 s.n) rfl rfl)) (unhide hS_) ?_
              simp only [nrm]
              refine any_tk 8 (.pointer (some ⟨w.heap.size, 3, none⟩)) (tf 46 8) rfl (fun x_ hu => by kernel_rfl) (unhide hS_) ?_
              simp only [nrm]
              refine any_tk 9 (.int .u32 c.dl) (tf 46 9) rfl (fun x_ hu => exec_c32 _ (.tmp 90) rfl (w.heap.size) 3 (by kernel_rfl) c.dl (seg_cell (nC  _ _ _ _ _) hu.1 3 (v := .int .u32 c.dl) rfl rfl)) (unhide hS_) ?_
              simp only [nrm]
              refine any_tk 10 (.int .u32 (c.dl + 4)) (tf 46 10) rfl (fun x_ hu => add_32 _ (.tmp 91) (.const (.int .u32 4)) c.dl 4 rfl (by kernel_rfl) (by kernel_rfl) _ rfl (by omega)) (unhide hS_) ?_
              simp only [nrm]
              refine any_tk 11 (.bool false) (tf 46 11) rfl (fun x_ hu => geq_32 _ (.tmp 89) (.tmp 92) s.n (c.dl + 4) false rfl (by kernel_rfl) (by kernel_rfl) (decide_eq_false q2)) (unhide hS_) ?_
              simp only [nrm]
              refine any_tk 12 (.bool false) (tf 46 12) rfl (fun x_ hu => by kernel_rfl) (unhide hS_) ?_
              simp only [nrm]
              refine any_tk 13 (.bool false) (tf 46 13) rfl (fun x_ hu => by kernel_rfl) (unhide hS_) ?_
              simp only [nrm]
              refine any_tk 14 (.pointer (some ⟨g7, 0, none⟩)) (tf 46 14) rfl (fun x_ hu => by kernel_rfl) (unhide hS_) ?_
              simp only [nrm]
              refine any_tk 15 (.int .u32 s.n) (tf 46 15) rfl (fun x_ hu => exec_c32 _ (.tmp 96) rfl (g7) 0 (by kernel_rfl) s.n (seg_cell (nI  _ _) hu.2 0 (v := .int .u32 s.n) rfl rfl)) (unhide hS_) ?_
              simp only [nrm]
              refine any_tk 16 (.bool true) (tf 46 16) rfl (fun x_ hu => geq_32 _ (.tmp 97) (.const (.int .u32 2147483648)) s.n 2147483648 true rfl (by kernel_rfl) (by kernel_rfl) (decide_eq_true q3)) (unhide hS_) ?_
              simp only [nrm]
              refine any_tk 17 (.bool true) (tf 46 17) rfl (fun x_ hu => by kernel_rfl) (unhide hS_) ?_
              simp only [nrm]
              refine any_tk 18 (.bool true) (tf 46 18) rfl (fun x_ hu => by kernel_rfl) (unhide hS_) ?_
              simp only [nrm]
              refine any_to 19 (tf 46 19) rfl (unhide hS_) ?_
              simp only [nrm]
              refine any_to 20 (tf 46 20) rfl (unhide hS_) ?_
              simp only [nrm]
              refine any_to 21 (tf 46 21) rfl (unhide hS_) ?_
              simp only [nrm]
              refine any_to 22 (tf 46 22) rfl (unhide hS_) ?_
              simp only [nrm]
              refine any_to 23 (tf 46 23) rfl (unhide hS_) ?_
              simp only [nrm]
              refine any_to 24 (tf 46 24) rfl (unhide hS_) ?_
              simp only [nrm]
              refine any_to 25 (tf 46 25) rfl (unhide hS_) ?_
              simp only [nrm]
              refine any_to 26 (tf 46 26) rfl (unhide hS_) ?_
              simp only [nrm]
              refine any_to 27 (tf 46 27) rfl (unhide hS_) ?_
              simp only [nrm]
              refine any_to 28 (tf 46 28) rfl (unhide hS_) ?_
              simp only [nrm]
              refine any_to 29 (tf 46 29) rfl (unhide hS_) ?_
              simp only [nrm]
              refine any_to 30 (tf 46 30) rfl (unhide hS_) ?_
              simp only [nrm]
              refine any_to 31 (tf 46 31) rfl (unhide hS_) ?_
              simp only [nrm]
              refine any_to 32 (tf 46 32) rfl (unhide hS_) ?_
              simp only [nrm]
              refine any_tk 33 (.bool true) (tf 46 33) rfl (fun x_ hu => by kernel_rfl) (unhide hS_) ?_
              simp only [nrm]
              refine any_tk 34 (.bool true) (tf 46 34) rfl (fun x_ hu => by kernel_rfl) (unhide hS_) ?_
              simp only [nrm]
              refine any_to 35 (tf 46 35) rfl (unhide hS_) ?_
              simp only [nrm]
              refine any_to 36 (tf 46 36) rfl (unhide hS_) ?_
              simp only [nrm]
              refine any_to 37 (tf 46 37) rfl (unhide hS_) ?_
              simp only [nrm]
              refine any_to 38 (tf 46 38) rfl (unhide hS_) ?_
              simp only [nrm]
              refine any_tk 39 (.bool true) (tf 46 39) rfl (fun x_ hu => by kernel_rfl) (unhide hS_) ?_
              simp only [nrm]
              refine any_tk 40 (.bool true) (tf 46 40) rfl (fun x_ hu => by kernel_rfl) (unhide hS_) ?_
              simp only [nrm]
              refine any_to 41 (tf 46 41) rfl (unhide hS_) ?_
              simp only [nrm]
              refine any_to 42 (tf 46 42) rfl (unhide hS_) ?_
              simp only [nrm]
              refine any_to 43 (tf 46 43) rfl (unhide hS_) ?_
              simp only [nrm]
              refine any_to 44 (tf 46 44) rfl (unhide hS_) ?_
              simp only [nrm]
              refine any_tk 45 (.bool true) (tf 46 45) rfl (fun x_ hu => by kernel_rfl) (unhide hS_) ?_
              simp only [nrm]
              refine any_done (by kernel_rfl) ?_
              clear hS_
              replace hB := hide hB
              go_upto_region 16 with fail
              replace hB := unhide hB
              refine wp_region_lit ?_
              (refine wpList_step fun K hK => ?_; replace hK := hide hK; go_simp; refine unhide hK _ _ ?_; clear hK K)
              refine wpList_nil ?_
              replace hB := hide hB
              go_wp2_with fail
              replace hB := unhide hB
              rw [unhide hT]
              exact (⟨by rw [hv] <;> rfl, hB.gr⟩)
            rcases unhide hf with ⟨hj0, hf0⟩ | ⟨u, hj0, hu0, hf0⟩
            · clear hf
              by_cases q5 : (s.s.size : Int) < 1
              · have hz : szB s.s = false := by unfold szB; rw [decide_eq_false_iff_not]; omega
                have hv : rt c = false := rt_no4 (by rw [← he1, unhide hs1, hz, Bool.and_false, Bool.false_and])
                replace hB := hide hB
                go_upto_region 15 with fail
                replace hB := unhide hB
                refine any_start (S := fun v_ => v_.heap[w.heap.size]? = some (.cells (fl [[.int .u32 c.nx], [.slice x.ao x.no x.co], [.int .i64 c.tn], [.int .u32 c.dl], [.slice x.ah x.nh x.ch]]) 26 (0, 0)) ∧ v_.heap[g7]? = some (.cells (fl [[.int .u32 s.n], [.string s.s]]) 47 (0, 0))) (by kernel_rfl) ?_
                replace hB := hB.drew
                generalize World.drew _ = u5 at *
                simp only [List.size_toArray, List.length_cons, List.length_nil, Array.replicate, List.replicate]
                have hS_ := hide (show (fun v_ => v_.heap[w.heap.size]? = some (.cells (fl [[.int .u32 c.nx], [.slice x.ao x.no x.co], [.int .i64 c.tn], [.int .u32 c.dl], [.slice x.ah x.nh x.ch]]) 26 (0, 0)) ∧ v_.heap[g7]? = some (.cells (fl [[.int .u32 s.n], [.string s.s]]) 47 (0, 0))) u5 from ⟨(hB.get 0 (x := ⟨w.heap.size, fl [[.int .u32 c.nx], [.slice x.ao x.no x.co], [.int .i64 c.tn], [.int .u32 c.dl], [.slice x.ah x.nh x.ch]], 26⟩) rfl), (hB.get 1 (x := ⟨g7, fl [[.int .u32 s.n], [.string s.s]], 47⟩) rfl)⟩)
                refine any_tk 0 (.pointer (some ⟨g7, 0, none⟩)) (tf 46 0) rfl (fun x_ hu => by kernel_rfl) (unhide hS_) ?_
                simp only [nrm]
                refine any_tk 1 (.int .u32 s.n) (tf 46 1) rfl (fun x_ hu => exec_c32 _ (.tmp 82) rfl (g7) 0 (by kernel_rfl) s.n (seg_cell (nI  _ _) hu.2 0 (v := .int .u32 s.n) rfl rfl)) (unhide hS_) ?_
                simp only [nrm]
                refine any_tk 2 (.pointer (some ⟨w.heap.size, 3, none⟩)) (tf 46 2) rfl (fun x_ hu => by kernel_rfl) (unhide hS_) ?_
                simp only [nrm]
                refine any_tk 3 (.int .u32 c.dl) (tf 46 3) rfl (fun x_ hu => exec_c32 _ (.tmp 84) rfl (w.heap.size) 3 (by kernel_rfl) c.dl (seg_cell (nC  _ _ _ _ _) hu.1 3 (v := .int .u32 c.dl) rfl rfl)) (unhide hS_) ?_
                simp only [nrm]
                refine any_tk 4 (.bool false) (tf 46 4) rfl (fun x_ hu => leq_32 _ (.tmp 83) (.tmp 85) s.n c.dl false rfl (by kernel_rfl) (by kernel_rfl) (decide_eq_false q1)) (unhide hS_) ?_
                simp only [nrm]
                refine any_tk 5 (.bool false) (tf 46 5) rfl (fun x_ hu => by kernel_rfl) (unhide hS_) ?_
                simp only [nrm]
                refine any_tk 6 (.pointer (some ⟨g7, 0, none⟩)) (tf 46 6) rfl (fun x_ hu => by kernel_rfl) (unhide hS_) ?_
                simp only [nrm]
                refine any_tk 7 (.int .u32 s.n) (tf 46 7) rfl (fun x_ hu => exec_c32 _ (.tmp 88) rfl (g7) 0 (by kernel_rfl) s.n (seg_cell (nI  _ _) hu.2 0 (v := .int .u32 s.n) rfl rfl)) (unhide hS_) ?_
                simp only [nrm]
                refine any_tk 8 (.pointer (some ⟨w.heap.size, 3, none⟩)) (tf 46 8) rfl (fun x_ hu => by kernel_rfl) (unhide hS_) ?_
                simp only [nrm]
                refine any_tk 9 (.int .u32 c.dl) (tf 46 9) rfl (fun x_ hu => exec_c32 _ (.tmp 90) rfl (w.heap.size) 3 (by kernel_rfl) c.dl (seg_cell (nC  _ _ _ _ _) hu.1 3 (v := .int .u32 c.dl) rfl rfl)) (unhide hS_) ?_
                simp only [nrm]
                refine any_tk 10 (.int .u32 (c.dl + 4)) (tf 46 10) rfl (fun x_ hu => add_32 _ (.tmp 91) (.const (.int .u32 4)) c.dl 4 rfl (by kernel_rfl) (by kernel_rfl) _ rfl (by omega)) (unhide hS_) ?_
                simp only [nrm]
                refine any_tk 11 (.bool false) (tf 46 11) rfl (fun x_ hu => geq_32 _ (.tmp 89) (.tmp 92) s.n (c.dl + 4) false rfl (by kernel_rfl) (by kernel_rfl) (decide_eq_false q2)) (unhide hS_) ?_
                simp only [nrm]
                refine any_tk 12 (.bool false) (tf 46 12) rfl (fun x_ hu => by kernel_rfl) (unhide hS_) ?_
                simp only [nrm]
                refine any_tk 13 (.bool false) (tf 46 13) rfl (fun x_ hu => by kernel_rfl) (unhide hS_) ?_
                simp only [nrm]
                refine any_tk 14 (.pointer (some ⟨g7, 0, none⟩)) (tf 46 14) rfl (fun x_ hu => by kernel_rfl) (unhide hS_) ?_
                simp only [nrm]
                refine any_tk 15 (.int .u32 s.n) (tf 46 15) rfl (fun x_ hu => exec_c32 _ (.tmp 96) rfl (g7) 0 (by kernel_rfl) s.n (seg_cell (nI  _ _) hu.2 0 (v := .int .u32 s.n) rfl rfl)) (unhide hS_) ?_
                simp only [nrm]
                refine any_tk 16 (.bool false) (tf 46 16) rfl (fun x_ hu => geq_32 _ (.tmp 97) (.const (.int .u32 2147483648)) s.n 2147483648 false rfl (by kernel_rfl) (by kernel_rfl) (decide_eq_false q3)) (unhide hS_) ?_
                simp only [nrm]
                refine any_tk 17 (.bool false) (tf 46 17) rfl (fun x_ hu => by kernel_rfl) (unhide hS_) ?_
                simp only [nrm]
                refine any_tk 18 (.bool false) (tf 46 18) rfl (fun x_ hu => by kernel_rfl) (unhide hS_) ?_
                simp only [nrm]
                refine any_tk 19 (.int .i64 (j : Int)) (tf 46 19) rfl (fun x_ hu => by kernel_rfl) (unhide hS_) ?_
                simp only [nrm]
                refine any_tk 20 (.bool false) (tf 46 20) rfl (fun x_ hu => gtr_i _ (.tmp 101) (.const (.int .i64 0)) (j : Int) 0 false rfl (by kernel_rfl) (by kernel_rfl) (decide_eq_false (by omega))) (unhide hS_) ?_
                simp only [nrm]
                refine any_tk 21 (.bool false) (tf 46 21) rfl (fun x_ hu => by kernel_rfl) (unhide hS_) ?_
                simp only [nrm]
                refine any_to 22 (tf 46 22) rfl (unhide hS_) ?_
                simp only [nrm]
                refine any_to 23 (tf 46 23) rfl (unhide hS_) ?_
                simp only [nrm]
                refine any_to 24 (tf 46 24) rfl (unhide hS_) ?_
                simp only [nrm]
                refine any_to 25 (tf 46 25) rfl (unhide hS_) ?_
                simp only [nrm]
                refine any_to 26 (tf 46 26) rfl (unhide hS_) ?_
                simp only [nrm]
                refine any_to 27 (tf 46 27) rfl (unhide hS_) ?_
                simp only [nrm]
                refine any_to 28 (tf 46 28) rfl (unhide hS_) ?_
                simp only [nrm]
                refine any_to 29 (tf 46 29) rfl (unhide hS_) ?_
                simp only [nrm]
                refine any_to 30 (tf 46 30) rfl (unhide hS_) ?_
                simp only [nrm]
                refine any_to 31 (tf 46 31) rfl (unhide hS_) ?_
                simp only [nrm]
                refine any_tk 32 (.bool false) (tf 46 32) rfl (fun x_ hu => by kernel_rfl) (unhide hS_) ?_
                simp only [nrm]
                refine any_tk 33 (.bool false) (tf 46 33) rfl (fun x_ hu => by kernel_rfl) (unhide hS_) ?_
                simp only [nrm]
                refine any_tk 34 (.bool false) (tf 46 34) rfl (fun x_ hu => by kernel_rfl) (unhide hS_) ?_
                simp only [nrm]
                refine any_tk 35 (.pointer (some ⟨g7, 1, none⟩)) (tf 46 35) rfl (fun x_ hu => by kernel_rfl) (unhide hS_) ?_
                simp only [nrm]
                refine any_tk 36 (.string s.s) (tf 46 36) rfl (fun x_ hu => exec_cst _ (.tmp 117) rfl (g7) 1 (by kernel_rfl) s.s (seg_cell (nI  _ _) hu.2 1 (v := .string s.s) rfl rfl)) (unhide hS_) ?_
                simp only [nrm]
                refine any_tk 37 (.int .i64 (s.s.size : Int)) (tf 46 37) rfl (fun x_ hu => len_st _ (.tmp 118) s.s (by omega) rfl (by kernel_rfl)) (unhide hS_) ?_
                simp only [nrm]
                refine any_tk 38 (.bool true) (tf 46 38) rfl (fun x_ hu => lss_i _ (.tmp 119) (.const (.int .i64 1)) (s.s.size : Int) 1 true rfl (by kernel_rfl) (by kernel_rfl) (decide_eq_true q5)) (unhide hS_) ?_
                simp only [nrm]
                refine any_tk 39 (.bool true) (tf 46 39) rfl (fun x_ hu => by kernel_rfl) (unhide hS_) ?_
                simp only [nrm]
                refine any_tk 40 (.bool true) (tf 46 40) rfl (fun x_ hu => by kernel_rfl) (unhide hS_) ?_
                simp only [nrm]
                refine any_to 41 (tf 46 41) rfl (unhide hS_) ?_
                simp only [nrm]
                refine any_to 42 (tf 46 42) rfl (unhide hS_) ?_
                simp only [nrm]
                refine any_to 43 (tf 46 43) rfl (unhide hS_) ?_
                simp only [nrm]
                refine any_to 44 (tf 46 44) rfl (unhide hS_) ?_
                simp only [nrm]
                refine any_tk 45 (.bool true) (tf 46 45) rfl (fun x_ hu => by kernel_rfl) (unhide hS_) ?_
                simp only [nrm]
                refine any_done (by kernel_rfl) ?_
                clear hS_
                replace hB := hide hB
                go_upto_region 16 with fail
                replace hB := unhide hB
                refine wp_region_lit ?_
                (refine wpList_step fun K hK => ?_; replace hK := hide hK; go_simp; refine unhide hK _ _ ?_; clear hK K)
                refine wpList_nil ?_
                replace hB := hide hB
                go_wp2_with fail
                replace hB := unhide hB
                rw [unhide hT]
                exact (⟨by rw [hv] <;> rfl, hB.gr⟩)
              by_cases q6 : 48 < (s.s.size : Int)
              · have hz : szB s.s = false := by unfold szB; rw [decide_eq_false_iff_not]; omega
                have hv : rt c = false := rt_no4 (by rw [← he1, unhide hs1, hz, Bool.and_false, Bool.false_and])
                replace hB := hide hB
                go_upto_region 15 with fail
                replace hB := unhide hB
                refine any_start (S := fun v_ => v_.heap[w.heap.size]? = some (.cells (fl [[.int .u32 c.nx], [.slice x.ao x.no x.co], [.int .i64 c.tn], [.int .u32 c.dl], [.slice x.ah x.nh x.ch]]) 26 (0, 0)) ∧ v_.heap[g7]? = some (.cells (fl [[.int .u32 s.n], [.string s.s]]) 47 (0, 0))) (by kernel_rfl) ?_
                replace hB := hB.drew
                generalize World.drew _ = u5 at *
                simp only [List.size_toArray, List.length_cons, List.length_nil, Array.replicate, List.replicate]
                have hS_ := hide (show (fun v_ => v_.heap[w.heap.size]? = some (.cells (fl [[.int .u32 c.nx], [.slice x.ao x.no x.co], [.int .i64 c.tn], [.int .u32 c.dl], [.slice x.ah x.nh x.ch]]) 26 (0, 0)) ∧ v_.heap[g7]? = some (.cells (fl [[.int .u32 s.n], [.string s.s]]) 47 (0, 0))) u5 from ⟨(hB.get 0 (x := ⟨w.heap.size, fl [[.int .u32 c.nx], [.slice x.ao x.no x.co], [.int .i64 c.tn], [.int .u32 c.dl], [.slice x.ah x.nh x.ch]], 26⟩) rfl), (hB.get 1 (x := ⟨g7, fl [[.int .u32 s.n], [.string s.s]], 47⟩) rfl)⟩)
                refine any_tk 0 (.pointer (some ⟨g7, 0, none⟩)) (tf 46 0) rfl (fun x_ hu => by kernel_rfl) (unhide hS_) ?_
                simp only [nrm]
                refine any_tk 1 (.int .u32 s.n) (tf 46 1) rfl (fun x_ hu => exec_c32 _ (.tmp 82) rfl (g7) 0 (by kernel_rfl) s.n (seg_cell (nI  _ _) hu.2 0 (v := .int .u32 s.n) rfl rfl)) (unhide hS_) ?_
                simp only [nrm]
                refine any_tk 2 (.pointer (some ⟨w.heap.size, 3, none⟩)) (tf 46 2) rfl (fun x_ hu => by kernel_rfl) (unhide hS_) ?_
                simp only [nrm]
                refine any_tk 3 (.int .u32 c.dl) (tf 46 3) rfl (fun x_ hu => exec_c32 _ (.tmp 84) rfl (w.heap.size) 3 (by kernel_rfl) c.dl (seg_cell (nC  _ _ _ _ _) hu.1 3 (v := .int .u32 c.dl) rfl rfl)) (unhide hS_) ?_
                simp only [nrm]
                refine any_tk 4 (.bool false) (tf 46 4) rfl (fun x_ hu => leq_32 _ (.tmp 83) (.tmp 85) s.n c.dl false rfl (by kernel_rfl) (by kernel_rfl) (decide_eq_false q1)) (unhide hS_) ?_
                simp only [nrm]
                refine any_tk 5 (.bool false) (tf 46 5) rfl (fun x_ hu => by kernel_rfl) (unhide hS_) ?_
                simp only [nrm]
                refine any_tk 6 (.pointer (some ⟨g7, 0, none⟩)) (tf 46 6) rfl (fun x_ hu => by kernel_rfl) (unhide hS_) ?_
                simp only [nrm]
                refine any_tk 7 (.int .u32 s.n) (tf 46 7) rfl (fun x_ hu => exec_c32 _ (.tmp 88) rfl (g7) 0 (by kernel_rfl) s.n (seg_cell (nI  _ _) hu.2 0 (v := .int .u32 s.n) rfl rfl)) (unhide hS_) ?_
                simp only [nrm]
                refine any_tk 8 (.pointer (some ⟨w.heap.size, 3, none⟩)) (tf 46 8) rfl (fun x_ hu => by kernel_rfl) (unhide hS_) ?_
                simp only [nrm]
                refine any_tk 9 (.int .u32 c.dl) (tf 46 9) rfl (fun x_ hu => exec_c32 _ (.tmp 90) rfl (w.heap.size) 3 (by kernel_rfl) c.dl (seg_cell (nC  _ _ _ _ _) hu.1 3 (v := .int .u32 c.dl) rfl rfl)) (unhide hS_) ?_
                simp only [nrm]
                refine any_tk 10 (.int .u32 (c.dl + 4)) (tf 46 10) rfl (fun x_ hu => add_32 _ (.tmp 91) (.const (.int .u32 4)) c.dl 4 rfl (by kernel_rfl) (by kernel_rfl) _ rfl (by omega)) (unhide hS_) ?_
                simp only [nrm]
                refine any_tk 11 (.bool false) (tf 46 11) rfl (fun x_ hu => geq_32 _ (.tmp 89) (.tmp 92) s.n (c.dl + 4) false rfl (by kernel_rfl) (by kernel_rfl) (decide_eq_false q2)) (unhide hS_) ?_
                simp only [nrm]
                refine any_tk 12 (.bool false) (tf 46 12) rfl (fun x_ hu => by kernel_rfl) (unhide hS_) ?_
                simp only [nrm]
                refine any_tk 13 (.bool false) (tf 46 13) rfl (fun x_ hu => by kernel_rfl) (unhide hS_) ?_
                simp only [nrm]
                refine any_tk 14 (.pointer (some ⟨g7, 0, none⟩)) (tf 46 14) rfl (fun x_ hu => by kernel_rfl) (unhide hS_) ?_
                simp only [nrm]
                refine any_tk 15 (.int .u32 s.n) (tf 46 15) rfl (fun x_ hu => exec_c32 _ (.tmp 96) rfl (g7) 0 (by kernel_rfl) s.n (seg_cell (nI  _ _) hu.2 0 (v := .int .u32 s.n) rfl rfl)) (unhide hS_) ?_
                simp only [nrm]
                refine any_tk 16 (.bool false) (tf 46 16) rfl (fun x_ hu => geq_32 _ (.tmp 97) (.const (.int .u32 2147483648)) s.n 2147483648 false rfl (by kernel_rfl) (by kernel_rfl) (decide_eq_false q3)) (unhide hS_) ?_
                simp only [nrm]
                refine any_tk 17 (.bool false) (tf 46 17) rfl (fun x_ hu => by kernel_rfl) (unhide hS_) ?_
                simp only [nrm]
                refine any_tk 18 (.bool false) (tf 46 18) rfl (fun x_ hu => by kernel_rfl) (unhide hS_) ?_
                simp only [nrm]
                refine any_tk 19 (.int .i64 (j : Int)) (tf 46 19) rfl (fun x_ hu => by kernel_rfl) (unhide hS_) ?_
                simp only [nrm]
                refine any_tk 20 (.bool false) (tf 46 20) rfl (fun x_ hu => gtr_i _ (.tmp 101) (.const (.int .i64 0)) (j : Int) 0 false rfl (by kernel_rfl) (by kernel_rfl) (decide_eq_false (by omega))) (unhide hS_) ?_
                simp only [nrm]
                refine any_tk 21 (.bool false) (tf 46 21) rfl (fun x_ hu => by kernel_rfl) (unhide hS_) ?_
                simp only [nrm]
                refine any_to 22 (tf 46 22) rfl (unhide hS_) ?_
                simp only [nrm]
                refine any_to 23 (tf 46 23) rfl (unhide hS_) ?_
                simp only [nrm]
                refine any_to 24 (tf 46 24) rfl (unhide hS_) ?_
                simp only [nrm]
                refine any_to 25 (tf 46 25) rfl (unhide hS_) ?_
                simp only [nrm]
                refine any_to 26 (tf 46 26) rfl (unhide hS_) ?_
                simp only [nrm]
                refine any_to 27 (tf 46 27) rfl (unhide hS_) ?_
                simp only [nrm]
                refine any_to 28 (tf 46 28) rfl (unhide hS_) ?_
                simp only [nrm]
                refine any_to 29 (tf 46 29) rfl (unhide hS_) ?_
                simp only [nrm]
                refine any_to 30 (tf 46 30) rfl (unhide hS_) ?_
                simp only [nrm]
                refine any_to 31 (tf 46 31) rfl (unhide hS_) ?_
                simp only [nrm]
                refine any_tk 32 (.bool false) (tf 46 32) rfl (fun x_ hu => by kernel_rfl) (unhide hS_) ?_
                simp only [nrm]
                refine any_tk 33 (.bool false) (tf 46 33) rfl (fun x_ hu => by kernel_rfl) (unhide hS_) ?_
                simp only [nrm]
                refine any_tk 34 (.bool false) (tf 46 34) rfl (fun x_ hu => by kernel_rfl) (unhide hS_) ?_
                simp only [nrm]
                refine any_tk 35 (.pointer (some ⟨g7, 1, none⟩)) (tf 46 35) rfl (fun x_ hu => by kernel_rfl) (unhide hS_) ?_
                simp only [nrm]
                refine any_tk 36 (.string s.s) (tf 46 36) rfl (fun x_ hu => exec_cst _ (.tmp 117) rfl (g7) 1 (by kernel_rfl) s.s (seg_cell (nI  _ _) hu.2 1 (v := .string s.s) rfl rfl)) (unhide hS_) ?_
                simp only [nrm]
                refine any_tk 37 (.int .i64 (s.s.size : Int)) (tf 46 37) rfl (fun x_ hu => len_st _ (.tmp 118) s.s (by omega) rfl (by kernel_rfl)) (unhide hS_) ?_
                simp only [nrm]
                refine any_tk 38 (.bool false) (tf 46 38) rfl (fun x_ hu => lss_i _ (.tmp 119) (.const (.int .i64 1)) (s.s.size : Int) 1 false rfl (by kernel_rfl) (by kernel_rfl) (decide_eq_false q5)) (unhide hS_) ?_
                simp only [nrm]
                refine any_tk 39 (.bool false) (tf 46 39) rfl (fun x_ hu => by kernel_rfl) (unhide hS_) ?_
                simp only [nrm]
                refine any_tk 40 (.bool false) (tf 46 40) rfl (fun x_ hu => by kernel_rfl) (unhide hS_) ?_
                simp only [nrm]
                refine any_tk 41 (.pointer (some ⟨g7, 1, none⟩)) (tf 46 41) rfl (fun x_ hu => by kernel_rfl) (unhide hS_) ?_
                simp only [nrm]
                refine any_tk 42 (.string s.s) (tf 46 42) rfl (fun x_ hu => exec_cst _ (.tmp 123) rfl (g7) 1 (by kernel_rfl) s.s (seg_cell (nI  _ _) hu.2 1 (v := .string s.s) rfl rfl)) (unhide hS_) ?_
                simp only [nrm]
                refine any_tk 43 (.int .i64 (s.s.size : Int)) (tf 46 43) rfl (fun x_ hu => len_st _ (.tmp 124) s.s (by omega) rfl (by kernel_rfl)) (unhide hS_) ?_
                simp only [nrm]
                refine any_tk 44 (.bool true) (tf 46 44) rfl (fun x_ hu => gtr_i _ (.tmp 125) (.const (.int .i64 48)) (s.s.size : Int) 48 true rfl (by kernel_rfl) (by kernel_rfl) (decide_eq_true q6)) (unhide hS_) ?_
                simp only [nrm]
                refine any_tk 45 (.bool true) (tf 46 45) rfl (fun x_ hu => by kernel_rfl) (unhide hS_) ?_
                simp only [nrm]
                refine any_done (by kernel_rfl) ?_
                clear hS_
                replace hB := hide hB
                go_upto_region 16 with fail
                replace hB := unhide hB
                refine wp_region_lit ?_
                (refine wpList_step fun K hK => ?_; replace hK := hide hK; go_simp; refine unhide hK _ _ ?_; clear hK K)
                refine wpList_nil ?_
                replace hB := hide hB
                go_wp2_with fail
                replace hB := unhide hB
                rw [unhide hT]
                exact (⟨by rw [hv] <;> rfl, hB.gr⟩)
              have hz : szB s.s = true := by unfold szB; rw [decide_eq_true_iff]; omega
              have hs2 : Hid (∃ f, rises c.dl e c.H = rises f e (c.H.drop (j + 1)) ∧ c.dl ≤ f ∧ ((j + 1 = 0 ∧ f = c.dl) ∨ ∃ u, 0 < j + 1 ∧ c.H[j + 1 - 1]? = some u ∧ f = u.n)) := hide ⟨s.n, by
                rw [unhide hs1, decide_eq_true (show f < s.n by omega), decide_eq_true (show s.n < e by omega), hz]
                rfl, by omega, .inr ⟨s, by omega, by rw [Nat.add_sub_cancel]; exact unhide hsj, rfl⟩⟩
              replace hB := hide hB
              go_upto_region 15 with fail
              replace hB := unhide hB
              refine any_start (S := fun v_ => v_.heap[w.heap.size]? = some (.cells (fl [[.int .u32 c.nx], [.slice x.ao x.no x.co], [.int .i64 c.tn], [.int .u32 c.dl], [.slice x.ah x.nh x.ch]]) 26 (0, 0)) ∧ v_.heap[g7]? = some (.cells (fl [[.int .u32 s.n], [.string s.s]]) 47 (0, 0))) (by kernel_rfl) ?_
              replace hB := hB.drew
              generalize World.drew _ = u5 at *
              simp only [List.size_toArray, List.length_cons, List.length_nil, Array.replicate, List.replicate]
              have hS_ := hide (show (fun v_ => v_.heap[w.heap.size]? = some (.cells (fl [[.int .u32 c.nx], [.slice x.ao x.no x.co], [.int .i64 c.tn], [.int .u32 c.dl], [.slice x.ah x.nh x.ch]]) 26 (0, 0)) ∧ v_.heap[g7]? = some (.cells (fl [[.int .u32 s.n], [.string s.s]]) 47 (0, 0))) u5 from ⟨(hB.get 0 (x := ⟨w.heap.size, fl [[.int .u32 c.nx], [.slice x.ao x.no x.co], [.int .i64 c.tn], [.int .u32 c.dl], [.slice x.ah x.nh x.ch]], 26⟩) rfl), (hB.get 1 (x := ⟨g7, fl [[.int .u32 s.n], [.string s.s]], 47⟩) rfl)⟩)
              refine any_tk 0 (.pointer (some ⟨g7, 0, none⟩)) (tf 46 0) rfl (fun x_ hu => by kernel_rfl) (unhide hS_) ?_
              simp only [nrm]
              refine any_tk 1 (.int .u32 s.n) (tf 46 1) rfl (fun x_ hu => exec_c32 _ (.tmp 82) rfl (g7) 0 (by kernel_rfl) s.n (seg_cell (nI  _ _) hu.2 0 (v := .int .u32 s.n) rfl rfl)) (unhide hS_) ?_
              simp only [nrm]
              refine any_tk 2 (.pointer (some ⟨w.heap.size, 3, none⟩)) (tf 46 2) rfl (fun x_ hu => by kernel_rfl) (unhide hS_) ?_
              simp only [nrm]
              refine any_tk 3 (.int .u32 c.dl) (tf 46 3) rfl (fun x_ hu => exec_c32 _ (.tmp 84) rfl (w.heap.size) 3 (by kernel_rfl) c.dl (seg_cell (nC  _ _ _ _ _) hu.1 3 (v := .int .u32 c.dl) rfl rfl)) (unhide hS_) ?_
              simp only [nrm]
              refine any_tk 4 (.bool false) (tf 46 4) rfl (fun x_ hu => leq_32 _ (.tmp 83) (.tmp 85) s.n c.dl false rfl (by kernel_rfl) (by kernel_rfl) (decide_eq_false q1)) (unhide hS_) ?_
              simp only [nrm]
              refine any_tk 5 (.bool false) (tf 46 5) rfl (fun x_ hu => by kernel_rfl) (unhide hS_) ?_
              simp only [nrm]
              refine any_tk 6 (.pointer (some ⟨g7, 0, none⟩)) (tf 46 6) rfl (fun x_ hu => by kernel_rfl) (unhide hS_) ?_
              simp only [nrm]
              refine any_tk 7 (.int .u32 s.n) (tf 46 7) rfl (fun x_ hu => exec_c32 _ (.tmp 88) rfl (g7) 0 (by kernel_rfl) s.n (seg_cell (nI  _ _) hu.2 0 (v := .int .u32 s.n) rfl rfl)) (unhide hS_) ?_
              simp only [nrm]
              refine any_tk 8 (.pointer (some ⟨w.heap.size, 3, none⟩)) (tf 46 8) rfl (fun x_ hu => by kernel_rfl) (unhide hS_) ?_
              simp only [nrm]
              refine any_tk 9 (.int .u32 c.dl) (tf 46 9) rfl (fun x_ hu => exec_c32 _ (.tmp 90) rfl (w.heap.size) 3 (by kernel_rfl) c.dl (seg_cell (nC  _ _ _ _ _) hu.1 3 (v := .int .u32 c.dl) rfl rfl)) (unhide hS_) ?_
              simp only [nrm]
              refine any_tk 10 (.int .u32 (c.dl + 4)) (tf 46 10) rfl (fun x_ hu => add_32 _ (.tmp 91) (.const (.int .u32 4)) c.dl 4 rfl (by kernel_rfl) (by kernel_rfl) _ rfl (by omega)) (unhide hS_) ?_
              simp only [nrm]
              refine any_tk 11 (.bool false) (tf 46 11) rfl (fun x_ hu => geq_32 _ (.tmp 89) (.tmp 92) s.n (c.dl + 4) false rfl (by kernel_rfl) (by kernel_rfl) (decide_eq_false q2)) (unhide hS_) ?_
              simp only [nrm]
              refine any_tk 12 (.bool false) (tf 46 12) rfl (fun x_ hu => by kernel_rfl) (unhide hS_) ?_
              simp only [nrm]
              refine any_tk 13 (.bool false) (tf 46 13) rfl (fun x_ hu => by kernel_rfl) (unhide hS_) ?_
              simp only [nrm]
              refine any_tk 14 (.pointer (some ⟨g7, 0, none⟩)) (tf 46 14) rfl (fun x_ hu => by kernel_rfl) (unhide hS_) ?_
              simp only [nrm]
              refine any_tk 15 (.int .u32 s.n) (tf 46 15) rfl (fun x_ hu => exec_c32 _ (.tmp 96) rfl (g7) 0 (by kernel_rfl) s.n (seg_cell (nI  _ _) hu.2 0 (v := .int .u32 s.n) rfl rfl)) (unhide hS_) ?_
              simp only [nrm]
              refine any_tk 16 (.bool false) (tf 46 16) rfl (fun x_ hu => geq_32 _ (.tmp 97) (.const (.int .u32 2147483648)) s.n 2147483648 false rfl (by kernel_rfl) (by kernel_rfl) (decide_eq_false q3)) (unhide hS_) ?_
              simp only [nrm]
              refine any_tk 17 (.bool false) (tf 46 17) rfl (fun x_ hu => by kernel_rfl) (unhide hS_) ?_
              simp only [nrm]
              refine any_tk 18 (.bool false) (tf 46 18) rfl (fun x_ hu => by kernel_rfl) (unhide hS_) ?_
              simp only [nrm]
              refine any_tk 19 (.int .i64 (j : Int)) (tf 46 19) rfl (fun x_ hu => by kernel_rfl) (unhide hS_) ?_
              simp only [nrm]
              refine any_tk 20 (.bool false) (tf 46 20) rfl (fun x_ hu => gtr_i _ (.tmp 101) (.const (.int .i64 0)) (j : Int) 0 false rfl (by kernel_rfl) (by kernel_rfl) (decide_eq_false (by omega))) (unhide hS_) ?_
              simp only [nrm]
              refine any_tk 21 (.bool false) (tf 46 21) rfl (fun x_ hu => by kernel_rfl) (unhide hS_) ?_
              simp only [nrm]
              refine any_to 22 (tf 46 22) rfl (unhide hS_) ?_
              simp only [nrm]
              refine any_to 23 (tf 46 23) rfl (unhide hS_) ?_
              simp only [nrm]
              refine any_to 24 (tf 46 24) rfl (unhide hS_) ?_
              simp only [nrm]
              refine any_to 25 (tf 46 25) rfl (unhide hS_) ?_
              simp only [nrm]
              refine any_to 26 (tf 46 26) rfl (unhide hS_) ?_
              simp only [nrm]
              refine any_to 27 (tf 46 27) rfl (unhide hS_) ?_
              simp only [nrm]
              refine any_to 28 (tf 46 28) rfl (unhide hS_) ?_
              simp only [nrm]
              refine any_to 29 (tf 46 29) rfl (unhide hS_) ?_
              simp only [nrm]
              refine any_to 30 (tf 46 30) rfl (unhide hS_) ?_
              simp only [nrm]
              refine any_to 31 (tf 46 31) rfl (unhide hS_) ?_
              simp only [nrm]
              refine any_tk 32 (.bool false) (tf 46 32) rfl (fun x_ hu => by kernel_rfl) (unhide hS_) ?_
              simp only [nrm]
              refine any_tk 33 (.bool false) (tf 46 33) rfl (fun x_ hu => by kernel_rfl) (unhide hS_) ?_
              simp only [nrm]
              refine any_tk 34 (.bool false) (tf 46 34) rfl (fun x_ hu => by kernel_rfl) (unhide hS_) ?_
              simp only [nrm]
              refine any_tk 35 (.pointer (some ⟨g7, 1, none⟩)) (tf 46 35) rfl (fun x_ hu => by kernel_rfl) (unhide hS_) ?_
              simp only [nrm]
              refine any_tk 36 (.string s.s) (tf 46 36) rfl (fun x_ hu => exec_cst _ (.tmp 117) rfl (g7) 1 (by kernel_rfl) s.s (seg_cell (nI  _ _) hu.2 1 (v := .string s.s) rfl rfl)) (unhide hS_) ?_
              simp only [nrm]
              refine any_tk 37 (.int .i64 (s.s.size : Int)) (tf 46 37) rfl (fun x_ hu => len_st _ (.tmp 118) s.s (by omega) rfl (by kernel_rfl)) (unhide hS_) ?_
              simp only [nrm]
              refine any_tk 38 (.bool false) (tf 46 38) rfl (fun x_ hu => lss_i _ (.tmp 119) (.const (.int .i64 1)) (s.s.size : Int) 1 false rfl (by kernel_rfl) (by kernel_rfl) (decide_eq_false q5)) (unhide hS_) ?_
              simp only [nrm]
              refine any_tk 39 (.bool false) (tf 46 39) rfl (fun x_ hu => by kernel_rfl) (unhide hS_) ?_
              simp only [nrm]
              refine any_tk 40 (.bool false) (tf 46 40) rfl (fun x_ hu => by kernel_rfl) (unhide hS_) ?_
              simp only [nrm]
              refine any_tk 41 (.pointer (some ⟨g7, 1, none⟩)) (tf 46 41) rfl (fun x_ hu => by kernel_rfl) (unhide hS_) ?_
              simp only [nrm]
              refine any_tk 42 (.string s.s) (tf 46 42) rfl (fun x_ hu => exec_cst _ (.tmp 123) rfl (g7) 1 (by kernel_rfl) s.s (seg_cell (nI  _ _) hu.2 1 (v := .string s.s) rfl rfl)) (unhide hS_) ?_
              simp only [nrm]
              refine any_tk 43 (.int .i64 (s.s.size : Int)) (tf 46 43) rfl (fun x_ hu => len_st _ (.tmp 124) s.s (by omega) rfl (by kernel_rfl)) (unhide hS_) ?_
              simp only [nrm]
              refine any_tk 44 (.bool false) (tf 46 44) rfl (fun x_ hu => gtr_i _ (.tmp 125) (.const (.int .i64 48)) (s.s.size : Int) 48 false rfl (by kernel_rfl) (by kernel_rfl) (decide_eq_false q6)) (unhide hS_) ?_
              simp only [nrm]
              refine any_tk 45 (.bool false) (tf 46 45) rfl (fun x_ hu => by kernel_rfl) (unhide hS_) ?_
              simp only [nrm]
              refine any_done (by kernel_rfl) ?_
              clear hS_
              replace hB := Bl.left (L := [⟨w.heap.size, fl [[.int .u32 c.nx], [.slice x.ao x.no x.co], [.int .i64 c.tn], [.int .u32 c.dl], [.slice x.ah x.nh x.ch]], 26⟩]) (M := [⟨g7, fl [[.int .u32 s.n], [.string s.s]], 47⟩]) hB
              have jw : IntKind.i64.wrap (((j : Nat) : Int) + 1) = ((j : Nat) : Int) + 1 := by rw [IntKind.wrap_i64]; omega
              replace hB := hide hB
              clear hs1 hsj hok hz
              go_wp2_with fail
              go_roundw
              case rel => exact ⟨j + 1, by omega, by simp <;> omega, hs2, hB⟩
              case measure => simp [intOf]; omega
            · clear hf
              obtain ⟨i, rfl⟩ : ∃ i, j = i + 1 := ⟨j - 1, by omega⟩
              rw [Nat.add_sub_cancel] at hu0
              have hi1 : i < x.nh := by omega
              obtain ⟨p2, o2, ha2, hr2⟩ := ((unhide hc).h.gr hB.gr).at_ i u hu0
              have hG := hide (Gr.refl u4)
              replace ha2 := hide ha2; replace hu0 := hide hu0
              have hr3 : Hid (u4.cell? ⟨p2, o2 + 2 * i, none⟩ = some (.int .u32 u.n)) := hide (hr2 0 _ rfl)
              clear hr2
              by_cases q4 : s.n ≤ u.n
              · skip
                have hv : rt c = false := rt_no4 (by rw [← he1, unhide hs1, decide_eq_false (show ¬ f < s.n by omega), Bool.false_and, Bool.false_and, Bool.false_and])
                replace hB := hide hB
                go_upto_region 15 with fail
                replace hB := unhide hB
                refine any_start (S := fun v_ => v_.heap[w.heap.size]? = some (.cells (fl [[.int .u32 c.nx], [.slice x.ao x.no x.co], [.int .i64 c.tn], [.int .u32 c.dl], [.slice x.ah x.nh x.ch]]) 26 (0, 0)) ∧ v_.heap[g7]? = some (.cells (fl [[.int .u32 s.n], [.string s.s]]) 47 (0, 0)) ∧ Gr u4 v_) (by kernel_rfl) ?_
                replace hG := hide ((unhide hG).gr ((Gr.refl u4).drew))
                replace hB := hB.drew
                generalize World.drew _ = u5 at *
                simp only [List.size_toArray, List.length_cons, List.length_nil, Array.replicate, List.replicate]
                have hS_ := hide (show (fun v_ => v_.heap[w.heap.size]? = some (.cells (fl [[.int .u32 c.nx], [.slice x.ao x.no x.co], [.int .i64 c.tn], [.int .u32 c.dl], [.slice x.ah x.nh x.ch]]) 26 (0, 0)) ∧ v_.heap[g7]? = some (.cells (fl [[.int .u32 s.n], [.string s.s]]) 47 (0, 0)) ∧ Gr u4 v_) u5 from ⟨(hB.get 0 (x := ⟨w.heap.size, fl [[.int .u32 c.nx], [.slice x.ao x.no x.co], [.int .i64 c.tn], [.int .u32 c.dl], [.slice x.ah x.nh x.ch]], 26⟩) rfl), (hB.get 1 (x := ⟨g7, fl [[.int .u32 s.n], [.string s.s]], 47⟩) rfl), (unhide hG)⟩)
                refine any_tk 0 (.pointer (some ⟨g7, 0, none⟩)) (tf 46 0) rfl (fun x_ hu => by kernel_rfl) (unhide hS_) ?_
                simp only [nrm]
                refine any_tk 1 (.int .u32 s.n) (tf 46 1) rfl (fun x_ hu => exec_c32 _ (.tmp 82) rfl (g7) 0 (by kernel_rfl) s.n (seg_cell (nI  _ _) hu.2.1 0 (v := .int .u32 s.n) rfl rfl)) (unhide hS_) ?_
                simp only [nrm]
                refine any_tk 2 (.pointer (some ⟨w.heap.size, 3, none⟩)) (tf 46 2) rfl (fun x_ hu => by kernel_rfl) (unhide hS_) ?_
                simp only [nrm]
                refine any_tk 3 (.int .u32 c.dl) (tf 46 3) rfl (fun x_ hu => exec_c32 _ (.tmp 84) rfl (w.heap.size) 3 (by kernel_rfl) c.dl (seg_cell (nC  _ _ _ _ _) hu.1 3 (v := .int .u32 c.dl) rfl rfl)) (unhide hS_) ?_
                simp only [nrm]
                refine any_tk 4 (.bool false) (tf 46 4) rfl (fun x_ hu => leq_32 _ (.tmp 83) (.tmp 85) s.n c.dl false rfl (by kernel_rfl) (by kernel_rfl) (decide_eq_false q1)) (unhide hS_) ?_
                simp only [nrm]
                refine any_tk 5 (.bool false) (tf 46 5) rfl (fun x_ hu => by kernel_rfl) (unhide hS_) ?_
                simp only [nrm]
                refine any_tk 6 (.pointer (some ⟨g7, 0, none⟩)) (tf 46 6) rfl (fun x_ hu => by kernel_rfl) (unhide hS_) ?_
                simp only [nrm]
                refine any_tk 7 (.int .u32 s.n) (tf 46 7) rfl (fun x_ hu => exec_c32 _ (.tmp 88) rfl (g7) 0 (by kernel_rfl) s.n (seg_cell (nI  _ _) hu.2.1 0 (v := .int .u32 s.n) rfl rfl)) (unhide hS_) ?_
                simp only [nrm]
                refine any_tk 8 (.pointer (some ⟨w.heap.size, 3, none⟩)) (tf 46 8) rfl (fun x_ hu => by kernel_rfl) (unhide hS_) ?_
                simp only [nrm]
                refine any_tk 9 (.int .u32 c.dl) (tf 46 9) rfl (fun x_ hu => exec_c32 _ (.tmp 90) rfl (w.heap.size) 3 (by kernel_rfl) c.dl (seg_cell (nC  _ _ _ _ _) hu.1 3 (v := .int .u32 c.dl) rfl rfl)) (unhide hS_) ?_
                simp only [nrm]
                refine any_tk 10 (.int .u32 (c.dl + 4)) (tf 46 10) rfl (fun x_ hu => add_32 _ (.tmp 91) (.const (.int .u32 4)) c.dl 4 rfl (by kernel_rfl) (by kernel_rfl) _ rfl (by omega)) (unhide hS_) ?_
                simp only [nrm]
                refine any_tk 11 (.bool false) (tf 46 11) rfl (fun x_ hu => geq_32 _ (.tmp 89) (.tmp 92) s.n (c.dl + 4) false rfl (by kernel_rfl) (by kernel_rfl) (decide_eq_false q2)) (unhide hS_) ?_
                simp only [nrm]
                refine any_tk 12 (.bool false) (tf 46 12) rfl (fun x_ hu => by kernel_rfl) (unhide hS_) ?_
                simp only [nrm]
                refine any_tk 13 (.bool false) (tf 46 13) rfl (fun x_ hu => by kernel_rfl) (unhide hS_) ?_
                simp only [nrm]
                refine any_tk 14 (.pointer (some ⟨g7, 0, none⟩)) (tf 46 14) rfl (fun x_ hu => by kernel_rfl) (unhide hS_) ?_
                simp only [nrm]
                refine any_tk 15 (.int .u32 s.n) (tf 46 15) rfl (fun x_ hu => exec_c32 _ (.tmp 96) rfl (g7) 0 (by kernel_rfl) s.n (seg_cell (nI  _ _) hu.2.1 0 (v := .int .u32 s.n) rfl rfl)) (unhide hS_) ?_
                simp only [nrm]
                refine any_tk 16 (.bool false) (tf 46 16) rfl (fun x_ hu => geq_32 _ (.tmp 97) (.const (.int .u32 2147483648)) s.n 2147483648 false rfl (by kernel_rfl) (by kernel_rfl) (decide_eq_false q3)) (unhide hS_) ?_
                simp only [nrm]
                refine any_tk 17 (.bool false) (tf 46 17) rfl (fun x_ hu => by kernel_rfl) (unhide hS_) ?_
                simp only [nrm]
                refine any_tk 18 (.bool false) (tf 46 18) rfl (fun x_ hu => by kernel_rfl) (unhide hS_) ?_
                simp only [nrm]
                refine any_tk 19 (.int .i64 ((i + 1 : Nat) : Int)) (tf 46 19) rfl (fun x_ hu => by kernel_rfl) (unhide hS_) ?_
                simp only [nrm]
                refine any_tk 20 (.bool true) (tf 46 20) rfl (fun x_ hu => gtr_i _ (.tmp 101) (.const (.int .i64 0)) ((i + 1 : Nat) : Int) 0 true rfl (by kernel_rfl) (by kernel_rfl) (decide_eq_true (by omega))) (unhide hS_) ?_
                simp only [nrm]
                refine any_tk 21 (.bool true) (tf 46 21) rfl (fun x_ hu => by kernel_rfl) (unhide hS_) ?_
                simp only [nrm]
                refine any_tk 22 (.pointer (some ⟨g7, 0, none⟩)) (tf 46 22) rfl (fun x_ hu => by kernel_rfl) (unhide hS_) ?_
                simp only [nrm]
                refine any_tk 23 (.int .u32 s.n) (tf 46 23) rfl (fun x_ hu => exec_c32 _ (.tmp 104) rfl (g7) 0 (by kernel_rfl) s.n (seg_cell (nI  _ _) hu.2.1 0 (v := .int .u32 s.n) rfl rfl)) (unhide hS_) ?_
                simp only [nrm]
                refine any_tk 24 (.pointer (some ⟨w.heap.size, 4, none⟩)) (tf 46 24) rfl (fun x_ hu => by kernel_rfl) (unhide hS_) ?_
                simp only [nrm]
                refine any_tk 25 (.slice x.ah x.nh x.ch) (tf 46 25) rfl (fun x_ hu => exec_csI _ (.tmp 106) rfl (w.heap.size) 4 (by kernel_rfl) x.ah x.nh x.ch (seg_cell (nC  _ _ _ _ _) hu.1 4 (v := .slice x.ah x.nh x.ch) rfl rfl)) (unhide hS_) ?_
                simp only [nrm]
                refine any_tk 26 (.int .i64 ((i + 1 : Nat) : Int)) (tf 46 26) rfl (fun x_ hu => by kernel_rfl) (unhide hS_) ?_
                simp only [nrm]
                refine any_tk 27 (.int .i64 (i : Int)) (tf 46 27) rfl (fun x_ hu => sub_i _ (.tmp 108) (.const (.int .i64 1)) ((i + 1 : Nat) : Int) 1 rfl (by kernel_rfl) (by kernel_rfl) _ (by omega) (by omega)) (unhide hS_) ?_
                simp only [nrm]
                refine any_tk 28 (.pointer (some ⟨p2, o2 + 2 * i, none⟩)) (tf 46 28) rfl (fun x_ hu => exec_isi _ (.tmp 107) (.tmp 109) rfl p2 o2 x.nh x.ch i (by rw [← unhide ha2]; kernel_rfl) (by kernel_rfl) hi1) (unhide hS_) ?_
                simp only [nrm]
                refine any_tk 29 (.pointer (some ⟨p2, o2 + 2 * i, none⟩)) (tf 46 29) rfl (fun x_ hu => by kernel_rfl) (unhide hS_) ?_
                simp only [nrm]
                refine any_tk 30 (.int .u32 u.n) (tf 46 30) rfl (fun x_ hu => exec_c32 _ (.tmp 111) rfl p2 (o2 + 2 * i) (by kernel_rfl) u.n (hu.2.2.cell (unhide hr3))) (unhide hS_) ?_
                simp only [nrm]
                refine any_tk 31 (.bool true) (tf 46 31) rfl (fun x_ hu => leq_32 _ (.tmp 105) (.tmp 112) s.n u.n true rfl (by kernel_rfl) (by kernel_rfl) (decide_eq_true q4)) (unhide hS_) ?_
                simp only [nrm]
                refine any_tk 32 (.bool true) (tf 46 32) rfl (fun x_ hu => by kernel_rfl) (unhide hS_) ?_
                simp only [nrm]
                refine any_tk 33 (.bool true) (tf 46 33) rfl (fun x_ hu => by kernel_rfl) (unhide hS_) ?_
                simp only [nrm]
                refine any_tk 34 (.bool true) (tf 46 34) rfl (fun x_ hu => by kernel_rfl) (unhide hS_) ?_
                simp only [nrm]
                refine any_to 35 (tf 46 35) rfl (unhide hS_) ?_
                simp only [nrm]
                refine any_to 36 (tf 46 36) rfl (unhide hS_) ?_
                simp only [nrm]
                refine any_to 37 (tf 46 37) rfl (unhide hS_) ?_
                simp only [nrm]
                refine any_to 38 (tf 46 38) rfl (unhide hS_) ?_
                simp only [nrm]
                refine any_tk 39 (.bool true) (tf 46 39) rfl (fun x_ hu => by kernel_rfl) (unhide hS_) ?_
                simp only [nrm]
                refine any_tk 40 (.bool true) (tf 46 40) rfl (fun x_ hu => by kernel_rfl) (unhide hS_) ?_
                simp only [nrm]
                refine any_to 41 (tf 46 41) rfl (unhide hS_) ?_
                simp only [nrm]
                refine any_to 42 (tf 46 42) rfl (unhide hS_) ?_
                simp only [nrm]
                refine any_to 43 (tf 46 43) rfl (unhide hS_) ?_
                simp only [nrm]
                refine any_to 44 (tf 46 44) rfl (unhide hS_) ?_
                simp only [nrm]
                refine any_tk 45 (.bool true) (tf 46 45) rfl (fun x_ hu => by kernel_rfl) (unhide hS_) ?_
                simp only [nrm]
                refine any_done (by kernel_rfl) ?_
                clear hS_
                replace hB := hide hB
                go_upto_region 16 with fail
                replace hB := unhide hB
                refine wp_region_lit ?_
                (refine wpList_step fun K hK => ?_; replace hK := hide hK; go_simp; refine unhide hK _ _ ?_; clear hK K)
                refine wpList_nil ?_
                replace hB := hide hB
                go_wp2_with fail
                replace hB := unhide hB
                rw [unhide hT]
                exact (⟨by rw [hv] <;> rfl, hB.gr⟩)
              by_cases q5 : (s.s.size : Int) < 1
              · have hz : szB s.s = false := by unfold szB; rw [decide_eq_false_iff_not]; omega
                have hv : rt c = false := rt_no4 (by rw [← he1, unhide hs1, hz, Bool.and_false, Bool.false_and])
                replace hB := hide hB
                go_upto_region 15 with fail
                replace hB := unhide hB
                refine any_start (S := fun v_ => v_.heap[w.heap.size]? = some (.cells (fl [[.int .u32 c.nx], [.slice x.ao x.no x.co], [.int .i64 c.tn], [.int .u32 c.dl], [.slice x.ah x.nh x.ch]]) 26 (0, 0)) ∧ v_.heap[g7]? = some (.cells (fl [[.int .u32 s.n], [.string s.s]]) 47 (0, 0)) ∧ Gr u4 v_) (by kernel_rfl) ?_
                replace hG := hide ((unhide hG).gr ((Gr.refl u4).drew))
                replace hB := hB.drew
                generalize World.drew _ = u5 at *
                simp only [List.size_toArray, List.length_cons, List.length_nil, Array.replicate, List.replicate]
                have hS_ := hide (show (fun v_ => v_.heap[w.heap.size]? = some (.cells (fl [[.int .u32 c.nx], [.slice x.ao x.no x.co], [.int .i64 c.tn], [.int .u32 c.dl], [.slice x.ah x.nh x.ch]]) 26 (0, 0)) ∧ v_.heap[g7]? = some (.cells (fl [[.int .u32 s.n], [.string s.s]]) 47 (0, 0)) ∧ Gr u4 v_) u5 from ⟨(hB.get 0 (x := ⟨w.heap.size, fl [[.int .u32 c.nx], [.slice x.ao x.no x.co], [.int .i64 c.tn], [.int .u32 c.dl], [.slice x.ah x.nh x.ch]], 26⟩) rfl), (hB.get 1 (x := ⟨g7, fl [[.int .u32 s.n], [.string s.s]], 47⟩) rfl), (unhide hG)⟩)
                refine any_tk 0 (.pointer (some ⟨g7, 0, none⟩)) (tf 46 0) rfl (fun x_ hu => by kernel_rfl) (unhide hS_) ?_
                simp only [nrm]
                refine any_tk 1 (.int .u32 s.n) (tf 46 1) rfl (fun x_ hu => exec_c32 _ (.tmp 82) rfl (g7) 0 (by kernel_rfl) s.n (seg_cell (nI  _ _) hu.2.1 0 (v := .int .u32 s.n) rfl rfl)) (unhide hS_) ?_
                simp only [nrm]
                refine any_tk 2 (.pointer (some ⟨w.heap.size, 3, none⟩)) (tf 46 2) rfl (fun x_ hu => by kernel_rfl) (unhide hS_) ?_
                simp only [nrm]
                refine any_tk 3 (.int .u32 c.dl) (tf 46 3) rfl (fun x_ hu => exec_c32 _ (.tmp 84) rfl (w.heap.size) 3 (by kernel_rfl) c.dl (seg_cell (nC  _ _ _ _ _) hu.1 3 (v := .int .u32 c.dl) rfl rfl)) (unhide hS_) ?_
                simp only [nrm]
                refine any_tk 4 (.bool false) (tf 46 4) rfl (fun x_ hu => leq_32 _ (.tmp 83) (.tmp 85) s.n c.dl false rfl (by kernel_rfl) (by kernel_rfl) (decide_eq_false q1)) (unhide hS_) ?_
                simp only [nrm]
                refine any_tk 5 (.bool false) (tf 46 5) rfl (fun x_ hu => by kernel_rfl) (unhide hS_) ?_
                simp only [nrm]
                refine any_tk 6 (.pointer (some ⟨g7, 0, none⟩)) (tf 46 6) rfl (fun x_ hu => by kernel_rfl) (unhide hS_) ?_
                simp only [nrm]
                refine any_tk 7 (.int .u32 s.n) (tf 46 7) rfl (fun x_ hu => exec_c32 _ (.tmp 88) rfl (g7) 0 (by kernel_rfl) s.n (seg_cell (nI  _ _) hu.2.1 0 (v := .int .u32 s.n) rfl rfl)) (unhide hS_) ?_
                simp only [nrm]
                refine any_tk 8 (.pointer (some ⟨w.heap.size, 3, none⟩)) (tf 46 8) rfl (fun x_ hu => by kernel_rfl) (unhide hS_) ?_
                simp only [nrm]
                refine any_tk 9 (.int .u32 c.dl) (tf 46 9) rfl (fun x_ hu => exec_c32 _ (.tmp 90) rfl (w.heap.size) 3 (by kernel_rfl) c.dl (seg_cell (nC  _ _ _ _ _) hu.1 3 (v := .int .u32 c.dl) rfl rfl)) (unhide hS_) ?_
                simp only [nrm]
                refine any_tk 10 (.int .u32 (c.dl + 4)) (tf 46 10) rfl (fun x_ hu => add_32 _ (.tmp 91) (.const (.int .u32 4)) c.dl 4 rfl (by kernel_rfl) (by kernel_rfl) _ rfl (by omega)) (unhide hS_) ?_
                simp only [nrm]
                refine any_tk 11 (.bool false) (tf 46 11) rfl (fun x_ hu => geq_32 _ (.tmp 89) (.tmp 92) s.n (c.dl + 4) false rfl (by kernel_rfl) (by kernel_rfl) (decide_eq_false q2)) (unhide hS_) ?_
                simp only [nrm]
                refine any_tk 12 (.bool false) (tf 46 12) rfl (fun x_ hu => by kernel_rfl) (unhide hS_) ?_
                simp only [nrm]
                refine any_tk 13 (.bool false) (tf 46 13) rfl (fun x_ hu => by kernel_rfl) (unhide hS_) ?_
                simp only [nrm]
                refine any_tk 14 (.pointer (some ⟨g7, 0, none⟩)) (tf 46 14) rfl (fun x_ hu => by kernel_rfl) (unhide hS_) ?_
                simp only [nrm]
                refine any_tk 15 (.int .u32 s.n) (tf 46 15) rfl (fun x_ hu => exec_c32 _ (.tmp 96) rfl (g7) 0 (by kernel_rfl) s.n (seg_cell (nI  _ _) hu.2.1 0 (v := .int .u32 s.n) rfl rfl)) (unhide hS_) ?_
                simp only [nrm]
                refine any_tk 16 (.bool false) (tf 46 16) rfl (fun x_ hu => geq_32 _ (.tmp 97) (.const (.int .u32 2147483648)) s.n 2147483648 false rfl (by kernel_rfl) (by kernel_rfl) (decide_eq_false q3)) (unhide hS_) ?_
                simp only [nrm]
                refine any_tk 17 (.bool false) (tf 46 17) rfl (fun x_ hu => by kernel_rfl) (unhide hS_) ?_
                simp only [nrm]
                refine any_tk 18 (.bool false) (tf 46 18) rfl (fun x_ hu => by kernel_rfl) (unhide hS_) ?_
                simp only [nrm]
                refine any_tk 19 (.int .i64 ((i + 1 : Nat) : Int)) (tf 46 19) rfl (fun x_ hu => by kernel_rfl) (unhide hS_) ?_
                simp only [nrm]
                refine any_tk 20 (.bool true) (tf 46 20) rfl (fun x_ hu => gtr_i _ (.tmp 101) (.const (.int .i64 0)) ((i + 1 : Nat) : Int) 0 true rfl (by kernel_rfl) (by kernel_rfl) (decide_eq_true (by omega))) (unhide hS_) ?_
                simp only [nrm]
                refine any_tk 21 (.bool true) (tf 46 21) rfl (fun x_ hu => by kernel_rfl) (unhide hS_) ?_
                simp only [nrm]
                refine any_tk 22 (.pointer (some ⟨g7, 0, none⟩)) (tf 46 22) rfl (fun x_ hu => by kernel_rfl) (unhide hS_) ?_
                simp only [nrm]
                refine any_tk 23 (.int .u32 s.n) (tf 46 23) rfl (fun x_ hu => exec_c32 _ (.tmp 104) rfl (g7) 0 (by kernel_rfl) s.n (seg_cell (nI  _ _) hu.2.1 0 (v := .int .u32 s.n) rfl rfl)) (unhide hS_) ?_
                simp only [nrm]
                refine any_tk 24 (.pointer (some ⟨w.heap.size, 4, none⟩)) (tf 46 24) rfl (fun x_ hu => by kernel_rfl) (unhide hS_) ?_
                simp only [nrm]
                refine any_tk 25 (.slice x.ah x.nh x.ch) (tf 46 25) rfl (fun x_ hu => exec_csI _ (.tmp 106) rfl (w.heap.size) 4 (by kernel_rfl) x.ah x.nh x.ch (seg_cell (nC  _ _ _ _ _) hu.1 4 (v := .slice x.ah x.nh x.ch) rfl rfl)) (unhide hS_) ?_
                simp only [nrm]
                refine any_tk 26 (.int .i64 ((i + 1 : Nat) : Int)) (tf 46 26) rfl (fun x_ hu => by kernel_rfl) (unhide hS_) ?_
                simp only [nrm]
                refine any_tk 27 (.int .i64 (i : Int)) (tf 46 27) rfl (fun x_ hu => sub_i _ (.tmp 108) (.const (.int .i64 1)) ((i + 1 : Nat) : Int) 1 rfl (by kernel_rfl) (by kernel_rfl) _ (by omega) (by omega)) (unhide hS_) ?_
                simp only [nrm]
                refine any_tk 28 (.pointer (some ⟨p2, o2 + 2 * i, none⟩)) (tf 46 28) rfl (fun x_ hu => exec_isi _ (.tmp 107) (.tmp 109) rfl p2 o2 x.nh x.ch i (by rw [← unhide ha2]; kernel_rfl) (by kernel_rfl) hi1) (unhide hS_) ?_
                simp only [nrm]
                refine any_tk 29 (.pointer (some ⟨p2, o2 + 2 * i, none⟩)) (tf 46 29) rfl (fun x_ hu => by kernel_rfl) (unhide hS_) ?_
                simp only [nrm]
                refine any_tk 30 (.int .u32 u.n) (tf 46 30) rfl (fun x_ hu => exec_c32 _ (.tmp 111) rfl p2 (o2 + 2 * i) (by kernel_rfl) u.n (hu.2.2.cell (unhide hr3))) (unhide hS_) ?_
                simp only [nrm]
                refine any_tk 31 (.bool false) (tf 46 31) rfl (fun x_ hu => leq_32 _ (.tmp 105) (.tmp 112) s.n u.n false rfl (by kernel_rfl) (by kernel_rfl) (decide_eq_false q4)) (unhide hS_) ?_
                simp only [nrm]
                refine any_tk 32 (.bool false) (tf 46 32) rfl (fun x_ hu => by kernel_rfl) (unhide hS_) ?_
                simp only [nrm]
                refine any_tk 33 (.bool false) (tf 46 33) rfl (fun x_ hu => by kernel_rfl) (unhide hS_) ?_
                simp only [nrm]
                refine any_tk 34 (.bool false) (tf 46 34) rfl (fun x_ hu => by kernel_rfl) (unhide hS_) ?_
                simp only [nrm]
                refine any_tk 35 (.pointer (some ⟨g7, 1, none⟩)) (tf 46 35) rfl (fun x_ hu => by kernel_rfl) (unhide hS_) ?_
                simp only [nrm]
                refine any_tk 36 (.string s.s) (tf 46 36) rfl (fun x_ hu => exec_cst _ (.tmp 117) rfl (g7) 1 (by kernel_rfl) s.s (seg_cell (nI  _ _) hu.2.1 1 (v := .string s.s) rfl rfl)) (unhide hS_) ?_
                simp only [nrm]
                refine any_tk 37 (.int .i64 (s.s.size : Int)) (tf 46 37) rfl (fun x_ hu => len_st _ (.tmp 118) s.s (by omega) rfl (by kernel_rfl)) (unhide hS_) ?_
                simp only [nrm]
                refine any_tk 38 (.bool true) (tf 46 38) rfl (fun x_ hu => lss_i _ (.tmp 119) (.const (.int .i64 1)) (s.s.size : Int) 1 true rfl (by kernel_rfl) (by kernel_rfl) (decide_eq_true q5)) (unhide hS_) ?_
                simp only [nrm]
                refine any_tk 39 (.bool true) (tf 46 39) rfl (fun x_ hu => by kernel_rfl) (unhide hS_) ?_
                simp only [nrm]
                refine any_tk 40 (.bool true) (tf 46 40) rfl (fun x_ hu => by kernel_rfl) (unhide hS_) ?_
                simp only [nrm]
                refine any_to 41 (tf 46 41) rfl (unhide hS_) ?_
                simp only [nrm]
                refine any_to 42 (tf 46 42) rfl (unhide hS_) ?_
                simp only [nrm]
                refine any_to 43 (tf 46 43) rfl (unhide hS_) ?_
                simp only [nrm]
                refine any_to 44 (tf 46 44) rfl (unhide hS_) ?_
                simp only [nrm]
                refine any_tk 45 (.bool true) (tf 46 45) rfl (fun x_ hu => by kernel_rfl) (unhide hS_) ?_
                simp only [nrm]
                refine any_done (by kernel_rfl) ?_
                clear hS_
                replace hB := hide hB
                go_upto_region 16 with fail
                replace hB := unhide hB
                refine wp_region_lit ?_
                (refine wpList_step fun K hK => ?_; replace hK := hide hK; go_simp; refine unhide hK _ _ ?_; clear hK K)
                refine wpList_nil ?_
                replace hB := hide hB
                go_wp2_with fail
                replace hB := unhide hB
                rw [unhide hT]
                exact (⟨by rw [hv] <;> rfl, hB.gr⟩)
              by_cases q6 : 48 < (s.s.size : Int)
              · have hz : szB s.s = false := by unfold szB; rw [decide_eq_false_iff_not]; omega
                have hv : rt c = false := rt_no4 (by rw [← he1, unhide hs1, hz, Bool.and_false, Bool.false_and])
                replace hB := hide hB
                go_upto_region 15 with fail
                replace hB := unhide hB
                refine any_start (S := fun v_ => v_.heap[w.heap.size]? = some (.cells (fl [[.int .u32 c.nx], [.slice x.ao x.no x.co], [.int .i64 c.tn], [.int .u32 c.dl], [.slice x.ah x.nh x.ch]]) 26 (0, 0)) ∧ v_.heap[g7]? = some (.cells (fl [[.int .u32 s.n], [.string s.s]]) 47 (0, 0)) ∧ Gr u4 v_) (by kernel_rfl) ?_
                replace hG := hide ((unhide hG).gr ((Gr.refl u4).drew))
                replace hB := hB.drew
                generalize World.drew _ = u5 at *
                simp only [List.size_toArray, List.length_cons, List.length_nil, Array.replicate, List.replicate]
                have hS_ := hide (show (fun v_ => v_.heap[w.heap.size]? = some (.cells (fl [[.int .u32 c.nx], [.slice x.ao x.no x.co], [.int .i64 c.tn], [.int .u32 c.dl], [.slice x.ah x.nh x.ch]]) 26 (0, 0)) ∧ v_.heap[g7]? = some (.cells (fl [[.int .u32 s.n], [.string s.s]]) 47 (0, 0)) ∧ Gr u4 v_) u5 from ⟨(hB.get 0 (x := ⟨w.heap.size, fl [[.int .u32 c.nx], [.slice x.ao x.no x.co], [.int .i64 c.tn], [.int .u32 c.dl], [.slice x.ah x.nh x.ch]], 26⟩) rfl), (hB.get 1 (x := ⟨g7, fl [[.int .u32 s.n], [.string s.s]], 47⟩) rfl), (unhide hG)⟩)
                refine any_tk 0 (.pointer (some ⟨g7, 0, none⟩)) (tf 46 0) rfl (fun x_ hu => by kernel_rfl) (unhide hS_) ?_
                simp only [nrm]
                refine any_tk 1 (.int .u32 s.n) (tf 46 1) rfl (fun x_ hu => exec_c32 _ (.tmp 82) rfl (g7) 0 (by kernel_rfl) s.n (seg_cell (nI  _ _) hu.2.1 0 (v := .int .u32 s.n) rfl rfl)) (unhide hS_) ?_
                simp only [nrm]
                refine any_tk 2 (.pointer (some ⟨w.heap.size, 3, none⟩)) (tf 46 2) rfl (fun x_ hu => by kernel_rfl) (unhide hS_) ?_
                simp only [nrm]
                refine any_tk 3 (.int .u32 c.dl) (tf 46 3) rfl (fun x_ hu => exec_c32 _ (.tmp 84) rfl (w.heap.size) 3 (by kernel_rfl) c.dl (seg_cell (nC  _ _ _ _ _) hu.1 3 (v := .int .u32 c.dl) rfl rfl)) (unhide hS_) ?_
                simp only [nrm]
                refine any_tk 4 (.bool false) (tf 46 4) rfl (fun x_ hu => leq_32 _ (.tmp 83) (.tmp 85) s.n c.dl false rfl (by kernel_rfl) (by kernel_rfl) (decide_eq_false q1)) (unhide hS_) ?_
                simp only [nrm]
                refine any_tk 5 (.bool false) (tf 46 5) rfl (fun x_ hu => by kernel_rfl) (unhide hS_) ?_
                simp only [nrm]
                refine any_tk 6 (.pointer (some ⟨g7, 0, none⟩)) (tf 46 6) rfl (fun x_ hu => by kernel_rfl) (unhide hS_) ?_
                simp only [nrm]
                refine any_tk 7 (.int .u32 s.n) (tf 46 7) rfl (fun x_ hu => exec_c32 _ (.tmp 88) rfl (g7) 0 (by kernel_rfl) s.n (seg_cell (nI  _ _) hu.2.1 0 (v := .int .u32 s.n) rfl rfl)) (unhide hS_) ?_
                simp only [nrm]
                refine any_tk 8 (.pointer (some ⟨w.heap.size, 3, none⟩)) (tf 46 8) rfl (fun x_ hu => by kernel_rfl) (unhide hS_) ?_
                simp only [nrm]
                refine any_tk 9 (.int .u32 c.dl) (tf 46 9) rfl (fun x_ hu => exec_c32 _ (.tmp 90) rfl (w.heap.size) 3 (by kernel_rfl) c.dl (seg_cell (nC  _ _ _ _ _) hu.1 3 (v := .int .u32 c.dl) rfl rfl)) (unhide hS_) ?_
                simp only [nrm]
                refine any_tk 10 (.int .u32 (c.dl + 4)) (tf 46 10) rfl (fun x_ hu => add_32 _ (.tmp 91) (.const (.int .u32 4)) c.dl 4 rfl (by kernel_rfl) (by kernel_rfl) _ rfl (by omega)) (unhide hS_) ?_
                simp only [nrm]
                refine any_tk 11 (.bool false) (tf 46 11) rfl (fun x_ hu => geq_32 _ (.tmp 89) (.tmp 92) s.n (c.dl + 4) false rfl (by kernel_rfl) (by kernel_rfl) (decide_eq_false q2)) (unhide hS_) ?_
                simp only [nrm]
                refine any_tk 12 (.bool false) (tf 46 12) rfl (fun x_ hu => by kernel_rfl) (unhide hS_) ?_
                simp only [nrm]
                refine any_tk 13 (.bool false) (tf 46 13) rfl (fun x_ hu => by kernel_rfl) (unhide hS_) ?_
                simp only [nrm]
                refine any_tk 14 (.pointer (some ⟨g7, 0, none⟩)) (tf 46 14) rfl (fun x_ hu => by kernel_rfl) (unhide hS_) ?_
                simp only [nrm]
                refine any_tk 15 (.int .u32 s.n) (tf 46 15) rfl (fun x_ hu => exec_c32 _ (.tmp 96) rfl (g7) 0 (by kernel_rfl) s.n (seg_cell (nI  _ _) hu.2.1 0 (v := .int .u32 s.n) rfl rfl)) (unhide hS_) ?_
                simp only [nrm]
                refine any_tk 16 (.bool false) (tf 46 16) rfl (fun x_ hu => geq_32 _ (.tmp 97) (.const (.int .u32 2147483648)) s.n 2147483648 false rfl (by kernel_rfl) (by kernel_rfl) (decide_eq_false q3)) (unhide hS_) ?_
                simp only [nrm]
                refine any_tk 17 (.bool false) (tf 46 17) rfl (fun x_ hu => by kernel_rfl) (unhide hS_) ?_
                simp only [nrm]
                refine any_tk 18 (.bool false) (tf 46 18) rfl (fun x_ hu => by kernel_rfl) (unhide hS_) ?_
                simp only [nrm]
                refine any_tk 19 (.int .i64 ((i + 1 : Nat) : Int)) (tf 46 19) rfl (fun x_ hu => by kernel_rfl) (unhide hS_) ?_
                simp only [nrm]
                refine any_tk 20 (.bool true) (tf 46 20) rfl (fun x_ hu => gtr_i _ (.tmp 101) (.const (.int .i64 0)) ((i + 1 : Nat) : Int) 0 true rfl (by kernel_rfl) (by kernel_rfl) (decide_eq_true (by omega))) (unhide hS_) ?_
                simp only [nrm]
                refine any_tk 21 (.bool true) (tf 46 21) rfl (fun x_ hu => by kernel_rfl) (unhide hS_) ?_
                simp only [nrm]
                refine any_tk 22 (.pointer (some ⟨g7, 0, none⟩)) (tf 46 22) rfl (fun x_ hu => by kernel_rfl) (unhide hS_) ?_
                simp only [nrm]
                refine any_tk 23 (.int .u32 s.n) (tf 46 23) rfl (fun x_ hu => exec_c32 _ (.tmp 104) rfl (g7) 0 (by kernel_rfl) s.n (seg_cell (nI  _ _) hu.2.1 0 (v := .int .u32 s.n) rfl rfl)) (unhide hS_) ?_
                simp only [nrm]
                refine any_tk 24 (.pointer (some ⟨w.heap.size, 4, none⟩)) (tf 46 24) rfl (fun x_ hu => by kernel_rfl) (unhide hS_) ?_
                simp only [nrm]
                refine any_tk 25 (.slice x.ah x.nh x.ch) (tf 46 25) rfl (fun x_ hu => exec_csI _ (.tmp 106) rfl (w.heap.size) 4 (by kernel_rfl) x.ah x.nh x.ch (seg_cell (nC  _ _ _ _ _) hu.1 4 (v := .slice x.ah x.nh x.ch) rfl rfl)) (unhide hS_) ?_
                simp only [nrm]
                refine any_tk 26 (.int .i64 ((i + 1 : Nat) : Int)) (tf 46 26) rfl (fun x_ hu => by kernel_rfl) (unhide hS_) ?_
                simp only [nrm]
                refine any_tk 27 (.int .i64 (i : Int)) (tf 46 27) rfl (fun x_ hu => sub_i _ (.tmp 108) (.const (.int .i64 1)) ((i + 1 : Nat) : Int) 1 rfl (by kernel_rfl) (by kernel_rfl) _ (by omega) (by omega)) (unhide hS_) ?_
                simp only [nrm]
                refine any_tk 28 (.pointer (some ⟨p2, o2 + 2 * i, none⟩)) (tf 46 28) rfl (fun x_ hu => exec_isi _ (.tmp 107) (.tmp 109) rfl p2 o2 x.nh x.ch i (by rw [← unhide ha2]; kernel_rfl) (by kernel_rfl) hi1) (unhide hS_) ?_
                simp only [nrm]
                refine any_tk 29 (.pointer (some ⟨p2, o2 + 2 * i, none⟩)) (tf 46 29) rfl (fun x_ hu => by kernel_rfl) (unhide hS_) ?_
                simp only [nrm]
                refine any_tk 30 (.int .u32 u.n) (tf 46 30) rfl (fun x_ hu => exec_c32 _ (.tmp 111) rfl p2 (o2 + 2 * i) (by kernel_rfl) u.n (hu.2.2.cell (unhide hr3))) (unhide hS_) ?_
                simp only [nrm]
                refine any_tk 31 (.bool false) (tf 46 31) rfl (fun x_ hu => leq_32 _ (.tmp 105) (.tmp 112) s.n u.n false rfl (by kernel_rfl) (by kernel_rfl) (decide_eq_false q4)) (unhide hS_) ?_
                simp only [nrm]
                refine any_tk 32 (.bool false) (tf 46 32) rfl (fun x_ hu => by kernel_rfl) (unhide hS_) ?_
                simp only [nrm]
                refine any_tk 33 (.bool false) (tf 46 33) rfl (fun x_ hu => by kernel_rfl) (unhide hS_) ?_
                simp only [nrm]
                refine any_tk 34 (.bool false) (tf 46 34) rfl (fun x_ hu => by kernel_rfl) (unhide hS_) ?_
                simp only [nrm]
                refine any_tk 35 (.pointer (some ⟨g7, 1, none⟩)) (tf 46 35) rfl (fun x_ hu => by kernel_rfl) (unhide hS_) ?_
                simp only [nrm]
                refine any_tk 36 (.string s.s) (tf 46 36) rfl (fun x_ hu => exec_cst _ (.tmp 117) rfl (g7) 1 (by kernel_rfl) s.s (seg_cell (nI  _ _) hu.2.1 1 (v := .string s.s) rfl rfl)) (unhide hS_) ?_
                simp only [nrm]
                refine any_tk 37 (.int .i64 (s.s.size : Int)) (tf 46 37) rfl (fun x_ hu => len_st _ (.tmp 118) s.s (by omega) rfl (by kernel_rfl)) (unhide hS_) ?_
                simp only [nrm]
                refine any_tk 38 (.bool false) (tf 46 38) rfl (fun x_ hu => lss_i _ (.tmp 119) (.const (.int .i64 1)) (s.s.size : Int) 1 false rfl (by kernel_rfl) (by kernel_rfl) (decide_eq_false q5)) (unhide hS_) ?_
                simp only [nrm]
                refine any_tk 39 (.bool false) (tf 46 39) rfl (fun x_ hu => by kernel_rfl) (unhide hS_) ?_
                simp only [nrm]
                refine any_tk 40 (.bool false) (tf 46 40) rfl (fun x_ hu => by kernel_rfl) (unhide hS_) ?_
                simp only [nrm]
                refine any_tk 41 (.pointer (some ⟨g7, 1, none⟩)) (tf 46 41) rfl (fun x_ hu => by kernel_rfl) (unhide hS_) ?_
                simp only [nrm]
                refine any_tk 42 (.string s.s) (tf 46 42) rfl (fun x_ hu => exec_cst _ (.tmp 123) rfl (g7) 1 (by kernel_rfl) s.s (seg_cell (nI  _ _) hu.2.1 1 (v := .string s.s) rfl rfl)) (unhide hS_) ?_
                simp only [nrm]
                refine any_tk 43 (.int .i64 (s.s.size : Int)) (tf 46 43) rfl (fun x_ hu => len_st _ (.tmp 124) s.s (by omega) rfl (by kernel_rfl)) (unhide hS_) ?_
                simp only [nrm]
                refine any_tk 44 (.bool true) (tf 46 44) rfl (fun x_ hu => gtr_i _ (.tmp 125) (.const (.int .i64 48)) (s.s.size : Int) 48 true rfl (by kernel_rfl) (by kernel_rfl) (decide_eq_true q6)) (unhide hS_) ?_
                simp only [nrm]
                refine any_tk 45 (.bool true) (tf 46 45) rfl (fun x_ hu => by kernel_rfl) (unhide hS_) ?_
                simp only [nrm]
                refine any_done (by kernel_rfl) ?_
                clear hS_
                replace hB := hide hB
                go_upto_region 16 with fail
                replace hB := unhide hB
                refine wp_region_lit ?_
                (refine wpList_step fun K hK => ?_; replace hK := hide hK; go_simp; refine unhide hK _ _ ?_; clear hK K)
                refine wpList_nil ?_
                replace hB := hide hB
                go_wp2_with fail
                replace hB := unhide hB
                rw [unhide hT]
                exact (⟨by rw [hv] <;> rfl, hB.gr⟩)
              have hz : szB s.s = true := by unfold szB; rw [decide_eq_true_iff]; omega
              have hs2 : Hid (∃ f, rises c.dl e c.H = rises f e (c.H.drop ((i + 1) + 1)) ∧ c.dl ≤ f ∧ (((i + 1) + 1 = 0 ∧ f = c.dl) ∨ ∃ u, 0 < (i + 1) + 1 ∧ c.H[(i + 1) + 1 - 1]? = some u ∧ f = u.n)) := hide ⟨s.n, by
                rw [unhide hs1, decide_eq_true (show f < s.n by omega), decide_eq_true (show s.n < e by omega), hz]
                rfl, by omega, .inr ⟨s, by omega, by rw [Nat.add_sub_cancel]; exact unhide hsj, rfl⟩⟩
              replace hB := hide hB
              go_upto_region 15 with fail
              replace hB := unhide hB
              refine any_start (S := fun v_ => v_.heap[w.heap.size]? = some (.cells (fl [[.int .u32 c.nx], [.slice x.ao x.no x.co], [.int .i64 c.tn], [.int .u32 c.dl], [.slice x.ah x.nh x.ch]]) 26 (0, 0)) ∧ v_.heap[g7]? = some (.cells (fl [[.int .u32 s.n], [.string s.s]]) 47 (0, 0)) ∧ Gr u4 v_) (by kernel_rfl) ?_
              replace hG := hide ((unhide hG).gr ((Gr.refl u4).drew))
              replace hB := hB.drew
              generalize World.drew _ = u5 at *
              simp only [List.size_toArray, List.length_cons, List.length_nil, Array.replicate, List.replicate]
              have hS_ := hide (show (fun v_ => v_.heap[w.heap.size]? = some (.cells (fl [[.int .u32 c.nx], [.slice x.ao x.no x.co], [.int .i64 c.tn], [.int .u32 c.dl], [.slice x.ah x.nh x.ch]]) 26 (0, 0)) ∧ v_.heap[g7]? = some (.cells (fl [[.int .u32 s.n], [.string s.s]]) 47 (0, 0)) ∧ Gr u4 v_) u5 from ⟨(hB.get 0 (x := ⟨w.heap.size, fl [[.int .u32 c.nx], [.slice x.ao x.no x.co], [.int .i64 c.tn], [.int .u32 c.dl], [.slice x.ah x.nh x.ch]], 26⟩) rfl), (hB.get 1 (x := ⟨g7, fl [[.int .u32 s.n], [.string s.s]], 47⟩) rfl), (unhide hG)⟩)
              refine any_tk 0 (.pointer (some ⟨g7, 0, none⟩)) (tf 46 0) rfl (fun x_ hu => by kernel_rfl) (unhide hS_) ?_
              simp only [nrm]
              refine any_tk 1 (.int .u32 s.n) (tf 46 1) rfl (fun x_ hu => exec_c32 _ (.tmp 82) rfl (g7) 0 (by kernel_rfl) s.n (seg_cell (nI  _ _) hu.2.1 0 (v := .int .u32 s.n) rfl rfl)) (unhide hS_) ?_
              simp only [nrm]
              refine any_tk 2 (.pointer (some ⟨w.heap.size, 3, none⟩)) (tf 46 2) rfl (fun x_ hu => by kernel_rfl) (unhide hS_) ?_
              simp only [nrm]
              refine any_tk 3 (.int .u32 c.dl) (tf 46 3) rfl (fun x_ hu => exec_c32 _ (.tmp 84) rfl (w.heap.size) 3 (by kernel_rfl) c.dl (seg_cell (nC  _ _ _ _ _) hu.1 3 (v := .int .u32 c.dl) rfl rfl)) (unhide hS_) ?_
              simp only [nrm]
              refine any_tk 4 (.bool false) (tf 46 4) rfl (fun x_ hu => leq_32 _ (.tmp 83) (.tmp 85) s.n c.dl false rfl (by kernel_rfl) (by kernel_rfl) (decide_eq_false q1)) (unhide hS_) ?_
              simp only [nrm]
              refine any_tk 5 (.bool false) (tf 46 5) rfl (fun x_ hu => by kernel_rfl) (unhide hS_) ?_
              simp only [nrm]
              refine any_tk 6 (.pointer (some ⟨g7, 0, none⟩)) (tf 46 6) rfl (fun x_ hu => by kernel_rfl) (unhide hS_) ?_
              simp only [nrm]
              refine any_tk 7 (.int .u32 s.n) (tf 46 7) rfl (fun x_ hu => exec_c32 _ (.tmp 88) rfl (g7) 0 (by kernel_rfl) s.n (seg_cell (nI  _ _) hu.2.1 0 (v := .int .u32 s.n) rfl rfl)) (unhide hS_) ?_
              simp only [nrm]
              refine any_tk 8 (.pointer (some ⟨w.heap.size, 3, none⟩)) (tf 46 8) rfl (fun x_ hu => by kernel_rfl) (unhide hS_) ?_
              simp only [nrm]
              refine any_tk 9 (.int .u32 c.dl) (tf 46 9) rfl (fun x_ hu => exec_c32 _ (.tmp 90) rfl (w.heap.size) 3 (by kernel_rfl) c.dl (seg_cell (nC  _ _ _ _ _) hu.1 3 (v := .int .u32 c.dl) rfl rfl)) (unhide hS_) ?_
              simp only [nrm]
              refine any_tk 10 (.int .u32 (c.dl + 4)) (tf 46 10) rfl (fun x_ hu => add_32 _ (.tmp 91) (.const (.int .u32 4)) c.dl 4 rfl (by kernel_rfl) (by kernel_rfl) _ rfl (by omega)) (unhide hS_) ?_
              simp only [nrm]
              refine any_tk 11 (.bool false) (tf 46 11) rfl (fun x_ hu => geq_32 _ (.tmp 89) (.tmp 92) s.n (c.dl + 4) false rfl (by kernel_rfl) (by kernel_rfl) (decide_eq_false q2)) (unhide hS_) ?_
              simp only [nrm]
              refine any_tk 12 (.bool false) (tf 46 12) rfl (fun x_ hu => by kernel_rfl) (unhide hS_) ?_
              simp only [nrm]
              refine any_tk 13 (.bool false) (tf 46 13) rfl (fun x_ hu => by kernel_rfl) (unhide hS_) ?_
              simp only [nrm]
              refine any_tk 14 (.pointer (some ⟨g7, 0, none⟩)) (tf 46 14) rfl (fun x_ hu => by kernel_rfl) (unhide hS_) ?_
              simp only [nrm]
              refine any_tk 15 (.int .u32 s.n) (tf 46 15) rfl (fun x_ hu => exec_c32 _ (.tmp 96) rfl (g7) 0 (by kernel_rfl) s.n (seg_cell (nI  _ _) hu.2.1 0 (v := .int .u32 s.n) rfl rfl)) (unhide hS_) ?_
              simp only [nrm]
              refine any_tk 16 (.bool false) (tf 46 16) rfl (fun x_ hu => geq_32 _ (.tmp 97) (.const (.int .u32 2147483648)) s.n 2147483648 false rfl (by kernel_rfl) (by kernel_rfl) (decide_eq_false q3)) (unhide hS_) ?_
              simp only [nrm]
              refine any_tk 17 (.bool false) (tf 46 17) rfl (fun x_ hu => by kernel_rfl) (unhide hS_) ?_
              simp only [nrm]
              refine any_tk 18 (.bool false) (tf 46 18) rfl (fun x_ hu => by kernel_rfl) (unhide hS_) ?_
              simp only [nrm]
              refine any_tk 19 (.int .i64 ((i + 1 : Nat) : Int)) (tf 46 19) rfl (fun x_ hu => by kernel_rfl) (unhide hS_) ?_
              simp only [nrm]
              refine any_tk 20 (.bool true) (tf 46 20) rfl (fun x_ hu => gtr_i _ (.tmp 101) (.const (.int .i64 0)) ((i + 1 : Nat) : Int) 0 true rfl (by kernel_rfl) (by kernel_rfl) (decide_eq_true (by omega))) (unhide hS_) ?_
              simp only [nrm]
              refine any_tk 21 (.bool true) (tf 46 21) rfl (fun x_ hu => by kernel_rfl) (unhide hS_) ?_
              simp only [nrm]
              refine any_tk 22 (.pointer (some ⟨g7, 0, none⟩)) (tf 46 22) rfl (fun x_ hu => by kernel_rfl) (unhide hS_) ?_
              simp only [nrm]
              refine any_tk 23 (.int .u32 s.n) (tf 46 23) rfl (fun x_ hu => exec_c32 _ (.tmp 104) rfl (g7) 0 (by kernel_rfl) s.n (seg_cell (nI  _ _) hu.2.1 0 (v := .int .u32 s.n) rfl rfl)) (unhide hS_) ?_
              simp only [nrm]
              refine any_tk 24 (.pointer (some ⟨w.heap.size, 4, none⟩)) (tf 46 24) rfl (fun x_ hu => by kernel_rfl) (unhide hS_) ?_
              simp only [nrm]
              refine any_tk 25 (.slice x.ah x.nh x.ch) (tf 46 25) rfl (fun x_ hu => exec_csI _ (.tmp 106) rfl (w.heap.size) 4 (by kernel_rfl) x.ah x.nh x.ch (seg_cell (nC  _ _ _ _ _) hu.1 4 (v := .slice x.ah x.nh x.ch) rfl rfl)) (unhide hS_) ?_
              simp only [nrm]
              refine any_tk 26 (.int .i64 ((i + 1 : Nat) : Int)) (tf 46 26) rfl (fun x_ hu => by kernel_rfl) (unhide hS_) ?_
              simp only [nrm]
              refine any_tk 27 (.int .i64 (i : Int)) (tf 46 27) rfl (fun x_ hu => sub_i _ (.tmp 108) (.const (.int .i64 1)) ((i + 1 : Nat) : Int) 1 rfl (by kernel_rfl) (by kernel_rfl) _ (by omega) (by omega)) (unhide hS_) ?_
              simp only [nrm]
              refine any_tk 28 (.pointer (some ⟨p2, o2 + 2 * i, none⟩)) (tf 46 28) rfl (fun x_ hu => exec_isi _ (.tmp 107) (.tmp 109) rfl p2 o2 x.nh x.ch i (by rw [← unhide ha2]; kernel_rfl) (by kernel_rfl) hi1) (unhide hS_) ?_
              simp only [nrm]
              refine any_tk 29 (.pointer (some ⟨p2, o2 + 2 * i, none⟩)) (tf 46 29) rfl (fun x_ hu => by kernel_rfl) (unhide hS_) ?_
              simp only [nrm]
              refine any_tk 30 (.int .u32 u.n) (tf 46 30) rfl (fun x_ hu => exec_c32 _ (.tmp 111) rfl p2 (o2 + 2 * i) (by kernel_rfl) u.n (hu.2.2.cell (unhide hr3))) (unhide hS_) ?_
              simp only [nrm]
              refine any_tk 31 (.bool false) (tf 46 31) rfl (fun x_ hu => leq_32 _ (.tmp 105) (.tmp 112) s.n u.n false rfl (by kernel_rfl) (by kernel_rfl) (decide_eq_false q4)) (unhide hS_) ?_
              simp only [nrm]
              refine any_tk 32 (.bool false) (tf 46 32) rfl (fun x_ hu => by kernel_rfl) (unhide hS_) ?_
              simp only [nrm]
              refine any_tk 33 (.bool false) (tf 46 33) rfl (fun x_ hu => by kernel_rfl) (unhide hS_) ?_
              simp only [nrm]
              refine any_tk 34 (.bool false) (tf 46 34) rfl (fun x_ hu => by kernel_rfl) (unhide hS_) ?_
              simp only [nrm]
              refine any_tk 35 (.pointer (some ⟨g7, 1, none⟩)) (tf 46 35) rfl (fun x_ hu => by kernel_rfl) (unhide hS_) ?_
              simp only [nrm]
              refine any_tk 36 (.string s.s) (tf 46 36) rfl (fun x_ hu => exec_cst _ (.tmp 117) rfl (g7) 1 (by kernel_rfl) s.s (seg_cell (nI  _ _) hu.2.1 1 (v := .string s.s) rfl rfl)) (unhide hS_) ?_
              simp only [nrm]
              refine any_tk 37 (.int .i64 (s.s.size : Int)) (tf 46 37) rfl (fun x_ hu => len_st _ (.tmp 118) s.s (by omega) rfl (by kernel_rfl)) (unhide hS_) ?_
              simp only [nrm]
              refine any_tk 38 (.bool false) (tf 46 38) rfl (fun x_ hu => lss_i _ (.tmp 119) (.const (.int .i64 1)) (s.s.size : Int) 1 false rfl (by kernel_rfl) (by kernel_rfl) (decide_eq_false q5)) (unhide hS_) ?_
              simp only [nrm]
              refine any_tk 39 (.bool false) (tf 46 39) rfl (fun x_ hu => by kernel_rfl) (unhide hS_) ?_
              simp only [nrm]
              refine any_tk 40 (.bool false) (tf 46 40) rfl (fun x_ hu => by kernel_rfl) (unhide hS_) ?_
              simp only [nrm]
              refine any_tk 41 (.pointer (some ⟨g7, 1, none⟩)) (tf 46 41) rfl (fun x_ hu => by kernel_rfl) (unhide hS_) ?_
              simp only [nrm]
              refine any_tk 42 (.string s.s) (tf 46 42) rfl (fun x_ hu => exec_cst _ (.tmp 123) rfl (g7) 1 (by kernel_rfl) s.s (seg_cell (nI  _ _) hu.2.1 1 (v := .string s.s) rfl rfl)) (unhide hS_) ?_
              simp only [nrm]
              refine any_tk 43 (.int .i64 (s.s.size : Int)) (tf 46 43) rfl (fun x_ hu => len_st _ (.tmp 124) s.s (by omega) rfl (by kernel_rfl)) (unhide hS_) ?_
              simp only [nrm]
              refine any_tk 44 (.bool false) (tf 46 44) rfl (fun x_ hu => gtr_i _ (.tmp 125) (.const (.int .i64 48)) (s.s.size : Int) 48 false rfl (by kernel_rfl) (by kernel_rfl) (decide_eq_false q6)) (unhide hS_) ?_
              simp only [nrm]
              refine any_tk 45 (.bool false) (tf 46 45) rfl (fun x_ hu => by kernel_rfl) (unhide hS_) ?_
              simp only [nrm]
              refine any_done (by kernel_rfl) ?_
              clear hS_
              replace hB := Bl.left (L := [⟨w.heap.size, fl [[.int .u32 c.nx], [.slice x.ao x.no x.co], [.int .i64 c.tn], [.int .u32 c.dl], [.slice x.ah x.nh x.ch]], 26⟩]) (M := [⟨g7, fl [[.int .u32 s.n], [.string s.s]], 47⟩]) hB
              have jw : IntKind.i64.wrap ((((i + 1) : Nat) : Int) + 1) = (((i + 1) : Nat) : Int) + 1 := by rw [IntKind.wrap_i64]; omega
              replace hB := hide hB
              clear hs1 hsj hok hz
              go_wp2_with fail
              go_roundw
              case rel => exact ⟨(i + 1) + 1, by omega, by simp <;> omega, hs2, hB⟩
              case measure => simp [intOf]; omega
          · have jI : ¬ (j : Int) < (x.nh : Int) := by omega
            have hv : rt c = true := rt_mk (by rw [hn, hm]; omega) (unhide ht) (unhide hS1) (by
              obtain ⟨f, hs1, _, _⟩ := unhide hs
              rw [← he1, hs1, List.drop_eq_nil_of_le (by omega)]
              rfl)
            clear hs
            replace hB := hide hB
            go_upto_region 18 with fail
            replace hB := unhide hB
            refine wp_region_lit ?_
            (refine wpList_step fun K hK => ?_; replace hK := hide hK; go_simp; refine unhide hK _ _ ?_; clear hK K)
            refine wpList_nil ?_
            replace hB := hide hB
            go_wp2_with fail
            replace hB := unhide hB
            rw [unhide hT]
            exact (⟨by rw [hv] <;> rfl, hB.gr⟩)
        · have hv : rt c = false := rt_no2 (by rw [hn]; omega)
          refine wp_region_lit ?_
          refine wpList_gen fun ops_ hops => ?_
          replace hops := hide hops
          refine list_val (.pointer (some ⟨w.heap.size, 2, none⟩)) (by rw [unhide hops]; kernel_rfl) (by kernel_rfl) ?_
          simp only [nrm]
          refine list_val (.int .i64 c.tn) (by rw [unhide hops]; kernel_rfl) (exec_ci _ (.tmp 55) rfl (w.heap.size) 2 (by kernel_rfl) c.tn (seg_cell (nC  _ _ _ _ _) (hB.get 0 (x := ⟨w.heap.size, fl [[.int .u32 c.nx], [.slice x.ao x.no x.co], [.int .i64 c.tn], [.int .u32 c.dl], [.slice x.ah x.nh x.ch]], 26⟩) rfl) 2 (v := .int .i64 c.tn) rfl rfl)) ?_
          simp only [nrm]
          refine list_val (.bool false) (by rw [unhide hops]; kernel_rfl) (lss_i _ (.tmp 56) (.const (.int .i64 0)) c.tn 0 false rfl (by kernel_rfl) (by kernel_rfl) (decide_eq_false h6)) ?_
          simp only [nrm]
          refine list_val (.bool false) (by rw [unhide hops]; kernel_rfl) (by kernel_rfl) ?_
          simp only [nrm]
          refine list_val (.pointer (some ⟨w.heap.size, 2, none⟩)) (by rw [unhide hops]; kernel_rfl) (by kernel_rfl) ?_
          simp only [nrm]
          refine list_val (.int .i64 c.tn) (by rw [unhide hops]; kernel_rfl) (exec_ci _ (.tmp 59) rfl (w.heap.size) 2 (by kernel_rfl) c.tn (seg_cell (nC  _ _ _ _ _) (hB.get 0 (x := ⟨w.heap.size, fl [[.int .u32 c.nx], [.slice x.ao x.no x.co], [.int .i64 c.tn], [.int .u32 c.dl], [.slice x.ah x.nh x.ch]], 26⟩) rfl) 2 (v := .int .i64 c.tn) rfl rfl)) ?_
          simp only [nrm]
          refine list_val (.int .i64 (x.no : Int)) (by rw [unhide hops]; kernel_rfl) (by kernel_rfl) ?_
          simp only [nrm]
          refine list_val (.bool true) (by rw [unhide hops]; kernel_rfl) (geq_i _ (.tmp 60) (.tmp 61) c.tn (x.no : Int) true rfl (by kernel_rfl) (by kernel_rfl) (decide_eq_true h7)) ?_
          simp only [nrm]
          refine list_val (.bool true) (by rw [unhide hops]; kernel_rfl) (by kernel_rfl) ?_
          simp only [nrm]
          refine list_val (.int .i64 (x.no : Int)) (by rw [unhide hops]; kernel_rfl) (by kernel_rfl) ?_
          simp only [nrm]
          refine list_val (.bool true) (by rw [unhide hops]; kernel_rfl) (eql_i _ (.tmp 64) (.const (.int .i64 0)) (x.no : Int) 0 true rfl (by kernel_rfl) (by kernel_rfl) (decide_eq_true (by omega))) ?_
          simp only [nrm]
          refine list_val (.bool true) (by rw [unhide hops]; kernel_rfl) (by kernel_rfl) ?_
          simp only [nrm]
          refine list_val (.pointer (some ⟨w.heap.size, 2, none⟩)) (by rw [unhide hops]; kernel_rfl) (by kernel_rfl) ?_
          simp only [nrm]
          refine list_val (.int .i64 c.tn) (by rw [unhide hops]; kernel_rfl) (exec_ci _ (.tmp 67) rfl (w.heap.size) 2 (by kernel_rfl) c.tn (seg_cell (nC  _ _ _ _ _) (hB.get 0 (x := ⟨w.heap.size, fl [[.int .u32 c.nx], [.slice x.ao x.no x.co], [.int .i64 c.tn], [.int .u32 c.dl], [.slice x.ah x.nh x.ch]], 26⟩) rfl) 2 (v := .int .i64 c.tn) rfl rfl)) ?_
          simp only [nrm]
          refine list_val (.bool false) (by rw [unhide hops]; kernel_rfl) (eql_i _ (.tmp 68) (.const (.int .i64 0)) c.tn 0 false rfl (by kernel_rfl) (by kernel_rfl) (decide_eq_false h9)) ?_
          simp only [nrm]
          refine list_val (.bool false) (by rw [unhide hops]; kernel_rfl) (by kernel_rfl) ?_
          simp only [nrm]
          refine list_val (.bool true) (by rw [unhide hops]; kernel_rfl) (by kernel_rfl) ?_
          simp only [nrm]
          refine list_val (.bool true) (by rw [unhide hops]; kernel_rfl) (by kernel_rfl) ?_
          simp only [nrm]
          refine list_val (.bool true) (by rw [unhide hops]; kernel_rfl) (by kernel_rfl) ?_
          simp only [nrm]
          refine wpList_nil ?_
          replace hB := hide hB
          go_upto_region 11 with fail
          replace hB := unhide hB
          refine wp_region_lit ?_
          (refine wpList_step fun K hK => ?_; replace hK := hide hK; go_simp; refine unhide hK _ _ ?_; clear hK K)
          refine wpList_nil ?_
          replace hB := hide hB
          go_wp2_with fail
          replace hB := unhide hB
          rw [unhide hT]
          exact (⟨by rw [hv] <;> rfl, hB.gr⟩)
      · have hv : rt c = false := rt_no2 (by rw [hn]; omega)
        refine wp_region_lit ?_
        refine wpList_gen fun ops_ hops => ?_
        replace hops := hide hops
        refine list_val (.pointer (some ⟨w.heap.size, 2, none⟩)) (by rw [unhide hops]; kernel_rfl) (by kernel_rfl) ?_
        simp only [nrm]
        refine list_val (.int .i64 c.tn) (by rw [unhide hops]; kernel_rfl) (exec_ci _ (.tmp 55) rfl (w.heap.size) 2 (by kernel_rfl) c.tn (seg_cell (nC  _ _ _ _ _) (hB.get 0 (x := ⟨w.heap.size, fl [[.int .u32 c.nx], [.slice x.ao x.no x.co], [.int .i64 c.tn], [.int .u32 c.dl], [.slice x.ah x.nh x.ch]], 26⟩) rfl) 2 (v := .int .i64 c.tn) rfl rfl)) ?_
        simp only [nrm]
        refine list_val (.bool false) (by rw [unhide hops]; kernel_rfl) (lss_i _ (.tmp 56) (.const (.int .i64 0)) c.tn 0 false rfl (by kernel_rfl) (by kernel_rfl) (decide_eq_false h6)) ?_
        simp only [nrm]
        refine list_val (.bool false) (by rw [unhide hops]; kernel_rfl) (by kernel_rfl) ?_
        simp only [nrm]
        refine list_val (.pointer (some ⟨w.heap.size, 2, none⟩)) (by rw [unhide hops]; kernel_rfl) (by kernel_rfl) ?_
        simp only [nrm]
        refine list_val (.int .i64 c.tn) (by rw [unhide hops]; kernel_rfl) (exec_ci _ (.tmp 59) rfl (w.heap.size) 2 (by kernel_rfl) c.tn (seg_cell (nC  _ _ _ _ _) (hB.get 0 (x := ⟨w.heap.size, fl [[.int .u32 c.nx], [.slice x.ao x.no x.co], [.int .i64 c.tn], [.int .u32 c.dl], [.slice x.ah x.nh x.ch]], 26⟩) rfl) 2 (v := .int .i64 c.tn) rfl rfl)) ?_
        simp only [nrm]
        refine list_val (.int .i64 (x.no : Int)) (by rw [unhide hops]; kernel_rfl) (by kernel_rfl) ?_
        simp only [nrm]
        refine list_val (.bool true) (by rw [unhide hops]; kernel_rfl) (geq_i _ (.tmp 60) (.tmp 61) c.tn (x.no : Int) true rfl (by kernel_rfl) (by kernel_rfl) (decide_eq_true h7)) ?_
        simp only [nrm]
        refine list_val (.bool true) (by rw [unhide hops]; kernel_rfl) (by kernel_rfl) ?_
        simp only [nrm]
        refine list_val (.int .i64 (x.no : Int)) (by rw [unhide hops]; kernel_rfl) (by kernel_rfl) ?_
        simp only [nrm]
        refine list_val (.bool false) (by rw [unhide hops]; kernel_rfl) (eql_i _ (.tmp 64) (.const (.int .i64 0)) (x.no : Int) 0 false rfl (by kernel_rfl) (by kernel_rfl) (decide_eq_false (by omega))) ?_
        simp only [nrm]
        refine list_val (.bool false) (by rw [unhide hops]; kernel_rfl) (by kernel_rfl) ?_
        simp only [nrm]
        refine list_off (by rw [unhide hops]; kernel_rfl) ?_
        simp only [nrm]
        refine list_off (by rw [unhide hops]; kernel_rfl) ?_
        simp only [nrm]
        refine list_off (by rw [unhide hops]; kernel_rfl) ?_
        simp only [nrm]
        refine list_val (.bool false) (by rw [unhide hops]; kernel_rfl) (by kernel_rfl) ?_
        simp only [nrm]
        refine list_val (.bool true) (by rw [unhide hops]; kernel_rfl) (by kernel_rfl) ?_
        simp only [nrm]
        refine list_val (.bool true) (by rw [unhide hops]; kernel_rfl) (by kernel_rfl) ?_
        simp only [nrm]
        refine list_val (.bool true) (by rw [unhide hops]; kernel_rfl) (by kernel_rfl) ?_
        simp only [nrm]
        refine wpList_nil ?_
        replace hB := hide hB
        go_upto_region 11 with fail
        replace hB := unhide hB
        refine wp_region_lit ?_
        (refine wpList_step fun K hK => ?_; replace hK := hide hK; go_simp; refine unhide hK _ _ ?_; clear hK K)
        refine wpList_nil ?_
        replace hB := hide hB
        go_wp2_with fail
        replace hB := unhide hB
        rw [unhide hT]
        exact (⟨by rw [hv] <;> rfl, hB.gr⟩)
    · have ht : 0 ≤ c.tn ∧ c.tn < max (c.O.length : Int) 1 := by rw [hn]; omega
      replace ht := hide ht
      refine wp_region_lit ?_
      refine wpList_gen fun ops_ hops => ?_
      replace hops := hide hops
      refine list_val (.pointer (some ⟨w.heap.size, 2, none⟩)) (by rw [unhide hops]; kernel_rfl) (by kernel_rfl) ?_
      simp only [nrm]
      refine list_val (.int .i64 c.tn) (by rw [unhide hops]; kernel_rfl) (exec_ci _ (.tmp 55) rfl (w.heap.size) 2 (by kernel_rfl) c.tn (seg_cell (nC  _ _ _ _ _) (hB.get 0 (x := ⟨w.heap.size, fl [[.int .u32 c.nx], [.slice x.ao x.no x.co], [.int .i64 c.tn], [.int .u32 c.dl], [.slice x.ah x.nh x.ch]], 26⟩) rfl) 2 (v := .int .i64 c.tn) rfl rfl)) ?_
      simp only [nrm]
      refine list_val (.bool false) (by rw [unhide hops]; kernel_rfl) (lss_i _ (.tmp 56) (.const (.int .i64 0)) c.tn 0 false rfl (by kernel_rfl) (by kernel_rfl) (decide_eq_false h6)) ?_
      simp only [nrm]
      refine list_val (.bool false) (by rw [unhide hops]; kernel_rfl) (by kernel_rfl) ?_
      simp only [nrm]
      refine list_val (.pointer (some ⟨w.heap.size, 2, none⟩)) (by rw [unhide hops]; kernel_rfl) (by kernel_rfl) ?_
      simp only [nrm]
      refine list_val (.int .i64 c.tn) (by rw [unhide hops]; kernel_rfl) (exec_ci _ (.tmp 59) rfl (w.heap.size) 2 (by kernel_rfl) c.tn (seg_cell (nC  _ _ _ _ _) (hB.get 0 (x := ⟨w.heap.size, fl [[.int .u32 c.nx], [.slice x.ao x.no x.co], [.int .i64 c.tn], [.int .u32 c.dl], [.slice x.ah x.nh x.ch]], 26⟩) rfl) 2 (v := .int .i64 c.tn) rfl rfl)) ?_
      simp only [nrm]
      refine list_val (.int .i64 (x.no : Int)) (by rw [unhide hops]; kernel_rfl) (by kernel_rfl) ?_
      simp only [nrm]
      refine list_val (.bool false) (by rw [unhide hops]; kernel_rfl) (geq_i _ (.tmp 60) (.tmp 61) c.tn (x.no : Int) false rfl (by kernel_rfl) (by kernel_rfl) (decide_eq_false h7)) ?_
      simp only [nrm]
      refine list_val (.bool false) (by rw [unhide hops]; kernel_rfl) (by kernel_rfl) ?_
      simp only [nrm]
      refine list_off (by rw [unhide hops]; kernel_rfl) ?_
      simp only [nrm]
      refine list_off (by rw [unhide hops]; kernel_rfl) ?_
      simp only [nrm]
      refine list_off (by rw [unhide hops]; kernel_rfl) ?_
      simp only [nrm]
      refine list_off (by rw [unhide hops]; kernel_rfl) ?_
      simp only [nrm]
      refine list_off (by rw [unhide hops]; kernel_rfl) ?_
      simp only [nrm]
      refine list_off (by rw [unhide hops]; kernel_rfl) ?_
      simp only [nrm]
      refine list_off (by rw [unhide hops]; kernel_rfl) ?_
      simp only [nrm]
      refine list_off (by rw [unhide hops]; kernel_rfl) ?_
      simp only [nrm]
      refine list_val (.bool false) (by rw [unhide hops]; kernel_rfl) (by kernel_rfl) ?_
      simp only [nrm]
      refine list_val (.bool false) (by rw [unhide hops]; kernel_rfl) (by kernel_rfl) ?_
      simp only [nrm]
      refine wpList_nil ?_
      replace hB := hide hB
      go_upto_region 12 with fail
      replace hB := unhide hB
      refine wp_region_lit ?_
      refine lvk (.pointer (some ⟨w.heap.size, 4, none⟩)) ?_
      simp only [nrm]
      refine list_val (.slice x.ah x.nh x.ch) (by kernel_rfl) (exec_csI _ (.tmp 74) rfl (w.heap.size) 4 (by kernel_rfl) x.ah x.nh x.ch (seg_cell (nC  _ _ _ _ _) (hB.get 0 (x := ⟨w.heap.size, fl [[.int .u32 c.nx], [.slice x.ao x.no x.co], [.int .i64 c.tn], [.int .u32 c.dl], [.slice x.ah x.nh x.ch]], 26⟩) rfl) 4 (v := .slice x.ah x.nh x.ch) rfl rfl)) ?_
      simp only [nrm]
      refine lvk (.int .i64 (x.nh : Int)) ?_
      simp only [nrm]
      refine lvk (.int .i64 0) ?_
      simp only [nrm]
      refine wpList_nil ?_
      obtain ⟨e, he⟩ : ∃ e, e = min (c.dl + 4) 2147483648 := ⟨_, rfl⟩
      have he1 : e = min (c.dl + 4) 2147483648 := he
      replace he := hide he
      have hB0 := hide hB
      clear hB
      go_wp2_with fail
      go_loopw [77] (fun i wr => ∃ j : Nat, j ≤ x.nh ∧ i = .int .i64 (j : Int) ∧ Hid (∃ f, rises c.dl e c.H = rises f e (c.H.drop j) ∧ c.dl ≤ f ∧ ((j = 0 ∧ f = c.dl) ∨ ∃ u, 0 < j ∧ c.H[j - 1]? = some u ∧ f = u.n)) ∧ Hid (Bl w [⟨w.heap.size, fl [[.int .u32 c.nx], [.slice x.ao x.no x.co], [.int .i64 c.tn], [.int .u32 c.dl], [.slice x.ah x.nh x.ch]], 26⟩] wr)) (fun i _ => x.nh - (intOf i).toNat)
      case atStart => exact ⟨0, by omega, rfl, hide ⟨c.dl, by rw [List.drop_zero], by omega, .inl ⟨rfl, rfl⟩⟩, hB0⟩
      case round =>
      clear hB0
      obtain ⟨j, hj, rfl, hs, hB0⟩ := hrel
      have hB := unhide hB0
      clear hB0
      by_cases hlt : j < x.nh
      · have jI : (j : Int) < (x.nh : Int) := by omega
        obtain ⟨f, hs1, hfd, hf⟩ := unhide hs
        clear hs
        obtain ⟨s, hsj⟩ : ∃ s, c.H[j]? = some s := ⟨_, List.getElem?_eq_getElem (by omega)⟩
        have hok := ((unhide hc).h).ok j s hsj
        obtain ⟨p, o, ha, hr⟩ := ((unhide hc).h.gr hB.gr).at_ j s hsj
        rw [rises_step _ _ _ j s hsj] at hs1
        have hsn := hok.1
        have hss := hok.2
        replace hr := hide hr; replace hsj := hide hsj; replace ha := hide ha; replace hs1 := hide hs1; replace hok := hide hok; replace hf := hide hf
        replace hB := hide hB
        go_upto_region 14 with fail
        replace hB := unhide hB
        refine wp_region_lit ?_
        refine lvk (.int .i64 (j : Int)) ?_
        simp only [nrm]
        refine list_val (.pointer (some ⟨p, o + 2 * j, none⟩)) (by kernel_rfl) (exec_isi _ (.tmp 75) (.tmp 77) rfl p o x.nh x.ch j (by rw [← unhide ha]; kernel_rfl) (by kernel_rfl) hlt) ?_
        simp only [nrm]
        refine list_val (.agg (fl [[.int .u32 s.n], [.string s.s]])) (by kernel_rfl) (exec_li _ (.tmp 80) rfl p (o + 2 * j) (by kernel_rfl) s (unhide hr)) ?_
        simp only [nrm]
        refine list_valw (.pointer (some ⟨wr.heap.size, 0, none⟩)) (wr.alloc (.cells (fl [[.int .u32 0], [.string ByteArray.empty]]) 47 (0, 0))) (by kernel_rfl) (by kernel_rfl) ?_
        replace hB := hB.new (fl [[.int .u32 0], [.string ByteArray.empty]]) 47
        simp only [List.nil_append, List.cons_append] at hB
        generalize World.alloc _ _ = u3 at *
        generalize wr.heap.size = g7 at *
        simp only [nrm]
        (refine wpList_step fun K hK => ?_; replace hK := hide hK; go_simp; refine unhide hK _ _ ?_; clear hK K)
        refine list_all 47 (.tmp 7) (.tmp 81) (g7) (S2 := [[.int .u32 s.n], [.string s.s]]) (by kernel_rfl) rfl (by kernel_rfl) (by kernel_rfl) hB 1 rfl NI (nI  _ _) (nI  _ _) (by kernel_rfl) (oI  rfl rfl) ?_
        intro u4 hB_ hbt_
        clear hB
        replace hB : Bl w [⟨w.heap.size, fl [[.int .u32 c.nx], [.slice x.ao x.no x.co], [.int .i64 c.tn], [.int .u32 c.dl], [.slice x.ah x.nh x.ch]], 26⟩, ⟨g7, fl [[.int .u32 s.n], [.string s.s]], 47⟩] u4 := hB_
        clear hB_
        clear hbt_
        simp only [nrm]
        refine wpList_nil ?_
        clear hr ha
        by_cases q1 : s.n ≤ c.dl
        · skip
          have hv : rt c = false := rt_no4 (by rw [← he1, unhide hs1, decide_eq_false (show ¬ f < s.n by omega), Bool.false_and, Bool.false_and, Bool.false_and])
          replace hB := hide hB
          go_upto_region 15 with fail
          replace hB := unhide hB
          refine any_start (S := fun v_ => v_.heap[w.heap.size]? = some (.cells (fl [[.int .u32 c.nx], [.slice x.ao x.no x.co], [.int .i64 c.tn], [.int .u32 c.dl], [.slice x.ah x.nh x.ch]]) 26 (0, 0)) ∧ v_.heap[g7]? = some (.cells (fl [[.int .u32 s.n], [.string s.s]]) 47 (0, 0))) (by kernel_rfl) ?_
          replace hB := hB.drew
          generalize World.drew _ = u5 at *
          simp only [List.size_toArray, List.length_cons, List.length_nil, Array.replicate, List.replicate]
          have hS_ := hide (show (fun v_ => v_.heap[w.heap.size]? = some (.cells (fl [[.int .u32 c.nx], [.slice x.ao x.no x.co], [.int .i64 c.tn], [.int .u32 c.dl], [.slice x.ah x.nh x.ch]]) 26 (0, 0)) ∧ v_.heap[g7]? = some (.cells (fl [[.int .u32 s.n], [.string s.s]]) 47 (0, 0))) u5 from ⟨(hB.get 0 (x := ⟨w.heap.size, fl [[.int .u32 c.nx], [.slice x.ao x.no x.co], [.int .i64 c.tn], [.int .u32 c.dl], [.slice x.ah x.nh x.ch]], 26⟩) rfl), (hB.get 1 (x := ⟨g7, fl [[.int .u32 s.n], [.string s.s]], 47⟩) rfl)⟩)
          refine any_tk 0 (.pointer (some ⟨g7, 0, none⟩)) (tf 46 0) rfl (fun x_ hu => by kernel_rfl) (unhide hS_) ?_
          simp only [nrm]
          refine any_tk 1 (.int .u32 s.n) (tf 46 1) rfl (fun x_ hu => exec_c32 _ (.tmp 82) rfl (g7) 0 (by kernel_rfl) s.n (seg_cell (nI  _ _) hu.2 0 (v := .int .u32 s.n) rfl rfl)) (unhide hS_) ?_
          simp only [nrm]
          refine any_tk 2 (.pointer (some ⟨w.heap.size, 3, none⟩)) (tf 46 2) rfl (fun x_ hu => by kernel_rfl) (unhide hS_) ?_
          simp only [nrm]
          refine any_tk 3 (.int .u32 c.dl) (tf 46 3) rfl (fun x_ hu => exec_c32 _ (.tmp 84) rfl (w.heap.size) 3 (by kernel_rfl) c.dl (seg_cell (nC  _ _ _ _ _) hu.1 3 (v := .int .u32 c.dl) rfl rfl)) (unhide hS_) ?_
          simp only [nrm]
          refine any_tk 4 (.bool true) (tf 46 4) rfl (fun x_ hu => leq_32 _ (.tmp 83) (.tmp 85) s.n c.dl true rfl (by kernel_rfl) (by kernel_rfl) (decide_eq_true q1)) (unhide hS_) ?_
          simp only [nrm]
          refine any_tk 5 (.bool true) (tf 46 5) rfl (fun x_ hu => by kernel_rfl) (unhide hS_) ?_
          simp only [nrm]
          refine any_to 6 (tf 46 6) rfl (unhide hS_) ?_
          simp only [nrm]
          refine any_to 7 (tf 46 7) rfl (unhide hS_) ?_
          simp only [nrm]
          refine any_to 8 (tf 46 8) rfl (unhide hS_) ?_
          simp only [nrm]
          refine any_to 9 (tf 46 9) rfl (unhide hS_) ?_
          simp only [nrm]
          refine any_to 10 (tf 46 10) rfl (unhide hS_) ?_
          simp only [nrm]
          refine any_to 11 (tf 46 11) rfl (unhide hS_) ?_
          simp only [nrm]
          refine any_tk 12 (.bool true) (tf 46 12) rfl (fun x_ hu => by kernel_rfl) (unhide hS_) ?_
          simp only [nrm]
          refine any_tk 13 (.bool true) (tf 46 13) rfl (fun x_ hu => by kernel_rfl) (unhide hS_) ?_
          simp only [nrm]
          refine any_to 14 (tf 46 14) rfl (unhide hS_) ?_
          simp only [nrm]
          refine any_to 15 (tf 46 15) rfl (unhide hS_) ?_
          simp only [nrm]
          refine any_to 16 (tf 46 16) rfl (unhide hS_) ?_
          simp only [nrm]
          refine any_tk 17 (.bool true) (tf 46 17) rfl (fun x_ hu => by kernel_rfl) (unhide hS_) ?_
          simp only [nrm]
          refine any_tk 18 (.bool true) (tf 46 18) rfl (fun x_ hu => by kernel_rfl) (unhide hS_) ?_
          simp only [nrm]
          refine any_to 19 (tf 46 19) rfl (unhide hS_) ?_
          simp only [nrm]
          refine any_to 20 (tf 46 20) rfl (unhide hS_) ?_
          simp only [nrm]
          refine any_to 21 (tf 46 21) rfl (unhide hS_) ?_
          simp only [nrm]
          refine any_to 22 (tf 46 22) rfl (unhide hS_) ?_
          simp only [nrm]
          refine any_to 23 (tf 46 23) rfl (unhide hS_) ?_
          simp only [nrm]
          refine any_to 24 (tf 46 24) rfl (unhide hS_) ?_
          simp only [nrm]
          refine any_to 25 (tf 46 25) rfl (unhide hS_) ?_
          simp only [nrm]
          refine any_to 26 (tf 46 26) rfl (unhide hS_) ?_
          simp only [nrm]
          refine any_to 27 (tf 46 27) rfl (unhide hS_) ?_
          simp only [nrm]
          refine any_to 28 (tf 46 28) rfl (unhide hS_) ?_
          simp only [nrm]
          refine any_to 29 (tf 46 29) rfl (unhide hS_) ?_
          simp only [nrm]
          refine any_to 30 (tf 46 30) rfl (unhide hS_) ?_
          simp only [nrm]
          refine any_to 31 (tf 46 31) rfl (unhide hS_) ?_
          simp only [nrm]
          refine any_to 32 (tf 46 32) rfl (unhide hS_) ?_
          simp only [nrm]
          refine any_tk 33 (.bool true) (tf 46 33) rfl (fun x_ hu => by kernel_rfl) (unhide hS_) ?_
          simp only [nrm]
          refine any_tk 34 (.bool true) (tf 46 34) rfl (fun x_ hu => by kernel_rfl) (unhide hS_) ?_
          simp only [nrm]
          refine any_to 35 (tf 46 35) rfl (unhide hS_) ?_
          simp only [nrm]
          refine any_to 36 (tf 46 36) rfl (unhide hS_) ?_
          simp only [nrm]
          refine any_to 37 (tf 46 37) rfl (unhide hS_) ?_
          simp only [nrm]
          refine any_to 38 (tf 46 38) rfl (unhide hS_) ?_
          simp only [nrm]
          refine any_tk 39 (.bool true) (tf 46 39) rfl (fun x_ hu => by kernel_rfl) (unhide hS_) ?_
          simp only [nrm]
          refine any_tk 40 (.bool true) (tf 46 40) rfl (fun x_ hu => by kernel_rfl) (unhide hS_) ?_
          simp only [nrm]
          refine any_to 41 (tf 46 41) rfl (unhide hS_) ?_
          simp only [nrm]
          refine any_to 42 (tf 46 42) rfl (unhide hS_) ?_
          simp only [nrm]
          refine any_to 43 (tf 46 43) rfl (unhide hS_) ?_
          simp only [nrm]
          refine any_to 44 (tf 46 44) rfl (unhide hS_) ?_
          simp only [nrm]
          refine any_tk 45 (.bool true) (tf 46 45) rfl (fun x_ hu => by kernel_rfl) (unhide hS_) ?_
          simp only [nrm]
          refine any_done (by kernel_rfl) ?_
          clear hS_
          replace hB := hide hB
          go_upto_region 16 with fail
          replace hB := unhide hB
          refine wp_region_lit ?_
          (refine wpList_step fun K hK => ?_; replace hK := hide hK; go_simp; refine unhide hK _ _ ?_; clear hK K)
          refine wpList_nil ?_
          replace hB := hide hB
          go_wp2_with fail
          replace hB := unhide hB
          rw [unhide hT]
          exact (⟨by rw [hv] <;> rfl, hB.gr⟩)
        by_cases q2 : c.dl + 4 ≤ s.n
        · skip
          have hv : rt c = false := rt_no4 (by rw [← he1, unhide hs1, decide_eq_false (show ¬ s.n < e by omega), Bool.and_false, Bool.false_and, Bool.false_and])
          replace hB := hide hB
          go_upto_region 15 with fail
          replace hB := unhide hB
          refine any_start (S := fun v_ => v_.heap[w.heap.size]? = some (.cells (fl [[.int .u32 c.nx], [.slice x.ao x.no x.co], [.int .i64 c.tn], [.int .u32 c.dl], [.slice x.ah x.nh x.ch]]) 26 (0, 0)) ∧ v_.heap[g7]? = some (.cells (fl [[.int .u32 s.n], [.string s.s]]) 47 (0, 0))) (by kernel_rfl) ?_
          replace hB := hB.drew
          generalize World.drew _ = u5 at *
          simp only [List.size_toArray, List.length_cons, List.length_nil, Array.replicate, List.replicate]
          have hS_ := hide (show (fun v_ => v_.heap[w.heap.size]? = some (.cells (fl [[.int .u32 c.nx], [.slice x.ao x.no x.co], [.int .i64 c.tn], [.int .u32 c.dl], [.slice x.ah x.nh x.ch]]) 26 (0, 0)) ∧ v_.heap[g7]? = some (.cells (fl [[.int .u32 s.n], [.string s.s]]) 47 (0, 0))) u5 from ⟨(hB.get 0 (x := ⟨w.heap.size, fl [[.int .u32 c.nx], [.slice x.ao x.no x.co], [.int .i64 c.tn], [.int .u32 c.dl], [.slice x.ah x.nh x.ch]], 26⟩) rfl), (hB.get 1 (x := ⟨g7, fl [[.int .u32 s.n], [.string s.s]], 47⟩) rfl)⟩)
          refine any_tk 0 (.pointer (some ⟨g7, 0, none⟩)) (tf 46 0) rfl (fun x_ hu => by kernel_rfl) (unhide hS_) ?_
          simp only [nrm]
          refine any_tk 1 (.int .u32 s.n) (tf 46 1) rfl (fun x_ hu => exec_c32 _ (.tmp 82) rfl (g7) 0 (by kernel_rfl) s.n (seg_cell (nI  _ _) hu.2 0 (v := .int .u32 s.n) rfl rfl)) (unhide hS_) ?_
          simp only [nrm]
          refine any_tk 2 (.pointer (some ⟨w.heap.size, 3, none⟩)) (tf 46 2) rfl (fun x_ hu => by kernel_rfl) (unhide hS_) ?_
          simp only [nrm]
          refine any_tk 3 (.int .u32 c.dl) (tf 46 3) rfl (fun x_ hu => exec_c32 _ (.tmp 84) rfl (w.heap.size) 3 (by kernel_rfl) c.dl (seg_cell (nC  _ _ _ _ _) hu.1 3 (v := .int .u32 c.dl) rfl rfl)) (unhide hS_) ?_
          simp only [nrm]
          refine any_tk 4 (.bool false) (tf 46 4) rfl (fun x_ hu => leq_32 _ (.tmp 83) (.tmp 85) s.n c.dl false rfl (by kernel_rfl) (by kernel_rfl) (decide_eq_false q1)) (unhide hS_) ?_
          simp only [nrm]
          refine any_tk 5 (.bool false) (tf 46 5) rfl (fun x_ hu => by kernel_rfl) (unhide hS_) ?_
          simp only [nrm]
          refine any_tk 6 (.pointer (some ⟨g7, 0, none⟩)) (tf 46 6) rfl (fun x_ hu => by kernel_rfl) (unhide hS_) ?_
          simp only [nrm]
          refine any_tk 7 (.int .u32 s.n) (tf 46 7) rfl (fun x_ hu => exec_c32 _ (.tmp 88) rfl (g7) 0 (by kernel_rfl) s.n (seg_cell (nI  _ _) hu.2 0 (v := .int .u32 s.n) rfl rfl)) (unhide hS_) ?_
          simp only [nrm]
          refine any_tk 8 (.pointer (some ⟨w.heap.size, 3, none⟩)) (tf 46 8) rfl (fun x_ hu => by kernel_rfl) (unhide hS_) ?_
          simp only [nrm]
          refine any_tk 9 (.int .u32 c.dl) (tf 46 9) rfl (fun x_ hu => exec_c32 _ (.tmp 90) rfl (w.heap.size) 3 (by kernel_rfl) c.dl (seg_cell (nC  _ _ _ _ _) hu.1 3 (v := .int .u32 c.dl) rfl rfl)) (unhide hS_) ?_
          simp only [nrm]
          refine any_tk 10 (.int .u32 (c.dl + 4)) (tf 46 10) rfl (fun x_ hu => add_32 _ (.tmp 91) (.const (.int .u32 4)) c.dl 4 rfl (by kernel_rfl) (by kernel_rfl) _ rfl (by omega)) (unhide hS_) ?_
          simp only [nrm]
          refine any_tk 11 (.bool true) (tf 46 11) rfl (fun x_ hu => geq_32 _ (.tmp 89) (.tmp 92) s.n (c.dl + 4) true rfl (by kernel_rfl) (by kernel_rfl) (decide_eq_true q2)) (unhide hS_) ?_
          simp only [nrm]
          refine any_tk 12 (.bool true) (tf 46 12) rfl (fun x_ hu => by kernel_rfl) (unhide hS_) ?_
          simp only [nrm]
          refine any_tk 13 (.bool true) (tf 46 13) rfl (fun x_ hu => by kernel_rfl) (unhide hS_) ?_
          simp only [nrm]
          refine any_to 14 (tf 46 14) rfl (unhide hS_) ?_
          simp only [nrm]
          refine any_to 15 (tf 46 15) rfl (unhide hS_) ?_
          simp only [nrm]
          refine any_to 16 (tf 46 16) rfl (unhide hS_) ?_
          simp only [nrm]
          refine any_tk 17 (.bool true) (tf 46 17) rfl (fun x_ hu => by kernel_rfl) (unhide hS_) ?_
          simp only [nrm]
          refine any_tk 18 (.bool true) (tf 46 18) rfl (fun x_ hu => by kernel_rfl) (unhide hS_) ?_
          simp only [nrm]
          refine any_to 19 (tf 46 19) rfl (unhide hS_) ?_
          simp only [nrm]
          refine any_to 20 (tf 46 20) rfl (unhide hS_) ?_
          simp only [nrm]
          refine any_to 21 (tf 46 21) rfl (unhide hS_) ?_
          simp only [nrm]
          refine any_to 22 (tf 46 22) rfl (unhide hS_) ?_
          simp only [nrm]
          refine any_to 23 (tf 46 23) rfl (unhide hS_) ?_
          simp only [nrm]
          refine any_to 24 (tf 46 24) rfl (unhide hS_) ?_
          simp only [nrm]
          refine any_to 25 (tf 46 25) rfl (unhide hS_) ?_
          simp only [nrm]
          refine any_to 26 (tf 46 26) rfl (unhide hS_) ?_
          simp only [nrm]
          refine any_to 27 (tf 46 27) rfl (unhide hS_) ?_
          simp only [nrm]
          refine any_to 28 (tf 46 28) rfl (unhide hS_) ?_
          simp only [nrm]
          refine any_to 29 (tf 46 29) rfl (unhide hS_) ?_
          simp only [nrm]
          refine any_to 30 (tf 46 30) rfl (unhide hS_) ?_
          simp only [nrm]
          refine any_to 31 (tf 46 31) rfl (unhide hS_) ?_
          simp only [nrm]
          refine any_to 32 (tf 46 32) rfl (unhide hS_) ?_
          simp only [nrm]
          refine any_tk 33 (.bool true) (tf 46 33) rfl (fun x_ hu => by kernel_rfl) (unhide hS_) ?_
          simp only [nrm]
          refine any_tk 34 (.bool true) (tf 46 34) rfl (fun x_ hu => by kernel_rfl) (unhide hS_) ?_
          simp only [nrm]
          refine any_to 35 (tf 46 35) rfl (unhide hS_) ?_
          simp only [nrm]
          refine any_to 36 (tf 46 36) rfl (unhide hS_) ?_
          simp only [nrm]
          refine any_to 37 (tf 46 37) rfl (unhide hS_) ?_
          simp only [nrm]
          refine any_to 38 (tf 46 38) rfl (unhide hS_) ?_
          simp only [nrm]
          refine any_tk 39 (.bool true) (tf 46 39) rfl (fun x_ hu => by kernel_rfl) (unhide hS_) ?_
          simp only [nrm]
          refine any_tk 40 (.bool true) (tf 46 40) rfl (fun x_ hu => by kernel_rfl) (unhide hS_) ?_
          simp only [nrm]
          refine any_to 41 (tf 46 41) rfl (unhide hS_) ?_
          simp only [nrm]
          refine any_to 42 (tf 46 42) rfl (unhide hS_) ?_
          simp only [nrm]
          refine any_to 43 (tf 46 43) rfl (unhide hS_) ?_
          simp only [nrm]
          refine any_to 44 (tf 46 44) rfl (unhide hS_) ?_
          simp only [nrm]
          refine any_tk 45 (.bool true) (tf 46 45) rfl (fun x_ hu => by kernel_rfl) (unhide hS_) ?_
          simp only [nrm]
          refine any_done (by kernel_rfl) ?_
          clear hS_
          replace hB := hide hB
          go_upto_region 16 with fail
          replace hB := unhide hB
          refine wp_region_lit ?_
          (refine wpList_step fun K hK => ?_; replace hK := hide hK; go_simp; refine unhide hK _ _ ?_; clear hK K)
          refine wpList_nil ?_
          replace hB := hide hB
          go_wp2_with fail
          replace hB := unhide hB
          rw [unhide hT]
          exact (⟨by rw [hv] <;> rfl, hB.gr⟩)
        by_cases q3 : 2147483648 ≤ s.n
        · skip
          have hv : rt c = false := rt_no4 (by rw [← he1, unhide hs1, decide_eq_false (show ¬ s.n < e by omega), Bool.and_false, Bool.false_and, Bool.false_and])
          replace hB := hide hB
          go_upto_region 15 with fail
          replace hB := unhide hB
          refine any_start (S := fun v_ => v_.heap[w.heap.size]? = some (.cells (fl [[.int .u32 c.nx], [.slice x.ao x.no x.co], [.int .i64 c.tn], [.int .u32 c.dl], [.slice x.ah x.nh x.ch]]) 26 (0, 0)) ∧ v_.heap[g7]? = some (.cells (fl [[.int .u32 s.n], [.string s.s]]) 47 (0, 0))) (by kernel_rfl) ?_
          replace hB := hB.drew
          generalize World.drew _ = u5 at *
          simp only [List.size_toArray, List.length_cons, List.length_nil, Array.replicate, List.replicate]
          have hS_ := hide (show (fun v_ => v_.heap[w.heap.size]? = some (.cells (fl [[.int .u32 c.nx], [.slice x.ao x.no x.co], [.int .i64 c.tn], [.int .u32 c.dl], [.slice x.ah x.nh x.ch]]) 26 (0, 0)) ∧ v_.heap[g7]? = some (.cells (fl [[.int .u32 s.n], [.string s.s]]) 47 (0, 0))) u5 from ⟨(hB.get 0 (x := ⟨w.heap.size, fl [[.int .u32 c.nx], [.slice x.ao x.no x.co], [.int .i64 c.tn], [.int .u32 c.dl], [.slice x.ah x.nh x.ch]], 26⟩) rfl), (hB.get 1 (x := ⟨g7, fl [[.int .u32 s.n], [.string s.s]], 47⟩) rfl)⟩)
          refine any_tk 0 (.pointer (some ⟨g7, 0, none⟩)) (tf 46 0) rfl (fun x_ hu => by kernel_rfl) (unhide hS_) ?_
          simp only [nrm]
          refine any_tk 1 (.int .u32 s.n) (tf 46 1) rfl (fun x_ hu => exec_c32 _ (.tmp 82) rfl (g7) 0 (by kernel_rfl) s.n (seg_cell (nI  _ _) hu.2 0 (v := .int .u32 s.n) rfl rfl)) (unhide hS_) ?_
          simp only [nrm]
          refine any_tk 2 (.pointer (some ⟨w.heap.size, 3, none⟩)) (tf 46 2) rfl (fun x_ hu => by kernel_rfl) (unhide hS_) ?_
          simp only [nrm]
          refine any_tk 3 (.int .u32 c.dl) (tf 46 3) rfl (fun x_ hu => exec_c32 _ (.tmp 84) rfl (w.heap.size) 3 (by kernel_rfl) c.dl (seg_cell (nC  _ _ _ _ _) hu.1 3 (v := .int .u32 c.dl) rfl rfl)) (unhide hS_) ?_
          simp only [nrm]
          refine any_tk 4 (.bool false) (tf 46 4) rfl (fun x_ hu => leq_32 _ (.tmp 83) (.tmp 85) s.n c.dl false rfl (by kernel_rfl) (by kernel_rfl) (decide_eq_false q1)) (unhide hS_) ?_
          simp only [nrm]
          refine any_tk 5 (.bool false) (tf 46 5) rfl (fun x_ hu => by kernel_rfl) (unhide hS_) ?_
          simp only [nrm]
          refine any_tk 6 (.pointer (some ⟨g7, 0, none⟩)) (tf 46 6) rfl (fun x_ hu => by kernel_rfl) (unhide hS_) ?_
          simp only [nrm]
          refine any_tk 7 (.int .u32 s.n) (tf 46 7) rfl (fun x_ hu => exec_c32 _ (.tmp 88) rfl (g7) 0 (by kernel_rfl) s.n (seg_cell (nI  _ _) hu.2 0 (v := .int .u32 s.n) rfl rfl)) (unhide hS_) ?_
          simp only [nrm]
          refine any_tk 8 (.pointer (some ⟨w.heap.size, 3, none⟩)) (tf 46 8) rfl (fun x_ hu => by kernel_rfl) (unhide hS_) ?_
          simp only [nrm]
          refine any_tk 9 (.int .u32 c.dl) (tf 46 9) rfl (fun x_ hu => exec_c32 _ (.tmp 90) rfl (w.heap.size) 3 (by kernel_rfl) c.dl (seg_cell (nC  _ _ _ _ _) hu.1 3 (v := .int .u32 c.dl) rfl rfl)) (unhide hS_) ?_
          simp only [nrm]
          refine any_tk 10 (.int .u32 (c.dl + 4)) (tf 46 10) rfl (fun x_ hu => add_32 _ (.tmp 91) (.const (.int .u32 4)) c.dl 4 rfl (by kernel_rfl) (by kernel_rfl) _ rfl (by omega)) (unhide hS_) ?_
          simp only [nrm]
          refine any_tk 11 (.bool false) (tf 46 11) rfl (fun x_ hu => geq_32 _ (.tmp 89) (.tmp 92) s.n (c.dl + 4) false rfl (by kernel_rfl) (by kernel_rfl) (decide_eq_false q2)) (unhide hS_) ?_
          simp only [nrm]
          refine any_tk 12 (.bool false) (tf 46 12) rfl (fun x_ hu => by kernel_rfl) (unhide hS_) ?_
          simp only [nrm]
          refine any_tk 13 (.bool false) (tf 46 13) rfl (fun x_ hu => by kernel_rfl) (unhide hS_) ?_
          simp only [nrm]
          refine any_tk 14 (.pointer (some ⟨g7, 0, none⟩)) (tf 46 14) rfl (fun x_ hu => by kernel_rfl) (unhide hS_) ?_
          simp only [nrm]
          refine any_tk 15 (.int .u32 s.n) (tf 46 15) rfl (fun x_ hu => exec_c32 _ (.tmp 96) rfl (g7) 0 (by kernel_rfl) s.n (seg_cell (nI  _ _) hu.2 0 (v := .int .u32 s.n) rfl rfl)) (unhide hS_) ?_
          simp only [nrm]
          refine any_tk 16 (.bool true) (tf 46 16) rfl (fun x_ hu => geq_32 _ (.tmp 97) (.const (.int .u32 2147483648)) s.n 2147483648 true rfl (by kernel_rfl) (by kernel_rfl) (decide_eq_true q3)) (unhide hS_) ?_
          simp only [nrm]
          refine any_tk 17 (.bool true) (tf 46 17) rfl (fun x_ hu => by kernel_rfl) (unhide hS_) ?_
          simp only [nrm]
          refine any_tk 18 (.bool true) (tf 46 18) rfl (fun x_ hu => by kernel_rfl) (unhide hS_) ?_
          simp only [nrm]
          refine any_to 19 (tf 46 19) rfl (unhide hS_) ?_
          simp only [nrm]
          refine any_to 20 (tf 46 20) rfl (unhide hS_) ?_
          simp only [nrm]
          refine any_to 21 (tf 46 21) rfl (unhide hS_) ?_
          simp only [nrm]
          refine any_to 22 (tf 46 22) rfl (unhide hS_) ?_
          simp only [nrm]
          refine any_to 23 (tf 46 23) rfl (unhide hS_) ?_
          simp only [nrm]
          refine any_to 24 (tf 46 24) rfl (unhide hS_) ?_
          simp only [nrm]
          refine any_to 25 (tf 46 25) rfl (unhide hS_) ?_
          simp only [nrm]
          refine any_to 26 (tf 46 26) rfl (unhide hS_) ?_
          simp only [nrm]
          refine any_to 27 (tf 46 27) rfl (unhide hS_) ?_
          simp only [nrm]
          refine any_to 28 (tf 46 28) rfl (unhide hS_) ?_
          simp only [nrm]
          refine any_to 29 (tf 46 29) rfl (unhide hS_) ?_
          simp only [nrm]
          refine any_to 30 (tf 46 30) rfl (unhide hS_) ?_
          simp only [nrm]
          refine any_to 31 (tf 46 31) rfl (unhide hS_) ?_
          simp only [nrm]
          refine any_to 32 (tf 46 32) rfl (unhide hS_) ?_
          simp only [nrm]
          refine any_tk 33 (.bool true) (tf 46 33) rfl (fun x_ hu => by kernel_rfl) (unhide hS_) ?_
          simp only [nrm]
          refine any_tk 34 (.bool true) (tf 46 34) rfl (fun x_ hu => by kernel_rfl) (unhide hS_) ?_
          simp only [nrm]
          refine any_to 35 (tf 46 35) rfl (unhide hS_) ?_
          simp only [nrm]
          refine any_to 36 (tf 46 36) rfl (unhide hS_) ?_
          simp only [nrm]
          refine any_to 37 (tf 46 37) rfl (unhide hS_) ?_
          simp only [nrm]
          refine any_to 38 (tf 46 38) rfl (unhide hS_) ?_
          simp only [nrm]
          refine any_tk 39 (.bool true) (tf 46 39) rfl (fun x_ hu => by kernel_rfl) (unhide hS_) ?_
          simp only [nrm]
          refine any_tk 40 (.bool true) (tf 46 40) rfl (fun x_ hu => by kernel_rfl) (unhide hS_) ?_
          simp only [nrm]
          refine any_to 41 (tf 46 41) rfl (unhide hS_) ?_
          simp only [nrm]
          refine any_to 42 (tf 46 42) rfl (unhide hS_) ?_
          simp only [nrm]
          refine any_to 43 (tf 46 43) rfl (unhide hS_) ?_
          simp only [nrm]
          refine any_to 44 (tf 46 44) rfl (unhide hS_) ?_
          simp only [nrm]
          refine any_tk 45 (.bool true) (tf 46 45) rfl (fun x_ hu => by kernel_rfl) (unhide hS_) ?_
          simp only [nrm]
          refine any_done (by kernel_rfl) ?_
          clear hS_
          replace hB := hide hB
          go_upto_region 16 with fail
          replace hB := unhide hB
          refine wp_region_lit ?_
          (refine wpList_step fun K hK => ?_; replace hK := hide hK; go_simp; refine unhide hK _ _ ?_; clear hK K)
          refine wpList_nil ?_
          replace hB := hide hB
          go_wp2_with fail
          replace hB := unhide hB
          rw [unhide hT]
          exact (⟨by rw [hv] <;> rfl, hB.gr⟩)
        rcases unhide hf with ⟨hj0, hf0⟩ | ⟨u, hj0, hu0, hf0⟩
        · clear hf
          by_cases q5 : (s.s.size : Int) < 1
          · have hz : szB s.s = false := by unfold szB; rw [decide_eq_false_iff_not]; omega
            have hv : rt c = false := rt_no4 (by rw [← he1, unhide hs1, hz, Bool.and_false, Bool.false_and])
            replace hB := hide hB
            go_upto_region 15 with fail
            replace hB := unhide hB
            refine any_start (S := fun v_ => v_.heap[w.heap.size]? = some (.cells (fl [[.int .u32 c.nx], [.slice x.ao x.no x.co], [.int .i64 c.tn], [.int .u32 c.dl], [.slice x.ah x.nh x.ch]]) 26 (0, 0)) ∧ v_.heap[g7]? = some (.cells (fl [[.int .u32 s.n], [.string s.s]]) 47 (0, 0))) (by kernel_rfl) ?_
            replace hB := hB.drew
            generalize World.drew _ = u5 at *
            simp only [List.size_toArray, List.length_cons, List.length_nil, Array.replicate, List.replicate]
            have hS_ := hide (show (fun v_ => v_.heap[w.heap.size]? = some (.cells (fl [[.int .u32 c.nx], [.slice x.ao x.no x.co], [.int .i64 c.tn], [.int .u32 c.dl], [.slice x.ah x.nh x.ch]]) 26 (0, 0)) ∧ v_.heap[g7]? = some (.cells (fl [[.int .u32 s.n], [.string s.s]]) 47 (0, 0))) u5 from ⟨(hB.get 0 (x := ⟨w.heap.size, fl [[.int .u32 c.nx], [.slice x.ao x.no x.co], [.int .i64 c.tn], [.int .u32 c.dl], [.slice x.ah x.nh x.ch]], 26⟩) rfl), (hB.get 1 (x := ⟨g7, fl [[.int .u32 s.n], [.string s.s]], 47⟩) rfl)⟩)
            refine any_tk 0 (.pointer (some ⟨g7, 0, none⟩)) (tf 46 0) rfl (fun x_ hu => by kernel_rfl) (unhide hS_) ?_
            simp only [nrm]
            refine any_tk 1 (.int .u32 s.n) (tf 46 1) rfl (fun x_ hu => exec_c32 _ (.tmp 82) rfl (g7) 0 (by kernel_rfl) s.n (seg_cell (nI  _ _) hu.2 0 (v := .int .u32 s.n) rfl rfl)) (unhide hS_) ?_
            simp only [nrm]
            refine any_tk 2 (.pointer (some ⟨w.heap.size, 3, none⟩)) (tf 46 2) rfl (fun x_ hu => by kernel_rfl) (unhide hS_) ?_
            simp only [nrm]
            refine any_tk 3 (.int .u32 c.dl) (tf 46 3) rfl (fun x_ hu => exec_c32 _ (.tmp 84) rfl (w.heap.size) 3 (by kernel_rfl) c.dl (seg_cell (nC  _ _ _ _ _) hu.1 3 (v := .int .u32 c.dl) rfl rfl)) (unhide hS_) ?_
            simp only [nrm]
            refine any_tk 4 (.bool false) (tf 46 4) rfl (fun x_ hu => leq_32 _ (.tmp 83) (.tmp 85) s.n c.dl false rfl (by kernel_rfl) (by kernel_rfl) (decide_eq_false q1)) (unhide hS_) ?_
            simp only [nrm]
            refine any_tk 5 (.bool false) (tf 46 5) rfl (fun x_ hu => by kernel_rfl) (unhide hS_) ?_
            simp only [nrm]
            refine any_tk 6 (.pointer (some ⟨g7, 0, none⟩)) (tf 46 6) rfl (fun x_ hu => by kernel_rfl) (unhide hS_) ?_
            simp only [nrm]
            refine any_tk 7 (.int .u32 s.n) (tf 46 7) rfl (fun x_ hu => exec_c32 _ (.tmp 88) rfl (g7) 0 (by kernel_rfl) s.n (seg_cell (nI  _ _) hu.2 0 (v := .int .u32 s.n) rfl rfl)) (unhide hS_) ?_
            simp only [nrm]
            refine any_tk 8 (.pointer (some ⟨w.heap.size, 3, none⟩)) (tf 46 8) rfl (fun x_ hu => by kernel_rfl) (unhide hS_) ?_
            simp only [nrm]
            refine any_tk 9 (.int .u32 c.dl) (tf 46 9) rfl (fun x_ hu => exec_c32 _ (.tmp 90) rfl (w.heap.size) 3 (by kernel_rfl) c.dl (seg_cell (nC  _ _ _ _ _) hu.1 3 (v := .int .u32 c.dl) rfl rfl)) (unhide hS_) ?_
            simp only [nrm]
            refine any_tk 10 (.int .u32 (c.dl + 4)) (tf 46 10) rfl (fun x_ hu => add_32 _ (.tmp 91) (.const (.int .u32 4)) c.dl 4 rfl (by kernel_rfl) (by kernel_rfl) _ rfl (by omega)) (unhide hS_) ?_
            simp only [nrm]
            refine any_tk 11 (.bool false) (tf 46 11) rfl (fun x_ hu => geq_32 _ (.tmp 89) (.tmp 92) s.n (c.dl + 4) false rfl (by kernel_rfl) (by kernel_rfl) (decide_eq_false q2)) (unhide hS_) ?_
            simp only [nrm]
            refine any_tk 12 (.bool false) (tf 46 12) rfl (fun x_ hu => by kernel_rfl) (unhide hS_) ?_
            simp only [nrm]
            refine any_tk 13 (.bool false) (tf 46 13) rfl (fun x_ hu => by kernel_rfl) (unhide hS_) ?_
            simp only [nrm]
            refine any_tk 14 (.pointer (some ⟨g7, 0, none⟩)) (tf 46 14) rfl (fun x_ hu => by kernel_rfl) (unhide hS_) ?_
            simp only [nrm]
            refine any_tk 15 (.int .u32 s.n) (tf 46 15) rfl (fun x_ hu => exec_c32 _ (.tmp 96) rfl (g7) 0 (by kernel_rfl) s.n (seg_cell (nI  _ _) hu.2 0 (v := .int .u32 s.n) rfl rfl)) (unhide hS_) ?_
            simp only [nrm]
            refine any_tk 16 (.bool false) (tf 46 16) rfl (fun x_ hu => geq_32 _ (.tmp 97) (.const (.int .u32 2147483648)) s.n 2147483648 false rfl (by kernel_rfl) (by kernel_rfl) (decide_eq_false q3)) (unhide hS_) ?_
            simp only [nrm]
            refine any_tk 17 (.bool false) (tf 46 17) rfl (fun x_ hu => by kernel_rfl) (unhide hS_) ?_
            simp only [nrm]
            refine any_tk 18 (.bool false) (tf 46 18) rfl (fun x_ hu => by kernel_rfl) (unhide hS_) ?_
            simp only [nrm]
            refine any_tk 19 (.int .i64 (j : Int)) (tf 46 19) rfl (fun x_ hu => by kernel_rfl) (unhide hS_) ?_
            simp only [nrm]
            refine any_tk 20 (.bool false) (tf 46 20) rfl (fun x_ hu => gtr_i _ (.tmp 101) (.const (.int .i64 0)) (j : Int) 0 false rfl (by kernel_rfl) (by kernel_rfl) (decide_eq_false (by omega))) (unhide hS_) ?_
            simp only [nrm]
            refine any_tk 21 (.bool false) (tf 46 21) rfl (fun x_ hu => by kernel_rfl) (unhide hS_) ?_
            simp only [nrm]
            refine any_to 22 (tf 46 22) rfl (unhide hS_) ?_
            simp only [nrm]
            refine any_to 23 (tf 46 23) rfl (unhide hS_) ?_
            simp only [nrm]
            refine any_to 24 (tf 46 24) rfl (unhide hS_) ?_
            simp only [nrm]
            refine any_to 25 (tf 46 25) rfl (unhide hS_) ?_
            simp only [nrm]
            refine any_to 26 (tf 46 26) rfl (unhide hS_) ?_
            simp only [nrm]
            refine any_to 27 (tf 46 27) rfl (unhide hS_) ?_
            simp only [nrm]
            refine any_to 28 (tf 46 28) rfl (unhide hS_) ?_
            simp only [nrm]
            refine any_to 29 (tf 46 29) rfl (unhide hS_) ?_
            simp only [nrm]
            refine any_to 30 (tf 46 30) rfl (unhide hS_) ?_
            simp only [nrm]
            refine any_to 31 (tf 46 31) rfl (unhide hS_) ?_
            simp only [nrm]
            refine any_tk 32 (.bool false) (tf 46 32) rfl (fun x_ hu => by kernel_rfl) (unhide hS_) ?_
            simp only [nrm]
            refine any_tk 33 (.bool false) (tf 46 33) rfl (fun x_ hu => by kernel_rfl) (unhide hS_) ?_
            simp only [nrm]
            refine any_tk 34 (.bool false) (tf 46 34) rfl (fun x_ hu => by kernel_rfl) (unhide hS_) ?_
            simp only [nrm]
            refine any_tk 35 (.pointer (some ⟨g7, 1, none⟩)) (tf 46 35) rfl (fun x_ hu => by kernel_rfl) (unhide hS_) ?_
            simp only [nrm]
            refine any_tk 36 (.string s.s) (tf 46 36) rfl (fun x_ hu => exec_cst _ (.tmp 117) rfl (g7) 1 (by kernel_rfl) s.s (seg_cell (nI  _ _) hu.2 1 (v := .string s.s) rfl rfl)) (unhide hS_) ?_
            simp only [nrm]
            refine any_tk 37 (.int .i64 (s.s.size : Int)) (tf 46 37) rfl (fun x_ hu => len_st _ (.tmp 118) s.s (by omega) rfl (by kernel_rfl)) (unhide hS_) ?_
            simp only [nrm]
            refine any_tk 38 (.bool true) (tf 46 38) rfl (fun x_ hu => lss_i _ (.tmp 119) (.const (.int .i64 1)) (s.s.size : Int) 1 true rfl (by kernel_rfl) (by kernel_rfl) (decide_eq_true q5)) (unhide hS_) ?_
            simp only [nrm]
            refine any_tk 39 (.bool true) (tf 46 39) rfl (fun x_ hu => by kernel_rfl) (unhide hS_) ?_
            simp only [nrm]
            refine any_tk 40 (.bool true) (tf 46 40) rfl (fun x_ hu => by kernel_rfl) (unhide hS_) ?_
            simp only [nrm]
            refine any_to 41 (tf 46 41) rfl (unhide hS_) ?_
            simp only [nrm]
            refine any_to 42 (tf 46 42) rfl (unhide hS_) ?_
            simp only [nrm]
            refine any_to 43 (tf 46 43) rfl (unhide hS_) ?_
            simp only [nrm]
            refine any_to 44 (tf 46 44) rfl (unhide hS_) ?_
            simp only [nrm]
            refine any_tk 45 (.bool true) (tf 46 45) rfl (fun x_ hu => by kernel_rfl) (unhide hS_) ?_
            simp only [nrm]
            refine any_done (by kernel_rfl) ?_
            clear hS_
            replace hB := hide hB
            go_upto_region 16 with fail
            replace hB := unhide hB
            refine wp_region_lit ?_
            (refine wpList_step fun K hK => ?_; replace hK := hide hK; go_simp; refine unhide hK _ _ ?_; clear hK K)
            refine wpList_nil ?_
            replace hB := hide hB
            go_wp2_with fail
            replace hB := unhide hB
            rw [unhide hT]
            exact (⟨by rw [hv] <;> rfl, hB.gr⟩)
          by_cases q6 : 48 < (s.s.size : Int)
          · have hz : szB s.s = false := by unfold szB; rw [decide_eq_false_iff_not]; omega
            have hv : rt c = false := rt_no4 (by rw [← he1, unhide hs1, hz, Bool.and_false, Bool.false_and])
            replace hB := hide hB
            go_upto_region 15 with fail
            replace hB := unhide hB
            refine any_start (S := fun v_ => v_.heap[w.heap.size]? = some (.cells (fl [[.int .u32 c.nx], [.slice x.ao x.no x.co], [.int .i64 c.tn], [.int .u32 c.dl], [.slice x.ah x.nh x.ch]]) 26 (0, 0)) ∧ v_.heap[g7]? = some (.cells (fl [[.int .u32 s.n], [.string s.s]]) 47 (0, 0))) (by kernel_rfl) ?_
            replace hB := hB.drew
            generalize World.drew _ = u5 at *
            simp only [List.size_toArray, List.length_cons, List.length_nil, Array.replicate, List.replicate]
            have hS_ := hide (show (fun v_ => v_.heap[w.heap.size]? = some (.cells (fl [[.int .u32 c.nx], [.slice x.ao x.no x.co], [.int .i64 c.tn], [.int .u32 c.dl], [.slice x.ah x.nh x.ch]]) 26 (0, 0)) ∧ v_.heap[g7]? = some (.cells (fl [[.int .u32 s.n], [.string s.s]]) 47 (0, 0))) u5 from ⟨(hB.get 0 (x := ⟨w.heap.size, fl [[.int .u32 c.nx], [.slice x.ao x.no x.co], [.int .i64 c.tn], [.int .u32 c.dl], [.slice x.ah x.nh x.ch]], 26⟩) rfl), (hB.get 1 (x := ⟨g7, fl [[.int .u32 s.n], [.string s.s]], 47⟩) rfl)⟩)
            refine any_tk 0 (.pointer (some ⟨g7, 0, none⟩)) (tf 46 0) rfl (fun x_ hu => by kernel_rfl) (unhide hS_) ?_
            simp only [nrm]
            refine any_tk 1 (.int .u32 s.n) (tf 46 1) rfl (fun x_ hu => exec_c32 _ (.tmp 82) rfl (g7) 0 (by kernel_rfl) s.n (seg_cell (nI  _ _) hu.2 0 (v := .int .u32 s.n) rfl rfl)) (unhide hS_) ?_
            simp only [nrm]
            refine any_tk 2 (.pointer (some ⟨w.heap.size, 3, none⟩)) (tf 46 2) rfl (fun x_ hu => by kernel_rfl) (unhide hS_) ?_
            simp only [nrm]
            refine any_tk 3 (.int .u32 c.dl) (tf 46 3) rfl (fun x_ hu => exec_c32 _ (.tmp 84) rfl (w.heap.size) 3 (by kernel_rfl) c.dl (seg_cell (nC  _ _ _ _ _) hu.1 3 (v := .int .u32 c.dl) rfl rfl)) (unhide hS_) ?_
            simp only [nrm]
            refine any_tk 4 (.bool false) (tf 46 4) rfl (fun x_ hu => leq_32 _ (.tmp 83) (.tmp 85) s.n c.dl false rfl (by kernel_rfl) (by kernel_rfl) (decide_eq_false q1)) (unhide hS_) ?_
            simp only [nrm]
            refine any_tk 5 (.bool false) (tf 46 5) rfl (fun x_ hu => by kernel_rfl) (unhide hS_) ?_
            simp only [nrm]
            refine any_tk 6 (.pointer (some ⟨g7, 0, none⟩)) (tf 46 6) rfl (fun x_ hu => by kernel_rfl) (unhide hS_) ?_
            simp only [nrm]
            refine any_tk 7 (.int .u32 s.n) (tf 46 7) rfl (fun x_ hu => exec_c32 _ (.tmp 88) rfl (g7) 0 (by kernel_rfl) s.n (seg_cell (nI  _ _) hu.2 0 (v := .int .u32 s.n) rfl rfl)) (unhide hS_) ?_
            simp only [nrm]
            refine any_tk 8 (.pointer (some ⟨w.heap.size, 3, none⟩)) (tf 46 8) rfl (fun x_ hu => by kernel_rfl) (unhide hS_) ?_
            simp only [nrm]
            refine any_tk 9 (.int .u32 c.dl) (tf 46 9) rfl (fun x_ hu => exec_c32 _ (.tmp 90) rfl (w.heap.size) 3 (by kernel_rfl) c.dl (seg_cell (nC  _ _ _ _ _) hu.1 3 (v := .int .u32 c.dl) rfl rfl)) (unhide hS_) ?_
            simp only [nrm]
            refine any_tk 10 (.int .u32 (c.dl + 4)) (tf 46 10) rfl (fun x_ hu => add_32 _ (.tmp 91) (.const (.int .u32 4)) c.dl 4 rfl (by kernel_rfl) (by kernel_rfl) _ rfl (by omega)) (unhide hS_) ?_
            simp only [nrm]
            refine any_tk 11 (.bool false) (tf 46 11) rfl (fun x_ hu => geq_32 _ (.tmp 89) (.tmp 92) s.n (c.dl + 4) false rfl (by kernel_rfl) (by kernel_rfl) (decide_eq_false q2)) (unhide hS_) ?_
            simp only [nrm]
            refine any_tk 12 (.bool false) (tf 46 12) rfl (fun x_ hu => by kernel_rfl) (unhide hS_) ?_
            simp only [nrm]
            refine any_tk 13 (.bool false) (tf 46 13) rfl (fun x_ hu => by kernel_rfl) (unhide hS_) ?_
            simp only [nrm]
            refine any_tk 14 (.pointer (some ⟨g7, 0, none⟩)) (tf 46 14) rfl (fun x_ hu => by kernel_rfl) (unhide hS_) ?_
            simp only [nrm]
            refine any_tk 15 (.int .u32 s.n) (tf 46 15) rfl (fun x_ hu => exec_c32 _ (.tmp 96) rfl (g7) 0 (by kernel_rfl) s.n (seg_cell (nI  _ _) hu.2 0 (v := .int .u32 s.n) rfl rfl)) (unhide hS_) ?_
            simp only [nrm]
            refine any_tk 16 (.bool false) (tf 46 16) rfl (fun x_ hu => geq_32 _ (.tmp 97) (.const (.int .u32 2147483648)) s.n 2147483648 false rfl (by kernel_rfl) (by kernel_rfl) (decide_eq_false q3)) (unhide hS_) ?_
            simp only [nrm]
            refine any_tk 17 (.bool false) (tf 46 17) rfl (fun x_ hu => by kernel_rfl) (unhide hS_) ?_
            simp only [nrm]
            refine any_tk 18 (.bool false) (tf 46 18) rfl (fun x_ hu => by kernel_rfl) (unhide hS_) ?_
            simp only [nrm]
            refine any_tk 19 (.int .i64 (j : Int)) (tf 46 19) rfl (fun x_ hu => by kernel_rfl) (unhide hS_) ?_
            simp only [nrm]
            refine any_tk 20 (.bool false) (tf 46 20) rfl (fun x_ hu => gtr_i _ (.tmp 101) (.const (.int .i64 0)) (j : Int) 0 false rfl (by kernel_rfl) (by kernel_rfl) (decide_eq_false (by omega))) (unhide hS_) ?_
            simp only [nrm]
            refine any_tk 21 (.bool false) (tf 46 21) rfl (fun x_ hu => by kernel_rfl) (unhide hS_) ?_
            simp only [nrm]
            refine any_to 22 (tf 46 22) rfl (unhide hS_) ?_
            simp only [nrm]
            refine any_to 23 (tf 46 23) rfl (unhide hS_) ?_
            simp only [nrm]
            refine any_to 24 (tf 46 24) rfl (unhide hS_) ?_
            simp only [nrm]
            refine any_to 25 (tf 46 25) rfl (unhide hS_) ?_
            simp only [nrm]
            refine any_to 26 (tf 46 26) rfl (unhide hS_) ?_
            simp only [nrm]
            refine any_to 27 (tf 46 27) rfl (unhide hS_) ?_
            simp only [nrm]
            refine any_to 28 (tf 46 28) rfl (unhide hS_) ?_
            simp only [nrm]
            refine any_to 29 (tf 46 29) rfl (unhide hS_) ?_
            simp only [nrm]
            refine any_to 30 (tf 46 30) rfl (unhide hS_) ?_
            simp only [nrm]
            refine any_to 31 (tf 46 31) rfl (unhide hS_) ?_
            simp only [nrm]
            refine any_tk 32 (.bool false) (tf 46 32) rfl (fun x_ hu => by kernel_rfl) (unhide hS_) ?_
            simp only [nrm]
            refine any_tk 33 (.bool false) (tf 46 33) rfl (fun x_ hu => by kernel_rfl) (unhide hS_) ?_
            simp only [nrm]
            refine any_tk 34 (.bool false) (tf 46 34) rfl (fun x_ hu => by kernel_rfl) (unhide hS_) ?_
            simp only [nrm]
            refine any_tk 35 (.pointer (some ⟨g7, 1, none⟩)) (tf 46 35) rfl (fun x_ hu => by kernel_rfl) (unhide hS_) ?_
            simp only [nrm]
            refine any_tk 36 (.string s.s) (tf 46 36) rfl (fun x_ hu => exec_cst _ (.tmp 117) rfl (g7) 1 (by kernel_rfl) s.s (seg_cell (nI  _ _) hu.2 1 (v := .string s.s) rfl rfl)) (unhide hS_) ?_
            simp only [nrm]
            refine any_tk 37 (.int .i64 (s.s.size : Int)) (tf 46 37) rfl (fun x_ hu => len_st _ (.tmp 118) s.s (by omega) rfl (by kernel_rfl)) (unhide hS_) ?_
            simp only [nrm]
            refine any_tk 38 (.bool false) (tf 46 38) rfl (fun x_ hu => lss_i _ (.tmp 119) (.const (.int .i64 1)) (s.s.size : Int) 1 false rfl (by kernel_rfl) (by kernel_rfl) (decide_eq_false q5)) (unhide hS_) ?_
            simp only [nrm]
            refine any_tk 39 (.bool false) (tf 46 39) rfl (fun x_ hu => by kernel_rfl) (unhide hS_) ?_
            simp only [nrm]
            refine any_tk 40 (.bool false) (tf 46 40) rfl (fun x_ hu => by kernel_rfl) (unhide hS_) ?_
            simp only [nrm]
            refine any_tk 41 (.pointer (some ⟨g7, 1, none⟩)) (tf 46 41) rfl (fun x_ hu => by kernel_rfl) (unhide hS_) ?_
            simp only [nrm]
            refine any_tk 42 (.string s.s) (tf 46 42) rfl (fun x_ hu => exec_cst _ (.tmp 123) rfl (g7) 1 (by kernel_rfl) s.s (seg_cell (nI  _ _) hu.2 1 (v := .string s.s) rfl rfl)) (unhide hS_) ?_
            simp only [nrm]
            refine any_tk 43 (.int .i64 (s.s.size : Int)) (tf 46 43) rfl (fun x_ hu => len_st _ (.tmp 124) s.s (by omega) rfl (by kernel_rfl)) (unhide hS_) ?_
            simp only [nrm]
            refine any_tk 44 (.bool true) (tf 46 44) rfl (fun x_ hu => gtr_i _ (.tmp 125) (.const (.int .i64 48)) (s.s.size : Int) 48 true rfl (by kernel_rfl) (by kernel_rfl) (decide_eq_true q6)) (unhide hS_) ?_
            simp only [nrm]
            refine any_tk 45 (.bool true) (tf 46 45) rfl (fun x_ hu => by kernel_rfl) (unhide hS_) ?_
            simp only [nrm]
            refine any_done (by kernel_rfl) ?_
            clear hS_
            replace hB := hide hB
            go_upto_region 16 with fail
            replace hB := unhide hB
            refine wp_region_lit ?_
            (refine wpList_step fun K hK => ?_; replace hK := hide hK; go_simp; refine unhide hK _ _ ?_; clear hK K)
            refine wpList_nil ?_
            replace hB := hide hB
            go_wp2_with fail
            replace hB := unhide hB
            rw [unhide hT]
            exact (⟨by rw [hv] <;> rfl, hB.gr⟩)
          have hz : szB s.s = true := by unfold szB; rw [decide_eq_true_iff]; omega
          have hs2 : Hid (∃ f, rises c.dl e c.H = rises f e (c.H.drop (j + 1)) ∧ c.dl ≤ f ∧ ((j + 1 = 0 ∧ f = c.dl) ∨ ∃ u, 0 < j + 1 ∧ c.H[j + 1 - 1]? = some u ∧ f = u.n)) := hide ⟨s.n, by
            rw [unhide hs1, decide_eq_true (show f < s.n by omega), decide_eq_true (show s.n < e by omega), hz]
            rfl, by omega, .inr ⟨s, by omega, by rw [Nat.add_sub_cancel]; exact unhide hsj, rfl⟩⟩
          replace hB := hide hB
          go_upto_region 15 with fail
          replace hB := unhide hB
          refine any_start (S := fun v_ => v_.heap[w.heap.size]? = some (.cells (fl [[.int .u32 c.nx], [.slice x.ao x.no x.co], [.int .i64 c.tn], [.int .u32 c.dl], [.slice x.ah x.nh x.ch]]) 26 (0, 0)) ∧ v_.heap[g7]? = some (.cells (fl [[.int .u32 s.n], [.string s.s]]) 47 (0, 0))) (by kernel_rfl) ?_
          replace hB := hB.drew
          generalize World.drew _ = u5 at *
          simp only [List.size_toArray, List.length_cons, List.length_nil, Array.replicate, List.replicate]
          have hS_ := hide (show (fun v_ => v_.heap[w.heap.size]? = some (.cells (fl [[.int .u32 c.nx], [.slice x.ao x.no x.co], [.int .i64 c.tn], [.int .u32 c.dl], [.slice x.ah x.nh x.ch]]) 26 (0, 0)) ∧ v_.heap[g7]? = some (.cells (fl [[.int .u32 s.n], [.string s.s]]) 47 (0, 0))) u5 from ⟨(hB.get 0 (x := ⟨w.heap.size, fl [[.int .u32 c.nx], [.slice x.ao x.no x.co], [.int .i64 c.tn], [.int .u32 c.dl], [.slice x.ah x.nh x.ch]], 26⟩) rfl), (hB.get 1 (x := ⟨g7, fl [[.int .u32 s.n], [.string s.s]], 47⟩) rfl)⟩)
          refine any_tk 0 (.pointer (some ⟨g7, 0, none⟩)) (tf 46 0) rfl (fun x_ hu => by kernel_rfl) (unhide hS_) ?_
          simp only [nrm]
          refine any_tk 1 (.int .u32 s.n) (tf 46 1) rfl (fun x_ hu => exec_c32 _ (.tmp 82) rfl (g7) 0 (by kernel_rfl) s.n (seg_cell (nI  _ _) hu.2 0 (v := .int .u32 s.n) rfl rfl)) (unhide hS_) ?_
          simp only [nrm]
          refine any_tk 2 (.pointer (some ⟨w.heap.size, 3, none⟩)) (tf 46 2) rfl (fun x_ hu => by kernel_rfl) (unhide hS_) ?_
          simp only [nrm]
          refine any_tk 3 (.int .u32 c.dl) (tf 46 3) rfl (fun x_ hu => exec_c32 _ (.tmp 84) rfl (w.heap.size) 3 (by kernel_rfl) c.dl (seg_cell (nC  _ _ _ _ _) hu.1 3 (v := .int .u32 c.dl) rfl rfl)) (unhide hS_) ?_
          simp only [nrm]
          refine any_tk 4 (.bool false) (tf 46 4) rfl (fun x_ hu => leq_32 _ (.tmp 83) (.tmp 85) s.n c.dl false rfl (by kernel_rfl) (by kernel_rfl) (decide_eq_false q1)) (unhide hS_) ?_
          simp only [nrm]
          refine any_tk 5 (.bool false) (tf 46 5) rfl (fun x_ hu => by kernel_rfl) (unhide hS_) ?_
          simp only [nrm]
          refine any_tk 6 (.pointer (some ⟨g7, 0, none⟩)) (tf 46 6) rfl (fun x_ hu => by kernel_rfl) (unhide hS_) ?_
          simp only [nrm]
          refine any_tk 7 (.int .u32 s.n) (tf 46 7) rfl (fun x_ hu => exec_c32 _ (.tmp 88) rfl (g7) 0 (by kernel_rfl) s.n (seg_cell (nI  _ _) hu.2 0 (v := .int .u32 s.n) rfl rfl)) (unhide hS_) ?_
          simp only [nrm]
          refine any_tk 8 (.pointer (some ⟨w.heap.size, 3, none⟩)) (tf 46 8) rfl (fun x_ hu => by kernel_rfl) (unhide hS_) ?_
          simp only [nrm]
          refine any_tk 9 (.int .u32 c.dl) (tf 46 9) rfl (fun x_ hu => exec_c32 _ (.tmp 90) rfl (w.heap.size) 3 (by kernel_rfl) c.dl (seg_cell (nC  _ _ _ _ _) hu.1 3 (v := .int .u32 c.dl) rfl rfl)) (unhide hS_) ?_
          simp only [nrm]
          refine any_tk 10 (.int .u32 (c.dl + 4)) (tf 46 10) rfl (fun x_ hu => add_32 _ (.tmp 91) (.const (.int .u32 4)) c.dl 4 rfl (by kernel_rfl) (by kernel_rfl) _ rfl (by omega)) (unhide hS_) ?_
          simp only [nrm]
          refine any_tk 11 (.bool false) (tf 46 11) rfl (fun x_ hu => geq_32 _ (.tmp 89) (.tmp 92) s.n (c.dl + 4) false rfl (by kernel_rfl) (by kernel_rfl) (decide_eq_false q2)) (unhide hS_) ?_
          simp only [nrm]
          refine any_tk 12 (.bool false) (tf 46 12) rfl (fun x_ hu => by kernel_rfl) (unhide hS_) ?_
          simp only [nrm]
          refine any_tk 13 (.bool false) (tf 46 13) rfl (fun x_ hu => by kernel_rfl) (unhide hS_) ?_
          simp only [nrm]
          refine any_tk 14 (.pointer (some ⟨g7, 0, none⟩)) (tf 46 14) rfl (fun x_ hu => by kernel_rfl) (unhide hS_) ?_
          simp only [nrm]
          refine any_tk 15 (.int .u32 s.n) (tf 46 15) rfl (fun x_ hu => exec_c32 _ (.tmp 96) rfl (g7) 0 (by kernel_rfl) s.n (seg_cell (nI  _ _) hu.2 0 (v := .int .u32 s.n) rfl rfl)) (unhide hS_) ?_
          simp only [nrm]
          refine any_tk 16 (.bool false) (tf 46 16) rfl (fun x_ hu => geq_32 _ (.tmp 97) (.const (.int .u32 2147483648)) s.n 2147483648 false rfl (by kernel_rfl) (by kernel_rfl) (decide_eq_false q3)) (unhide hS_) ?_
          simp only [nrm]
          refine any_tk 17 (.bool false) (tf 46 17) rfl (fun x_ hu => by kernel_rfl) (unhide hS_) ?_
          simp only [nrm]
          refine any_tk 18 (.bool false) (tf 46 18) rfl (fun x_ hu => by kernel_rfl) (unhide hS_) ?_
          simp only [nrm]
          refine any_tk 19 (.int .i64 (j : Int)) (tf 46 19) rfl (fun x_ hu => by kernel_rfl) (unhide hS_) ?_
          simp only [nrm]
          refine any_tk 20 (.bool false) (tf 46 20) rfl (fun x_ hu => gtr_i _ (.tmp 101) (.const (.int .i64 0)) (j : Int) 0 false rfl (by kernel_rfl) (by kernel_rfl) (decide_eq_false (by omega))) (unhide hS_) ?_
          simp only [nrm]
          refine any_tk 21 (.bool false) (tf 46 21) rfl (fun x_ hu => by kernel_rfl) (unhide hS_) ?_
          simp only [nrm]
          refine any_to 22 (tf 46 22) rfl (unhide hS_) ?_
          simp only [nrm]
          refine any_to 23 (tf 46 23) rfl (unhide hS_) ?_
          simp only [nrm]
          refine any_to 24 (tf 46 24) rfl (unhide hS_) ?_
          simp only [nrm]
          refine any_to 25 (tf 46 25) rfl (unhide hS_) ?_
          simp only [nrm]
          refine any_to 26 (tf 46 26) rfl (unhide hS_) ?_
          simp only [nrm]
          refine any_to 27 (tf 46 27) rfl (unhide hS_) ?_
          simp only [nrm]
          refine any_to 28 (tf 46 28) rfl (unhide hS_) ?_
          simp only [nrm]
          refine any_to 29 (tf 46 29) rfl (unhide hS_) ?_
          simp only [nrm]
          refine any_to 30 (tf 46 30) rfl (unhide hS_) ?_
          simp only [nrm]
          refine any_to 31 (tf 46 31) rfl (unhide hS_) ?_
          simp only [nrm]
          refine any_tk 32 (.bool false) (tf 46 32) rfl (fun x_ hu => by kernel_rfl) (unhide hS_) ?_
          simp only [nrm]
          refine any_tk 33 (.bool false) (tf 46 33) rfl (fun x_ hu => by kernel_rfl) (unhide hS_) ?_
          simp only [nrm]
          refine any_tk 34 (.bool false) (tf 46 34) rfl (fun x_ hu => by kernel_rfl) (unhide hS_) ?_
          simp only [nrm]
          refine any_tk 35 (.pointer (some ⟨g7, 1, none⟩)) (tf 46 35) rfl (fun x_ hu => by kernel_rfl) (unhide hS_) ?_
          simp only [nrm]
          refine any_tk 36 (.string s.s) (tf 46 36) rfl (fun x_ hu => exec_cst _ (.tmp 117) rfl (g7) 1 (by kernel_rfl) s.s (seg_cell (nI  _ _) hu.2 1 (v := .string s.s) rfl rfl)) (unhide hS_) ?_
          simp only [nrm]
          refine any_tk 37 (.int .i64 (s.s.size : Int)) (tf 46 37) rfl (fun x_ hu => len_st _ (.tmp 118) s.s (by omega) rfl (by kernel_rfl)) (unhide hS_) ?_
          simp only [nrm]
          refine any_tk 38 (.bool false) (tf 46 38) rfl (fun x_ hu => lss_i _ (.tmp 119) (.const (.int .i64 1)) (s.s.size : Int) 1 false rfl (by kernel_rfl) (by kernel_rfl) (decide_eq_false q5)) (unhide hS_) ?_
          simp only [nrm]
          refine any_tk 39 (.bool false) (tf 46 39) rfl (fun x_ hu => by kernel_rfl) (unhide hS_) ?_
          simp only [nrm]
          refine any_tk 40 (.bool false) (tf 46 40) rfl (fun x_ hu => by kernel_rfl) (unhide hS_) ?_
          simp only [nrm]
          refine any_tk 41 (.pointer (some ⟨g7, 1, none⟩)) (tf 46 41) rfl (fun x_ hu => by kernel_rfl) (unhide hS_) ?_
          simp only [nrm]
          refine any_tk 42 (.string s.s) (tf 46 42) rfl (fun x_ hu => exec_cst _ (.tmp 123) rfl (g7) 1 (by kernel_rfl) s.s (seg_cell (nI  _ _) hu.2 1 (v := .string s.s) rfl rfl)) (unhide hS_) ?_
          simp only [nrm]
          refine any_tk 43 (.int .i64 (s.s.size : Int)) (tf 46 43) rfl (fun x_ hu => len_st _ (.tmp 124) s.s (by omega) rfl (by kernel_rfl)) (unhide hS_) ?_
          simp only [nrm]
          refine any_tk 44 (.bool false) (tf 46 44) rfl (fun x_ hu => gtr_i _ (.tmp 125) (.const (.int .i64 48)) (s.s.size : Int) 48 false rfl (by kernel_rfl) (by kernel_rfl) (decide_eq_false q6)) (unhide hS_) ?_
          simp only [nrm]
          refine any_tk 45 (.bool false) (tf 46 45) rfl (fun x_ hu => by kernel_rfl) (unhide hS_) ?_
          simp only [nrm]
          refine any_done (by kernel_rfl) ?_
          clear hS_
          replace hB := Bl.left (L := [⟨w.heap.size, fl [[.int .u32 c.nx], [.slice x.ao x.no x.co], [.int .i64 c.tn], [.int .u32 c.dl], [.slice x.ah x.nh x.ch]], 26⟩]) (M := [⟨g7, fl [[.int .u32 s.n], [.string s.s]], 47⟩]) hB
          have jw : IntKind.i64.wrap (((j : Nat) : Int) + 1) = ((j : Nat) : Int) + 1 := by rw [IntKind.wrap_i64]; omega
          replace hB := hide hB
          clear hs1 hsj hok hz
          go_wp2_with fail
          go_roundw
          case rel => exact ⟨j + 1, by omega, by simp <;> omega, hs2, hB⟩
          case measure => simp [intOf]; omega
        · clear hf
          obtain ⟨i, rfl⟩ : ∃ i, j = i + 1 := ⟨j - 1, by omega⟩
          rw [Nat.add_sub_cancel] at hu0
          have hi1 : i < x.nh := by omega
          obtain ⟨p2, o2, ha2, hr2⟩ := ((unhide hc).h.gr hB.gr).at_ i u hu0
          have hG := hide (Gr.refl u4)
          replace ha2 := hide ha2; replace hu0 := hide hu0
          have hr3 : Hid (u4.cell? ⟨p2, o2 + 2 * i, none⟩ = some (.int .u32 u.n)) := hide (hr2 0 _ rfl)
          clear hr2
          by_cases q4 : s.n ≤ u.n
          · skip
            have hv : rt c = false := rt_no4 (by rw [← he1, unhide hs1, decide_eq_false (show ¬ f < s.n by omega), Bool.false_and, Bool.false_and, Bool.false_and])
            replace hB := hide hB
            go_upto_region 15 with fail
            replace hB := unhide hB
            refine any_start (S := fun v_ => v_.heap[w.heap.size]? = some (.cells (fl [[.int .u32 c.nx], [.slice x.ao x.no x.co], [.int .i64 c.tn], [.int .u32 c.dl], [.slice x.ah x.nh x.ch]]) 26 (0, 0)) ∧ v_.heap[g7]? = some (.cells (fl [[.int .u32 s.n], [.string s.s]]) 47 (0, 0)) ∧ Gr u4 v_) (by kernel_rfl) ?_
            replace hG := hide ((unhide hG).gr ((Gr.refl u4).drew))
            replace hB := hB.drew
            generalize World.drew _ = u5 at *
            simp only [List.size_toArray, List.length_cons, List.length_nil, Array.replicate, List.replicate]
            have hS_ := hide (show (fun v_ => v_.heap[w.heap.size]? = some (.cells (fl [[.int .u32 c.nx], [.slice x.ao x.no x.co], [.int .i64 c.tn], [.int .u32 c.dl], [.slice x.ah x.nh x.ch]]) 26 (0, 0)) ∧ v_.heap[g7]? = some (.cells (fl [[.int .u32 s.n], [.string s.s]]) 47 (0, 0)) ∧ Gr u4 v_) u5 from ⟨(hB.get 0 (x := ⟨w.heap.size, fl [[.int .u32 c.nx], [.slice x.ao x.no x.co], [.int .i64 c.tn], [.int .u32 c.dl], [.slice x.ah x.nh x.ch]], 26⟩) rfl), (hB.get 1 (x := ⟨g7, fl [[.int .u32 s.n], [.string s.s]], 47⟩) rfl), (unhide hG)⟩)
            refine any_tk 0 (.pointer (some ⟨g7, 0, none⟩)) (tf 46 0) rfl (fun x_ hu => by kernel_rfl) (unhide hS_) ?_
            simp only [nrm]
            refine any_tk 1 (.int .u32 s.n) (tf 46 1) rfl (fun x_ hu => exec_c32 _ (.tmp 82) rfl (g7) 0 (by kernel_rfl) s.n (seg_cell (nI  _ _) hu.2.1 0 (v := .int .u32 s.n) rfl rfl)) (unhide hS_) ?_
            simp only [nrm]
            refine any_tk 2 (.pointer (some ⟨w.heap.size, 3, none⟩)) (tf 46 2) rfl (fun x_ hu => by kernel_rfl) (unhide hS_) ?_
            simp only [nrm]
            refine any_tk 3 (.int .u32 c.dl) (tf 46 3) rfl (fun x_ hu => exec_c32 _ (.tmp 84) rfl (w.heap.size) 3 (by kernel_rfl) c.dl (seg_cell (nC  _ _ _ _ _) hu.1 3 (v := .int .u32 c.dl) rfl rfl)) (unhide hS_) ?_
            simp only [nrm]
            refine any_tk 4 (.bool false) (tf 46 4) rfl (fun x_ hu => leq_32 _ (.tmp 83) (.tmp 85) s.n c.dl false rfl (by kernel_rfl) (by kernel_rfl) (decide_eq_false q1)) (unhide hS_) ?_
            simp only [nrm]
            refine any_tk 5 (.bool false) (tf 46 5) rfl (fun x_ hu => by kernel_rfl) (unhide hS_) ?_
            simp only [nrm]
            refine any_tk 6 (.pointer (some ⟨g7, 0, none⟩)) (tf 46 6) rfl (fun x_ hu => by kernel_rfl) (unhide hS_) ?_
            simp only [nrm]
            refine any_tk 7 (.int .u32 s.n) (tf 46 7) rfl (fun x_ hu => exec_c32 _ (.tmp 88) rfl (g7) 0 (by kernel_rfl) s.n (seg_cell (nI  _ _) hu.2.1 0 (v := .int .u32 s.n) rfl rfl)) (unhide hS_) ?_
            simp only [nrm]
            refine any_tk 8 (.pointer (some ⟨w.heap.size, 3, none⟩)) (tf 46 8) rfl (fun x_ hu => by kernel_rfl) (unhide hS_) ?_
            simp only [nrm]
            refine any_tk 9 (.int .u32 c.dl) (tf 46 9) rfl (fun x_ hu => exec_c32 _ (.tmp 90) rfl (w.heap.size) 3 (by kernel_rfl) c.dl (seg_cell (nC  _ _ _ _ _) hu.1 3 (v := .int .u32 c.dl) rfl rfl)) (unhide hS_) ?_
            simp only [nrm]
            refine any_tk 10 (.int .u32 (c.dl + 4)) (tf 46 10) rfl (fun x_ hu => add_32 _ (.tmp 91) (.const (.int .u32 4)) c.dl 4 rfl (by kernel_rfl) (by kernel_rfl) _ rfl (by omega)) (unhide hS_) ?_
            simp only [nrm]
            refine any_tk 11 (.bool false) (tf 46 11) rfl (fun x_ hu => geq_32 _ (.tmp 89) (.tmp 92) s.n (c.dl + 4) false rfl (by kernel_rfl) (by kernel_rfl) (decide_eq_false q2)) (unhide hS_) ?_
            simp only [nrm]
            refine any_tk 12 (.bool false) (tf 46 12) rfl (fun x_ hu => by kernel_rfl) (unhide hS_) ?_
            simp only [nrm]
            refine any_tk 13 (.bool false) (tf 46 13) rfl (fun x_ hu => by kernel_rfl) (unhide hS_) ?_
            simp only [nrm]
            refine any_tk 14 (.pointer (some ⟨g7, 0, none⟩)) (tf 46 14) rfl (fun x_ hu => by kernel_rfl) (unhide hS_) ?_
            simp only [nrm]
            refine any_tk 15 (.int .u32 s.n) (tf 46 15) rfl (fun x_ hu => exec_c32 _ (.tmp 96) rfl (g7) 0 (by kernel_rfl) s.n (seg_cell (nI  _ _) hu.2.1 0 (v := .int .u32 s.n) rfl rfl)) (unhide hS_) ?_
            simp only [nrm]
            refine any_tk 16 (.bool false) (tf 46 16) rfl (fun x_ hu => geq_32 _ (.tmp 97) (.const (.int .u32 2147483648)) s.n 2147483648 false rfl (by kernel_rfl) (by kernel_rfl) (decide_eq_false q3)) (unhide hS_) ?_
            simp only [nrm]
            refine any_tk 17 (.bool false) (tf 46 17) rfl (fun x_ hu => by kernel_rfl) (unhide hS_) ?_
            simp only [nrm]
            refine any_tk 18 (.bool false) (tf 46 18) rfl (fun x_ hu => by kernel_rfl) (unhide hS_) ?_
            simp only [nrm]
            refine any_tk 19 (.int .i64 ((i + 1 : Nat) : Int)) (tf 46 19) rfl (fun x_ hu => by kernel_rfl) (unhide hS_) ?_
            simp only [nrm]
            refine any_tk 20 (.bool true) (tf 46 20) rfl (fun x_ hu => gtr_i _ (.tmp 101) (.const (.int .i64 0)) ((i + 1 : Nat) : Int) 0 true rfl (by kernel_rfl) (by kernel_rfl) (decide_eq_true (by omega))) (unhide hS_) ?_
            simp only [nrm]
            refine any_tk 21 (.bool true) (tf 46 21) rfl (fun x_ hu => by kernel_rfl) (unhide hS_) ?_
            simp only [nrm]
            refine any_tk 22 (.pointer (some ⟨g7, 0, none⟩)) (tf 46 22) rfl (fun x_ hu => by kernel_rfl) (unhide hS_) ?_
            simp only [nrm]
            refine any_tk 23 (.int .u32 s.n) (tf 46 23) rfl (fun x_ hu => exec_c32 _ (.tmp 104) rfl (g7) 0 (by kernel_rfl) s.n (seg_cell (nI  _ _) hu.2.1 0 (v := .int .u32 s.n) rfl rfl)) (unhide hS_) ?_
            simp only [nrm]
            refine any_tk 24 (.pointer (some ⟨w.heap.size, 4, none⟩)) (tf 46 24) rfl (fun x_ hu => by kernel_rfl) (unhide hS_) ?_
            simp only [nrm]
            refine any_tk 25 (.slice x.ah x.nh x.ch) (tf 46 25) rfl (fun x_ hu => exec_csI _ (.tmp 106) rfl (w.heap.size) 4 (by kernel_rfl) x.ah x.nh x.ch (seg_cell (nC  _ _ _ _ _) hu.1 4 (v := .slice x.ah x.nh x.ch) rfl rfl)) (unhide hS_) ?_
            simp only [nrm]
            refine any_tk 26 (.int .i64 ((i + 1 : Nat) : Int)) (tf 46 26) rfl (fun x_ hu => by kernel_rfl) (unhide hS_) ?_
            simp only [nrm]
            refine any_tk 27 (.int .i64 (i : Int)) (tf 46 27) rfl (fun x_ hu => sub_i _ (.tmp 108) (.const (.int .i64 1)) ((i + 1 : Nat) : Int) 1 rfl (by kernel_rfl) (by kernel_rfl) _ (by omega) (by omega)) (unhide hS_) ?_
            simp only [nrm]
            refine any_tk 28 (.pointer (some ⟨p2, o2 + 2 * i, none⟩)) (tf 46 28) rfl (fun x_ hu => exec_isi _ (.tmp 107) (.tmp 109) rfl p2 o2 x.nh x.ch i (by rw [← unhide ha2]; kernel_rfl) (by kernel_rfl) hi1) (unhide hS_) ?_
            simp only [nrm]
            refine any_tk 29 (.pointer (some ⟨p2, o2 + 2 * i, none⟩)) (tf 46 29) rfl (fun x_ hu => by kernel_rfl) (unhide hS_) ?_
            simp only [nrm]
            refine any_tk 30 (.int .u32 u.n) (tf 46 30) rfl (fun x_ hu => exec_c32 _ (.tmp 111) rfl p2 (o2 + 2 * i) (by kernel_rfl) u.n (hu.2.2.cell (unhide hr3))) (unhide hS_) ?_
            simp only [nrm]
            refine any_tk 31 (.bool true) (tf 46 31) rfl (fun x_ hu => leq_32 _ (.tmp 105) (.tmp 112) s.n u.n true rfl (by kernel_rfl) (by kernel_rfl) (decide_eq_true q4)) (unhide hS_) ?_
            simp only [nrm]
            refine any_tk 32 (.bool true) (tf 46 32) rfl (fun x_ hu => by kernel_rfl) (unhide hS_) ?_
            simp only [nrm]
            refine any_tk 33 (.bool true) (tf 46 33) rfl (fun x_ hu => by kernel_rfl) (unhide hS_) ?_
            simp only [nrm]
            refine any_tk 34 (.bool true) (tf 46 34) rfl (fun x_ hu => by kernel_rfl) (unhide hS_) ?_
            simp only [nrm]
            refine any_to 35 (tf 46 35) rfl (unhide hS_) ?_
            simp only [nrm]
            refine any_to 36 (tf 46 36) rfl (unhide hS_) ?_
            simp only [nrm]
            refine any_to 37 (tf 46 37) rfl (unhide hS_) ?_
            simp only [nrm]
            refine any_to 38 (tf 46 38) rfl (unhide hS_) ?_
            simp only [nrm]
            refine any_tk 39 (.bool true) (tf 46 39) rfl (fun x_ hu => by kernel_rfl) (unhide hS_) ?_
            simp only [nrm]
            refine any_tk 40 (.bool true) (tf 46 40) rfl (fun x_ hu => by kernel_rfl) (unhide hS_) ?_
            simp only [nrm]
            refine any_to 41 (tf 46 41) rfl (unhide hS_) ?_
            simp only [nrm]
            refine any_to 42 (tf 46 42) rfl (unhide hS_) ?_
            simp only [nrm]
            refine any_to 43 (tf 46 43) rfl (unhide hS_) ?_
            simp only [nrm]
            refine any_to 44 (tf 46 44) rfl (unhide hS_) ?_
            simp only [nrm]
            refine any_tk 45 (.bool true) (tf 46 45) rfl (fun x_ hu => by kernel_rfl) (unhide hS_) ?_
            simp only [nrm]
            refine any_done (by kernel_rfl) ?_
            clear hS_
            replace hB := hide hB
            go_upto_region 16 with fail
            replace hB := unhide hB
            refine wp_region_lit ?_
            (refine wpList_step fun K hK => ?_; replace hK := hide hK; go_simp; refine unhide hK _ _ ?_; clear hK K)
            refine wpList_nil ?_
            replace hB := hide hB
            go_wp2_with fail
            replace hB := unhide hB
            rw [unhide hT]
            exact (⟨by rw [hv] <;> rfl, hB.gr⟩)
          by_cases q5 : (s.s.size : Int) < 1
          · have hz : szB s.s = false := by unfold szB; rw [decide_eq_false_iff_not]; omega
            have hv : rt c = false := rt_no4 (by rw [← he1, unhide hs1, hz, Bool.and_false, Bool.false_and])
            replace hB := hide hB
            go_upto_region 15 with fail
            replace hB := unhide hB
            refine any_start (S := fun v_ => v_.heap[w.heap.size]? = some (.cells (fl [[.int .u32 c.nx], [.slice x.ao x.no x.co], [.int .i64 c.tn], [.int .u32 c.dl], [.slice x.ah x.nh x.ch]]) 26 (0, 0)) ∧ v_.heap[g7]? = some (.cells (fl [[.int .u32 s.n], [.string s.s]]) 47 (0, 0)) ∧ Gr u4 v_) (by kernel_rfl) ?_
            replace hG := hide ((unhide hG).gr ((Gr.refl u4).drew))
            replace hB := hB.drew
            generalize World.drew _ = u5 at *
            simp only [List.size_toArray, List.length_cons, List.length_nil, Array.replicate, List.replicate]
            have hS_ := hide (show (fun v_ => v_.heap[w.heap.size]? = some (.cells (fl [[.int .u32 c.nx], [.slice x.ao x.no x.co], [.int .i64 c.tn], [.int .u32 c.dl], [.slice x.ah x.nh x.ch]]) 26 (0, 0)) ∧ v_.heap[g7]? = some (.cells (fl [[.int .u32 s.n], [.string s.s]]) 47 (0, 0)) ∧ Gr u4 v_) u5 from ⟨(hB.get 0 (x := ⟨w.heap.size, fl [[.int .u32 c.nx], [.slice x.ao x.no x.co], [.int .i64 c.tn], [.int .u32 c.dl], [.slice x.ah x.nh x.ch]], 26⟩) rfl), (hB.get 1 (x := ⟨g7, fl [[.int .u32 s.n], [.string s.s]], 47⟩) rfl), (unhide hG)⟩)
            refine any_tk 0 (.pointer (some ⟨g7, 0, none⟩)) (tf 46 0) rfl (fun x_ hu => by kernel_rfl) (unhide hS_) ?_
            simp only [nrm]
            refine any_tk 1 (.int .u32 s.n) (tf 46 1) rfl (fun x_ hu => exec_c32 _ (.tmp 82) rfl (g7) 0 (by kernel_rfl) s.n (seg_cell (nI  _ _) hu.2.1 0 (v := .int .u32 s.n) rfl rfl)) (unhide hS_) ?_
            simp only [nrm]
            refine any_tk 2 (.pointer (some ⟨w.heap.size, 3, none⟩)) (tf 46 2) rfl (fun x_ hu => by kernel_rfl) (unhide hS_) ?_
            simp only [nrm]
            refine any_tk 3 (.int .u32 c.dl) (tf 46 3) rfl (fun x_ hu => exec_c32 _ (.tmp 84) rfl (w.heap.size) 3 (by kernel_rfl) c.dl (seg_cell (nC  _ _ _ _ _) hu.1 3 (v := .int .u32 c.dl) rfl rfl)) (unhide hS_) ?_
            simp only [nrm]
            refine any_tk 4 (.bool false) (tf 46 4) rfl (fun x_ hu => leq_32 _ (.tmp 83) (.tmp 85) s.n c.dl false rfl (by kernel_rfl) (by kernel_rfl) (decide_eq_false q1)) (unhide hS_) ?_
            simp only [nrm]
            refine any_tk 5 (.bool false) (tf 46 5) rfl (fun x_ hu => by kernel_rfl) (unhide hS_) ?_
            simp only [nrm]
            refine any_tk 6 (.pointer (some ⟨g7, 0, none⟩)) (tf 46 6) rfl (fun x_ hu => by kernel_rfl) (unhide hS_) ?_
            simp only [nrm]
            refine any_tk 7 (.int .u32 s.n) (tf 46 7) rfl (fun x_ hu => exec_c32 _ (.tmp 88) rfl (g7) 0 (by kernel_rfl) s.n (seg_cell (nI  _ _) hu.2.1 0 (v := .int .u32 s.n) rfl rfl)) (unhide hS_) ?_
            simp only [nrm]
            refine any_tk 8 (.pointer (some ⟨w.heap.size, 3, none⟩)) (tf 46 8) rfl (fun x_ hu => by kernel_rfl) (unhide hS_) ?_
            simp only [nrm]
            refine any_tk 9 (.int .u32 c.dl) (tf 46 9) rfl (fun x_ hu => exec_c32 _ (.tmp 90) rfl (w.heap.size) 3 (by kernel_rfl) c.dl (seg_cell (nC  _ _ _ _ _) hu.1 3 (v := .int .u32 c.dl) rfl rfl)) (unhide hS_) ?_
            simp only [nrm]
            refine any_tk 10 (.int .u32 (c.dl + 4)) (tf 46 10) rfl (fun x_ hu => add_32 _ (.tmp 91) (.const (.int .u32 4)) c.dl 4 rfl (by kernel_rfl) (by kernel_rfl) _ rfl (by omega)) (unhide hS_) ?_
            simp only [nrm]
            refine any_tk 11 (.bool false) (tf 46 11) rfl (fun x_ hu => geq_32 _ (.tmp 89) (.tmp 92) s.n (c.dl + 4) false rfl (by kernel_rfl) (by kernel_rfl) (decide_eq_false q2)) (unhide hS_) ?_
            simp only [nrm]
            refine any_tk 12 (.bool false) (tf 46 12) rfl (fun x_ hu => by kernel_rfl) (unhide hS_) ?_
            simp only [nrm]
            refine any_tk 13 (.bool false) (tf 46 13) rfl (fun x_ hu => by kernel_rfl) (unhide hS_) ?_
            simp only [nrm]
            refine any_tk 14 (.pointer (some ⟨g7, 0, none⟩)) (tf 46 14) rfl (fun x_ hu => by kernel_rfl) (unhide hS_) ?_
            simp only [nrm]
            refine any_tk 15 (.int .u32 s.n) (tf 46 15) rfl (fun x_ hu => exec_c32 _ (.tmp 96) rfl (g7) 0 (by kernel_rfl) s.n (seg_cell (nI  _ _) hu.2.1 0 (v := .int .u32 s.n) rfl rfl)) (unhide hS_) ?_
            simp only [nrm]
            refine any_tk 16 (.bool false) (tf 46 16) rfl (fun x_ hu => geq_32 _ (.tmp 97) (.const (.int .u32 2147483648)) s.n 2147483648 false rfl (by kernel_rfl) (by kernel_rfl) (decide_eq_false q3)) (unhide hS_) ?_
            simp only [nrm]
            refine any_tk 17 (.bool false) (tf 46 17) rfl (fun x_ hu => by kernel_rfl) (unhide hS_) ?_
            simp only [nrm]
            refine any_tk 18 (.bool false) (tf 46 18) rfl (fun x_ hu => by kernel_rfl) (unhide hS_) ?_
            simp only [nrm]
            refine any_tk 19 (.int .i64 ((i + 1 : Nat) : Int)) (tf 46 19) rfl (fun x_ hu => by kernel_rfl) (unhide hS_) ?_
            simp only [nrm]
            refine any_tk 20 (.bool true) (tf 46 20) rfl (fun x_ hu => gtr_i _ (.tmp 101) (.const (.int .i64 0)) ((i + 1 : Nat) : Int) 0 true rfl (by kernel_rfl) (by kernel_rfl) (decide_eq_true (by omega))) (unhide hS_) ?_
            simp only [nrm]
            refine any_tk 21 (.bool true) (tf 46 21) rfl (fun x_ hu => by kernel_rfl) (unhide hS_) ?_
            simp only [nrm]
            refine any_tk 22 (.pointer (some ⟨g7, 0, none⟩)) (tf 46 22) rfl (fun x_ hu => by kernel_rfl) (unhide hS_) ?_
            simp only [nrm]
            refine any_tk 23 (.int .u32 s.n) (tf 46 23) rfl (fun x_ hu => exec_c32 _ (.tmp 104) rfl (g7) 0 (by kernel_rfl) s.n (seg_cell (nI  _ _) hu.2.1 0 (v := .int .u32 s.n) rfl rfl)) (unhide hS_) ?_
            simp only [nrm]
            refine any_tk 24 (.pointer (some ⟨w.heap.size, 4, none⟩)) (tf 46 24) rfl (fun x_ hu => by kernel_rfl) (unhide hS_) ?_
            simp only [nrm]
            refine any_tk 25 (.slice x.ah x.nh x.ch) (tf 46 25) rfl (fun x_ hu => exec_csI _ (.tmp 106) rfl (w.heap.size) 4 (by kernel_rfl) x.ah x.nh x.ch (seg_cell (nC  _ _ _ _ _) hu.1 4 (v := .slice x.ah x.nh x.ch) rfl rfl)) (unhide hS_) ?_
            simp only [nrm]
            refine any_tk 26 (.int .i64 ((i + 1 : Nat) : Int)) (tf 46 26) rfl (fun x_ hu => by kernel_rfl) (unhide hS_) ?_
            simp only [nrm]
            refine any_tk 27 (.int .i64 (i : Int)) (tf 46 27) rfl (fun x_ hu => sub_i _ (.tmp 108) (.const (.int .i64 1)) ((i + 1 : Nat) : Int) 1 rfl (by kernel_rfl) (by kernel_rfl) _ (by omega) (by omega)) (unhide hS_) ?_
            simp only [nrm]
            refine any_tk 28 (.pointer (some ⟨p2, o2 + 2 * i, none⟩)) (tf 46 28) rfl (fun x_ hu => exec_isi _ (.tmp 107) (.tmp 109) rfl p2 o2 x.nh x.ch i (by rw [← unhide ha2]; kernel_rfl) (by kernel_rfl) hi1) (unhide hS_) ?_
            simp only [nrm]
            refine any_tk 29 (.pointer (some ⟨p2, o2 + 2 * i, none⟩)) (tf 46 29) rfl (fun x_ hu => by kernel_rfl) (unhide hS_) ?_
            simp only [nrm]
            refine any_tk 30 (.int .u32 u.n) (tf 46 30) rfl (fun x_ hu => exec_c32 _ (.tmp 111) rfl p2 (o2 + 2 * i) (by kernel_rfl) u.n (hu.2.2.cell (unhide hr3))) (unhide hS_) ?_
            simp only [nrm]
            refine any_tk 31 (.bool false) (tf 46 31) rfl (fun x_ hu => leq_32 _ (.tmp 105) (.tmp 112) s.n u.n false rfl (by kernel_rfl) (by kernel_rfl) (decide_eq_false q4)) (unhide hS_) ?_
            simp only [nrm]
            refine any_tk 32 (.bool false) (tf 46 32) rfl (fun x_ hu => by kernel_rfl) (unhide hS_) ?_
            simp only [nrm]
            refine any_tk 33 (.bool false) (tf 46 33) rfl (fun x_ hu => by kernel_rfl) (unhide hS_) ?_
            simp only [nrm]
            refine any_tk 34 (.bool false) (tf 46 34) rfl (fun x_ hu => by kernel_rfl) (unhide hS_) ?_
            simp only [nrm]
            refine any_tk 35 (.pointer (some ⟨g7, 1, none⟩)) (tf 46 35) rfl (fun x_ hu => by kernel_rfl) (unhide hS_) ?_
            simp only [nrm]
            refine any_tk 36 (.string s.s) (tf 46 36) rfl (fun x_ hu => exec_cst _ (.tmp 117) rfl (g7) 1 (by kernel_rfl) s.s (seg_cell (nI  _ _) hu.2.1 1 (v := .string s.s) rfl rfl)) (unhide hS_) ?_
            simp only [nrm]
            refine any_tk 37 (.int .i64 (s.s.size : Int)) (tf 46 37) rfl (fun x_ hu => len_st _ (.tmp 118) s.s (by omega) rfl (by kernel_rfl)) (unhide hS_) ?_
            simp only [nrm]
            refine any_tk 38 (.bool true) (tf 46 38) rfl (fun x_ hu => lss_i _ (.tmp 119) (.const (.int .i64 1)) (s.s.size : Int) 1 true rfl (by kernel_rfl) (by kernel_rfl) (decide_eq_true q5)) (unhide hS_) ?_
            simp only [nrm]
            refine any_tk 39 (.bool true) (tf 46 39) rfl (fun x_ hu => by kernel_rfl) (unhide hS_) ?_
            simp only [nrm]
            refine any_tk 40 (.bool true) (tf 46 40) rfl (fun x_ hu => by kernel_rfl) (unhide hS_) ?_
            simp only [nrm]
            refine any_to 41 (tf 46 41) rfl (unhide hS_) ?_
            simp only [nrm]
            refine any_to 42 (tf 46 42) rfl (unhide hS_) ?_
            simp only [nrm]
            refine any_to 43 (tf 46 43) rfl (unhide hS_) ?_
            simp only [nrm]
            refine any_to 44 (tf 46 44) rfl (unhide hS_) ?_
            simp only [nrm]
            refine any_tk 45 (.bool true) (tf 46 45) rfl (fun x_ hu => by kernel_rfl) (unhide hS_) ?_
            simp only [nrm]
            refine any_done (by kernel_rfl) ?_
            clear hS_
            replace hB := hide hB
            go_upto_region 16 with fail
            replace hB := unhide hB
            refine wp_region_lit ?_
            (refine wpList_step fun K hK => ?_; replace hK := hide hK; go_simp; refine unhide hK _ _ ?_; clear hK K)
            refine wpList_nil ?_
            replace hB := hide hB
            go_wp2_with fail
            replace hB := unhide hB
            rw [unhide hT]
            exact (⟨by rw [hv] <;> rfl, hB.gr⟩)
          by_cases q6 : 48 < (s.s.size : Int)
          · have hz : szB s.s = false := by unfold szB; rw [decide_eq_false_iff_not]; omega
            have hv : rt c = false := rt_no4 (by rw [← he1, unhide hs1, hz, Bool.and_false, Bool.false_and])
            replace hB := hide hB
            go_upto_region 15 with fail
            replace hB := unhide hB
            refine any_start (S := fun v_ => v_.heap[w.heap.size]? = some (.cells (fl [[.int .u32 c.nx], [.slice x.ao x.no x.co], [.int .i64 c.tn], [.int .u32 c.dl], [.slice x.ah x.nh x.ch]]) 26 (0, 0)) ∧ v_.heap[g7]? = some (.cells (fl [[.int .u32 s.n], [.string s.s]]) 47 (0, 0)) ∧ Gr u4 v_) (by kernel_rfl) ?_
            replace hG := hide ((unhide hG).gr ((Gr.refl u4).drew))
            replace hB := hB.drew
            generalize World.drew _ = u5 at *
            simp only [List.size_toArray, List.length_cons, List.length_nil, Array.replicate, List.replicate]
            have hS_ := hide (show (fun v_ => v_.heap[w.heap.size]? = some (.cells (fl [[.int .u32 c.nx], [.slice x.ao x.no x.co], [.int .i64 c.tn], [.int .u32 c.dl], [.slice x.ah x.nh x.ch]]) 26 (0, 0)) ∧ v_.heap[g7]? = some (.cells (fl [[.int .u32 s.n], [.string s.s]]) 47 (0, 0)) ∧ Gr u4 v_) u5 from ⟨(hB.get 0 (x := ⟨w.heap.size, fl [[.int .u32 c.nx], [.slice x.ao x.no x.co], [.int .i64 c.tn], [.int .u32 c.dl], [.slice x.ah x.nh x.ch]], 26⟩) rfl), (hB.get 1 (x := ⟨g7, fl [[.int .u32 s.n], [.string s.s]], 47⟩) rfl), (unhide hG)⟩)
            refine any_tk 0 (.pointer (some ⟨g7, 0, none⟩)) (tf 46 0) rfl (fun x_ hu => by kernel_rfl) (unhide hS_) ?_
            simp only [nrm]
            refine any_tk 1 (.int .u32 s.n) (tf 46 1) rfl (fun x_ hu => exec_c32 _ (.tmp 82) rfl (g7) 0 (by kernel_rfl) s.n (seg_cell (nI  _ _) hu.2.1 0 (v := .int .u32 s.n) rfl rfl)) (unhide hS_) ?_
            simp only [nrm]
            refine any_tk 2 (.pointer (some ⟨w.heap.size, 3, none⟩)) (tf 46 2) rfl (fun x_ hu => by kernel_rfl) (unhide hS_) ?_
            simp only [nrm]
            refine any_tk 3 (.int .u32 c.dl) (tf 46 3) rfl (fun x_ hu => exec_c32 _ (.tmp 84) rfl (w.heap.size) 3 (by kernel_rfl) c.dl (seg_cell (nC  _ _ _ _ _) hu.1 3 (v := .int .u32 c.dl) rfl rfl)) (unhide hS_) ?_
            simp only [nrm]
            refine any_tk 4 (.bool false) (tf 46 4) rfl (fun x_ hu => leq_32 _ (.tmp 83) (.tmp 85) s.n c.dl false rfl (by kernel_rfl) (by kernel_rfl) (decide_eq_false q1)) (unhide hS_) ?_
            simp only [nrm]
            refine any_tk 5 (.bool false) (tf 46 5) rfl (fun x_ hu => by kernel_rfl) (unhide hS_) ?_
            simp only [nrm]
            refine any_tk 6 (.pointer (some ⟨g7, 0, none⟩)) (tf 46 6) rfl (fun x_ hu => by kernel_rfl) (unhide hS_) ?_
            simp only [nrm]
            refine any_tk 7 (.int .u32 s.n) (tf 46 7) rfl (fun x_ hu => exec_c32 _ (.tmp 88) rfl (g7) 0 (by kernel_rfl) s.n (seg_cell (nI  _ _) hu.2.1 0 (v := .int .u32 s.n) rfl rfl)) (unhide hS_) ?_
            simp only [nrm]
            refine any_tk 8 (.pointer (some ⟨w.heap.size, 3, none⟩)) (tf 46 8) rfl (fun x_ hu => by kernel_rfl) (unhide hS_) ?_
            simp only [nrm]
            refine any_tk 9 (.int .u32 c.dl) (tf 46 9) rfl (fun x_ hu => exec_c32 _ (.tmp 90) rfl (w.heap.size) 3 (by kernel_rfl) c.dl (seg_cell (nC  _ _ _ _ _) hu.1 3 (v := .int .u32 c.dl) rfl rfl)) (unhide hS_) ?_
            simp only [nrm]
            refine any_tk 10 (.int .u32 (c.dl + 4)) (tf 46 10) rfl (fun x_ hu => add_32 _ (.tmp 91) (.const (.int .u32 4)) c.dl 4 rfl (by kernel_rfl) (by kernel_rfl) _ rfl (by omega)) (unhide hS_) ?_
            simp only [nrm]
            refine any_tk 11 (.bool false) (tf 46 11) rfl (fun x_ hu => geq_32 _ (.tmp 89) (.tmp 92) s.n (c.dl + 4) false rfl (by kernel_rfl) (by kernel_rfl) (decide_eq_false q2)) (unhide hS_) ?_
            simp only [nrm]
            refine any_tk 12 (.bool false) (tf 46 12) rfl (fun x_ hu => by kernel_rfl) (unhide hS_) ?_
            simp only [nrm]
            refine any_tk 13 (.bool false) (tf 46 13) rfl (fun x_ hu => by kernel_rfl) (unhide hS_) ?_
            simp only [nrm]
            refine any_tk 14 (.pointer (some ⟨g7, 0, none⟩)) (tf 46 14) rfl (fun x_ hu => by kernel_rfl) (unhide hS_) ?_
            simp only [nrm]
            refine any_tk 15 (.int .u32 s.n) (tf 46 15) rfl (fun x_ hu => exec_c32 _ (.tmp 96) rfl (g7) 0 (by kernel_rfl) s.n (seg_cell (nI  _ _) hu.2.1 0 (v := .int .u32 s.n) rfl rfl)) (unhide hS_) ?_
            simp only [nrm]
            refine any_tk 16 (.bool false) (tf 46 16) rfl (fun x_ hu => geq_32 _ (.tmp 97) (.const (.int .u32 2147483648)) s.n 2147483648 false rfl (by kernel_rfl) (by kernel_rfl) (decide_eq_false q3)) (unhide hS_) ?_
            simp only [nrm]
            refine any_tk 17 (.bool false) (tf 46 17) rfl (fun x_ hu => by kernel_rfl) (unhide hS_) ?_
            simp only [nrm]
            refine any_tk 18 (.bool false) (tf 46 18) rfl (fun x_ hu => by kernel_rfl) (unhide hS_) ?_
            simp only [nrm]
            refine any_tk 19 (.int .i64 ((i + 1 : Nat) : Int)) (tf 46 19) rfl (fun x_ hu => by kernel_rfl) (unhide hS_) ?_
            simp only [nrm]
            refine any_tk 20 (.bool true) (tf 46 20) rfl (fun x_ hu => gtr_i _ (.tmp 101) (.const (.int .i64 0)) ((i + 1 : Nat) : Int) 0 true rfl (by kernel_rfl) (by kernel_rfl) (decide_eq_true (by omega))) (unhide hS_) ?_
            simp only [nrm]
            refine any_tk 21 (.bool true) (tf 46 21) rfl (fun x_ hu => by kernel_rfl) (unhide hS_) ?_
            simp only [nrm]
            refine any_tk 22 (.pointer (some ⟨g7, 0, none⟩)) (tf 46 22) rfl (fun x_ hu => by kernel_rfl) (unhide hS_) ?_
            simp only [nrm]
            refine any_tk 23 (.int .u32 s.n) (tf 46 23) rfl (fun x_ hu => exec_c32 _ (.tmp 104) rfl (g7) 0 (by kernel_rfl) s.n (seg_cell (nI  _ _) hu.2.1 0 (v := .int .u32 s.n) rfl rfl)) (unhide hS_) ?_
            simp only [nrm]
            refine any_tk 24 (.pointer (some ⟨w.heap.size, 4, none⟩)) (tf 46 24) rfl (fun x_ hu => by kernel_rfl) (unhide hS_) ?_
            simp only [nrm]
            refine any_tk 25 (.slice x.ah x.nh x.ch) (tf 46 25) rfl (fun x_ hu => exec_csI _ (.tmp 106) rfl (w.heap.size) 4 (by kernel_rfl) x.ah x.nh x.ch (seg_cell (nC  _ _ _ _ _) hu.1 4 (v := .slice x.ah x.nh x.ch) rfl rfl)) (unhide hS_) ?_
            simp only [nrm]
            refine any_tk 26 (.int .i64 ((i + 1 : Nat) : Int)) (tf 46 26) rfl (fun x_ hu => by kernel_rfl) (unhide hS_) ?_
            simp only [nrm]
            refine any_tk 27 (.int .i64 (i : Int)) (tf 46 27) rfl (fun x_ hu => sub_i _ (.tmp 108) (.const (.int .i64 1)) ((i + 1 : Nat) : Int) 1 rfl (by kernel_rfl) (by kernel_rfl) _ (by omega) (by omega)) (unhide hS_) ?_
            simp only [nrm]
            refine any_tk 28 (.pointer (some ⟨p2, o2 + 2 * i, none⟩)) (tf 46 28) rfl (fun x_ hu => exec_isi _ (.tmp 107) (.tmp 109) rfl p2 o2 x.nh x.ch i (by rw [← unhide ha2]; kernel_rfl) (by kernel_rfl) hi1) (unhide hS_) ?_
            simp only [nrm]
            refine any_tk 29 (.pointer (some ⟨p2, o2 + 2 * i, none⟩)) (tf 46 29) rfl (fun x_ hu => by kernel_rfl) (unhide hS_) ?_
            simp only [nrm]
            refine any_tk 30 (.int .u32 u.n) (tf 46 30) rfl (fun x_ hu => exec_c32 _ (.tmp 111) rfl p2 (o2 + 2 * i) (by kernel_rfl) u.n (hu.2.2.cell (unhide hr3))) (unhide hS_) ?_
            simp only [nrm]
            refine any_tk 31 (.bool false) (tf 46 31) rfl (fun x_ hu => leq_32 _ (.tmp 105) (.tmp 112) s.n u.n false rfl (by kernel_rfl) (by kernel_rfl) (decide_eq_false q4)) (unhide hS_) ?_
            simp only [nrm]
            refine any_tk 32 (.bool false) (tf 46 32) rfl (fun x_ hu => by kernel_rfl) (unhide hS_) ?_
            simp only [nrm]
            refine any_tk 33 (.bool false) (tf 46 33) rfl (fun x_ hu => by kernel_rfl) (unhide hS_) ?_
            simp only [nrm]
            refine any_tk 34 (.bool false) (tf 46 34) rfl (fun x_ hu => by kernel_rfl) (unhide hS_) ?_
            simp only [nrm]
            refine any_tk 35 (.pointer (some ⟨g7, 1, none⟩)) (tf 46 35) rfl (fun x_ hu => by kernel_rfl) (unhide hS_) ?_
            simp only [nrm]
            refine any_tk 36 (.string s.s) (tf 46 36) rfl (fun x_ hu => exec_cst _ (.tmp 117) rfl (g7) 1 (by kernel_rfl) s.s (seg_cell (nI  _ _) hu.2.1 1 (v := .string s.s) rfl rfl)) (unhide hS_) ?_
            simp only [nrm]
            refine any_tk 37 (.int .i64 (s.s.size : Int)) (tf 46 37) rfl (fun x_ hu => len_st _ (.tmp 118) s.s (by omega) rfl (by kernel_rfl)) (unhide hS_) ?_
            simp only [nrm]
            refine any_tk 38 (.bool false) (tf 46 38) rfl (fun x_ hu => lss_i _ (.tmp 119) (.const (.int .i64 1)) (s.s.size : Int) 1 false rfl (by kernel_rfl) (by kernel_rfl) (decide_eq_false q5)) (unhide hS_) ?_
            simp only [nrm]
            refine any_tk 39 (.bool false) (tf 46 39) rfl (fun x_ hu => by kernel_rfl) (unhide hS_) ?_
            simp only [nrm]
            refine any_tk 40 (.bool false) (tf 46 40) rfl (fun x_ hu => by kernel_rfl) (unhide hS_) ?_
            simp only [nrm]
            refine any_tk 41 (.pointer (some ⟨g7, 1, none⟩)) (tf 46 41) rfl (fun x_ hu => by kernel_rfl) (unhide hS_) ?_
            simp only [nrm]
            refine any_tk 42 (.string s.s) (tf 46 42) rfl (fun x_ hu => exec_cst _ (.tmp 123) rfl (g7) 1 (by kernel_rfl) s.s (seg_cell (nI  _ _) hu.2.1 1 (v := .string s.s) rfl rfl)) (unhide hS_) ?_
            simp only [nrm]
            refine any_tk 43 (.int .i64 (s.s.size : Int)) (tf 46 43) rfl (fun x_ hu => len_st _ (.tmp 124) s.s (by omega) rfl (by kernel_rfl)) (unhide hS_) ?_
            simp only [nrm]
            refine any_tk 44 (.bool true) (tf 46 44) rfl (fun x_ hu => gtr_i _ (.tmp 125) (.const (.int .i64 48)) (s.s.size : Int) 48 true rfl (by kernel_rfl) (by kernel_rfl) (decide_eq_true q6)) (unhide hS_) ?_
            simp only [nrm]
            refine any_tk 45 (.bool true) (tf 46 45) rfl (fun x_ hu => by kernel_rfl) (unhide hS_) ?_
            simp only [nrm]
            refine any_done (by kernel_rfl) ?_
            clear hS_
            replace hB := hide hB
            go_upto_region 16 with fail
            replace hB := unhide hB
            refine wp_region_lit ?_
            (refine wpList_step fun K hK => ?_; replace hK := hide hK; go_simp; refine unhide hK _ _ ?_; clear hK K)
            refine wpList_nil ?_
            replace hB := hide hB
            go_wp2_with fail
            replace hB := unhide hB
            rw [unhide hT]
            exact (⟨by rw [hv] <;> rfl, hB.gr⟩)
          have hz : szB s.s = true := by unfold szB; rw [decide_eq_true_iff]; omega
          have hs2 : Hid (∃ f, rises c.dl e c.H = rises f e (c.H.drop ((i + 1) + 1)) ∧ c.dl ≤ f ∧ (((i + 1) + 1 = 0 ∧ f = c.dl) ∨ ∃ u, 0 < (i + 1) + 1 ∧ c.H[(i + 1) + 1 - 1]? = some u ∧ f = u.n)) := hide ⟨s.n, by
            rw [unhide hs1, decide_eq_true (show f < s.n by omega), decide_eq_true (show s.n < e by omega), hz]
            rfl, by omega, .inr ⟨s, by omega, by rw [Nat.add_sub_cancel]; exact unhide hsj, rfl⟩⟩
          replace hB := hide hB
          go_upto_region 15 with fail
          replace hB := unhide hB
          refine any_start (S := fun v_ => v_.heap[w.heap.size]? = some (.cells (fl [[.int .u32 c.nx], [.slice x.ao x.no x.co], [.int .i64 c.tn], [.int .u32 c.dl], [.slice x.ah x.nh x.ch]]) 26 (0, 0)) ∧ v_.heap[g7]? = some (.cells (fl [[.int .u32 s.n], [.string s.s]]) 47 (0, 0)) ∧ Gr u4 v_) (by kernel_rfl) ?_
          replace hG := hide ((unhide hG).gr ((Gr.refl u4).drew))
          replace hB := hB.drew
          generalize World.drew _ = u5 at *
          simp only [List.size_toArray, List.length_cons, List.length_nil, Array.replicate, List.replicate]
          have hS_ := hide (show (fun v_ => v_.heap[w.heap.size]? = some (.cells (fl [[.int .u32 c.nx], [.slice x.ao x.no x.co], [.int .i64 c.tn], [.int .u32 c.dl], [.slice x.ah x.nh x.ch]]) 26 (0, 0)) ∧ v_.heap[g7]? = some (.cells (fl [[.int .u32 s.n], [.string s.s]]) 47 (0, 0)) ∧ Gr u4 v_) u5 from ⟨(hB.get 0 (x := ⟨w.heap.size, fl [[.int .u32 c.nx], [.slice x.ao x.no x.co], [.int .i64 c.tn], [.int .u32 c.dl], [.slice x.ah x.nh x.ch]], 26⟩) rfl), (hB.get 1 (x := ⟨g7, fl [[.int .u32 s.n], [.string s.s]], 47⟩) rfl), (unhide hG)⟩)
          refine any_tk 0 (.pointer (some ⟨g7, 0, none⟩)) (tf 46 0) rfl (fun x_ hu => by kernel_rfl) (unhide hS_) ?_
          simp only [nrm]
          refine any_tk 1 (.int .u32 s.n) (tf 46 1) rfl (fun x_ hu => exec_c32 _ (.tmp 82) rfl (g7) 0 (by kernel_rfl) s.n (seg_cell (nI  _ _) hu.2.1 0 (v := .int .u32 s.n) rfl rfl)) (unhide hS_) ?_
          simp only [nrm]
          refine any_tk 2 (.pointer (some ⟨w.heap.size, 3, none⟩)) (tf 46 2) rfl (fun x_ hu => by kernel_rfl) (unhide hS_) ?_
          simp only [nrm]
          refine any_tk 3 (.int .u32 c.dl) (tf 46 3) rfl (fun x_ hu => exec_c32 _ (.tmp 84) rfl (w.heap.size) 3 (by kernel_rfl) c.dl (seg_cell (nC  _ _ _ _ _) hu.1 3 (v := .int .u32 c.dl) rfl rfl)) (unhide hS_) ?_
          simp only [nrm]
          refine any_tk 4 (.bool false) (tf 46 4) rfl (fun x_ hu => leq_32 _ (.tmp 83) (.tmp 85) s.n c.dl false rfl (by kernel_rfl) (by kernel_rfl) (decide_eq_false q1)) (unhide hS_) ?_
          simp only [nrm]
          refine any_tk 5 (.bool false) (tf 46 5) rfl (fun x_ hu => by kernel_rfl) (unhide hS_) ?_
          simp only [nrm]
          refine any_tk 6 (.pointer (some ⟨g7, 0, none⟩)) (tf 46 6) rfl (fun x_ hu => by kernel_rfl) (unhide hS_) ?_
          simp only [nrm]
          refine any_tk 7 (.int .u32 s.n) (tf 46 7) rfl (fun x_ hu => exec_c32 _ (.tmp 88) rfl (g7) 0 (by kernel_rfl) s.n (seg_cell (nI  _ _) hu.2.1 0 (v := .int .u32 s.n) rfl rfl)) (unhide hS_) ?_
          simp only [nrm]
          refine any_tk 8 (.pointer (some ⟨w.heap.size, 3, none⟩)) (tf 46 8) rfl (fun x_ hu => by kernel_rfl) (unhide hS_) ?_
          simp only [nrm]
          refine any_tk 9 (.int .u32 c.dl) (tf 46 9) rfl (fun x_ hu => exec_c32 _ (.tmp 90) rfl (w.heap.size) 3 (by kernel_rfl) c.dl (seg_cell (nC  _ _ _ _ _) hu.1 3 (v := .int .u32 c.dl) rfl rfl)) (unhide hS_) ?_
          simp only [nrm]
          refine any_tk 10 (.int .u32 (c.dl + 4)) (tf 46 10) rfl (fun x_ hu => add_32 _ (.tmp 91) (.const (.int .u32 4)) c.dl 4 rfl (by kernel_rfl) (by kernel_rfl) _ rfl (by omega)) (unhide hS_) ?_
          simp only [nrm]
          refine any_tk 11 (.bool false) (tf 46 11) rfl (fun x_ hu => geq_32 _ (.tmp 89) (.tmp 92) s.n (c.dl + 4) false rfl (by kernel_rfl) (by kernel_rfl) (decide_eq_false q2)) (unhide hS_) ?_
          simp only [nrm]
          refine any_tk 12 (.bool false) (tf 46 12) rfl (fun x_ hu => by kernel_rfl) (unhide hS_) ?_
          simp only [nrm]
          refine any_tk 13 (.bool false) (tf 46 13) rfl (fun x_ hu => by kernel_rfl) (unhide hS_) ?_
          simp only [nrm]
          refine any_tk 14 (.pointer (some ⟨g7, 0, none⟩)) (tf 46 14) rfl (fun x_ hu => by kernel_rfl) (unhide hS_) ?_
          simp only [nrm]
          refine any_tk 15 (.int .u32 s.n) (tf 46 15) rfl (fun x_ hu => exec_c32 _ (.tmp 96) rfl (g7) 0 (by kernel_rfl) s.n (seg_cell (nI  _ _) hu.2.1 0 (v := .int .u32 s.n) rfl rfl)) (unhide hS_) ?_
          simp only [nrm]
          refine any_tk 16 (.bool false) (tf 46 16) rfl (fun x_ hu => geq_32 _ (.tmp 97) (.const (.int .u32 2147483648)) s.n 2147483648 false rfl (by kernel_rfl) (by kernel_rfl) (decide_eq_false q3)) (unhide hS_) ?_
          simp only [nrm]
          refine any_tk 17 (.bool false) (tf 46 17) rfl (fun x_ hu => by kernel_rfl) (unhide hS_) ?_
          simp only [nrm]
          refine any_tk 18 (.bool false) (tf 46 18) rfl (fun x_ hu => by kernel_rfl) (unhide hS_) ?_
          simp only [nrm]
          refine any_tk 19 (.int .i64 ((i + 1 : Nat) : Int)) (tf 46 19) rfl (fun x_ hu => by kernel_rfl) (unhide hS_) ?_
          simp only [nrm]
          refine any_tk 20 (.bool true) (tf 46 20) rfl (fun x_ hu => gtr_i _ (.tmp 101) (.const (.int .i64 0)) ((i + 1 : Nat) : Int) 0 true rfl (by kernel_rfl) (by kernel_rfl) (decide_eq_true (by omega))) (unhide hS_) ?_
          simp only [nrm]
          refine any_tk 21 (.bool true) (tf 46 21) rfl (fun x_ hu => by kernel_rfl) (unhide hS_) ?_
          simp only [nrm]
          refine any_tk 22 (.pointer (some ⟨g7, 0, none⟩)) (tf 46 22) rfl (fun x_ hu => by kernel_rfl) (unhide hS_) ?_
          simp only [nrm]
          refine any_tk 23 (.int .u32 s.n) (tf 46 23) rfl (fun x_ hu => exec_c32 _ (.tmp 104) rfl (g7) 0 (by kernel_rfl) s.n (seg_cell (nI  _ _) hu.2.1 0 (v := .int .u32 s.n) rfl rfl)) (unhide hS_) ?_
          simp only [nrm]
          refine any_tk 24 (.pointer (some ⟨w.heap.size, 4, none⟩)) (tf 46 24) rfl (fun x_ hu => by kernel_rfl) (unhide hS_) ?_
          simp only [nrm]
          refine any_tk 25 (.slice x.ah x.nh x.ch) (tf 46 25) rfl (fun x_ hu => exec_csI _ (.tmp 106) rfl (w.heap.size) 4 (by kernel_rfl) x.ah x.nh x.ch (seg_cell (nC  _ _ _ _ _) hu.1 4 (v := .slice x.ah x.nh x.ch) rfl rfl)) (unhide hS_) ?_
          simp only [nrm]
          refine any_tk 26 (.int .i64 ((i + 1 : Nat) : Int)) (tf 46 26) rfl (fun x_ hu => by kernel_rfl) (unhide hS_) ?_
          simp only [nrm]
          refine any_tk 27 (.int .i64 (i : Int)) (tf 46 27) rfl (fun x_ hu => sub_i _ (.tmp 108) (.const (.int .i64 1)) ((i + 1 : Nat) : Int) 1 rfl (by kernel_rfl) (by kernel_rfl) _ (by omega) (by omega)) (unhide hS_) ?_
          simp only [nrm]
          refine any_tk 28 (.pointer (some ⟨p2, o2 + 2 * i, none⟩)) (tf 46 28) rfl (fun x_ hu => exec_isi _ (.tmp 107) (.tmp 109) rfl p2 o2 x.nh x.ch i (by rw [← unhide ha2]; kernel_rfl) (by kernel_rfl) hi1) (unhide hS_) ?_
          simp only [nrm]
          refine any_tk 29 (.pointer (some ⟨p2, o2 + 2 * i, none⟩)) (tf 46 29) rfl (fun x_ hu => by kernel_rfl) (unhide hS_) ?_
          simp only [nrm]
          refine any_tk 30 (.int .u32 u.n) (tf 46 30) rfl (fun x_ hu => exec_c32 _ (.tmp 111) rfl p2 (o2 + 2 * i) (by kernel_rfl) u.n (hu.2.2.cell (unhide hr3))) (unhide hS_) ?_
          simp only [nrm]
          refine any_tk 31 (.bool false) (tf 46 31) rfl (fun x_ hu => leq_32 _ (.tmp 105) (.tmp 112) s.n u.n false rfl (by kernel_rfl) (by kernel_rfl) (decide_eq_false q4)) (unhide hS_) ?_
          simp only [nrm]
          refine any_tk 32 (.bool false) (tf 46 32) rfl (fun x_ hu => by kernel_rfl) (unhide hS_) ?_
          simp only [nrm]
          refine any_tk 33 (.bool false) (tf 46 33) rfl (fun x_ hu => by kernel_rfl) (unhide hS_) ?_
          simp only [nrm]
          refine any_tk 34 (.bool false) (tf 46 34) rfl (fun x_ hu => by kernel_rfl) (unhide hS_) ?_
          simp only [nrm]
          refine any_tk 35 (.pointer (some ⟨g7, 1, none⟩)) (tf 46 35) rfl (fun x_ hu => by kernel_rfl) (unhide hS_) ?_
          simp only [nrm]
          refine any_tk 36 (.string s.s) (tf 46 36) rfl (fun x_ hu => exec_cst _ (.tmp 117) rfl (g7) 1 (by kernel_rfl) s.s (seg_cell (nI  _ _) hu.2.1 1 (v := .string s.s) rfl rfl)) (unhide hS_) ?_
          simp only [nrm]
          refine any_tk 37 (.int .i64 (s.s.size : Int)) (tf 46 37) rfl (fun x_ hu => len_st _ (.tmp 118) s.s (by omega) rfl (by kernel_rfl)) (unhide hS_) ?_
          simp only [nrm]
          refine any_tk 38 (.bool false) (tf 46 38) rfl (fun x_ hu => lss_i _ (.tmp 119) (.const (.int .i64 1)) (s.s.size : Int) 1 false rfl (by kernel_rfl) (by kernel_rfl) (decide_eq_false q5)) (unhide hS_) ?_
          simp only [nrm]
          refine any_tk 39 (.bool false) (tf 46 39) rfl (fun x_ hu => by kernel_rfl) (unhide hS_) ?_
          simp only [nrm]
          refine any_tk 40 (.bool false) (tf 46 40) rfl (fun x_ hu => by kernel_rfl) (unhide hS_) ?_
          simp only [nrm]
          refine any_tk 41 (.pointer (some ⟨g7, 1, none⟩)) (tf 46 41) rfl (fun x_ hu => by kernel_rfl) (unhide hS_) ?_
          simp only [nrm]
          refine any_tk 42 (.string s.s) (tf 46 42) rfl (fun x_ hu => exec_cst _ (.tmp 123) rfl (g7) 1 (by kernel_rfl) s.s (seg_cell (nI  _ _) hu.2.1 1 (v := .string s.s) rfl rfl)) (unhide hS_) ?_
          simp only [nrm]
          refine any_tk 43 (.int .i64 (s.s.size : Int)) (tf 46 43) rfl (fun x_ hu => len_st _ (.tmp 124) s.s (by omega) rfl (by kernel_rfl)) (unhide hS_) ?_
          simp only [nrm]
          refine any_tk 44 (.bool false) (tf 46 44) rfl (fun x_ hu => gtr_i _ (.tmp 125) (.const (.int .i64 48)) (s.s.size : Int) 48 false rfl (by kernel_rfl) (by kernel_rfl) (decide_eq_false q6)) (unhide hS_) ?_
          simp only [nrm]
          refine any_tk 45 (.bool false) (tf 46 45) rfl (fun x_ hu => by kernel_rfl) (unhide hS_) ?_
          simp only [nrm]
          refine any_done (by kernel_rfl) ?_
          clear hS_
          replace hB := Bl.left (L := [⟨w.heap.size, fl [[.int .u32 c.nx], [.slice x.ao x.no x.co], [.int .i64 c.tn], [.int .u32 c.dl], [.slice x.ah x.nh x.ch]], 26⟩]) (M := [⟨g7, fl [[.int .u32 s.n], [.string s.s]], 47⟩]) hB
          have jw : IntKind.i64.wrap ((((i + 1) : Nat) : Int) + 1) = (((i + 1) : Nat) : Int) + 1 := by rw [IntKind.wrap_i64]; omega
          replace hB := hide hB
          clear hs1 hsj hok hz
          go_wp2_with fail
          go_roundw
          case rel => exact ⟨(i + 1) + 1, by omega, by simp <;> omega, hs2, hB⟩
          case measure => simp [intOf]; omega
      · have jI : ¬ (j : Int) < (x.nh : Int) := by omega
        have hv : rt c = true := rt_mk (by rw [hn, hm]; omega) (unhide ht) (unhide hS1) (by
          obtain ⟨f, hs1, _, _⟩ := unhide hs
          rw [← he1, hs1, List.drop_eq_nil_of_le (by omega)]
          rfl)
        clear hs
        replace hB := hide hB
        go_upto_region 18 with fail
        replace hB := unhide hB
        refine wp_region_lit ?_
        (refine wpList_step fun K hK => ?_; replace hK := hide hK; go_simp; refine unhide hK _ _ ?_; clear hK K)
        refine wpList_nil ?_
        replace hB := hide hB
        go_wp2_with fail
        replace hB := unhide hB
        rw [unhide hT]
        exact (⟨by rw [hv] <;> rfl, hB.gr⟩)
end Go.Proofs.Ytcefkkoombmndaa
