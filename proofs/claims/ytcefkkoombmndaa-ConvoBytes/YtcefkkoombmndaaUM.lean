/-
  Wants; the law's wakes.
-/
import Derived.Test.YtcefkkoombmndaaUL
namespace Go.Proofs.Ytcefkkoombmndaa
open Go.RowKit
set_option maxRecDepth 100000
set_option linter.unusedSimpArgs false
set_option linter.unusedVariables false
def wt (c : Cm) (m r : Int) : Bool := rt c && (decide (c.dl ≤ m) && (decide (m < 2147483648) && (decide (m - c.dl < min 4 r) && !isIn c.H m)))
set_option maxHeartbeats 4000000 in
theorem wants_ok (c : Cm) (x : Lc) (m r : Int) (hm : 0 ≤ m ∧ m < 4294967296) (w : World) (hc : Cin w c x) : Calls Try.prog 23 #[.agg (fl [[.int .u32 c.nx], [.slice x.ao x.no x.co], [.int .i64 c.tn], [.int .u32 c.dl], [.slice x.ah x.nh x.ch]]), .int .u32 m, .int .i64 r] w (Vl (.bool (wt c m r)) w) := by
  obtain ⟨T, hT⟩ : ∃ T : Ending → World → Prop, T = (Vl (.bool (wt c m r)) w) := ⟨_, rfl⟩
  rw [← hT]
  replace hT := hide hT
  have hdl := hc.dl
  have hhn := hc.h.len
  replace hc := hide hc
  obtain ⟨A0_, hA0_⟩ : ∃ S_, S_ = fl [[.int .u32 c.nx], [.slice x.ao x.no x.co], [.int .i64 c.tn], [.int .u32 c.dl], [.slice x.ah x.nh x.ch]] := ⟨_, rfl⟩
  rw [← hA0_]
  replace hA0_ := hide hA0_
  go_enter Try.func23, Try.ntmps23
  go_upto_region 1 with fail
  have hB := ((Bl.nil w).new A0_ 26)
  simp only [size_alloc, List.nil_append, List.cons_append] at hB
  rw [unhide hA0_] at hB
  generalize hu_ : World.alloc _ _ = u0
  replace hB : Bl w [⟨w.heap.size, fl [[.int .u32 c.nx], [.slice x.ao x.no x.co], [.int .i64 c.tn], [.int .u32 c.dl], [.slice x.ah x.nh x.ch]], 26⟩] u0 := by
    rw [← hu_]
    rw [unhide hA0_]
    exact hB
  clear hu_ hA0_
  cases h1 : rt c with
  | false =>
    have hk := chk_f h1
    have hv : wt c m r = false := by unfold wt; rw [h1]; rfl
    refine wp_region_lit ?_
    refine wpList_gen fun ops_ hops => ?_
    replace hops := hide hops
    refine list_val (.agg (fl [[.int .u32 c.nx], [.slice x.ao x.no x.co], [.int .i64 c.tn], [.int .u32 c.dl], [.slice x.ah x.nh x.ch]])) (by rw [unhide hops]; kernel_rfl) (exec_sw _ 26 (.tmp 3) rfl (w.heap.size) (by kernel_rfl) (hB.get 0 (x := ⟨w.heap.size, fl [[.int .u32 c.nx], [.slice x.ao x.no x.co], [.int .i64 c.tn], [.int .u32 c.dl], [.slice x.ah x.nh x.ch]], 26⟩) rfl) NC (nC  _ _ _ _ _) Try.underlying26 rfl (by kernel_rfl)) ?_
    simp only [nrm]
    refine list_call 12 #[.agg (fl [[.int .u32 c.nx], [.slice x.ao x.no x.co], [.int .i64 c.tn], [.int .u32 c.dl], [.slice x.ah x.nh x.ch]])] (by rw [unhide hops]; kernel_rfl) (by kernel_rfl) (((show Calls Try.prog 12 #[.agg (fl [[.int .u32 c.nx], [.slice x.ao x.no x.co], [.int .i64 c.tn], [.int .u32 c.dl], [.slice x.ah x.nh x.ch]])] u0 (Vl (.int .i64 281) u0) from hk ▸ check_ok c x u0 ((unhide hc).gr hB.gr))).mono ?_)
    rintro r_ u1 ⟨rfl, hg⟩
    replace hB := hB.more hg
    clear hg
    refine ⟨_, rfl, ?_⟩
    simp only [nrm]
    refine list_val (.bool true) (by rw [unhide hops]; kernel_rfl) (neq_e _ (.tmp 11) (.const (.int .i64 0)) 281 0 true rfl (by kernel_rfl) (by kernel_rfl) (by decide)) ?_
    simp only [nrm]
    refine list_val (.bool true) (by rw [unhide hops]; kernel_rfl) (by kernel_rfl) ?_
    simp only [nrm]
    refine list_off (by rw [unhide hops]; kernel_rfl) ?_
    simp only [nrm]
    refine list_off (by rw [unhide hops]; kernel_rfl) ?_
    simp only [nrm]
    refine list_off (by rw [unhide hops]; kernel_rfl) ?_
    simp only [nrm]
    refine list_off (by rw [unhide hops]; kernel_rfl) ?_
    simp only [nrm]
    refine list_val (.bool true) (by rw [unhide hops]; kernel_rfl) (by kernel_rfl) ?_
    simp only [nrm]
    refine list_val (.bool true) (by rw [unhide hops]; kernel_rfl) (by kernel_rfl) ?_
    simp only [nrm]
    refine list_off (by rw [unhide hops]; kernel_rfl) ?_
    simp only [nrm]
    refine list_off (by rw [unhide hops]; kernel_rfl) ?_
    simp only [nrm]
    refine list_val (.bool true) (by rw [unhide hops]; kernel_rfl) (by kernel_rfl) ?_
    simp only [nrm]
    refine wpList_nil ?_
    replace hB := hide hB
    go_wp2_with fail
    replace hB := unhide hB
    rw [unhide hT]
    exact (⟨by rw [hv] <;> rfl, hB.gr⟩)
  | true =>
    have hk := chk_t h1
    have hle := rt_le h1
    rw [hhn] at hle
    have hw : wt c m r = (decide (c.dl ≤ m) && (decide (m < 2147483648) && (decide (m - c.dl < min 4 r) && !isIn c.H m))) := by unfold wt; rw [h1, Bool.true_and]
    replace h1 := hide h1; replace hw := hide hw
    by_cases h2 : m < c.dl
    · replace h2 := hide h2
      have hv : wt c m r = false := by rw [unhide hw, decide_eq_false (by have := unhide h2; omega), Bool.false_and]
      refine wp_region_lit ?_
      refine wpList_gen fun ops_ hops => ?_
      replace hops := hide hops
      refine list_val (.agg (fl [[.int .u32 c.nx], [.slice x.ao x.no x.co], [.int .i64 c.tn], [.int .u32 c.dl], [.slice x.ah x.nh x.ch]])) (by rw [unhide hops]; kernel_rfl) (exec_sw _ 26 (.tmp 3) rfl (w.heap.size) (by kernel_rfl) (hB.get 0 (x := ⟨w.heap.size, fl [[.int .u32 c.nx], [.slice x.ao x.no x.co], [.int .i64 c.tn], [.int .u32 c.dl], [.slice x.ah x.nh x.ch]], 26⟩) rfl) NC (nC  _ _ _ _ _) Try.underlying26 rfl (by kernel_rfl)) ?_
      simp only [nrm]
      refine list_call 12 #[.agg (fl [[.int .u32 c.nx], [.slice x.ao x.no x.co], [.int .i64 c.tn], [.int .u32 c.dl], [.slice x.ah x.nh x.ch]])] (by rw [unhide hops]; kernel_rfl) (by kernel_rfl) (((show Calls Try.prog 12 #[.agg (fl [[.int .u32 c.nx], [.slice x.ao x.no x.co], [.int .i64 c.tn], [.int .u32 c.dl], [.slice x.ah x.nh x.ch]])] u0 (Vl (.int .i64 0) u0) from hk ▸ check_ok c x u0 ((unhide hc).gr hB.gr))).mono ?_)
      rintro r_ u1 ⟨rfl, hg⟩
      replace hB := hB.more hg
      clear hg
      refine ⟨_, rfl, ?_⟩
      simp only [nrm]
      refine list_val (.bool false) (by rw [unhide hops]; kernel_rfl) (neq_e _ (.tmp 11) (.const (.int .i64 0)) 0 0 false rfl (by kernel_rfl) (by kernel_rfl) (by decide)) ?_
      simp only [nrm]
      refine list_val (.bool false) (by rw [unhide hops]; kernel_rfl) (by kernel_rfl) ?_
      simp only [nrm]
      refine list_val (.int .u32 m) (by rw [unhide hops]; kernel_rfl) (by kernel_rfl) ?_
      simp only [nrm]
      refine list_val (.pointer (some ⟨w.heap.size, 3, none⟩)) (by rw [unhide hops]; kernel_rfl) (by kernel_rfl) ?_
      simp only [nrm]
      refine list_val (.int .u32 c.dl) (by rw [unhide hops]; kernel_rfl) (exec_c32 _ (.tmp 15) rfl (w.heap.size) 3 (by kernel_rfl) c.dl (seg_cell (nC  _ _ _ _ _) (hB.get 0 (x := ⟨w.heap.size, fl [[.int .u32 c.nx], [.slice x.ao x.no x.co], [.int .i64 c.tn], [.int .u32 c.dl], [.slice x.ah x.nh x.ch]], 26⟩) rfl) 3 (v := .int .u32 c.dl) rfl rfl)) ?_
      simp only [nrm]
      refine list_val (.bool true) (by rw [unhide hops]; kernel_rfl) (lss_32 _ (.tmp 14) (.tmp 16) m c.dl true rfl (by kernel_rfl) (by kernel_rfl) (decide_eq_true (unhide h2))) ?_
      simp only [nrm]
      refine list_val (.bool true) (by rw [unhide hops]; kernel_rfl) (by kernel_rfl) ?_
      simp only [nrm]
      refine list_val (.bool true) (by rw [unhide hops]; kernel_rfl) (by kernel_rfl) ?_
      simp only [nrm]
      refine list_off (by rw [unhide hops]; kernel_rfl) ?_
      simp only [nrm]
      refine list_off (by rw [unhide hops]; kernel_rfl) ?_
      simp only [nrm]
      refine list_val (.bool true) (by rw [unhide hops]; kernel_rfl) (by kernel_rfl) ?_
      simp only [nrm]
      refine wpList_nil ?_
      replace hB := hide hB
      go_wp2_with fail
      replace hB := unhide hB
      rw [unhide hT]
      exact (⟨by rw [hv] <;> rfl, hB.gr⟩)
    by_cases h3 : 2147483648 ≤ m
    · replace h3 := hide h3
      have hv : wt c m r = false := by rw [unhide hw, decide_eq_false (show ¬ m < 2147483648 by have := unhide h3; omega), Bool.false_and, Bool.and_false]
      refine wp_region_lit ?_
      refine wpList_gen fun ops_ hops => ?_
      replace hops := hide hops
      refine list_val (.agg (fl [[.int .u32 c.nx], [.slice x.ao x.no x.co], [.int .i64 c.tn], [.int .u32 c.dl], [.slice x.ah x.nh x.ch]])) (by rw [unhide hops]; kernel_rfl) (exec_sw _ 26 (.tmp 3) rfl (w.heap.size) (by kernel_rfl) (hB.get 0 (x := ⟨w.heap.size, fl [[.int .u32 c.nx], [.slice x.ao x.no x.co], [.int .i64 c.tn], [.int .u32 c.dl], [.slice x.ah x.nh x.ch]], 26⟩) rfl) NC (nC  _ _ _ _ _) Try.underlying26 rfl (by kernel_rfl)) ?_
      simp only [nrm]
      refine list_call 12 #[.agg (fl [[.int .u32 c.nx], [.slice x.ao x.no x.co], [.int .i64 c.tn], [.int .u32 c.dl], [.slice x.ah x.nh x.ch]])] (by rw [unhide hops]; kernel_rfl) (by kernel_rfl) (((show Calls Try.prog 12 #[.agg (fl [[.int .u32 c.nx], [.slice x.ao x.no x.co], [.int .i64 c.tn], [.int .u32 c.dl], [.slice x.ah x.nh x.ch]])] u0 (Vl (.int .i64 0) u0) from hk ▸ check_ok c x u0 ((unhide hc).gr hB.gr))).mono ?_)
      rintro r_ u1 ⟨rfl, hg⟩
      replace hB := hB.more hg
      clear hg
      refine ⟨_, rfl, ?_⟩
      simp only [nrm]
      refine list_val (.bool false) (by rw [unhide hops]; kernel_rfl) (neq_e _ (.tmp 11) (.const (.int .i64 0)) 0 0 false rfl (by kernel_rfl) (by kernel_rfl) (by decide)) ?_
      simp only [nrm]
      refine list_val (.bool false) (by rw [unhide hops]; kernel_rfl) (by kernel_rfl) ?_
      simp only [nrm]
      refine list_val (.int .u32 m) (by rw [unhide hops]; kernel_rfl) (by kernel_rfl) ?_
      simp only [nrm]
      refine list_val (.pointer (some ⟨w.heap.size, 3, none⟩)) (by rw [unhide hops]; kernel_rfl) (by kernel_rfl) ?_
      simp only [nrm]
      refine list_val (.int .u32 c.dl) (by rw [unhide hops]; kernel_rfl) (exec_c32 _ (.tmp 15) rfl (w.heap.size) 3 (by kernel_rfl) c.dl (seg_cell (nC  _ _ _ _ _) (hB.get 0 (x := ⟨w.heap.size, fl [[.int .u32 c.nx], [.slice x.ao x.no x.co], [.int .i64 c.tn], [.int .u32 c.dl], [.slice x.ah x.nh x.ch]], 26⟩) rfl) 3 (v := .int .u32 c.dl) rfl rfl)) ?_
      simp only [nrm]
      refine list_val (.bool false) (by rw [unhide hops]; kernel_rfl) (lss_32 _ (.tmp 14) (.tmp 16) m c.dl false rfl (by kernel_rfl) (by kernel_rfl) (decide_eq_false h2)) ?_
      simp only [nrm]
      refine list_val (.bool false) (by rw [unhide hops]; kernel_rfl) (by kernel_rfl) ?_
      simp only [nrm]
      refine list_val (.bool false) (by rw [unhide hops]; kernel_rfl) (by kernel_rfl) ?_
      simp only [nrm]
      refine list_val (.int .u32 m) (by rw [unhide hops]; kernel_rfl) (by kernel_rfl) ?_
      simp only [nrm]
      refine list_val (.bool true) (by rw [unhide hops]; kernel_rfl) (geq_32 _ (.tmp 20) (.const (.int .u32 2147483648)) m 2147483648 true rfl (by kernel_rfl) (by kernel_rfl) (decide_eq_true (unhide h3))) ?_
      simp only [nrm]
      refine list_val (.bool true) (by rw [unhide hops]; kernel_rfl) (by kernel_rfl) ?_
      simp only [nrm]
      refine wpList_nil ?_
      replace hB := hide hB
      go_wp2_with fail
      replace hB := unhide hB
      rw [unhide hT]
      exact (⟨by rw [hv] <;> rfl, hB.gr⟩)
    refine wp_region_lit ?_
    refine wpList_gen fun ops_ hops => ?_
    replace hops := hide hops
    refine list_val (.agg (fl [[.int .u32 c.nx], [.slice x.ao x.no x.co], [.int .i64 c.tn], [.int .u32 c.dl], [.slice x.ah x.nh x.ch]])) (by rw [unhide hops]; kernel_rfl) (exec_sw _ 26 (.tmp 3) rfl (w.heap.size) (by kernel_rfl) (hB.get 0 (x := ⟨w.heap.size, fl [[.int .u32 c.nx], [.slice x.ao x.no x.co], [.int .i64 c.tn], [.int .u32 c.dl], [.slice x.ah x.nh x.ch]], 26⟩) rfl) NC (nC  _ _ _ _ _) Try.underlying26 rfl (by kernel_rfl)) ?_
    simp only [nrm]
    refine list_call 12 #[.agg (fl [[.int .u32 c.nx], [.slice x.ao x.no x.co], [.int .i64 c.tn], [.int .u32 c.dl], [.slice x.ah x.nh x.ch]])] (by rw [unhide hops]; kernel_rfl) (by kernel_rfl) (((show Calls Try.prog 12 #[.agg (fl [[.int .u32 c.nx], [.slice x.ao x.no x.co], [.int .i64 c.tn], [.int .u32 c.dl], [.slice x.ah x.nh x.ch]])] u0 (Vl (.int .i64 0) u0) from hk ▸ check_ok c x u0 ((unhide hc).gr hB.gr))).mono ?_)
    rintro r_ u1 ⟨rfl, hg⟩
    replace hB := hB.more hg
    clear hg
    refine ⟨_, rfl, ?_⟩
    simp only [nrm]
    refine list_val (.bool false) (by rw [unhide hops]; kernel_rfl) (neq_e _ (.tmp 11) (.const (.int .i64 0)) 0 0 false rfl (by kernel_rfl) (by kernel_rfl) (by decide)) ?_
    simp only [nrm]
    refine list_val (.bool false) (by rw [unhide hops]; kernel_rfl) (by kernel_rfl) ?_
    simp only [nrm]
    refine list_val (.int .u32 m) (by rw [unhide hops]; kernel_rfl) (by kernel_rfl) ?_
    simp only [nrm]
    refine list_val (.pointer (some ⟨w.heap.size, 3, none⟩)) (by rw [unhide hops]; kernel_rfl) (by kernel_rfl) ?_
    simp only [nrm]
    refine list_val (.int .u32 c.dl) (by rw [unhide hops]; kernel_rfl) (exec_c32 _ (.tmp 15) rfl (w.heap.size) 3 (by kernel_rfl) c.dl (seg_cell (nC  _ _ _ _ _) (hB.get 0 (x := ⟨w.heap.size, fl [[.int .u32 c.nx], [.slice x.ao x.no x.co], [.int .i64 c.tn], [.int .u32 c.dl], [.slice x.ah x.nh x.ch]], 26⟩) rfl) 3 (v := .int .u32 c.dl) rfl rfl)) ?_
    simp only [nrm]
    refine list_val (.bool false) (by rw [unhide hops]; kernel_rfl) (lss_32 _ (.tmp 14) (.tmp 16) m c.dl false rfl (by kernel_rfl) (by kernel_rfl) (decide_eq_false h2)) ?_
    simp only [nrm]
    refine list_val (.bool false) (by rw [unhide hops]; kernel_rfl) (by kernel_rfl) ?_
    simp only [nrm]
    refine list_val (.bool false) (by rw [unhide hops]; kernel_rfl) (by kernel_rfl) ?_
    simp only [nrm]
    refine list_val (.int .u32 m) (by rw [unhide hops]; kernel_rfl) (by kernel_rfl) ?_
    simp only [nrm]
    refine list_val (.bool false) (by rw [unhide hops]; kernel_rfl) (geq_32 _ (.tmp 20) (.const (.int .u32 2147483648)) m 2147483648 false rfl (by kernel_rfl) (by kernel_rfl) (decide_eq_false h3)) ?_
    simp only [nrm]
    refine list_val (.bool false) (by rw [unhide hops]; kernel_rfl) (by kernel_rfl) ?_
    simp only [nrm]
    refine wpList_nil ?_
    obtain ⟨d, hd⟩ : ∃ d, d = m - c.dl := ⟨_, rfl⟩
    have hd1 : 0 ≤ d ∧ d < 4294967296 := by omega
    rw [← hd] at hw
    rw [decide_eq_true (by omega), decide_eq_true (by omega), Bool.true_and, Bool.true_and] at hw
    replace hd := hide hd
    replace hB := hide hB
    go_upto_region 3 with fail
    replace hB := unhide hB
    refine wp_region_lit ?_
    refine lvk (.int .u32 m) ?_
    simp only [nrm]
    refine lvk (.pointer (some ⟨w.heap.size, 3, none⟩)) ?_
    simp only [nrm]
    refine list_val (.int .u32 c.dl) (by kernel_rfl) (exec_c32 _ (.tmp 24) rfl (w.heap.size) 3 (by kernel_rfl) c.dl (seg_cell (nC  _ _ _ _ _) (hB.get 0 (x := ⟨w.heap.size, fl [[.int .u32 c.nx], [.slice x.ao x.no x.co], [.int .i64 c.tn], [.int .u32 c.dl], [.slice x.ah x.nh x.ch]], 26⟩) rfl) 3 (v := .int .u32 c.dl) rfl rfl)) ?_
    simp only [nrm]
    refine list_val (.int .u32 d) (by kernel_rfl) (sub_32 _ (.tmp 23) (.tmp 25) m c.dl rfl (by kernel_rfl) (by kernel_rfl) d (unhide hd).symm (by omega)) ?_
    simp only [nrm]
    refine list_val (.int .i64 d) (by kernel_rfl) (conv_i64 _ (.tmp 26) d rfl (by kernel_rfl) (by omega)) ?_
    simp only [nrm]
    (refine wpList_step fun K hK => ?_; replace hK := hide hK; go_simp; refine unhide hK _ _ ?_; clear hK K)
    refine wpList_nil ?_
    replace hB := hide hB
    go_upto_region 4 with fail
    replace hB := unhide hB
    refine wp_region_lit ?_
    refine lvk (.pointer (some ⟨w.heap.size, 4, none⟩)) ?_
    simp only [nrm]
    refine list_val (.slice x.ah x.nh x.ch) (by kernel_rfl) (exec_csI _ (.tmp 29) rfl (w.heap.size) 4 (by kernel_rfl) x.ah x.nh x.ch (seg_cell (nC  _ _ _ _ _) (hB.get 0 (x := ⟨w.heap.size, fl [[.int .u32 c.nx], [.slice x.ao x.no x.co], [.int .i64 c.tn], [.int .u32 c.dl], [.slice x.ah x.nh x.ch]], 26⟩) rfl) 4 (v := .slice x.ah x.nh x.ch) rfl rfl)) ?_
    simp only [nrm]
    refine lvk (.int .u32 m) ?_
    simp only [nrm]
    refine list_call 37 #[.slice x.ah x.nh x.ch, .int .u32 m] (by kernel_rfl) (by kernel_rfl) ((place_ok c.H m x.ah x.nh x.ch (by omega) u1 ((unhide hc).gr hB.gr).h (rt_srt (unhide h1))).mono ?_)
    rintro r_ u2 ⟨rfl, hg⟩
    replace hB := hB.more hg
    clear hg
    refine ⟨_, rfl, ?_⟩
    simp only [nrm]
    refine lvk (.tuple #[.int .i64 (pos c.H m : Int), .bool (isIn c.H m)]) ?_
    simp only [nrm]
    refine lvk (.int .i64 (pos c.H m : Int)) ?_
    simp only [nrm]
    refine lvk (.bool (isIn c.H m)) ?_
    simp only [nrm]
    (refine wpList_step fun K hK => ?_; replace hK := hide hK; go_simp; refine unhide hK _ _ ?_; clear hK K)
    (refine wpList_step fun K hK => ?_; replace hK := hide hK; go_simp; refine unhide hK _ _ ?_; clear hK K)
    refine wpList_nil ?_
    obtain ⟨e, he⟩ : ∃ e, e = min 4 r := ⟨_, rfl⟩
    rw [← he] at hw
    replace he := hide he
    by_cases h4 : d < e
    rotate_left
    · replace h4 := hide h4
      have hv : wt c m r = false := by rw [unhide hw, decide_eq_false (unhide h4), Bool.false_and]
      replace hB := hide hB
      go_upto_region 5 with fail
      replace hB := unhide hB
      refine wp_region_lit ?_
      refine wpList_gen fun ops_ hops => ?_
      replace hops := hide hops
      refine list_val (.int .i64 d) (by rw [unhide hops]; kernel_rfl) (by kernel_rfl) ?_
      simp only [nrm]
      refine list_val (.int .i64 r) (by rw [unhide hops]; kernel_rfl) (by kernel_rfl) ?_
      simp only [nrm]
      refine list_val (.int .i64 e) (by rw [unhide hops]; kernel_rfl) (min_i _ (.const (.int .i64 4)) (.tmp 36) 4 r rfl (by kernel_rfl) (by kernel_rfl) e (unhide he).symm) ?_
      simp only [nrm]
      refine list_val (.bool false) (by rw [unhide hops]; kernel_rfl) (lss_i _ (.tmp 35) (.tmp 37) d e false rfl (by kernel_rfl) (by kernel_rfl) (decide_eq_false (unhide h4))) ?_
      simp only [nrm]
      refine list_val (.bool false) (by rw [unhide hops]; kernel_rfl) (by kernel_rfl) ?_
      simp only [nrm]
      refine list_off (by rw [unhide hops]; kernel_rfl) ?_
      simp only [nrm]
      refine list_off (by rw [unhide hops]; kernel_rfl) ?_
      simp only [nrm]
      refine list_val (.bool false) (by rw [unhide hops]; kernel_rfl) (by kernel_rfl) ?_
      simp only [nrm]
      (refine wpList_step fun K hK => ?_; replace hK := hide hK; go_simp; refine unhide hK _ _ ?_; clear hK K)
      refine wpList_nil ?_
      replace hB := hide hB
      go_wp2_with fail
      replace hB := unhide hB
      rw [unhide hT]
      exact (⟨by rw [hv] <;> rfl, hB.gr⟩)
    have hv : wt c m r = !isIn c.H m := by rw [unhide hw, decide_eq_true h4, Bool.true_and]
    replace h4 := hide h4; replace hv := hide hv
    replace hB := hide hB
    go_upto_region 5 with fail
    replace hB := unhide hB
    refine wp_region_lit ?_
    refine wpList_gen fun ops_ hops => ?_
    replace hops := hide hops
    refine list_val (.int .i64 d) (by rw [unhide hops]; kernel_rfl) (by kernel_rfl) ?_
    simp only [nrm]
    refine list_val (.int .i64 r) (by rw [unhide hops]; kernel_rfl) (by kernel_rfl) ?_
    simp only [nrm]
    refine list_val (.int .i64 e) (by rw [unhide hops]; kernel_rfl) (min_i _ (.const (.int .i64 4)) (.tmp 36) 4 r rfl (by kernel_rfl) (by kernel_rfl) e (unhide he).symm) ?_
    simp only [nrm]
    refine list_val (.bool true) (by rw [unhide hops]; kernel_rfl) (lss_i _ (.tmp 35) (.tmp 37) d e true rfl (by kernel_rfl) (by kernel_rfl) (decide_eq_true (unhide h4))) ?_
    simp only [nrm]
    refine list_val (.bool true) (by rw [unhide hops]; kernel_rfl) (by kernel_rfl) ?_
    simp only [nrm]
    refine list_val (.bool (isIn c.H m)) (by rw [unhide hops]; kernel_rfl) (by kernel_rfl) ?_
    simp only [nrm]
    refine list_val (.bool (!isIn c.H m)) (by rw [unhide hops]; kernel_rfl) (by kernel_rfl) ?_
    simp only [nrm]
    refine list_val (.bool (!isIn c.H m)) (by rw [unhide hops]; kernel_rfl) (by kernel_rfl) ?_
    simp only [nrm]
    (refine wpList_step fun K hK => ?_; replace hK := hide hK; go_simp; refine unhide hK _ _ ?_; clear hK K)
    refine wpList_nil ?_
    replace hB := hide hB
    go_wp2_with fail
    replace hB := unhide hB
    rw [unhide hT]
    exact (⟨by rw [unhide hv] <;> rfl, hB.gr⟩)
theorem Ow.bz {k : Nat} {e : TypeId} {b g : Nat} {w v : World} {a : Option Addr} {n : Nat} (h : Ow k e b w a n) {C : Array Value} {t : TypeId} (hg : w.heap[g]? = some (.cells C t (0, 0))) (m : Bt g w v) (ht : t ≠ e := by decide) : Ow k e b v a n := by
  rcases h with h | ⟨q, o, C2, h1, h2, h3, h4⟩
  · exact .inl h
  · refine .inr ⟨q, o, C2, h1, h2, m.blk h3 ?_, h4⟩
    rintro rfl
    rw [hg] at h3
    injection h3 with h3
    injection h3 with _ e4 _
    exact ht e4
theorem lz_bz {k : Nat} {e : TypeId} {b g : Nat} {w v : World} {a : Option Addr} {n c : Nat} {R : List (List Value)} (h : Lz k w a n c R) (ho : Ow k e b w a n) {C : Array Value} {t : TypeId} (hg : w.heap[g]? = some (.cells C t (0, 0))) (m : Bt g w v) (ht : t ≠ e := by decide) : Lz k v a n c R := by
  refine ⟨h.len, h.row, ?_, h.cap, h.max⟩
  rcases h.sl with h1 | ⟨p, o, rfl, h2⟩
  · exact .inl h1
  · rcases ho with h3 | ⟨q, o2, C2, h3, _, h4, _⟩
    · exact .inl (List.eq_nil_of_length_eq_zero (by rw [h.len, h3]))
    · injection h3 with h3
      injection h3 with h3 _
      subst h3
      refine .inr ⟨p, o, rfl, range_bt h2 m ?_⟩
      rintro rfl
      rw [hg] at h4
      injection h4 with h4
      injection h4 with _ e4 _
      exact ht e4
/-- a conversation whose lists are one's own, wherever in their blocks -/
structure Co (b : Nat) (w : World) (c : Cm) (x : Lc) : Prop where
  i : Cin w c x
  o : Owx b w x
theorem Co.gr {b : Nat} {w v : World} {c : Cm} {x : Lc} (h : Co b w c x) (g : Gr w v) : Co b v c x := ⟨h.i.gr g, h.o.gr g⟩
theorem Co.bz {b g : Nat} {w v : World} {c : Cm} {x : Lc} (h : Co b w c x) {C : Array Value} {t : TypeId} (hg : w.heap[g]? = some (.cells C t (0, 0))) (m : Bt g w v) (h1 : t ≠ 39 := by decide) (h2 : t ≠ 47 := by decide) : Co b v c x :=
  ⟨⟨⟨h.i.o.1, lz_bz h.i.o.2 h.o.o hg m h1⟩, ⟨h.i.h.1, lz_bz h.i.h.2 h.o.h hg m h2⟩, h.i.nx, h.i.tn, h.i.dl⟩, ⟨h.o.o.bz hg m h1, h.o.h.bz hg m h2⟩⟩
def B1 : List Int := 1 :: List.replicate 104 0
def c1 : Cm := ⟨1, [⟨0, B1⟩], 0, 0, []⟩
theorem B1_ok : B1.length = 105 ∧ IsB B1 := by
  refine ⟨rfl, ?_⟩
  intro x hx
  unfold B1 at hx
  rcases List.mem_cons.1 hx with rfl | h
  · decide
  · rw [List.eq_of_mem_replicate h]; decide
theorem qu_1 : qu cz B1 = (c1, 0, 0) := by decide +kernel
theorem tu_1 : tu c1 = (c1, ⟨0, B1⟩, 0) := by decide +kernel
theorem wt_1 : wt cz 0 1 = true := by decide +kernel
theorem bB1 (w : World) {a : Act} {o : Oper} (ho : o.op = .build 28 #[(0, .const (.int .u8 1))]) : (execOp a.eval o).run Try.prog w = .ok (.value (.agg (fl [bw B1]))) w := by
  refine exec_bld w _ _ [(0, .int .u8 1)] ho (by simp [Act.eval]) _ ?_
  kernel_rfl
set_option maxHeartbeats 4000000 in
theorem wakes_ok  (w : World)  : Calls Try.prog 9 #[] w (Vl (.bool true) w) := by
  obtain ⟨T, hT⟩ : ∃ T : Ending → World → Prop, T = (Vl (.bool true) w) := ⟨_, rfl⟩
  rw [← hT]
  replace hT := hide hT
  go_enter Try.func9, Try.ntmps9
  go_upto_region 1 with fail
  obtain ⟨u0, hu_⟩ : ∃ u, u = w := ⟨_, rfl⟩
  rw [← hu_]
  have hB : Bl w [] u0 := hu_ ▸ Bl.nil w
  clear hu_
  refine wp_region_lit ?_
  refine list_val (.agg (fl [[.int .u32 0], [.slice none 0 0], [.int .i64 0], [.int .u32 0], [.slice none 0 0]])) (by kernel_rfl) (bC _ rfl) ?_
  simp only [nrm]
  refine list_val (.agg (fl [bw B1])) (by kernel_rfl) (bB1 _ rfl) ?_
  simp only [nrm]
  refine list_call 15 #[.agg (fl [[.int .u32 0], [.slice none 0 0], [.int .i64 0], [.int .u32 0], [.slice none 0 0]]), .agg (fl [bw B1])] (by kernel_rfl) (by kernel_rfl) (((show Calls Try.prog 15 #[.agg (fl (cvs cz xz)), .agg (fl [bw B1])] u0 (Rc c1 [.int .u32 0, .int .i64 0] u0) from by have h := queue_ok cz xz B1 B1_ok u0 (cin_z u0); rw [qu_1] at h; exact h)).mono ?_)
  rintro r_ u1 ⟨x1, rfl, hc1, ho1, hg⟩
  replace hB := hB.more hg
  clear hg
  replace hc1 := hide (Co.mk hc1 ho1)
  clear ho1
  refine ⟨_, rfl, ?_⟩
  simp only [nrm]
  refine lvk (.tuple #[.agg (fl [[.int .u32 1], [.slice x1.ao x1.no x1.co], [.int .i64 0], [.int .u32 0], [.slice x1.ah x1.nh x1.ch]]), .int .u32 0, .int .i64 0]) ?_
  simp only [nrm]
  refine lvk (.agg (fl [[.int .u32 1], [.slice x1.ao x1.no x1.co], [.int .i64 0], [.int .u32 0], [.slice x1.ah x1.nh x1.ch]])) ?_
  simp only [nrm]
  refine lvk (.int .u32 0) ?_
  simp only [nrm]
  refine lvk (.int .i64 0) ?_
  simp only [nrm]
  refine list_valw (.pointer (some ⟨u1.heap.size, 0, none⟩)) (u1.alloc (.cells (fl [[.int .u32 0], [.slice none 0 0], [.int .i64 0], [.int .u32 0], [.slice none 0 0]]) 26 (0, 0))) (by kernel_rfl) (by kernel_rfl) ?_
  replace hB := hB.new (fl [[.int .u32 0], [.slice none 0 0], [.int .i64 0], [.int .u32 0], [.slice none 0 0]]) 26
  simp only [List.nil_append, List.cons_append] at hB
  have hg := (Gr.refl u1).alloc (.cells (fl [[.int .u32 0], [.slice none 0 0], [.int .i64 0], [.int .u32 0], [.slice none 0 0]]) 26 (0, 0))
  replace hc1 := hide ((unhide hc1).gr hg)
  clear hg
  generalize World.alloc _ _ = u2 at *
  generalize u1.heap.size = g1 at *
  simp only [nrm]
  have hzz_ : Hid (u2.heap[g1]? = some (.cells (fl [[.int .u32 0], [.slice none 0 0], [.int .i64 0], [.int .u32 0], [.slice none 0 0]]) 26 (0, 0))) := hide (hB.get 0 (x := ⟨g1, fl [[.int .u32 0], [.slice none 0 0], [.int .i64 0], [.int .u32 0], [.slice none 0 0]], 26⟩) rfl)
  refine list_all 26 (.tmp 1) (.tmp 11) (g1) (S2 := [[.int .u32 1], [.slice x1.ao x1.no x1.co], [.int .i64 0], [.int .u32 0], [.slice x1.ah x1.nh x1.ch]]) (by kernel_rfl) rfl (by kernel_rfl) (by kernel_rfl) hB 0 rfl NC (nC  _ _ _ _ _) (nC  _ _ _ _ _) (by kernel_rfl) (oC  rfl rfl rfl rfl rfl) ?_
  intro u3 hB_ hbt_
  clear hB
  replace hB : Bl w [⟨g1, fl [[.int .u32 1], [.slice x1.ao x1.no x1.co], [.int .i64 0], [.int .u32 0], [.slice x1.ah x1.nh x1.ch]], 26⟩] u3 := hB_
  clear hB_
  replace hc1 := hide ((unhide hc1).bz (unhide hzz_) hbt_)
  clear hbt_ hzz_
  simp only [nrm]
  (refine wpList_step fun K hK => ?_; replace hK := hide hK; go_simp; refine unhide hK _ _ ?_; clear hK K)
  (refine wpList_step fun K hK => ?_; replace hK := hide hK; go_simp; refine unhide hK _ _ ?_; clear hK K)
  refine wpList_nil ?_
  replace hB := hide hB
  go_upto_region 2 with fail
  replace hB := unhide hB
  refine wp_region_lit ?_
  refine list_val (.agg (fl [[.int .u32 1], [.slice x1.ao x1.no x1.co], [.int .i64 0], [.int .u32 0], [.slice x1.ah x1.nh x1.ch]])) (by kernel_rfl) (exec_sw _ 26 (.tmp 1) rfl (g1) (by kernel_rfl) (hB.get 0 (x := ⟨g1, fl [[.int .u32 1], [.slice x1.ao x1.no x1.co], [.int .i64 0], [.int .u32 0], [.slice x1.ah x1.nh x1.ch]], 26⟩) rfl) NC (nC  _ _ _ _ _) Try.underlying26 rfl (by kernel_rfl)) ?_
  simp only [nrm]
  refine list_call 20 #[.agg (fl [[.int .u32 1], [.slice x1.ao x1.no x1.co], [.int .i64 0], [.int .u32 0], [.slice x1.ah x1.nh x1.ch]])] (by kernel_rfl) (by kernel_rfl) (((show Calls Try.prog 20 #[.agg (fl (cvs c1 x1))] u3 (Rc c1 [.agg (fl [[.int .u32 0], bw B1]), .int .i64 0] u3) from by have h := turn_ok c1 x1 u3 (unhide hc1).i; rw [tu_1] at h; exact h)).mono ?_)
  rintro r_ u4 ⟨x2, rfl, hc2, ho2_, hg⟩
  replace hB := hB.more hg
  clear hg
  have hx2 : x2.no = 1 := hc2.o.len.symm
  clear hc1 hc2 ho2_
  refine ⟨_, rfl, ?_⟩
  simp only [nrm]
  refine lvk (.tuple #[.agg (fl [[.int .u32 1], [.slice x2.ao x2.no x2.co], [.int .i64 0], [.int .u32 0], [.slice x2.ah x2.nh x2.ch]]), .agg (fl [[.int .u32 0], bw B1]), .int .i64 0]) ?_
  simp only [nrm]
  refine lvk (.agg (fl [[.int .u32 1], [.slice x2.ao x2.no x2.co], [.int .i64 0], [.int .u32 0], [.slice x2.ah x2.nh x2.ch]])) ?_
  simp only [nrm]
  refine lvk (.agg (fl [[.int .u32 0], bw B1])) ?_
  simp only [nrm]
  refine lvk (.int .i64 0) ?_
  simp only [nrm]
  refine list_valw (.pointer (some ⟨u4.heap.size, 0, none⟩)) (u4.alloc (.cells (fl [[.int .u32 0], [.slice none 0 0], [.int .i64 0], [.int .u32 0], [.slice none 0 0]]) 26 (0, 0))) (by kernel_rfl) (by kernel_rfl) ?_
  replace hB := hB.new (fl [[.int .u32 0], [.slice none 0 0], [.int .i64 0], [.int .u32 0], [.slice none 0 0]]) 26
  simp only [List.nil_append, List.cons_append] at hB
  generalize World.alloc _ _ = u5 at *
  generalize u4.heap.size = g4 at *
  simp only [nrm]
  refine list_valw (.pointer (some ⟨u5.heap.size, 0, none⟩)) (u5.alloc (.cells (fl [[.int .u32 0], bw Z105]) 39 (0, 0))) (by kernel_rfl) (by kernel_rfl) ?_
  replace hB := hB.new (fl [[.int .u32 0], bw Z105]) 39
  simp only [List.nil_append, List.cons_append] at hB
  generalize World.alloc _ _ = u6 at *
  generalize u5.heap.size = g5 at *
  simp only [nrm]
  refine list_all 26 (.tmp 4) (.tmp 17) (g4) (S2 := [[.int .u32 1], [.slice x2.ao x2.no x2.co], [.int .i64 0], [.int .u32 0], [.slice x2.ah x2.nh x2.ch]]) (by kernel_rfl) rfl (by kernel_rfl) (by kernel_rfl) hB 1 rfl NC (nC  _ _ _ _ _) (nC  _ _ _ _ _) (by kernel_rfl) (oC  rfl rfl rfl rfl rfl) ?_
  intro u7 hB_ hbt_
  clear hB
  replace hB : Bl w [⟨g1, fl [[.int .u32 1], [.slice x1.ao x1.no x1.co], [.int .i64 0], [.int .u32 0], [.slice x1.ah x1.nh x1.ch]], 26⟩, ⟨g4, fl [[.int .u32 1], [.slice x2.ao x2.no x2.co], [.int .i64 0], [.int .u32 0], [.slice x2.ah x2.nh x2.ch]], 26⟩, ⟨g5, fl [[.int .u32 0], bw Z105], 39⟩] u7 := hB_
  clear hB_
  clear hbt_
  simp only [nrm]
  refine list_all 39 (.tmp 5) (.tmp 18) (g5) (S2 := [[.int .u32 0], bw B1]) (by kernel_rfl) rfl (by kernel_rfl) (by kernel_rfl) hB 2 rfl NO (nO Z105_len _) (nO B1_ok.1 _) (by kernel_rfl) (oO _ rfl) ?_
  intro u8 hB_ hbt_
  clear hB
  replace hB : Bl w [⟨g1, fl [[.int .u32 1], [.slice x1.ao x1.no x1.co], [.int .i64 0], [.int .u32 0], [.slice x1.ah x1.nh x1.ch]], 26⟩, ⟨g4, fl [[.int .u32 1], [.slice x2.ao x2.no x2.co], [.int .i64 0], [.int .u32 0], [.slice x2.ah x2.nh x2.ch]], 26⟩, ⟨g5, fl [[.int .u32 0], bw B1], 39⟩] u8 := hB_
  clear hB_
  clear hbt_
  simp only [nrm]
  (refine wpList_step fun K hK => ?_; replace hK := hide hK; go_simp; refine unhide hK _ _ ?_; clear hK K)
  refine wpList_nil ?_
  replace hB := hide hB
  go_upto_region 3 with fail
  replace hB := unhide hB
  refine wp_region_lit ?_
  refine wpList_gen fun ops_ hops => ?_
  replace hops := hide hops
  refine list_val (.int .i64 0) (by rw [unhide hops]; kernel_rfl) (by kernel_rfl) ?_
  simp only [nrm]
  refine list_val (.bool true) (by rw [unhide hops]; kernel_rfl) (eql_e _ (.tmp 20) (.const (.int .i64 0)) 0 0 true rfl (by kernel_rfl) (by kernel_rfl) (by decide)) ?_
  simp only [nrm]
  refine list_val (.bool true) (by rw [unhide hops]; kernel_rfl) (by kernel_rfl) ?_
  simp only [nrm]
  refine list_val (.int .i64 0) (by rw [unhide hops]; kernel_rfl) (by kernel_rfl) ?_
  simp only [nrm]
  refine list_val (.bool true) (by rw [unhide hops]; kernel_rfl) (eql_e _ (.tmp 23) (.const (.int .i64 0)) 0 0 true rfl (by kernel_rfl) (by kernel_rfl) (by decide)) ?_
  simp only [nrm]
  refine list_val (.bool true) (by rw [unhide hops]; kernel_rfl) (by kernel_rfl) ?_
  simp only [nrm]
  refine list_val (.bool true) (by rw [unhide hops]; kernel_rfl) (by kernel_rfl) ?_
  simp only [nrm]
  refine list_val (.int .u32 0) (by rw [unhide hops]; kernel_rfl) (by kernel_rfl) ?_
  simp only [nrm]
  refine list_val (.bool true) (by rw [unhide hops]; kernel_rfl) (eql_32 _ (.tmp 27) (.const (.int .u32 0)) 0 0 true rfl (by kernel_rfl) (by kernel_rfl) (by decide)) ?_
  simp only [nrm]
  refine list_val (.bool true) (by rw [unhide hops]; kernel_rfl) (by kernel_rfl) ?_
  simp only [nrm]
  refine list_val (.bool true) (by rw [unhide hops]; kernel_rfl) (by kernel_rfl) ?_
  simp only [nrm]
  refine list_val (.pointer (some ⟨g1, 0, none⟩)) (by rw [unhide hops]; kernel_rfl) (by kernel_rfl) ?_
  simp only [nrm]
  refine list_val (.int .u32 1) (by rw [unhide hops]; kernel_rfl) (exec_c32 _ (.tmp 31) rfl (g1) 0 (by kernel_rfl) 1 (seg_cell (nC  _ _ _ _ _) (hB.get 0 (x := ⟨g1, fl [[.int .u32 1], [.slice x1.ao x1.no x1.co], [.int .i64 0], [.int .u32 0], [.slice x1.ah x1.nh x1.ch]], 26⟩) rfl) 0 (v := .int .u32 1) rfl rfl)) ?_
  simp only [nrm]
  refine list_val (.bool true) (by rw [unhide hops]; kernel_rfl) (eql_32 _ (.tmp 32) (.const (.int .u32 1)) 1 1 true rfl (by kernel_rfl) (by kernel_rfl) (by decide)) ?_
  simp only [nrm]
  refine list_val (.bool true) (by rw [unhide hops]; kernel_rfl) (by kernel_rfl) ?_
  simp only [nrm]
  refine list_val (.bool true) (by rw [unhide hops]; kernel_rfl) (by kernel_rfl) ?_
  simp only [nrm]
  refine list_val (.pointer (some ⟨g5, 1, none⟩)) (by rw [unhide hops]; kernel_rfl) (by kernel_rfl) ?_
  simp only [nrm]
  refine list_val (.pointer (some ⟨g5, 1, none⟩)) (by rw [unhide hops]; kernel_rfl) (by kernel_rfl) ?_
  simp only [nrm]
  refine list_val (.int .u8 1) (by rw [unhide hops]; kernel_rfl) (exec_cu8 _ (.tmp 37) rfl g5 1 (by kernel_rfl) 1 (cell_of (hB.get 2 (x := ⟨g5, fl [[.int .u32 0], bw B1], 39⟩) rfl) (by rfl))) ?_
  simp only [nrm]
  refine list_val (.bool true) (by rw [unhide hops]; kernel_rfl) (eql_8 _ (.tmp 38) (.const (.int .u8 1)) 1 1 true rfl (by kernel_rfl) (by kernel_rfl) (by decide)) ?_
  simp only [nrm]
  refine list_val (.bool true) (by rw [unhide hops]; kernel_rfl) (by kernel_rfl) ?_
  simp only [nrm]
  refine list_val (.bool true) (by rw [unhide hops]; kernel_rfl) (by kernel_rfl) ?_
  simp only [nrm]
  refine list_val (.pointer (some ⟨g4, 1, none⟩)) (by rw [unhide hops]; kernel_rfl) (by kernel_rfl) ?_
  simp only [nrm]
  refine list_val (.slice x2.ao x2.no x2.co) (by rw [unhide hops]; kernel_rfl) (exec_csO _ (.tmp 42) rfl (g4) 1 (by kernel_rfl) x2.ao x2.no x2.co (seg_cell (nC  _ _ _ _ _) (hB.get 1 (x := ⟨g4, fl [[.int .u32 1], [.slice x2.ao x2.no x2.co], [.int .i64 0], [.int .u32 0], [.slice x2.ah x2.nh x2.ch]], 26⟩) rfl) 1 (v := .slice x2.ao x2.no x2.co) rfl rfl)) ?_
  simp only [nrm]
  refine list_val (.int .i64 (x2.no : Int)) (by rw [unhide hops]; kernel_rfl) (by kernel_rfl) ?_
  simp only [nrm]
  refine list_val (.bool true) (by rw [unhide hops]; kernel_rfl) (eql_i _ (.tmp 44) (.const (.int .i64 1)) (x2.no : Int) 1 true rfl (by kernel_rfl) (by kernel_rfl) (decide_eq_true (by omega))) ?_
  simp only [nrm]
  refine list_val (.bool true) (by rw [unhide hops]; kernel_rfl) (by kernel_rfl) ?_
  simp only [nrm]
  refine list_val (.bool true) (by rw [unhide hops]; kernel_rfl) (by kernel_rfl) ?_
  simp only [nrm]
  refine list_val (.agg (fl [[.int .u32 0], [.slice none 0 0], [.int .i64 0], [.int .u32 0], [.slice none 0 0]])) (by rw [unhide hops]; kernel_rfl) (bC _ rfl) ?_
  simp only [nrm]
  refine list_call 23 #[.agg (fl [[.int .u32 0], [.slice none 0 0], [.int .i64 0], [.int .u32 0], [.slice none 0 0]]), .int .u32 0, .int .i64 1] (by rw [unhide hops]; kernel_rfl) (by kernel_rfl) (((show Calls Try.prog 23 #[.agg (fl (cvs cz xz)), .int .u32 0, .int .i64 1] u8 (Vl (.bool true) u8) from by have h := wants_ok cz xz 0 1 (by decide) u8 (cin_z u8); rw [wt_1] at h; exact h)).mono ?_)
  rintro r_ u9 ⟨rfl, hg⟩
  replace hB := hB.more hg
  clear hg
  refine ⟨_, rfl, ?_⟩
  simp only [nrm]
  refine list_val (.bool true) (by rw [unhide hops]; kernel_rfl) (by kernel_rfl) ?_
  simp only [nrm]
  (refine wpList_step fun K hK => ?_; replace hK := hide hK; go_simp; refine unhide hK _ _ ?_; clear hK K)
  refine wpList_nil ?_
  replace hB := hide hB
  go_wp2_with fail
  replace hB := unhide hB
  rw [unhide hT]
  exact (⟨rfl, hB.gr⟩)
end Go.Proofs.Ytcefkkoombmndaa
