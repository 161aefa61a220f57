/-
  What is not taken; slices.Insert.
-/
import Derived.Test.YtcefkkoombmndaaURh
import Derived.Lib.Overlaps
import Derived.Lib.AppendZerosOnto
import Derived.Laws.IdiomCopy
import Derived.Laws.Externs
namespace Go.Proofs.Ytcefkkoombmndaa
open Go.RowKit
set_option maxRecDepth 100000
set_option linter.unusedSimpArgs false
set_option linter.unusedVariables false
def unt (c : Cm) (s : It) (r : Int) : Int := if rt c = false then 281 else if wt c s.n r = false then 282 else if szB s.s = false then 281 else 0
set_option maxHeartbeats 4000000 in
theorem untaken_ok (c : Cm) (x : Lc) (s : It) (r : Int) (w : World) (hc : Cin w c x) (hs : s.Ok) : Calls Try.prog 39 #[.agg (fl [[.int .u32 c.nx], [.slice x.ao x.no x.co], [.int .i64 c.tn], [.int .u32 c.dl], [.slice x.ah x.nh x.ch]]), .agg (fl [[.int .u32 s.n], [.string s.s]]), .int .i64 r] w (Vl (.int .i64 (unt c s r)) w) := by
  obtain ⟨T, hT⟩ : ∃ T : Ending → World → Prop, T = (Vl (.int .i64 (unt c s r)) w) := ⟨_, rfl⟩
  rw [← hT]
  replace hT := hide hT
  replace hc := hide hc
  obtain ⟨A0_, hA0_⟩ : ∃ S_, S_ = fl [[.int .u32 c.nx], [.slice x.ao x.no x.co], [.int .i64 c.tn], [.int .u32 c.dl], [.slice x.ah x.nh x.ch]] := ⟨_, rfl⟩
  rw [← hA0_]
  replace hA0_ := hide hA0_
  obtain ⟨A1_, hA1_⟩ : ∃ S_, S_ = fl [[.int .u32 s.n], [.string s.s]] := ⟨_, rfl⟩
  rw [← hA1_]
  replace hA1_ := hide hA1_
  go_enter Try.func39, Try.ntmps39
  go_upto_region 1 with fail
  have hB := (((Bl.nil w).new A0_ 26).new A1_ 47)
  simp only [size_alloc, List.nil_append, List.cons_append] at hB
  rw [unhide hA0_, unhide hA1_] at hB
  generalize hu_ : World.alloc _ _ = u0
  replace hB : Bl w [⟨w.heap.size, fl [[.int .u32 c.nx], [.slice x.ao x.no x.co], [.int .i64 c.tn], [.int .u32 c.dl], [.slice x.ah x.nh x.ch]], 26⟩, ⟨w.heap.size + 1, fl [[.int .u32 s.n], [.string s.s]], 47⟩] u0 := by
    rw [← hu_]
    rw [unhide hA0_, unhide hA1_]
    exact hB
  clear hu_ hA0_ hA1_
  cases h1 : rt c with
  | false =>
    have hk := chk_f h1
    have hv : unt c s r = 281 := by unfold unt; rw [if_pos h1]
    refine wp_region_lit ?_
    refine list_val (.agg (fl [[.int .u32 c.nx], [.slice x.ao x.no x.co], [.int .i64 c.tn], [.int .u32 c.dl], [.slice x.ah x.nh x.ch]])) (by kernel_rfl) (exec_sw _ 26 (.tmp 3) rfl (w.heap.size) (by kernel_rfl) (hB.get 0 (x := ⟨w.heap.size, fl [[.int .u32 c.nx], [.slice x.ao x.no x.co], [.int .i64 c.tn], [.int .u32 c.dl], [.slice x.ah x.nh x.ch]], 26⟩) rfl) NC (nC  _ _ _ _ _) Try.underlying26 rfl (by kernel_rfl)) ?_
    simp only [nrm]
    refine list_call 12 #[.agg (fl [[.int .u32 c.nx], [.slice x.ao x.no x.co], [.int .i64 c.tn], [.int .u32 c.dl], [.slice x.ah x.nh x.ch]])] (by kernel_rfl) (by kernel_rfl) (((show Calls Try.prog 12 #[.agg (fl [[.int .u32 c.nx], [.slice x.ao x.no x.co], [.int .i64 c.tn], [.int .u32 c.dl], [.slice x.ah x.nh x.ch]])] u0 (Vl (.int .i64 281) u0) from hk ▸ check_ok c x u0 ((unhide hc).gr hB.gr))).mono ?_)
    rintro r_ u1 ⟨rfl, hg⟩
    replace hB := hB.more hg
    clear hg
    refine ⟨_, rfl, ?_⟩
    simp only [nrm]
    refine list_val (.bool true) (by kernel_rfl) (neq_e _ (.tmp 9) (.const (.int .i64 0)) 281 0 true rfl (by kernel_rfl) (by kernel_rfl) (by decide)) ?_
    simp only [nrm]
    (refine wpList_step fun K hK => ?_; replace hK := hide hK; go_simp; refine unhide hK _ _ ?_; clear hK K)
    refine wpList_nil ?_
    replace hB := hide hB
    go_upto_region 2 with fail
    replace hB := unhide hB
    refine wp_region_lit ?_
    (refine wpList_step fun K hK => ?_; replace hK := hide hK; go_simp; refine unhide hK _ _ ?_; clear hK K)
    refine wpList_nil ?_
    replace hB := hide hB
    go_wp2_with fail
    replace hB := unhide hB
    rw [unhide hT]
    exact (⟨by rw [hv] <;> rfl, hB.gr⟩)
  | true =>
    have hk := chk_t h1
    cases h2 : wt c s.n r with
    | false =>
      have hv : unt c s r = 282 := by unfold unt; rw [if_neg (by rw [h1]; decide), if_pos h2]
      refine wp_region_lit ?_
      refine list_val (.agg (fl [[.int .u32 c.nx], [.slice x.ao x.no x.co], [.int .i64 c.tn], [.int .u32 c.dl], [.slice x.ah x.nh x.ch]])) (by kernel_rfl) (exec_sw _ 26 (.tmp 3) rfl (w.heap.size) (by kernel_rfl) (hB.get 0 (x := ⟨w.heap.size, fl [[.int .u32 c.nx], [.slice x.ao x.no x.co], [.int .i64 c.tn], [.int .u32 c.dl], [.slice x.ah x.nh x.ch]], 26⟩) rfl) NC (nC  _ _ _ _ _) Try.underlying26 rfl (by kernel_rfl)) ?_
      simp only [nrm]
      refine list_call 12 #[.agg (fl [[.int .u32 c.nx], [.slice x.ao x.no x.co], [.int .i64 c.tn], [.int .u32 c.dl], [.slice x.ah x.nh x.ch]])] (by kernel_rfl) (by kernel_rfl) (((show Calls Try.prog 12 #[.agg (fl [[.int .u32 c.nx], [.slice x.ao x.no x.co], [.int .i64 c.tn], [.int .u32 c.dl], [.slice x.ah x.nh x.ch]])] u0 (Vl (.int .i64 0) u0) from hk ▸ check_ok c x u0 ((unhide hc).gr hB.gr))).mono ?_)
      rintro r_ u1 ⟨rfl, hg⟩
      replace hB := hB.more hg
      clear hg
      refine ⟨_, rfl, ?_⟩
      simp only [nrm]
      refine list_val (.bool false) (by kernel_rfl) (neq_e _ (.tmp 9) (.const (.int .i64 0)) 0 0 false rfl (by kernel_rfl) (by kernel_rfl) (by decide)) ?_
      simp only [nrm]
      (refine wpList_step fun K hK => ?_; replace hK := hide hK; go_simp; refine unhide hK _ _ ?_; clear hK K)
      refine wpList_nil ?_
      replace hB := hide hB
      go_upto_region 3 with fail
      replace hB := unhide hB
      refine wp_region_lit ?_
      refine list_val (.agg (fl [[.int .u32 c.nx], [.slice x.ao x.no x.co], [.int .i64 c.tn], [.int .u32 c.dl], [.slice x.ah x.nh x.ch]])) (by kernel_rfl) (exec_sw _ 26 (.tmp 3) rfl (w.heap.size) (by kernel_rfl) (hB.get 0 (x := ⟨w.heap.size, fl [[.int .u32 c.nx], [.slice x.ao x.no x.co], [.int .i64 c.tn], [.int .u32 c.dl], [.slice x.ah x.nh x.ch]], 26⟩) rfl) NC (nC  _ _ _ _ _) Try.underlying26 rfl (by kernel_rfl)) ?_
      simp only [nrm]
      refine lvk (.pointer (some ⟨w.heap.size + 1, 0, none⟩)) ?_
      simp only [nrm]
      refine list_val (.int .u32 s.n) (by kernel_rfl) (exec_c32 _ (.tmp 13) rfl (w.heap.size + 1) 0 (by kernel_rfl) s.n (seg_cell (nI  _ _) (hB.get 1 (x := ⟨w.heap.size + 1, fl [[.int .u32 s.n], [.string s.s]], 47⟩) rfl) 0 (v := .int .u32 s.n) rfl rfl)) ?_
      simp only [nrm]
      refine lvk (.int .i64 r) ?_
      simp only [nrm]
      refine list_call 23 #[.agg (fl [[.int .u32 c.nx], [.slice x.ao x.no x.co], [.int .i64 c.tn], [.int .u32 c.dl], [.slice x.ah x.nh x.ch]]), .int .u32 s.n, .int .i64 r] (by kernel_rfl) (by kernel_rfl) (((show Calls Try.prog 23 #[.agg (fl [[.int .u32 c.nx], [.slice x.ao x.no x.co], [.int .i64 c.tn], [.int .u32 c.dl], [.slice x.ah x.nh x.ch]]), .int .u32 s.n, .int .i64 r] u1 (Vl (.bool false) u1) from h2 ▸ wants_ok c x s.n r hs.1 u1 ((unhide hc).gr hB.gr))).mono ?_)
      rintro r_ u2 ⟨rfl, hg⟩
      replace hB := hB.more hg
      clear hg
      refine ⟨_, rfl, ?_⟩
      simp only [nrm]
      refine lvk (.bool true) ?_
      simp only [nrm]
      (refine wpList_step fun K hK => ?_; replace hK := hide hK; go_simp; refine unhide hK _ _ ?_; clear hK K)
      refine wpList_nil ?_
      replace hB := hide hB
      go_upto_region 4 with fail
      replace hB := unhide hB
      refine wp_region_lit ?_
      (refine wpList_step fun K hK => ?_; replace hK := hide hK; go_simp; refine unhide hK _ _ ?_; clear hK K)
      refine wpList_nil ?_
      replace hB := hide hB
      go_wp2_with fail
      replace hB := unhide hB
      rw [unhide hT]
      exact (⟨by rw [hv] <;> rfl, hB.gr⟩)
    | true =>
      cases h3 : szB s.s with
      | false =>
        have hv : unt c s r = 281 := by unfold unt; rw [if_neg (by rw [h1]; decide), if_neg (by rw [h2]; decide), if_pos h3]
        refine wp_region_lit ?_
        refine list_val (.agg (fl [[.int .u32 c.nx], [.slice x.ao x.no x.co], [.int .i64 c.tn], [.int .u32 c.dl], [.slice x.ah x.nh x.ch]])) (by kernel_rfl) (exec_sw _ 26 (.tmp 3) rfl (w.heap.size) (by kernel_rfl) (hB.get 0 (x := ⟨w.heap.size, fl [[.int .u32 c.nx], [.slice x.ao x.no x.co], [.int .i64 c.tn], [.int .u32 c.dl], [.slice x.ah x.nh x.ch]], 26⟩) rfl) NC (nC  _ _ _ _ _) Try.underlying26 rfl (by kernel_rfl)) ?_
        simp only [nrm]
        refine list_call 12 #[.agg (fl [[.int .u32 c.nx], [.slice x.ao x.no x.co], [.int .i64 c.tn], [.int .u32 c.dl], [.slice x.ah x.nh x.ch]])] (by kernel_rfl) (by kernel_rfl) (((show Calls Try.prog 12 #[.agg (fl [[.int .u32 c.nx], [.slice x.ao x.no x.co], [.int .i64 c.tn], [.int .u32 c.dl], [.slice x.ah x.nh x.ch]])] u0 (Vl (.int .i64 0) u0) from hk ▸ check_ok c x u0 ((unhide hc).gr hB.gr))).mono ?_)
        rintro r_ u1 ⟨rfl, hg⟩
        replace hB := hB.more hg
        clear hg
        refine ⟨_, rfl, ?_⟩
        simp only [nrm]
        refine list_val (.bool false) (by kernel_rfl) (neq_e _ (.tmp 9) (.const (.int .i64 0)) 0 0 false rfl (by kernel_rfl) (by kernel_rfl) (by decide)) ?_
        simp only [nrm]
        (refine wpList_step fun K hK => ?_; replace hK := hide hK; go_simp; refine unhide hK _ _ ?_; clear hK K)
        refine wpList_nil ?_
        replace hB := hide hB
        go_upto_region 3 with fail
        replace hB := unhide hB
        refine wp_region_lit ?_
        refine list_val (.agg (fl [[.int .u32 c.nx], [.slice x.ao x.no x.co], [.int .i64 c.tn], [.int .u32 c.dl], [.slice x.ah x.nh x.ch]])) (by kernel_rfl) (exec_sw _ 26 (.tmp 3) rfl (w.heap.size) (by kernel_rfl) (hB.get 0 (x := ⟨w.heap.size, fl [[.int .u32 c.nx], [.slice x.ao x.no x.co], [.int .i64 c.tn], [.int .u32 c.dl], [.slice x.ah x.nh x.ch]], 26⟩) rfl) NC (nC  _ _ _ _ _) Try.underlying26 rfl (by kernel_rfl)) ?_
        simp only [nrm]
        refine lvk (.pointer (some ⟨w.heap.size + 1, 0, none⟩)) ?_
        simp only [nrm]
        refine list_val (.int .u32 s.n) (by kernel_rfl) (exec_c32 _ (.tmp 13) rfl (w.heap.size + 1) 0 (by kernel_rfl) s.n (seg_cell (nI  _ _) (hB.get 1 (x := ⟨w.heap.size + 1, fl [[.int .u32 s.n], [.string s.s]], 47⟩) rfl) 0 (v := .int .u32 s.n) rfl rfl)) ?_
        simp only [nrm]
        refine lvk (.int .i64 r) ?_
        simp only [nrm]
        refine list_call 23 #[.agg (fl [[.int .u32 c.nx], [.slice x.ao x.no x.co], [.int .i64 c.tn], [.int .u32 c.dl], [.slice x.ah x.nh x.ch]]), .int .u32 s.n, .int .i64 r] (by kernel_rfl) (by kernel_rfl) (((show Calls Try.prog 23 #[.agg (fl [[.int .u32 c.nx], [.slice x.ao x.no x.co], [.int .i64 c.tn], [.int .u32 c.dl], [.slice x.ah x.nh x.ch]]), .int .u32 s.n, .int .i64 r] u1 (Vl (.bool true) u1) from h2 ▸ wants_ok c x s.n r hs.1 u1 ((unhide hc).gr hB.gr))).mono ?_)
        rintro r_ u2 ⟨rfl, hg⟩
        replace hB := hB.more hg
        clear hg
        refine ⟨_, rfl, ?_⟩
        simp only [nrm]
        refine lvk (.bool false) ?_
        simp only [nrm]
        (refine wpList_step fun K hK => ?_; replace hK := hide hK; go_simp; refine unhide hK _ _ ?_; clear hK K)
        refine wpList_nil ?_
        replace hB := hide hB
        go_upto_region 5 with fail
        replace hB := unhide hB
        refine wp_region_lit ?_
        refine lvk (.pointer (some ⟨w.heap.size + 1, 1, none⟩)) ?_
        simp only [nrm]
        refine list_val (.string s.s) (by kernel_rfl) (exec_cst _ (.tmp 19) rfl (w.heap.size + 1) 1 (by kernel_rfl) s.s (seg_cell (nI  _ _) (hB.get 1 (x := ⟨w.heap.size + 1, fl [[.int .u32 s.n], [.string s.s]], 47⟩) rfl) 1 (v := .string s.s) rfl rfl)) ?_
        simp only [nrm]
        refine list_call 51 #[.string s.s] (by kernel_rfl) (by kernel_rfl) (((show Calls Try.prog 51 #[.string s.s] u2 (Vl (.bool false) u2) from h3 ▸ sized_ok s.s hs.2 u2)).mono ?_)
        rintro r_ u3 ⟨rfl, hg⟩
        replace hB := hB.more hg
        clear hg
        refine ⟨_, rfl, ?_⟩
        simp only [nrm]
        refine lvk (.bool true) ?_
        simp only [nrm]
        (refine wpList_step fun K hK => ?_; replace hK := hide hK; go_simp; refine unhide hK _ _ ?_; clear hK K)
        refine wpList_nil ?_
        replace hB := hide hB
        go_upto_region 6 with fail
        replace hB := unhide hB
        refine wp_region_lit ?_
        (refine wpList_step fun K hK => ?_; replace hK := hide hK; go_simp; refine unhide hK _ _ ?_; clear hK K)
        refine wpList_nil ?_
        replace hB := hide hB
        go_wp2_with fail
        replace hB := unhide hB
        rw [unhide hT]
        exact (⟨by rw [hv] <;> rfl, hB.gr⟩)
      | true =>
        have hv : unt c s r = 0 := by unfold unt; rw [if_neg (by rw [h1]; decide), if_neg (by rw [h2]; decide), if_neg (by rw [h3]; decide)]
        refine wp_region_lit ?_
        refine list_val (.agg (fl [[.int .u32 c.nx], [.slice x.ao x.no x.co], [.int .i64 c.tn], [.int .u32 c.dl], [.slice x.ah x.nh x.ch]])) (by kernel_rfl) (exec_sw _ 26 (.tmp 3) rfl (w.heap.size) (by kernel_rfl) (hB.get 0 (x := ⟨w.heap.size, fl [[.int .u32 c.nx], [.slice x.ao x.no x.co], [.int .i64 c.tn], [.int .u32 c.dl], [.slice x.ah x.nh x.ch]], 26⟩) rfl) NC (nC  _ _ _ _ _) Try.underlying26 rfl (by kernel_rfl)) ?_
        simp only [nrm]
        refine list_call 12 #[.agg (fl [[.int .u32 c.nx], [.slice x.ao x.no x.co], [.int .i64 c.tn], [.int .u32 c.dl], [.slice x.ah x.nh x.ch]])] (by kernel_rfl) (by kernel_rfl) (((show Calls Try.prog 12 #[.agg (fl [[.int .u32 c.nx], [.slice x.ao x.no x.co], [.int .i64 c.tn], [.int .u32 c.dl], [.slice x.ah x.nh x.ch]])] u0 (Vl (.int .i64 0) u0) from hk ▸ check_ok c x u0 ((unhide hc).gr hB.gr))).mono ?_)
        rintro r_ u1 ⟨rfl, hg⟩
        replace hB := hB.more hg
        clear hg
        refine ⟨_, rfl, ?_⟩
        simp only [nrm]
        refine list_val (.bool false) (by kernel_rfl) (neq_e _ (.tmp 9) (.const (.int .i64 0)) 0 0 false rfl (by kernel_rfl) (by kernel_rfl) (by decide)) ?_
        simp only [nrm]
        (refine wpList_step fun K hK => ?_; replace hK := hide hK; go_simp; refine unhide hK _ _ ?_; clear hK K)
        refine wpList_nil ?_
        replace hB := hide hB
        go_upto_region 3 with fail
        replace hB := unhide hB
        refine wp_region_lit ?_
        refine list_val (.agg (fl [[.int .u32 c.nx], [.slice x.ao x.no x.co], [.int .i64 c.tn], [.int .u32 c.dl], [.slice x.ah x.nh x.ch]])) (by kernel_rfl) (exec_sw _ 26 (.tmp 3) rfl (w.heap.size) (by kernel_rfl) (hB.get 0 (x := ⟨w.heap.size, fl [[.int .u32 c.nx], [.slice x.ao x.no x.co], [.int .i64 c.tn], [.int .u32 c.dl], [.slice x.ah x.nh x.ch]], 26⟩) rfl) NC (nC  _ _ _ _ _) Try.underlying26 rfl (by kernel_rfl)) ?_
        simp only [nrm]
        refine lvk (.pointer (some ⟨w.heap.size + 1, 0, none⟩)) ?_
        simp only [nrm]
        refine list_val (.int .u32 s.n) (by kernel_rfl) (exec_c32 _ (.tmp 13) rfl (w.heap.size + 1) 0 (by kernel_rfl) s.n (seg_cell (nI  _ _) (hB.get 1 (x := ⟨w.heap.size + 1, fl [[.int .u32 s.n], [.string s.s]], 47⟩) rfl) 0 (v := .int .u32 s.n) rfl rfl)) ?_
        simp only [nrm]
        refine lvk (.int .i64 r) ?_
        simp only [nrm]
        refine list_call 23 #[.agg (fl [[.int .u32 c.nx], [.slice x.ao x.no x.co], [.int .i64 c.tn], [.int .u32 c.dl], [.slice x.ah x.nh x.ch]]), .int .u32 s.n, .int .i64 r] (by kernel_rfl) (by kernel_rfl) (((show Calls Try.prog 23 #[.agg (fl [[.int .u32 c.nx], [.slice x.ao x.no x.co], [.int .i64 c.tn], [.int .u32 c.dl], [.slice x.ah x.nh x.ch]]), .int .u32 s.n, .int .i64 r] u1 (Vl (.bool true) u1) from h2 ▸ wants_ok c x s.n r hs.1 u1 ((unhide hc).gr hB.gr))).mono ?_)
        rintro r_ u2 ⟨rfl, hg⟩
        replace hB := hB.more hg
        clear hg
        refine ⟨_, rfl, ?_⟩
        simp only [nrm]
        refine lvk (.bool false) ?_
        simp only [nrm]
        (refine wpList_step fun K hK => ?_; replace hK := hide hK; go_simp; refine unhide hK _ _ ?_; clear hK K)
        refine wpList_nil ?_
        replace hB := hide hB
        go_upto_region 5 with fail
        replace hB := unhide hB
        refine wp_region_lit ?_
        refine lvk (.pointer (some ⟨w.heap.size + 1, 1, none⟩)) ?_
        simp only [nrm]
        refine list_val (.string s.s) (by kernel_rfl) (exec_cst _ (.tmp 19) rfl (w.heap.size + 1) 1 (by kernel_rfl) s.s (seg_cell (nI  _ _) (hB.get 1 (x := ⟨w.heap.size + 1, fl [[.int .u32 s.n], [.string s.s]], 47⟩) rfl) 1 (v := .string s.s) rfl rfl)) ?_
        simp only [nrm]
        refine list_call 51 #[.string s.s] (by kernel_rfl) (by kernel_rfl) (((show Calls Try.prog 51 #[.string s.s] u2 (Vl (.bool true) u2) from h3 ▸ sized_ok s.s hs.2 u2)).mono ?_)
        rintro r_ u3 ⟨rfl, hg⟩
        replace hB := hB.more hg
        clear hg
        refine ⟨_, rfl, ?_⟩
        simp only [nrm]
        refine lvk (.bool false) ?_
        simp only [nrm]
        (refine wpList_step fun K hK => ?_; replace hK := hide hK; go_simp; refine unhide hK _ _ ?_; clear hK K)
        refine wpList_nil ?_
        replace hB := hide hB
        go_upto_region 7 with fail
        replace hB := unhide hB
        refine wp_region_lit ?_
        (refine wpList_step fun K hK => ?_; replace hK := hide hK; go_simp; refine unhide hK _ _ ?_; clear hK K)
        refine wpList_nil ?_
        replace hB := hide hB
        go_wp2_with fail
        replace hB := unhide hB
        rw [unhide hT]
        exact (⟨by rw [hv] <;> rfl, hB.gr⟩)
/-- rows are copied: all is read ahead of what is written -/
theorem run_copy_k (w : World) (dT sT ty elem : TypeId) (k b o dLen dCap : Nat) (a : Addr) (sLen sCap : Nat) (cs : List Value) (m : Nat)
    (hu : Try.prog.underlying dT = some (.slice elem)) (hs : (Try.prog.info? elem).map (·.size) = some k) (hm : m = Nat.min sLen dLen) (hn : cs.length = m * k)
    (hsrc : ∀ j v, cs[j]? = some v → w.cell? (a.add j) = some v) (hc : ∀ j, j < cs.length → (w.cell? ⟨b, o + j, none⟩).isSome = true) (hf : ∀ j, j < cs.length → w.frozen? ⟨b, o + j, none⟩ = false) (h1 : ∀ v ∈ cs, v.oneCell' = true) :
    (Builtin.copy_ #[dT, sT] ty #[.slice (some ⟨b, o, none⟩) dLen dCap, .slice (some a) sLen sCap]).run Try.prog w = .ok (goInt m) (w.setCells b o cs) := by
  have hl := run_loadCells_list (P := Try.prog) w a cs hsrc
  have hst := run_storeCells_cells (P := Try.prog) b o cs 0 w (by simpa using hc) (by simpa using hf) h1
  cases hq : Try.prog.info? elem with
  | none => simp [hq] at hs
  | some i =>
    have hi : i.size = k := by simpa [hq] using hs
    simp [Builtin.copy_, run_underlying hu, Builtin.lenOf, Builtin.firstCells, sizeOf, typeInfo, hq, hi, ← hm, ← hn, hl, hst]
theorem list_copyk {ops : Array Oper} {Q : Exit → Act → World → Prop} {rest : List Oper} {o : Oper} {a : Act} {w : World} (d s : Operand) (ho : o.op = .call { callee := .builtin .copy, args := #[d, s], argTypes := #[24, 24] }) (hw : Region.wanted o (yielded ops a.tmps) = true)
    (v u v' : Value) (w' : World) (hd : a.eval d = v) (hs : a.eval s = u) (hr : (Builtin.copy_ #[24, 24] o.type #[v, u]).run Try.prog w = .ok v' w') (h : wpList Try.prog ops Q rest (a.put o.dst v') w') : wpList Try.prog ops Q (o :: rest) a w := by
  refine wpList_step fun K hK => ?_
  rw [if_pos hw]
  unfold Oper.wp execOp
  simp only [ho, resolve, invoke, builtin, Sem.run_bind, Sem.run_pure, Result.andThen_ok, List.map_toArray, List.map_cons, List.map_nil, hd, hs, hr]
  exact hK _ _ h
theorem step_copyk {ops : Array Oper} {Q : Exit → Act → World → Prop} {o : Oper} {a : Act} {w : World} {K : Act → World → Prop} (d s : Operand) (ho : o.op = .call { callee := .builtin .copy, args := #[d, s], argTypes := #[24, 24] }) (hw : Region.wanted o (yielded ops a.tmps) = true)
    (v u v' : Value) (w' : World) (hd : a.eval d = v) (hs : a.eval s = u) (hr : (Builtin.copy_ #[24, 24] o.type #[v, u]).run Try.prog w = .ok v' w') (h : K (a.put o.dst v') w') : if Region.wanted o (yielded ops a.tmps) = true then Oper.wp Try.prog o a w K Q else K (a.put o.dst undef) w := by
  rw [if_pos hw]
  unfold Oper.wp execOp
  simp only [ho, resolve, invoke, builtin, Sem.run_bind, Sem.run_pure, Result.andThen_ok, List.map_toArray, List.map_cons, List.map_nil, hd, hs, hr]
  exact h
theorem sp_at {A M D : List Value} (vs : List Value) (o : Nat) (ho : A.length = o) (h : vs.length = M.length) : sp (A ++ (M ++ D)) o vs = A ++ (vs ++ D) := by
  subst ho
  exact sp_mid vs A M D h
theorem list_3 (A E : List Value) (m k : Nat) (h : m + k ≤ E.length) : A ++ E = (A ++ E.take m) ++ ((E.drop m).take k ++ E.drop (m + k)) := by
  rw [List.append_assoc]
  congr 1
  conv => lhs; rw [← List.take_append_drop m E]
  congr 1
  conv => lhs; rw [← List.take_append_drop k (E.drop m)]
  rw [List.drop_drop]
theorem exec_ov {a : Act} {o : Oper} (w : World) (x y : Operand) (ho : o.op = .call { callee := .value (.func 57), args := #[x, y], argTypes := #[24, 24] }) (p q : Addr) (la ca lb cb : Nat) (hx : a.eval x = .slice (some p) la ca) (hy : a.eval y = .slice (some q) lb cb) (hne : p.block ≠ q.block) {C D : Array Value} (h1 : w.heap[p.block]? = some (.cells C 47 (0, 0))) (h2 : w.heap[q.block]? = some (.cells D 47 (0, 0))) (hD : D.size ≠ 0) (hp : w.frozen? p = false) (hp2 : w.frozen? { block := p.block, off := C.size } = false) :
    (execOp a.eval o).run Try.prog w = .ok (.value (.bool false)) w := by
  have hs : ∀ w, (Go.sizeOf 47).run Try.prog w = .ok 2 w := fun w => by kernel_rfl
  have h := run_callFunc_extern (P := Try.prog) (f := 57) Try.func57 (by kernel_rfl) (by kernel_rfl) (by kernel_rfl) (e := Extern.SlicesOverlaps.overlaps #[24, 24] #[4]) (by kernel_rfl) #[.slice (some p) la ca, .slice (some q) lb cb] w
  rw [Lib.run_overlaps_apart w 24 4 47 Try.underlying24 2 hs p q la ca lb cb hne 47 47 C.size D.size (by simp [World.shape?, h1]) (by simp [World.shape?, h2]) hD hp hp2] at h
  unfold execOp
  simp only [ho, resolve, invoke, List.map_toArray, List.map_cons, List.map_nil, hx, hy, Sem.run_bind, Sem.run_pure, Result.andThen_ok]
  exact h
theorem grown_of {w u v : World} {x : Option Nat} (h : Gr w u) (g : u.grownBy v x) : w.grownBy v x :=
  ⟨g.os.trans h.os, g.tape.trans h.tape, g.output.trans h.output, Nat.le_trans h.size g.size, fun k hk hx => (g.block k (Nat.lt_of_lt_of_le hk h.size) hx).trans (h.block k hk)⟩
theorem grown_cells {w u : World} {g o : Nat} {vs : List Value} (h : w.grownBy u (some g)) : w.grownBy (u.setCells g o vs) (some g) := by
  have m := setCells_bt vs u g o
  exact ⟨m.os.trans h.os, m.tape.trans h.tape, m.output.trans h.output, Nat.le_trans h.size m.size, fun k hk hx => (m.block k (Nat.lt_of_lt_of_le hk h.size) (fun e => hx (by rw [e]))).trans (h.block k hk hx)⟩
theorem grown_drew {w u : World} {x : Option Nat} (h : w.grownBy u x) : w.grownBy u.drew x := ⟨h.os, h.tape, h.output, h.size, h.block⟩
theorem gr_grown {w u : World} (h : Gr w u) (x : Option Nat) : w.grownBy u x := ⟨h.os, h.tape, h.output, h.size, fun k hk _ => h.block k hk⟩
theorem flat2 {R : List (List Value)} (h : ∀ r ∈ R, r.length = 2) : R.flatten.length = 2 * R.length := by rw [flat_len R 2 h]; omega
/-- a row is laid in, in its place: what stood there is moved first -/
theorem ins_in {C : List Value} {R : List (List Value)} {row : List Value} {n i : Nat} (hR : ∀ r ∈ R, r.length = 2) (hn : R.length = n) (hi : i ≤ n) (hrow : row.length = 2) (hC : 2 * (n + 1) ≤ C.length) (ht : Cov C R.flatten) :
    (sp (sp C (2 * (i + 1)) (R.drop i).flatten) (2 * i) row).take ((n + 1) * 2) = (R.take i ++ [row] ++ R.drop i).flatten := by
  have hA := flat2 (R := R.take i) (fun r hr => hR r (List.mem_of_mem_take hr))
  have hB := flat2 (R := R.drop i) (fun r hr => hR r (List.mem_of_mem_drop hr))
  have hF := flat2 hR
  rw [List.length_take, hn, Nat.min_eq_left hi] at hA
  rw [List.length_drop, hn] at hB
  have e1 : C.take (2 * n) = R.flatten := by
    apply List.ext_getElem?
    intro q
    by_cases hq : q < 2 * n
    · rw [List.getElem?_take_of_lt hq]
      have h2 : R.flatten[q]? = some (R.flatten[q]'(by omega)) := List.getElem?_eq_getElem (by omega)
      rw [h2]
      exact ht q _ h2
    · rw [List.getElem?_eq_none (by rw [List.length_take]; omega), List.getElem?_eq_none (by omega)]
  have e2 : C = (R.take i).flatten ++ ((R.drop i).flatten ++ C.drop (2 * n)) := by
    conv => lhs; rw [← List.take_append_drop (2 * n) C, e1, ← List.take_append_drop i R, List.flatten_append]
    rw [List.append_assoc]
  have hD : 2 ≤ (C.drop (2 * n)).length := by rw [List.length_drop]; omega
  generalize hAq : (R.take i).flatten = A at *
  generalize hBq : (R.drop i).flatten = B at *
  generalize C.drop (2 * n) = D at *
  subst e2
  rw [list_3 A (B ++ D) 2 B.length (by rw [List.length_append]; omega), sp_at B _ (by rw [List.length_append, List.length_take, List.length_append]; omega) (by rw [List.length_take, List.length_drop, List.length_append]; omega), List.append_assoc, sp_at row _ (by omega) (by rw [List.length_take, List.length_append]; omega)]
  rw [List.flatten_append, List.flatten_append, hBq]
  have e3 : [row].flatten = row := by simp
  rw [e3]
  rw [show A ++ (row ++ (B ++ (B ++ D).drop (2 + B.length))) = (A ++ row ++ B) ++ (B ++ D).drop (2 + B.length) by simp]
  rw [List.take_append_of_le_length (by simp; omega), List.take_of_length_le (by simp; omega)]
  rw [hAq]
/-- the same, in new memory -/
theorem ins_new {A Z B row : List Value} {n i : Nat} (hA : A.length = 2 * i) (hi : i ≤ n) (hB : B.length = 2 * (n - i)) (hrow : row.length = 2) (hZ : 2 * (n + 1 - i) ≤ Z.length) :
    (sp (sp (A ++ Z) (2 * i) row) (2 * (i + 1)) B).take ((n + 1) * 2) = A ++ row ++ B := by
  rw [show A ++ Z = A ++ (Z.take 2 ++ Z.drop 2) by rw [List.take_append_drop], sp_at row _ hA (by rw [List.length_take]; omega)]
  rw [show A ++ (row ++ Z.drop 2) = (A ++ row) ++ ((Z.drop 2).take B.length ++ (Z.drop 2).drop B.length) by rw [List.take_append_drop, List.append_assoc], sp_at B _ (by rw [List.length_append]; omega) (by rw [List.length_take, List.length_drop]; omega)]
  rw [← List.append_assoc, List.take_append_of_le_length (by simp; omega), List.take_of_length_le (by simp; omega)]
def Hb (g : Nat) (C : Array Value) (t : TypeId) (w : World) : Prop := w.heap[g]? = some (.cells C t (0, 0))
theorem Hb.gr {g : Nat} {C : Array Value} {t : TypeId} {w v : World} (h : Hb g C t w) (k : Gr w v) : Hb g C t v := k.blk h
theorem Hb.ot {g q o : Nat} {C : Array Value} {t : TypeId} {w : World} {vs : List Value} (h : Hb g C t w) (hn : g ≠ q) : Hb g C t (w.setCells q o vs) := (setCells_other vs w q o g hn).trans h
def Gb (w : World) (x : Option Nat) (u : World) : Prop := w.grownBy u x
theorem Gb.gr {w u v : World} {x : Option Nat} (h : Gb w x u) (k : Gr u v) : Gb w x v := ⟨k.os.trans h.os, k.tape.trans h.tape, k.output.trans h.output, Nat.le_trans h.size k.size, fun i hi hx => (k.block i (Nat.lt_of_lt_of_le hi h.size)).trans (h.block i hi hx)⟩
theorem gb_new {w u : World} {x : Option Nat} {g o : Nat} {vs : List Value} (h : Gb w x u) (hg : w.heap.size ≤ g) : Gb w x (u.setCells g o vs) := by
  have m := setCells_bt vs u g o
  exact ⟨m.os.trans h.os, m.tape.trans h.tape, m.output.trans h.output, Nat.le_trans h.size m.size, fun i hi hx => (m.block i (Nat.lt_of_lt_of_le hi h.size) (by omega)).trans (h.block i hi hx)⟩
theorem exec_fsI {a : Act} {o : Oper} (w : World) (x y : Operand) (ho : o.op = .slice 24 x (some y) none none) (p q len cap n : Nat) (hx : a.eval x = .slice (some ⟨p, q, none⟩) len cap) (hy : a.eval y = .int .i64 n) (hc : len ≤ cap) (hn : n ≤ len) (hlt : n < cap) :
    (execOp a.eval o).run Try.prog w = .ok (.value (.slice (some ⟨p, q + 2 * n, none⟩) (len - n) (cap - n))) w := by
  have h := exec_frI w x y ho _ len cap n hx hy hc hn
  have e := frA_some 2 p q cap n hlt
  unfold frA at e
  rw [e] at h
  exact h
theorem list_appz {ops : Array Oper} {Q : Exit → Act → World → Prop} {rest : List Oper} {o : Oper} {a : Act} {w : World} (d s : Operand) (ho : o.op = .call { callee := .builtin .append, args := #[d, s], argTypes := #[24, 3] }) (hw : Region.wanted o (yielded ops a.tmps) = true)
    (v u v' : Value) (w' : World) (hd : a.eval d = v) (hs : a.eval s = u) (hr : (Builtin.append_ #[24, 3] o.type #[v, u]).run Try.prog w = .ok v' w') (h : wpList Try.prog ops Q rest (a.put o.dst v') w') : wpList Try.prog ops Q (o :: rest) a w := by
  refine wpList_step fun K hK => ?_
  rw [if_pos hw]
  unfold Oper.wp execOp
  simp only [ho, resolve, invoke, builtin, Sem.run_bind, Sem.run_pure, Result.andThen_ok, List.map_toArray, List.map_cons, List.map_nil, hd, hs, hr]
  exact hK _ _ h
theorem ins_or {R : List (List Value)} {s : It} {n i b g c : Nat} {D : List Value} {w : World} (hR : ∀ r ∈ R, r.length = 2) (hn : n = R.length) (hi : i ≤ n) (hg : Hb g D.toArray 47 w) (hb : b ≤ g) (hc : n + 1 ≤ c) (hm : c ≤ maxLen) (hD : D.length = c * 2) (ht : D.take ((n + 1) * 2) = (R.take i ++ [itr s] ++ R.drop i).flatten) : Or_ 2 47 b w (.slice (some ⟨g, 0, none⟩) (n + 1) c) (R.take i ++ [itr s] ++ R.drop i) := by
  have hl : (R.take i ++ [itr s] ++ R.drop i).length = n + 1 := by simp; omega
  have hr : ∀ r ∈ R.take i ++ [itr s] ++ R.drop i, r.length = 2 := by
    intro r hr
    rcases List.mem_append.1 hr with h | h
    · rcases List.mem_append.1 h with h | h
      · exact hR r (List.mem_of_mem_take h)
      · rw [List.mem_singleton.1 h]; rfl
    · exact hR r (List.mem_of_mem_drop h)
  refine ⟨hr, ?_⟩
  rw [hl]
  exact ⟨by rw [flat2 hr, hl]; omega, .inr ⟨g, c, D.toArray, rfl, hb, hg, hc, hm, by simpa using hD, by simpa using ht⟩⟩
set_option maxHeartbeats 4000000 in
theorem insert_ok (R : List (List Value)) (s : It) (a : Option Addr) (n c i b vb : Nat) (hn3 : n ≤ 1000) (hi : i ≤ n) (w : World) (hO : Or_ 2 47 b w (.slice a n c) R) (h1R : ∀ r ∈ R, ∀ u ∈ r, u.oneCell' = true) (hb : b ≤ w.heap.size) (hv : w.heap[vb]? = some (.cells (fl [[.int .u32 s.n], [.string s.s]]) 47 (0, 0))) (hvb : blkOf a ≠ some vb) : Calls Try.prog 40 #[.slice a n c, .int .i64 (i : Int), .slice (some ⟨vb, 0, none⟩) 1 1] w (fun r w' => ∃ a' c', r = .returned (.slice a' (n + 1) c') ∧ Or_ 2 47 b w' (.slice a' (n + 1) c') (R.take i ++ [itr s] ++ R.drop i) ∧ w.grownBy w' (Value.slice a n c).ownBlock) := by
  obtain ⟨T, hT⟩ : ∃ T : Ending → World → Prop, T = (fun r w' => ∃ a' c', r = .returned (.slice a' (n + 1) c') ∧ Or_ 2 47 b w' (.slice a' (n + 1) c') (R.take i ++ [itr s] ++ R.drop i) ∧ w.grownBy w' (Value.slice a n c).ownBlock) := ⟨_, rfl⟩
  rw [← hT]
  replace hT := hide hT
  have hRn := (or_slice hO).1.symm
  have hLz := (or_slice hO).2
  have hcap := hLz.cap
  have hmax := hLz.max
  have hRr := hO.1
  replace hO := hide hO; replace h1R := hide h1R; replace hv := hide hv; replace hvb := hide hvb; replace hLz := hide hLz; replace hRr := hide hRr
  go_enter Try.func40, Try.ntmps40
  go_upto_region 1 with fail
  obtain ⟨u0, hu_⟩ : ∃ u, u = w := ⟨_, rfl⟩
  rw [← hu_]
  have hB : Bl w [] u0 := hu_ ▸ Bl.nil w
  clear hu_
  refine wp_region_lit ?_
  refine lvk (.slice a n c) ?_
  simp only [nrm]
  refine lvk (.int .i64 (i : Int)) ?_
  simp only [nrm]
  refine list_val (.slice (frA 2 a c i) (n - i) (c - i)) (by kernel_rfl) (exec_frI _ (.tmp 10) (.tmp 11) rfl a n c i (by kernel_rfl) (by kernel_rfl) hcap hi) ?_
  simp only [nrm]
  refine wpList_nil ?_
  replace hB := hide hB
  go_upto_region 2 with fail
  replace hB := unhide hB
  refine wp_region_lit ?_
  refine lvk (.slice (some ⟨vb, 0, none⟩) 1 1) ?_
  simp only [nrm]
  refine lvk (.int .i64 1) ?_
  simp only [nrm]
  (refine wpList_step fun K hK => ?_; replace hK := hide hK; go_simp; refine unhide hK _ _ ?_; clear hK K)
  refine wpList_nil ?_
  replace hB := hide hB
  go_upto_region 3 with fail
  replace hB := unhide hB
  refine wp_region_lit ?_
  refine lvk (.int .i64 1) ?_
  simp only [nrm]
  refine list_val (.bool false) (by kernel_rfl) (eql_i _ (.tmp 15) (.const (.int .i64 0)) 1 0 false rfl (by kernel_rfl) (by kernel_rfl) (by decide)) ?_
  simp only [nrm]
  refine wpList_nil ?_
  replace hB := hide hB
  go_upto_region 5 with fail
  replace hB := unhide hB
  refine wp_region_lit ?_
  refine lvk (.slice a n c) ?_
  simp only [nrm]
  refine lvk (.int .i64 (n : Int)) ?_
  simp only [nrm]
  (refine wpList_step fun K hK => ?_; replace hK := hide hK; go_simp; refine unhide hK _ _ ?_; clear hK K)
  refine wpList_nil ?_
  by_cases h2 : i = n
  · have h2 := hide h2
    replace hB := hide hB
    go_upto_region 6 with fail
    replace hB := unhide hB
    refine wp_region_lit ?_
    refine lvk (.int .i64 (i : Int)) ?_
    simp only [nrm]
    refine lvk (.int .i64 (n : Int)) ?_
    simp only [nrm]
    refine list_val (.bool true) (by kernel_rfl) (eql_i _ (.tmp 20) (.tmp 21) (i : Int) (n : Int) true rfl (by kernel_rfl) (by kernel_rfl) (decide_eq_true (by have := unhide h2; omega))) ?_
    simp only [nrm]
    refine wpList_nil ?_
    replace hB := hide hB
    go_upto_region 7 with fail
    replace hB := unhide hB
    refine wp_region_lit ?_
    refine lvk (.slice a n c) ?_
    simp only [nrm]
    refine lvk (.slice (some ⟨vb, 0, none⟩) 1 1) ?_
    simp only [nrm]
    have hls : Lz 2 u0 (some ⟨vb, 0, none⟩) 1 1 [itr s] := ⟨rfl, by intro r_ hr_; obtain rfl := List.mem_singleton.1 hr_; rfl, .inr ⟨vb, 0, rfl, by rw [List.flatten_cons, List.flatten_nil, List.append_nil]; exact range_row (hB.gr.blk (unhide hv))⟩, by omega, by omega⟩
    refine wpList_step fun K hK => ?_
    rw [if_pos (by kernel_rfl)]
    refine app_rowsW ltI (.tmp 23) (.tmp 24) rfl b _ R (by kernel_rfl) ((unhide hO).gr hB.gr) (some ⟨vb, 0, none⟩) 1 1 [itr s] (by kernel_rfl) hls (by
      intro r_ hr_ u_ hu_
      obtain rfl := List.mem_singleton.1 hr_
      exact itr_one _ u_ hu_) (by omega) (Nat.le_trans hb hB.gr.size) ?_
    intro v1 u1 hO1 hgr
    refine hK _ _ ?_
    clear hK K hls
    have hg9 := grown_of hB.gr hgr
    obtain ⟨a9, c9, rfl, hls9⟩ := hO1.lz
    have e2 : (R ++ [itr s]).length = n + 1 := by rw [List.length_append, List.length_singleton]; omega
    rw [e2] at hO1 ⊢
    have hOf : Hid (Or_ 2 47 b u1 (.slice a9 (n + 1) c9) (R.take i ++ [itr s] ++ R.drop i)) := hide (by
      have h9 := unhide h2
      rw [List.take_of_length_le (by omega), List.drop_eq_nil_of_le (by omega), List.append_nil]
      exact hO1)
    clear hO1 hls9 e2 hgr hB
    simp only [nrm]
    (refine wpList_step fun K hK => ?_; replace hK := hide hK; go_simp; refine unhide hK _ _ ?_; clear hK K)
    refine wpList_nil ?_
    have hB := Bl.nil u1
    replace hB := hide hB
    go_wp2_with fail
    replace hB := unhide hB
    rw [unhide hT]
    exact (⟨a9, c9, rfl, unhide hOf, hg9⟩)
  · have hin : i < n := by omega
    obtain ⟨g, c0, C, e1, hbg, hg, hnc, hcm, hCl, hCov⟩ := Or_.some (unhide hO) (by intro e; rw [e] at hRn; simp at hRn; omega)
    injection e1 with e1 e2 e3
    subst e1 e3
    clear e2
    have hgvb : vb ≠ g := fun e => (unhide hvb) (by rw [e]; rfl)
    have hown : Value.ownBlock (Value.slice (some ⟨g, 0, none⟩) n c) = some g := rfl
    rw [hown] at hT
    have hclen : n + 1 ≤ c → 2 * (n + 1) ≤ C.length := fun h9 => by rw [hCl]; omega
    have hlA : (R.take i).flatten.length = 2 * i := by rw [flat2 (fun r hr => (unhide hRr) r (List.mem_of_mem_take hr)), List.length_take]; omega
    have hlB : (R.drop i).flatten.length = 2 * (n - i) := by rw [flat2 (fun r hr => (unhide hRr) r (List.mem_of_mem_drop hr)), List.length_drop]; omega
    have hRA : ∀ j v, (R.take i).flatten[j]? = some v → C[j]? = some v := fun j v hj => hCov j v (by rw [← List.take_append_drop i R, List.flatten_append, List.getElem?_append_left (List.getElem?_eq_some_iff.1 hj).1]; exact hj)
    have hRB : ∀ j v, (R.drop i).flatten[j]? = some v → C[2 * i + j]? = some v := fun j v hj => hCov _ v (by rw [← List.take_append_drop i R, List.flatten_append, List.getElem?_append_right (by omega), hlA, show 2 * i + j - 2 * i = j by omega]; exact hj)
    have h1B : ∀ v ∈ (R.drop i).flatten, v.oneCell' = true := fun v hv9 => by
      obtain ⟨r, hr, hv9⟩ := List.mem_flatten.1 hv9
      exact (unhide h1R) r (List.mem_of_mem_drop hr) v hv9
    replace hg := hide hg; replace hCov := hide hCov; replace hRA := hide hRA; replace hRB := hide hRB; replace h1B := hide h1B; replace hlA := hide hlA; replace hlB := hide hlB; replace hclen := hide hclen; replace hCl := hide hCl
    replace hB := hide hB
    go_upto_region 6 with fail
    replace hB := unhide hB
    refine wp_region_lit ?_
    refine lvk (.int .i64 (i : Int)) ?_
    simp only [nrm]
    refine lvk (.int .i64 (n : Int)) ?_
    simp only [nrm]
    refine list_val (.bool false) (by kernel_rfl) (eql_i _ (.tmp 20) (.tmp 21) (i : Int) (n : Int) false rfl (by kernel_rfl) (by kernel_rfl) (decide_eq_false (by omega))) ?_
    simp only [nrm]
    refine wpList_nil ?_
    replace hB := hide hB
    go_upto_region 8 with fail
    replace hB := unhide hB
    by_cases h3 : c < n + 1
    · have h3 := h3
      refine wp_region_lit ?_
      refine lvk (.int .i64 (n : Int)) ?_
      simp only [nrm]
      refine lvk (.int .i64 1) ?_
      simp only [nrm]
      refine list_val (.int .i64 ((n + 1 : Nat) : Int)) (by kernel_rfl) (add_i _ (.tmp 26) (.tmp 27) (n : Int) 1 rfl (by kernel_rfl) (by kernel_rfl) _ (by omega) (by omega)) ?_
      simp only [nrm]
      refine lvk (.slice (some ⟨g, 0, none⟩) n c) ?_
      simp only [nrm]
      refine lvk (.int .i64 (c : Int)) ?_
      simp only [nrm]
      refine list_val (.bool true) (by kernel_rfl) (gtr_i _ (.tmp 28) (.tmp 30) ((n + 1 : Nat) : Int) (c : Int) true rfl (by kernel_rfl) (by kernel_rfl) (decide_eq_true (by omega))) ?_
      simp only [nrm]
      refine wpList_nil ?_
      have hgb := hide (show Gb w (some g) u0 from gr_grown hB.gr (some g))
      have hV := hide (show Hb vb (fl [[.int .u32 s.n], [.string s.s]]) 47 u0 from hB.gr.blk (unhide hv))
      have hG := hide (show Hb g C.toArray 47 u0 from hB.gr.blk (unhide hg))
      have hvw := lt_of_block (unhide hv)
      have hgw := lt_of_block (unhide hg)
      have hb2 : b ≤ u0.heap.size := Nat.le_trans hb hB.gr.size
      have hwu : w.heap.size ≤ u0.heap.size := hB.gr.size
      clear hB
      have hB := Bl.nil u0
      replace hB := hide hB
      go_upto_region 9 with fail
      replace hB := unhide hB
      refine wp_region_lit ?_
      refine lvk (.slice (some ⟨g, 0, none⟩) n c) ?_
      simp only [nrm]
      refine lvk (.int .i64 (i : Int)) ?_
      simp only [nrm]
      refine list_val (.slice (some ⟨g, 0, none⟩) i c) (by kernel_rfl) (exec_upI _ (.tmp 32) (.tmp 33) rfl (some ⟨g, 0, none⟩) n c i (by kernel_rfl) (by kernel_rfl) (by omega)) ?_
      simp only [nrm]
      refine lvk (.int .i64 (n : Int)) ?_
      simp only [nrm]
      refine lvk (.int .i64 1) ?_
      simp only [nrm]
      refine list_val (.int .i64 ((n + 1 : Nat) : Int)) (by kernel_rfl) (add_i _ (.tmp 35) (.tmp 36) (n : Int) 1 rfl (by kernel_rfl) (by kernel_rfl) _ (by omega) (by omega)) ?_
      simp only [nrm]
      refine lvk (.int .i64 (i : Int)) ?_
      simp only [nrm]
      refine list_val (.int .i64 ((n + 1 - i : Nat) : Int)) (by kernel_rfl) (sub_i _ (.tmp 37) (.tmp 38) ((n + 1 : Nat) : Int) (i : Int) rfl (by kernel_rfl) (by kernel_rfl) _ (by omega) (by omega)) ?_
      simp only [nrm]
      obtain ⟨i0, hi0, hi1, hi2, hi3⟩ := info_parts Try.infI3
      have hold : (Builtin.firstCells i0.size i (.slice (some ⟨g, 0, none⟩) i c)).run Try.prog u0.drew = .ok (R.take i).flatten.toArray u0.drew := by
        rw [hi2]
        exact run_firstCells_some u0.drew 2 i ⟨g, 0, none⟩ i c _ (by have := unhide hlA; omega) (fun j v hj => by rw [Addr.add_mid, Nat.zero_add]; exact cell_of (((Gr.refl u0).drew).blk (unhide hG)) (by rw [List.getElem?_toArray]; exact (unhide hRA) j v hj))
      have hrun := Lib.run_append_grow_zeros (P := Try.prog) u0 24 3 24 47 i0 _ .i64 .i64 Try.underlying24 Try.underlying3 hi0 hi1 (some ⟨g, 0, none⟩) i c _ hold (n + 1 - i) (by omega) (by omega) (by omega) (by omega) (by rw [hi3]; omega) (by rw [hi3]; exact growslice_fits (by omega) (by omega))
      rw [show i + (n + 1 - i) = n + 1 by omega] at hrun
      have hGn : n + 1 ≤ grownCap u0 (n + 1) c 47 := grownCap_ge _ _ _ _
      have hGm : grownCap u0 (n + 1) c 47 ≤ maxLen := grownCap_le_maxLen _ _ _ _ (by unfold maxLen; omega)
      generalize grownCap u0 (n + 1) c 47 = G at *
      obtain ⟨Zl, hZ1, hZ2⟩ : ∃ Zl : List Value, ((R.take i).flatten.toArray ++ Builtin.zeroCells (Value.agg (fl [[.int .u32 0], [.string ByteArray.empty]])).cells (n + 1 - i) ++ Builtin.zeroCells (Value.agg (fl [[.int .u32 0], [.string ByteArray.empty]])).cells (G - (n + 1))) = ((R.take i).flatten ++ Zl).toArray ∧ Zl.length = 2 * (G - i) := ⟨(Builtin.zeroCells (Value.agg (fl [[.int .u32 0], [.string ByteArray.empty]])).cells (n + 1 - i) ++ Builtin.zeroCells (Value.agg (fl [[.int .u32 0], [.string ByteArray.empty]])).cells (G - (n + 1))).toList, by simp, by
        simp [Builtin.zeroCells, Value.cells, fl]
        omega⟩
      rw [hZ1] at hrun
      refine list_appz (.tmp 34) (.tmp 39) rfl (by kernel_rfl) _ _ _ _ (by kernel_rfl) (by kernel_rfl) hrun ?_
      have hN : Hid (Hb u0.heap.size ((R.take i).flatten ++ Zl).toArray 47 (u0.drew.alloc (.cells ((R.take i).flatten ++ Zl).toArray 47 (0, 0)))) := blk_new u0.drew _
      have hg := ((Gr.refl u0).drew).alloc (.cells ((R.take i).flatten ++ Zl).toArray 47 (0, 0))
      replace hgb := hide ((unhide hgb).gr hg); replace hV := hide ((unhide hV).gr hg); replace hG := hide ((unhide hG).gr hg)
      clear hg hold hrun hZ1 hi0 hi1 hi2 hi3
      generalize World.alloc _ _ = u1 at *
      generalize u0.heap.size = g2 at *
      clear hB
      have hB := Bl.nil u1
      simp only [nrm]
      (refine wpList_step fun K hK => ?_; replace hK := hide hK; go_simp; refine unhide hK _ _ ?_; clear hK K)
      refine wpList_nil ?_
      replace hB := hide hB
      go_upto_region 10 with fail
      replace hB := unhide hB
      refine wp_region_lit ?_
      refine lvk (.slice (some ⟨g2, 0, none⟩) (n + 1) G) ?_
      simp only [nrm]
      refine lvk (.int .i64 (i : Int)) ?_
      simp only [nrm]
      refine list_val (.slice (some ⟨g2, 0 + 2 * i, none⟩) (n + 1 - i) (G - i)) (by kernel_rfl) (exec_fsI _ (.tmp 41) (.tmp 42) rfl g2 0 (n + 1) G i (by kernel_rfl) (by kernel_rfl) hGn (by omega) (by omega)) ?_
      simp only [nrm]
      refine lvk (.slice (some ⟨vb, 0, none⟩) 1 1) ?_
      simp only [nrm]
      have hth := there_of (n := ((itr s)).length) (o := 0 + 2 * i) (unhide hN) (by rw [List.length_append, hZ2]; have := unhide hlA; have := itr_len s; omega)
      have hcp := fun ty_ => run_copy_k u1 24 24 ty_ 47 2 g2 (0 + 2 * i) (n + 1 - i) (G - i) ⟨vb, 0, none⟩ (1) (1) ((itr s)) (1) Try.underlying24 (by kernel_rfl) (by simp only [Nat.min_def]; split <;> omega) (by rfl) (fun j v hj => by rw [Addr.add_mid]; exact cell_of (unhide hV) (by rw [Nat.zero_add]; unfold fl; rw [List.getElem?_toArray]; exact hj)) (fun j hj => (hth j hj).1) (fun j hj => (hth j hj).2) (itr_one s)
      refine list_copyk (.tmp 43) (.tmp 44) rfl (by kernel_rfl) _ _ _ _ (by kernel_rfl) (by kernel_rfl) (hcp _) ?_
      clear hcp hth
      have hN2 : Hid (Hb g2 (sp ((R.take i).flatten ++ Zl) (0 + 2 * i) ((itr s))).toArray 47 (World.setCells u1 g2 (0 + 2 * i) ((itr s)))) := setCells_heap _ _ _ _ _ _ (unhide hN)
      replace hgb := hide (show Gb w (some g) (World.setCells u1 g2 (0 + 2 * i) ((itr s))) from gb_new (unhide hgb) hwu)
      replace hV := hide ((unhide hV).ot (o := 0 + 2 * i) (vs := (itr s)) (show vb ≠ g2 by omega))
      replace hG := hide ((unhide hG).ot (o := 0 + 2 * i) (vs := (itr s)) (show g ≠ g2 by omega))
      replace hN := hN2
      clear hN2
      generalize World.setCells _ _ _ _ = u2 at *
      clear hB
      have hB := Bl.nil u2
      simp only [nrm]
      refine wpList_nil ?_
      replace hB := hide hB
      go_upto_region 11 with fail
      replace hB := unhide hB
      refine any_start (S := fun v_ => True) (by kernel_rfl) ?_
      replace hgb := hide ((unhide hgb).gr ((Gr.refl u2).drew))
      replace hV := hide ((unhide hV).gr ((Gr.refl u2).drew))
      replace hG := hide ((unhide hG).gr ((Gr.refl u2).drew))
      replace hN := hide ((unhide hN).gr ((Gr.refl u2).drew))
      replace hB := hB.drew
      generalize World.drew _ = u3 at *
      simp only [List.size_toArray, List.length_cons, List.length_nil, Array.replicate, List.replicate]
      refine any_tk 0 (.slice (some ⟨g2, 0, none⟩) (n + 1) G) (tf 9 0) rfl (fun x_ hu => by kernel_rfl) trivial ?_
      simp only [nrm]
      refine any_tk 1 (.int .i64 (i : Int)) (tf 9 1) rfl (fun x_ hu => by kernel_rfl) trivial ?_
      simp only [nrm]
      refine any_tk 2 (.int .i64 1) (tf 9 2) rfl (fun x_ hu => by kernel_rfl) trivial ?_
      simp only [nrm]
      refine any_tk 3 (.int .i64 ((i + 1 : Nat) : Int)) (tf 9 3) rfl (fun x_ hu => add_i _ (.tmp 47) (.tmp 48) (i : Int) 1 rfl (by kernel_rfl) (by kernel_rfl) _ (by omega) (by omega)) trivial ?_
      simp only [nrm]
      refine any_tk 4 (.slice (some ⟨g2, 0 + 2 * (i + 1), none⟩) (n + 1 - (i + 1)) (G - (i + 1))) (tf 9 4) rfl (fun x_ hu => exec_fsI _ (.tmp 46) (.tmp 49) rfl g2 0 (n + 1) G (i + 1) (by kernel_rfl) (by kernel_rfl) hGn (by omega) (by omega)) trivial ?_
      simp only [nrm]
      refine any_tk 5 (.slice (some ⟨g, 0, none⟩) n c) (tf 9 5) rfl (fun x_ hu => by kernel_rfl) trivial ?_
      simp only [nrm]
      refine any_tk 6 (.int .i64 (i : Int)) (tf 9 6) rfl (fun x_ hu => by kernel_rfl) trivial ?_
      simp only [nrm]
      refine any_tk 7 (.slice (some ⟨g, 0 + 2 * i, none⟩) (n - i) (c - i)) (tf 9 7) rfl (fun x_ hu => exec_fsI _ (.tmp 51) (.tmp 52) rfl g 0 n c i (by kernel_rfl) (by kernel_rfl) hcap (by omega) (by omega)) trivial ?_
      simp only [nrm]
      refine any_one (i := 8) (by kernel_rfl) rfl (fun K hK => ?_)
      have hth := there_of (n := ((R.drop i).flatten).length) (o := 0 + 2 * (i + 1)) (unhide hN) (by rw [sp_len, List.length_append, hZ2]; have := unhide hlA; have := unhide hlB; omega)
      have hcp := fun ty_ => run_copy_k u3 24 24 ty_ 47 2 g2 (0 + 2 * (i + 1)) (n + 1 - (i + 1)) (G - (i + 1)) ⟨g, 0 + 2 * i, none⟩ (n - i) (c - i) ((R.drop i).flatten) (n - i) Try.underlying24 (by kernel_rfl) (by simp only [Nat.min_def]; split <;> omega) (by have := unhide hlB; omega) (fun j v hj => by rw [Addr.add_mid]; exact cell_of (unhide hG) (by rw [List.getElem?_toArray, Nat.zero_add]; exact (unhide hRB) j v hj)) (fun j hj => (hth j hj).1) (fun j hj => (hth j hj).2) (unhide h1B)
      refine step_copyk (.tmp 50) (.tmp 53) rfl (by kernel_rfl) _ _ _ _ (by kernel_rfl) (by kernel_rfl) (hcp _) ?_
      clear hcp hth
      have hN2 : Hid (Hb g2 (sp (sp ((R.take i).flatten ++ Zl) (0 + 2 * i) (itr s)) (0 + 2 * (i + 1)) ((R.drop i).flatten)).toArray 47 (World.setCells u3 g2 (0 + 2 * (i + 1)) ((R.drop i).flatten))) := setCells_heap _ _ _ _ _ _ (unhide hN)
      replace hgb := hide (show Gb w (some g) (World.setCells u3 g2 (0 + 2 * (i + 1)) ((R.drop i).flatten)) from gb_new (unhide hgb) hwu)
      replace hN := hN2
      clear hN2 hV hG
      generalize World.setCells _ _ _ _ = u4 at *
      clear hB
      have hB := Bl.nil u4
      refine hK.out _ _ trivial (fun _ => ?_)
      clear hK K
      simp only [nrm]
      refine any_done (by kernel_rfl) ?_
      replace hB := hide hB
      go_upto_region 12 with fail
      replace hB := unhide hB
      refine wp_region_lit ?_
      refine lvk (.slice (some ⟨g2, 0, none⟩) (n + 1) G) ?_
      simp only [nrm]
      (refine wpList_step fun K hK => ?_; replace hK := hide hK; go_simp; refine unhide hK _ _ ?_; clear hK K)
      refine wpList_nil ?_
      have hfin : Or_ 2 47 b u4 (.slice (some ⟨g2, 0, none⟩) (n + 1) G) (R.take i ++ [itr s] ++ R.drop i) := ins_or (unhide hRr) hRn.symm hi (unhide hN) (by omega) hGn hGm (by rw [sp_len, sp_len, List.length_append, hZ2]; have := unhide hlA; omega) (by rw [Nat.zero_add, Nat.zero_add, ins_new (unhide hlA) hi (unhide hlB) (itr_len s) (by rw [hZ2]; omega)]; simp)
      replace hB := hide hB
      go_wp2_with fail
      replace hB := unhide hB
      rw [unhide hT]
      exact (⟨some ⟨g2, 0, none⟩, G, rfl, hfin, unhide hgb⟩)
    · have h3 : n + 1 ≤ c := by omega
      refine wp_region_lit ?_
      refine lvk (.int .i64 (n : Int)) ?_
      simp only [nrm]
      refine lvk (.int .i64 1) ?_
      simp only [nrm]
      refine list_val (.int .i64 ((n + 1 : Nat) : Int)) (by kernel_rfl) (add_i _ (.tmp 26) (.tmp 27) (n : Int) 1 rfl (by kernel_rfl) (by kernel_rfl) _ (by omega) (by omega)) ?_
      simp only [nrm]
      refine lvk (.slice (some ⟨g, 0, none⟩) n c) ?_
      simp only [nrm]
      refine lvk (.int .i64 (c : Int)) ?_
      simp only [nrm]
      refine list_val (.bool false) (by kernel_rfl) (gtr_i _ (.tmp 28) (.tmp 30) ((n + 1 : Nat) : Int) (c : Int) false rfl (by kernel_rfl) (by kernel_rfl) (decide_eq_false (by omega))) ?_
      simp only [nrm]
      refine wpList_nil ?_
      have hgb := hide (show Gb w (some g) u0 from gr_grown hB.gr (some g))
      have hV := hide (show Hb vb (fl [[.int .u32 s.n], [.string s.s]]) 47 u0 from hB.gr.blk (unhide hv))
      have hG := hide (show Hb g C.toArray 47 u0 from hB.gr.blk (unhide hg))
      have hvw := lt_of_block (unhide hv)
      have hgw := lt_of_block (unhide hg)
      have hb2 : b ≤ u0.heap.size := Nat.le_trans hb hB.gr.size
      have hwu : w.heap.size ≤ u0.heap.size := hB.gr.size
      clear hB
      have hB := Bl.nil u0
      replace hB := hide hB
      go_upto_region 13 with fail
      replace hB := unhide hB
      refine wp_region_lit ?_
      refine lvk (.slice (some ⟨g, 0, none⟩) n c) ?_
      simp only [nrm]
      refine lvk (.int .i64 (n : Int)) ?_
      simp only [nrm]
      refine lvk (.int .i64 1) ?_
      simp only [nrm]
      refine list_val (.int .i64 ((n + 1 : Nat) : Int)) (by kernel_rfl) (add_i _ (.tmp 57) (.tmp 58) (n : Int) 1 rfl (by kernel_rfl) (by kernel_rfl) _ (by omega) (by omega)) ?_
      simp only [nrm]
      refine list_val (.slice (some ⟨g, 0, none⟩) (n + 1) c) (by kernel_rfl) (exec_upI _ (.tmp 56) (.tmp 59) rfl (some ⟨g, 0, none⟩) n c (n + 1) (by kernel_rfl) (by kernel_rfl) h3) ?_
      simp only [nrm]
      (refine wpList_step fun K hK => ?_; replace hK := hide hK; go_simp; refine unhide hK _ _ ?_; clear hK K)
      refine wpList_nil ?_
      replace hB := hide hB
      go_upto_region 14 with fail
      replace hB := unhide hB
      refine wp_region_lit ?_
      refine lvk (.slice (some ⟨vb, 0, none⟩) 1 1) ?_
      simp only [nrm]
      refine lvk (.slice (some ⟨g, 0, none⟩) (n + 1) c) ?_
      simp only [nrm]
      refine lvk (.int .i64 (i : Int)) ?_
      simp only [nrm]
      refine lvk (.int .i64 1) ?_
      simp only [nrm]
      refine list_val (.int .i64 ((i + 1 : Nat) : Int)) (by kernel_rfl) (add_i _ (.tmp 63) (.tmp 64) (i : Int) 1 rfl (by kernel_rfl) (by kernel_rfl) _ (by omega) (by omega)) ?_
      simp only [nrm]
      refine list_val (.slice (some ⟨g, 0 + 2 * (i + 1), none⟩) (n + 1 - (i + 1)) (c - (i + 1))) (by kernel_rfl) (exec_fsI _ (.tmp 62) (.tmp 65) rfl g 0 (n + 1) c (i + 1) (by kernel_rfl) (by kernel_rfl) h3 (by omega) (by omega)) ?_
      simp only [nrm]
      refine list_val (.bool false) (by kernel_rfl) (exec_ov _ (.tmp 61) (.tmp 66) rfl ⟨vb, 0, none⟩ ⟨g, 0 + 2 * (i + 1), none⟩ 1 1 (n + 1 - (i + 1)) (c - (i + 1)) (by kernel_rfl) (by kernel_rfl) hgvb (unhide hV) (unhide hG) (by have := (unhide hclen) h3; rw [List.size_toArray]; omega) (froz_of (unhide hV)) (froz_of (unhide hV))) ?_
      simp only [nrm]
      refine lvk (.bool true) ?_
      simp only [nrm]
      refine wpList_nil ?_
      replace hB := hide hB
      go_upto_region 15 with fail
      replace hB := unhide hB
      refine any_start (S := fun v_ => True) (by kernel_rfl) ?_
      replace hgb := hide ((unhide hgb).gr ((Gr.refl u0).drew))
      replace hV := hide ((unhide hV).gr ((Gr.refl u0).drew))
      replace hG := hide ((unhide hG).gr ((Gr.refl u0).drew))
      replace hB := hB.drew
      generalize World.drew _ = u1 at *
      simp only [List.size_toArray, List.length_cons, List.length_nil, Array.replicate, List.replicate]
      refine any_tk 0 (.slice (some ⟨g, 0, none⟩) (n + 1) c) (tf 9 0) rfl (fun x_ hu => by kernel_rfl) trivial ?_
      simp only [nrm]
      refine any_tk 1 (.int .i64 (i : Int)) (tf 9 1) rfl (fun x_ hu => by kernel_rfl) trivial ?_
      simp only [nrm]
      refine any_tk 2 (.int .i64 1) (tf 9 2) rfl (fun x_ hu => by kernel_rfl) trivial ?_
      simp only [nrm]
      refine any_tk 3 (.int .i64 ((i + 1 : Nat) : Int)) (tf 9 3) rfl (fun x_ hu => add_i _ (.tmp 70) (.tmp 71) (i : Int) 1 rfl (by kernel_rfl) (by kernel_rfl) _ (by omega) (by omega)) trivial ?_
      simp only [nrm]
      refine any_tk 4 (.slice (some ⟨g, 0 + 2 * (i + 1), none⟩) (n + 1 - (i + 1)) (c - (i + 1))) (tf 9 4) rfl (fun x_ hu => exec_fsI _ (.tmp 69) (.tmp 72) rfl g 0 (n + 1) c (i + 1) (by kernel_rfl) (by kernel_rfl) h3 (by omega) (by omega)) trivial ?_
      simp only [nrm]
      refine any_tk 5 (.slice (some ⟨g, 0, none⟩) (n + 1) c) (tf 9 5) rfl (fun x_ hu => by kernel_rfl) trivial ?_
      simp only [nrm]
      refine any_tk 6 (.int .i64 (i : Int)) (tf 9 6) rfl (fun x_ hu => by kernel_rfl) trivial ?_
      simp only [nrm]
      refine any_tk 7 (.slice (some ⟨g, 0 + 2 * i, none⟩) (n + 1 - i) (c - i)) (tf 9 7) rfl (fun x_ hu => exec_fsI _ (.tmp 74) (.tmp 75) rfl g 0 (n + 1) c i (by kernel_rfl) (by kernel_rfl) h3 (by omega) (by omega)) trivial ?_
      simp only [nrm]
      refine any_one (i := 8) (by kernel_rfl) rfl (fun K hK => ?_)
      have hth := there_of (n := ((R.drop i).flatten).length) (o := 0 + 2 * (i + 1)) (unhide hG) (by have := (unhide hclen) h3; have := unhide hlB; omega)
      have hcp := fun ty_ => run_copy_k u1 24 24 ty_ 47 2 g (0 + 2 * (i + 1)) (n + 1 - (i + 1)) (c - (i + 1)) ⟨g, 0 + 2 * i, none⟩ (n + 1 - i) (c - i) ((R.drop i).flatten) (n - i) Try.underlying24 (by kernel_rfl) (by simp only [Nat.min_def]; split <;> omega) (by have := unhide hlB; omega) (fun j v hj => by rw [Addr.add_mid]; exact cell_of (unhide hG) (by rw [List.getElem?_toArray, Nat.zero_add]; exact (unhide hRB) j v hj)) (fun j hj => (hth j hj).1) (fun j hj => (hth j hj).2) (unhide h1B)
      refine step_copyk (.tmp 73) (.tmp 76) rfl (by kernel_rfl) _ _ _ _ (by kernel_rfl) (by kernel_rfl) (hcp _) ?_
      clear hcp hth
      have hG2 : Hid (Hb g (sp C (0 + 2 * (i + 1)) ((R.drop i).flatten)).toArray 47 (World.setCells u1 g (0 + 2 * (i + 1)) ((R.drop i).flatten))) := setCells_heap _ _ _ _ _ _ (unhide hG)
      replace hgb := hide (show Gb w (some g) (World.setCells u1 g (0 + 2 * (i + 1)) ((R.drop i).flatten)) from grown_cells (unhide hgb))
      replace hV := hide ((unhide hV).ot (o := 0 + 2 * (i + 1)) (vs := (R.drop i).flatten) hgvb)
      replace hG := hG2
      clear hG2
      generalize World.setCells _ _ _ _ = u2 at *
      clear hB
      have hB := Bl.nil u2
      refine hK.out _ _ trivial (fun _ => ?_)
      clear hK K
      simp only [nrm]
      refine any_done (by kernel_rfl) ?_
      replace hB := hide hB
      go_upto_region 16 with fail
      replace hB := unhide hB
      refine wp_region_lit ?_
      refine lvk (.slice (some ⟨g, 0, none⟩) (n + 1) c) ?_
      simp only [nrm]
      refine lvk (.int .i64 (i : Int)) ?_
      simp only [nrm]
      refine list_val (.slice (some ⟨g, 0 + 2 * i, none⟩) (n + 1 - i) (c - i)) (by kernel_rfl) (exec_fsI _ (.tmp 78) (.tmp 79) rfl g 0 (n + 1) c i (by kernel_rfl) (by kernel_rfl) h3 (by omega) (by omega)) ?_
      simp only [nrm]
      refine lvk (.slice (some ⟨vb, 0, none⟩) 1 1) ?_
      simp only [nrm]
      have hth := there_of (n := ((itr s)).length) (o := 0 + 2 * i) (unhide hG) (by rw [sp_len]; have := (unhide hclen) h3; have := itr_len s; omega)
      have hcp := fun ty_ => run_copy_k u2 24 24 ty_ 47 2 g (0 + 2 * i) (n + 1 - i) (c - i) ⟨vb, 0, none⟩ (1) (1) ((itr s)) (1) Try.underlying24 (by kernel_rfl) (by simp only [Nat.min_def]; split <;> omega) (by rfl) (fun j v hj => by rw [Addr.add_mid]; exact cell_of (unhide hV) (by rw [Nat.zero_add]; unfold fl; rw [List.getElem?_toArray]; exact hj)) (fun j hj => (hth j hj).1) (fun j hj => (hth j hj).2) (itr_one s)
      refine list_copyk (.tmp 80) (.tmp 81) rfl (by kernel_rfl) _ _ _ _ (by kernel_rfl) (by kernel_rfl) (hcp _) ?_
      clear hcp hth
      have hG2 : Hid (Hb g (sp (sp C (0 + 2 * (i + 1)) (R.drop i).flatten) (0 + 2 * i) ((itr s))).toArray 47 (World.setCells u2 g (0 + 2 * i) ((itr s)))) := setCells_heap _ _ _ _ _ _ (unhide hG)
      replace hgb := hide (show Gb w (some g) (World.setCells u2 g (0 + 2 * i) ((itr s))) from grown_cells (unhide hgb))
      replace hG := hG2
      clear hG2 hV
      generalize World.setCells _ _ _ _ = u3 at *
      clear hB
      have hB := Bl.nil u3
      simp only [nrm]
      refine wpList_nil ?_
      replace hB := hide hB
      go_upto_region 17 with fail
      replace hB := unhide hB
      refine wp_region_lit ?_
      refine lvk (.slice (some ⟨g, 0, none⟩) (n + 1) c) ?_
      simp only [nrm]
      (refine wpList_step fun K hK => ?_; replace hK := hide hK; go_simp; refine unhide hK _ _ ?_; clear hK K)
      refine wpList_nil ?_
      have hfin : Or_ 2 47 b u3 (.slice (some ⟨g, 0, none⟩) (n + 1) c) (R.take i ++ [itr s] ++ R.drop i) := ins_or (unhide hRr) hRn.symm hi (unhide hG) hbg h3 hcm (by rw [sp_len, sp_len]; exact unhide hCl) (by rw [Nat.zero_add, Nat.zero_add]; exact ins_in (unhide hRr) hRn hi (itr_len s) ((unhide hclen) h3) (unhide hCov))
      replace hB := hide hB
      go_wp2_with fail
      replace hB := unhide hB
      rw [unhide hT]
      exact (⟨some ⟨g, 0, none⟩, c, rfl, hfin, unhide hgb⟩)
end Go.Proofs.Ytcefkkoombmndaa
