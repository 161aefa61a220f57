/-
  Where a number stands among those that are held; Wants.
-/
import Derived.Test.YtcefkkoombmndaaUI
namespace Go.Proofs.Ytcefkkoombmndaa
open Go.RowKit
set_option maxRecDepth 100000
set_option linter.unusedSimpArgs false
set_option linter.unusedVariables false
def cmpV (m n : Int) : Int := if m < n then -1 else if n < m then 1 else 0
set_option maxHeartbeats 4000000 in
theorem nan_ok (m : Int) (w : World)  : Calls Try.prog 66 #[.int .u32 m] w (Vl (.bool false) w) := by
  obtain ⟨T, hT⟩ : ∃ T : Ending → World → Prop, T = (Vl (.bool false) w) := ⟨_, rfl⟩
  rw [← hT]
  replace hT := hide hT
  go_enter Try.func66, Try.ntmps66
  go_upto_region 1 with fail
  obtain ⟨u0, hu_⟩ : ∃ u, u = w := ⟨_, rfl⟩
  rw [← hu_]
  have hB : Bl w [] u0 := hu_ ▸ Bl.nil w
  clear hu_
  refine wp_region_lit ?_
  refine lvk (.int .u32 m) ?_
  simp only [nrm]
  refine lvk (.int .u32 m) ?_
  simp only [nrm]
  refine list_val (.bool false) (by kernel_rfl) (neq_32 _ (.tmp 3) (.tmp 4) m m false rfl (by kernel_rfl) (by kernel_rfl) (by simp)) ?_
  simp only [nrm]
  (refine wpList_step fun K hK => ?_; replace hK := hide hK; go_simp; refine unhide hK _ _ ?_; clear hK K)
  refine wpList_nil ?_
  replace hB := hide hB
  go_wp2_with fail
  replace hB := unhide hB
  rw [unhide hT]
  exact (⟨rfl, hB.gr⟩)
set_option maxHeartbeats 4000000 in
theorem cmp_ok (m n : Int) (w : World)  : Calls Try.prog 56 #[.int .u32 m, .int .u32 n] w (Vl (.int .i64 (cmpV m n)) w) := by
  obtain ⟨T, hT⟩ : ∃ T : Ending → World → Prop, T = (Vl (.int .i64 (cmpV m n)) w) := ⟨_, rfl⟩
  rw [← hT]
  replace hT := hide hT
  go_enter Try.func56, Try.ntmps56
  go_upto_region 1 with fail
  obtain ⟨u0, hu_⟩ : ∃ u, u = w := ⟨_, rfl⟩
  rw [← hu_]
  have hB : Bl w [] u0 := hu_ ▸ Bl.nil w
  clear hu_
  refine wp_region_lit ?_
  refine lvk (.int .u32 m) ?_
  simp only [nrm]
  refine list_call 66 #[.int .u32 m] (by kernel_rfl) (by kernel_rfl) ((nan_ok m u0).mono ?_)
  rintro r_ u1 ⟨rfl, hg⟩
  replace hB := hB.more hg
  clear hg
  refine ⟨_, rfl, ?_⟩
  simp only [nrm]
  (refine wpList_step fun K hK => ?_; replace hK := hide hK; go_simp; refine unhide hK _ _ ?_; clear hK K)
  refine wpList_nil ?_
  replace hB := hide hB
  go_upto_region 2 with fail
  replace hB := unhide hB
  refine wp_region_lit ?_
  refine lvk (.int .u32 n) ?_
  simp only [nrm]
  refine list_call 66 #[.int .u32 n] (by kernel_rfl) (by kernel_rfl) ((nan_ok n u1).mono ?_)
  rintro r_ u2 ⟨rfl, hg⟩
  replace hB := hB.more hg
  clear hg
  refine ⟨_, rfl, ?_⟩
  simp only [nrm]
  (refine wpList_step fun K hK => ?_; replace hK := hide hK; go_simp; refine unhide hK _ _ ?_; clear hK K)
  refine wpList_nil ?_
  replace hB := hide hB
  go_upto_region 3 with fail
  replace hB := unhide hB
  refine wp_region_lit ?_
  refine lvk (.bool false) ?_
  simp only [nrm]
  refine wpList_nil ?_
  replace hB := hide hB
  go_upto_region 7 with fail
  replace hB := unhide hB
  refine wp_region_lit ?_
  refine lvk (.bool false) ?_
  simp only [nrm]
  refine wpList_nil ?_
  by_cases h1 : m < n
  · have hv : cmpV m n = -1 := by unfold cmpV; rw [if_pos h1]
    replace hB := hide hB
    go_upto_region 9 with fail
    replace hB := unhide hB
    refine wp_region_lit ?_
    refine lvk (.int .u32 m) ?_
    simp only [nrm]
    refine lvk (.int .u32 n) ?_
    simp only [nrm]
    refine list_val (.bool true) (by kernel_rfl) (lss_32 _ (.tmp 14) (.tmp 15) m n true rfl (by kernel_rfl) (by kernel_rfl) (decide_eq_true h1)) ?_
    simp only [nrm]
    refine wpList_nil ?_
    replace hB := hide hB
    go_wp2_with fail
    replace hB := unhide hB
    rw [unhide hT]
    exact (⟨by rw [hv] <;> rfl, hB.gr⟩)
  replace hB := hide hB
  go_upto_region 9 with fail
  replace hB := unhide hB
  refine wp_region_lit ?_
  refine lvk (.int .u32 m) ?_
  simp only [nrm]
  refine lvk (.int .u32 n) ?_
  simp only [nrm]
  refine list_val (.bool false) (by kernel_rfl) (lss_32 _ (.tmp 14) (.tmp 15) m n false rfl (by kernel_rfl) (by kernel_rfl) (decide_eq_false h1)) ?_
  simp only [nrm]
  refine wpList_nil ?_
  by_cases h2 : n < m
  · have hv : cmpV m n = 1 := by unfold cmpV; rw [if_neg h1, if_pos h2]
    replace hB := hide hB
    go_upto_region 11 with fail
    replace hB := unhide hB
    refine wp_region_lit ?_
    refine lvk (.int .u32 m) ?_
    simp only [nrm]
    refine lvk (.int .u32 n) ?_
    simp only [nrm]
    refine list_val (.bool true) (by kernel_rfl) (gtr_32 _ (.tmp 17) (.tmp 18) m n true rfl (by kernel_rfl) (by kernel_rfl) (decide_eq_true h2)) ?_
    simp only [nrm]
    refine wpList_nil ?_
    replace hB := hide hB
    go_wp2_with fail
    replace hB := unhide hB
    rw [unhide hT]
    exact (⟨by rw [hv] <;> rfl, hB.gr⟩)
  · have hv : cmpV m n = 0 := by unfold cmpV; rw [if_neg h1, if_neg h2]
    replace hB := hide hB
    go_upto_region 11 with fail
    replace hB := unhide hB
    refine wp_region_lit ?_
    refine lvk (.int .u32 m) ?_
    simp only [nrm]
    refine lvk (.int .u32 n) ?_
    simp only [nrm]
    refine list_val (.bool false) (by kernel_rfl) (gtr_32 _ (.tmp 17) (.tmp 18) m n false rfl (by kernel_rfl) (by kernel_rfl) (decide_eq_false h2)) ?_
    simp only [nrm]
    refine wpList_nil ?_
    replace hB := hide hB
    go_wp2_with fail
    replace hB := unhide hB
    rw [unhide hT]
    exact (⟨by rw [hv] <;> rfl, hB.gr⟩)
set_option maxHeartbeats 4000000 in
theorem pl1_ok (i : It) (m : Int) (w : World)  : Calls Try.prog 55 #[.agg (fl [[.int .u32 i.n], [.string i.s]]), .int .u32 m] w (Vl (.int .i64 (cmpV i.n m)) w) := by
  obtain ⟨T, hT⟩ : ∃ T : Ending → World → Prop, T = (Vl (.int .i64 (cmpV i.n m)) w) := ⟨_, rfl⟩
  rw [← hT]
  replace hT := hide hT
  obtain ⟨A0_, hA0_⟩ : ∃ S_, S_ = fl [[.int .u32 i.n], [.string i.s]] := ⟨_, rfl⟩
  rw [← hA0_]
  replace hA0_ := hide hA0_
  go_enter Try.func55, Try.ntmps55
  go_upto_region 1 with fail
  have hB := ((Bl.nil w).new A0_ 47)
  simp only [size_alloc, List.nil_append, List.cons_append] at hB
  rw [unhide hA0_] at hB
  generalize hu_ : World.alloc _ _ = u0
  replace hB : Bl w [⟨w.heap.size, fl [[.int .u32 i.n], [.string i.s]], 47⟩] u0 := by
    rw [← hu_]
    rw [unhide hA0_]
    exact hB
  clear hu_ hA0_
  refine wp_region_lit ?_
  refine lvk (.pointer (some ⟨w.heap.size, 0, none⟩)) ?_
  simp only [nrm]
  refine list_val (.int .u32 i.n) (by kernel_rfl) (exec_c32 _ (.tmp 5) rfl (w.heap.size) 0 (by kernel_rfl) i.n (seg_cell (nI  _ _) (hB.get 0 (x := ⟨w.heap.size, fl [[.int .u32 i.n], [.string i.s]], 47⟩) rfl) 0 (v := .int .u32 i.n) rfl rfl)) ?_
  simp only [nrm]
  refine lvk (.int .u32 m) ?_
  simp only [nrm]
  refine list_call 56 #[.int .u32 i.n, .int .u32 m] (by kernel_rfl) (by kernel_rfl) ((cmp_ok i.n m u0).mono ?_)
  rintro r_ u1 ⟨rfl, hg⟩
  replace hB := hB.more hg
  clear hg
  refine ⟨_, rfl, ?_⟩
  simp only [nrm]
  (refine wpList_step fun K hK => ?_; replace hK := hide hK; go_simp; refine unhide hK _ _ ?_; clear hK K)
  refine wpList_nil ?_
  replace hB := hide hB
  go_wp2_with fail
  replace hB := unhide hB
  rw [unhide hT]
  exact (⟨rfl, hB.gr⟩)
end Go.Proofs.Ytcefkkoombmndaa
