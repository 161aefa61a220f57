/-
  Layer 14: the reference: how packets may be.
-/
import Derived.Test.YtfmocneoffkmpaaFS0
namespace Go.Proofs.Ytfmocneoffkmpaa
open Go.RowKit
set_option maxRecDepth 100000
set_option linter.unusedSimpArgs false
set_option linter.unusedVariables false
set_option maxHeartbeats 4000000 in
theorem qends_ok (c s r : Int) (w : World) : Calls Try.prog 38 #[.int .i64 c, .int .i64 s, .int .u64 r] w (fun r_ w' => r_ = .returned (.bool (ends c s r)) ∧ w' = w) := by
  obtain ⟨T, hT⟩ : ∃ T : Ending → World → Prop, T = (fun r_ w' => r_ = .returned (.bool (ends c s r)) ∧ w' = w) := ⟨_, rfl⟩
  rw [← hT]
  replace hT := hide hT
  by_cases h0 : 0 ≤ c
  · skip
    by_cases h1 : c < 4
    · skip
      by_cases h2 : 0 ≤ s
      · skip
        by_cases h3 : s < 3
        · skip
          by_cases h4 : 0 < r
          · skip
            have hE : ends c s r = true := by unfold ends; rw [decide_eq_true_iff]; omega
            rw [hE] at hT
            have hZ : Hid (T (.returned (.bool true)) w) := by rw [unhide hT]; exact ⟨rfl, rfl⟩
            clear hT hE
            go_enter Try.func38, Try.ntmps38
            go_upto_region 1 with fail
            refine wp_region_lit ?_
            refine list_val (.int .i64 c) (by kernel_rfl) (by kernel_rfl) ?_
            simp only [Act.put, List.setIfInBounds_toArray, List.set_cons_zero, List.set_cons_succ, List.getElem_toArray, List.getElem_cons_zero, List.getElem_cons_succ]
            refine list_val (.bool true) (by kernel_rfl) (by go_simp) ?_
            simp only [Act.put, List.setIfInBounds_toArray, List.set_cons_zero, List.set_cons_succ, List.getElem_toArray, List.getElem_cons_zero, List.getElem_cons_succ]
            refine list_val (.bool true) (by kernel_rfl) (by kernel_rfl) ?_
            simp only [Act.put, List.setIfInBounds_toArray, List.set_cons_zero, List.set_cons_succ, List.getElem_toArray, List.getElem_cons_zero, List.getElem_cons_succ]
            refine list_val (.int .i64 c) (by kernel_rfl) (by kernel_rfl) ?_
            simp only [Act.put, List.setIfInBounds_toArray, List.set_cons_zero, List.set_cons_succ, List.getElem_toArray, List.getElem_cons_zero, List.getElem_cons_succ]
            refine list_val (.bool true) (by kernel_rfl) (by go_simp) ?_
            simp only [Act.put, List.setIfInBounds_toArray, List.set_cons_zero, List.set_cons_succ, List.getElem_toArray, List.getElem_cons_zero, List.getElem_cons_succ]
            refine list_val (.bool true) (by kernel_rfl) (by kernel_rfl) ?_
            simp only [Act.put, List.setIfInBounds_toArray, List.set_cons_zero, List.set_cons_succ, List.getElem_toArray, List.getElem_cons_zero, List.getElem_cons_succ]
            refine list_val (.bool true) (by kernel_rfl) (by kernel_rfl) ?_
            simp only [Act.put, List.setIfInBounds_toArray, List.set_cons_zero, List.set_cons_succ, List.getElem_toArray, List.getElem_cons_zero, List.getElem_cons_succ]
            refine list_val (.int .i64 s) (by kernel_rfl) (by kernel_rfl) ?_
            simp only [Act.put, List.setIfInBounds_toArray, List.set_cons_zero, List.set_cons_succ, List.getElem_toArray, List.getElem_cons_zero, List.getElem_cons_succ]
            refine list_val (.bool true) (by kernel_rfl) (by go_simp) ?_
            simp only [Act.put, List.setIfInBounds_toArray, List.set_cons_zero, List.set_cons_succ, List.getElem_toArray, List.getElem_cons_zero, List.getElem_cons_succ]
            refine list_val (.bool true) (by kernel_rfl) (by kernel_rfl) ?_
            simp only [Act.put, List.setIfInBounds_toArray, List.set_cons_zero, List.set_cons_succ, List.getElem_toArray, List.getElem_cons_zero, List.getElem_cons_succ]
            refine list_val (.bool true) (by kernel_rfl) (by kernel_rfl) ?_
            simp only [Act.put, List.setIfInBounds_toArray, List.set_cons_zero, List.set_cons_succ, List.getElem_toArray, List.getElem_cons_zero, List.getElem_cons_succ]
            refine list_val (.int .i64 s) (by kernel_rfl) (by kernel_rfl) ?_
            simp only [Act.put, List.setIfInBounds_toArray, List.set_cons_zero, List.set_cons_succ, List.getElem_toArray, List.getElem_cons_zero, List.getElem_cons_succ]
            refine list_val (.bool true) (by kernel_rfl) (by go_simp) ?_
            simp only [Act.put, List.setIfInBounds_toArray, List.set_cons_zero, List.set_cons_succ, List.getElem_toArray, List.getElem_cons_zero, List.getElem_cons_succ]
            refine list_val (.bool true) (by kernel_rfl) (by kernel_rfl) ?_
            simp only [Act.put, List.setIfInBounds_toArray, List.set_cons_zero, List.set_cons_succ, List.getElem_toArray, List.getElem_cons_zero, List.getElem_cons_succ]
            refine list_val (.bool true) (by kernel_rfl) (by kernel_rfl) ?_
            simp only [Act.put, List.setIfInBounds_toArray, List.set_cons_zero, List.set_cons_succ, List.getElem_toArray, List.getElem_cons_zero, List.getElem_cons_succ]
            refine list_val (.int .u64 r) (by kernel_rfl) (by kernel_rfl) ?_
            simp only [Act.put, List.setIfInBounds_toArray, List.set_cons_zero, List.set_cons_succ, List.getElem_toArray, List.getElem_cons_zero, List.getElem_cons_succ]
            refine list_val (.bool true) (by kernel_rfl) (by go_simp) ?_
            simp only [Act.put, List.setIfInBounds_toArray, List.set_cons_zero, List.set_cons_succ, List.getElem_toArray, List.getElem_cons_zero, List.getElem_cons_succ]
            refine list_val (.bool true) (by kernel_rfl) (by kernel_rfl) ?_
            simp only [Act.put, List.setIfInBounds_toArray, List.set_cons_zero, List.set_cons_succ, List.getElem_toArray, List.getElem_cons_zero, List.getElem_cons_succ]
            (refine wpList_step fun K hK => ?_; replace hK := hide hK; go_simp; refine unhide hK _ _ ?_; clear hK K)
            refine wpList_nil ?_
            go_wp2_with fail
            exact unhide hZ
          · skip
            have hE : ends c s r = false := by unfold ends; rw [decide_eq_false_iff_not]; omega
            rw [hE] at hT
            have hZ : Hid (T (.returned (.bool false)) w) := by rw [unhide hT]; exact ⟨rfl, rfl⟩
            clear hT hE
            go_enter Try.func38, Try.ntmps38
            go_upto_region 1 with fail
            refine wp_region_lit ?_
            refine list_val (.int .i64 c) (by kernel_rfl) (by kernel_rfl) ?_
            simp only [Act.put, List.setIfInBounds_toArray, List.set_cons_zero, List.set_cons_succ, List.getElem_toArray, List.getElem_cons_zero, List.getElem_cons_succ]
            refine list_val (.bool true) (by kernel_rfl) (by go_simp) ?_
            simp only [Act.put, List.setIfInBounds_toArray, List.set_cons_zero, List.set_cons_succ, List.getElem_toArray, List.getElem_cons_zero, List.getElem_cons_succ]
            refine list_val (.bool true) (by kernel_rfl) (by kernel_rfl) ?_
            simp only [Act.put, List.setIfInBounds_toArray, List.set_cons_zero, List.set_cons_succ, List.getElem_toArray, List.getElem_cons_zero, List.getElem_cons_succ]
            refine list_val (.int .i64 c) (by kernel_rfl) (by kernel_rfl) ?_
            simp only [Act.put, List.setIfInBounds_toArray, List.set_cons_zero, List.set_cons_succ, List.getElem_toArray, List.getElem_cons_zero, List.getElem_cons_succ]
            refine list_val (.bool true) (by kernel_rfl) (by go_simp) ?_
            simp only [Act.put, List.setIfInBounds_toArray, List.set_cons_zero, List.set_cons_succ, List.getElem_toArray, List.getElem_cons_zero, List.getElem_cons_succ]
            refine list_val (.bool true) (by kernel_rfl) (by kernel_rfl) ?_
            simp only [Act.put, List.setIfInBounds_toArray, List.set_cons_zero, List.set_cons_succ, List.getElem_toArray, List.getElem_cons_zero, List.getElem_cons_succ]
            refine list_val (.bool true) (by kernel_rfl) (by kernel_rfl) ?_
            simp only [Act.put, List.setIfInBounds_toArray, List.set_cons_zero, List.set_cons_succ, List.getElem_toArray, List.getElem_cons_zero, List.getElem_cons_succ]
            refine list_val (.int .i64 s) (by kernel_rfl) (by kernel_rfl) ?_
            simp only [Act.put, List.setIfInBounds_toArray, List.set_cons_zero, List.set_cons_succ, List.getElem_toArray, List.getElem_cons_zero, List.getElem_cons_succ]
            refine list_val (.bool true) (by kernel_rfl) (by go_simp) ?_
            simp only [Act.put, List.setIfInBounds_toArray, List.set_cons_zero, List.set_cons_succ, List.getElem_toArray, List.getElem_cons_zero, List.getElem_cons_succ]
            refine list_val (.bool true) (by kernel_rfl) (by kernel_rfl) ?_
            simp only [Act.put, List.setIfInBounds_toArray, List.set_cons_zero, List.set_cons_succ, List.getElem_toArray, List.getElem_cons_zero, List.getElem_cons_succ]
            refine list_val (.bool true) (by kernel_rfl) (by kernel_rfl) ?_
            simp only [Act.put, List.setIfInBounds_toArray, List.set_cons_zero, List.set_cons_succ, List.getElem_toArray, List.getElem_cons_zero, List.getElem_cons_succ]
            refine list_val (.int .i64 s) (by kernel_rfl) (by kernel_rfl) ?_
            simp only [Act.put, List.setIfInBounds_toArray, List.set_cons_zero, List.set_cons_succ, List.getElem_toArray, List.getElem_cons_zero, List.getElem_cons_succ]
            refine list_val (.bool true) (by kernel_rfl) (by go_simp) ?_
            simp only [Act.put, List.setIfInBounds_toArray, List.set_cons_zero, List.set_cons_succ, List.getElem_toArray, List.getElem_cons_zero, List.getElem_cons_succ]
            refine list_val (.bool true) (by kernel_rfl) (by kernel_rfl) ?_
            simp only [Act.put, List.setIfInBounds_toArray, List.set_cons_zero, List.set_cons_succ, List.getElem_toArray, List.getElem_cons_zero, List.getElem_cons_succ]
            refine list_val (.bool true) (by kernel_rfl) (by kernel_rfl) ?_
            simp only [Act.put, List.setIfInBounds_toArray, List.set_cons_zero, List.set_cons_succ, List.getElem_toArray, List.getElem_cons_zero, List.getElem_cons_succ]
            refine list_val (.int .u64 r) (by kernel_rfl) (by kernel_rfl) ?_
            simp only [Act.put, List.setIfInBounds_toArray, List.set_cons_zero, List.set_cons_succ, List.getElem_toArray, List.getElem_cons_zero, List.getElem_cons_succ]
            refine list_val (.bool false) (by kernel_rfl) (by go_simp) ?_
            simp only [Act.put, List.setIfInBounds_toArray, List.set_cons_zero, List.set_cons_succ, List.getElem_toArray, List.getElem_cons_zero, List.getElem_cons_succ]
            refine list_val (.bool false) (by kernel_rfl) (by kernel_rfl) ?_
            simp only [Act.put, List.setIfInBounds_toArray, List.set_cons_zero, List.set_cons_succ, List.getElem_toArray, List.getElem_cons_zero, List.getElem_cons_succ]
            (refine wpList_step fun K hK => ?_; replace hK := hide hK; go_simp; refine unhide hK _ _ ?_; clear hK K)
            refine wpList_nil ?_
            go_wp2_with fail
            exact unhide hZ
        · skip
          have hE : ends c s r = false := by unfold ends; rw [decide_eq_false_iff_not]; omega
          rw [hE] at hT
          have hZ : Hid (T (.returned (.bool false)) w) := by rw [unhide hT]; exact ⟨rfl, rfl⟩
          clear hT hE
          go_enter Try.func38, Try.ntmps38
          go_upto_region 1 with fail
          refine wp_region_lit ?_
          refine list_val (.int .i64 c) (by kernel_rfl) (by kernel_rfl) ?_
          simp only [Act.put, List.setIfInBounds_toArray, List.set_cons_zero, List.set_cons_succ, List.getElem_toArray, List.getElem_cons_zero, List.getElem_cons_succ]
          refine list_val (.bool true) (by kernel_rfl) (by go_simp) ?_
          simp only [Act.put, List.setIfInBounds_toArray, List.set_cons_zero, List.set_cons_succ, List.getElem_toArray, List.getElem_cons_zero, List.getElem_cons_succ]
          refine list_val (.bool true) (by kernel_rfl) (by kernel_rfl) ?_
          simp only [Act.put, List.setIfInBounds_toArray, List.set_cons_zero, List.set_cons_succ, List.getElem_toArray, List.getElem_cons_zero, List.getElem_cons_succ]
          refine list_val (.int .i64 c) (by kernel_rfl) (by kernel_rfl) ?_
          simp only [Act.put, List.setIfInBounds_toArray, List.set_cons_zero, List.set_cons_succ, List.getElem_toArray, List.getElem_cons_zero, List.getElem_cons_succ]
          refine list_val (.bool true) (by kernel_rfl) (by go_simp) ?_
          simp only [Act.put, List.setIfInBounds_toArray, List.set_cons_zero, List.set_cons_succ, List.getElem_toArray, List.getElem_cons_zero, List.getElem_cons_succ]
          refine list_val (.bool true) (by kernel_rfl) (by kernel_rfl) ?_
          simp only [Act.put, List.setIfInBounds_toArray, List.set_cons_zero, List.set_cons_succ, List.getElem_toArray, List.getElem_cons_zero, List.getElem_cons_succ]
          refine list_val (.bool true) (by kernel_rfl) (by kernel_rfl) ?_
          simp only [Act.put, List.setIfInBounds_toArray, List.set_cons_zero, List.set_cons_succ, List.getElem_toArray, List.getElem_cons_zero, List.getElem_cons_succ]
          refine list_val (.int .i64 s) (by kernel_rfl) (by kernel_rfl) ?_
          simp only [Act.put, List.setIfInBounds_toArray, List.set_cons_zero, List.set_cons_succ, List.getElem_toArray, List.getElem_cons_zero, List.getElem_cons_succ]
          refine list_val (.bool true) (by kernel_rfl) (by go_simp) ?_
          simp only [Act.put, List.setIfInBounds_toArray, List.set_cons_zero, List.set_cons_succ, List.getElem_toArray, List.getElem_cons_zero, List.getElem_cons_succ]
          refine list_val (.bool true) (by kernel_rfl) (by kernel_rfl) ?_
          simp only [Act.put, List.setIfInBounds_toArray, List.set_cons_zero, List.set_cons_succ, List.getElem_toArray, List.getElem_cons_zero, List.getElem_cons_succ]
          refine list_val (.bool true) (by kernel_rfl) (by kernel_rfl) ?_
          simp only [Act.put, List.setIfInBounds_toArray, List.set_cons_zero, List.set_cons_succ, List.getElem_toArray, List.getElem_cons_zero, List.getElem_cons_succ]
          refine list_val (.int .i64 s) (by kernel_rfl) (by kernel_rfl) ?_
          simp only [Act.put, List.setIfInBounds_toArray, List.set_cons_zero, List.set_cons_succ, List.getElem_toArray, List.getElem_cons_zero, List.getElem_cons_succ]
          refine list_val (.bool false) (by kernel_rfl) (by go_simp) ?_
          simp only [Act.put, List.setIfInBounds_toArray, List.set_cons_zero, List.set_cons_succ, List.getElem_toArray, List.getElem_cons_zero, List.getElem_cons_succ]
          refine list_val (.bool false) (by kernel_rfl) (by kernel_rfl) ?_
          simp only [Act.put, List.setIfInBounds_toArray, List.set_cons_zero, List.set_cons_succ, List.getElem_toArray, List.getElem_cons_zero, List.getElem_cons_succ]
          refine list_val_offs 2 (.bool false) (by kernel_rfl) (by kernel_rfl) (by kernel_rfl) ?_
          simp only [List.drop_succ_cons, List.drop_zero, List.take_succ_cons, List.take_zero, putU]
          simp only [Act.put, List.setIfInBounds_toArray, List.set_cons_zero, List.set_cons_succ, List.getElem_toArray, List.getElem_cons_zero, List.getElem_cons_succ]
          refine list_val (.bool false) (by kernel_rfl) (by kernel_rfl) ?_
          simp only [Act.put, List.setIfInBounds_toArray, List.set_cons_zero, List.set_cons_succ, List.getElem_toArray, List.getElem_cons_zero, List.getElem_cons_succ]
          (refine wpList_step fun K hK => ?_; replace hK := hide hK; go_simp; refine unhide hK _ _ ?_; clear hK K)
          refine wpList_nil ?_
          go_wp2_with fail
          exact unhide hZ
      · skip
        have hE : ends c s r = false := by unfold ends; rw [decide_eq_false_iff_not]; omega
        rw [hE] at hT
        have hZ : Hid (T (.returned (.bool false)) w) := by rw [unhide hT]; exact ⟨rfl, rfl⟩
        clear hT hE
        go_enter Try.func38, Try.ntmps38
        go_upto_region 1 with fail
        refine wp_region_lit ?_
        refine list_val (.int .i64 c) (by kernel_rfl) (by kernel_rfl) ?_
        simp only [Act.put, List.setIfInBounds_toArray, List.set_cons_zero, List.set_cons_succ, List.getElem_toArray, List.getElem_cons_zero, List.getElem_cons_succ]
        refine list_val (.bool true) (by kernel_rfl) (by go_simp) ?_
        simp only [Act.put, List.setIfInBounds_toArray, List.set_cons_zero, List.set_cons_succ, List.getElem_toArray, List.getElem_cons_zero, List.getElem_cons_succ]
        refine list_val (.bool true) (by kernel_rfl) (by kernel_rfl) ?_
        simp only [Act.put, List.setIfInBounds_toArray, List.set_cons_zero, List.set_cons_succ, List.getElem_toArray, List.getElem_cons_zero, List.getElem_cons_succ]
        refine list_val (.int .i64 c) (by kernel_rfl) (by kernel_rfl) ?_
        simp only [Act.put, List.setIfInBounds_toArray, List.set_cons_zero, List.set_cons_succ, List.getElem_toArray, List.getElem_cons_zero, List.getElem_cons_succ]
        refine list_val (.bool true) (by kernel_rfl) (by go_simp) ?_
        simp only [Act.put, List.setIfInBounds_toArray, List.set_cons_zero, List.set_cons_succ, List.getElem_toArray, List.getElem_cons_zero, List.getElem_cons_succ]
        refine list_val (.bool true) (by kernel_rfl) (by kernel_rfl) ?_
        simp only [Act.put, List.setIfInBounds_toArray, List.set_cons_zero, List.set_cons_succ, List.getElem_toArray, List.getElem_cons_zero, List.getElem_cons_succ]
        refine list_val (.bool true) (by kernel_rfl) (by kernel_rfl) ?_
        simp only [Act.put, List.setIfInBounds_toArray, List.set_cons_zero, List.set_cons_succ, List.getElem_toArray, List.getElem_cons_zero, List.getElem_cons_succ]
        refine list_val (.int .i64 s) (by kernel_rfl) (by kernel_rfl) ?_
        simp only [Act.put, List.setIfInBounds_toArray, List.set_cons_zero, List.set_cons_succ, List.getElem_toArray, List.getElem_cons_zero, List.getElem_cons_succ]
        refine list_val (.bool false) (by kernel_rfl) (by go_simp) ?_
        simp only [Act.put, List.setIfInBounds_toArray, List.set_cons_zero, List.set_cons_succ, List.getElem_toArray, List.getElem_cons_zero, List.getElem_cons_succ]
        refine list_val (.bool false) (by kernel_rfl) (by kernel_rfl) ?_
        simp only [Act.put, List.setIfInBounds_toArray, List.set_cons_zero, List.set_cons_succ, List.getElem_toArray, List.getElem_cons_zero, List.getElem_cons_succ]
        refine list_val_offs 2 (.bool false) (by kernel_rfl) (by kernel_rfl) (by kernel_rfl) ?_
        simp only [List.drop_succ_cons, List.drop_zero, List.take_succ_cons, List.take_zero, putU]
        simp only [Act.put, List.setIfInBounds_toArray, List.set_cons_zero, List.set_cons_succ, List.getElem_toArray, List.getElem_cons_zero, List.getElem_cons_succ]
        refine list_val (.bool false) (by kernel_rfl) (by kernel_rfl) ?_
        simp only [Act.put, List.setIfInBounds_toArray, List.set_cons_zero, List.set_cons_succ, List.getElem_toArray, List.getElem_cons_zero, List.getElem_cons_succ]
        refine list_val_offs 2 (.bool false) (by kernel_rfl) (by kernel_rfl) (by kernel_rfl) ?_
        simp only [List.drop_succ_cons, List.drop_zero, List.take_succ_cons, List.take_zero, putU]
        simp only [Act.put, List.setIfInBounds_toArray, List.set_cons_zero, List.set_cons_succ, List.getElem_toArray, List.getElem_cons_zero, List.getElem_cons_succ]
        refine list_val (.bool false) (by kernel_rfl) (by kernel_rfl) ?_
        simp only [Act.put, List.setIfInBounds_toArray, List.set_cons_zero, List.set_cons_succ, List.getElem_toArray, List.getElem_cons_zero, List.getElem_cons_succ]
        (refine wpList_step fun K hK => ?_; replace hK := hide hK; go_simp; refine unhide hK _ _ ?_; clear hK K)
        refine wpList_nil ?_
        go_wp2_with fail
        exact unhide hZ
    · skip
      have hE : ends c s r = false := by unfold ends; rw [decide_eq_false_iff_not]; omega
      rw [hE] at hT
      have hZ : Hid (T (.returned (.bool false)) w) := by rw [unhide hT]; exact ⟨rfl, rfl⟩
      clear hT hE
      go_enter Try.func38, Try.ntmps38
      go_upto_region 1 with fail
      refine wp_region_lit ?_
      refine list_val (.int .i64 c) (by kernel_rfl) (by kernel_rfl) ?_
      simp only [Act.put, List.setIfInBounds_toArray, List.set_cons_zero, List.set_cons_succ, List.getElem_toArray, List.getElem_cons_zero, List.getElem_cons_succ]
      refine list_val (.bool true) (by kernel_rfl) (by go_simp) ?_
      simp only [Act.put, List.setIfInBounds_toArray, List.set_cons_zero, List.set_cons_succ, List.getElem_toArray, List.getElem_cons_zero, List.getElem_cons_succ]
      refine list_val (.bool true) (by kernel_rfl) (by kernel_rfl) ?_
      simp only [Act.put, List.setIfInBounds_toArray, List.set_cons_zero, List.set_cons_succ, List.getElem_toArray, List.getElem_cons_zero, List.getElem_cons_succ]
      refine list_val (.int .i64 c) (by kernel_rfl) (by kernel_rfl) ?_
      simp only [Act.put, List.setIfInBounds_toArray, List.set_cons_zero, List.set_cons_succ, List.getElem_toArray, List.getElem_cons_zero, List.getElem_cons_succ]
      refine list_val (.bool false) (by kernel_rfl) (by go_simp) ?_
      simp only [Act.put, List.setIfInBounds_toArray, List.set_cons_zero, List.set_cons_succ, List.getElem_toArray, List.getElem_cons_zero, List.getElem_cons_succ]
      refine list_val (.bool false) (by kernel_rfl) (by kernel_rfl) ?_
      simp only [Act.put, List.setIfInBounds_toArray, List.set_cons_zero, List.set_cons_succ, List.getElem_toArray, List.getElem_cons_zero, List.getElem_cons_succ]
      refine list_val_offs 2 (.bool false) (by kernel_rfl) (by kernel_rfl) (by kernel_rfl) ?_
      simp only [List.drop_succ_cons, List.drop_zero, List.take_succ_cons, List.take_zero, putU]
      simp only [Act.put, List.setIfInBounds_toArray, List.set_cons_zero, List.set_cons_succ, List.getElem_toArray, List.getElem_cons_zero, List.getElem_cons_succ]
      refine list_val (.bool false) (by kernel_rfl) (by kernel_rfl) ?_
      simp only [Act.put, List.setIfInBounds_toArray, List.set_cons_zero, List.set_cons_succ, List.getElem_toArray, List.getElem_cons_zero, List.getElem_cons_succ]
      refine list_val_offs 2 (.bool false) (by kernel_rfl) (by kernel_rfl) (by kernel_rfl) ?_
      simp only [List.drop_succ_cons, List.drop_zero, List.take_succ_cons, List.take_zero, putU]
      simp only [Act.put, List.setIfInBounds_toArray, List.set_cons_zero, List.set_cons_succ, List.getElem_toArray, List.getElem_cons_zero, List.getElem_cons_succ]
      refine list_val (.bool false) (by kernel_rfl) (by kernel_rfl) ?_
      simp only [Act.put, List.setIfInBounds_toArray, List.set_cons_zero, List.set_cons_succ, List.getElem_toArray, List.getElem_cons_zero, List.getElem_cons_succ]
      refine list_val_offs 2 (.bool false) (by kernel_rfl) (by kernel_rfl) (by kernel_rfl) ?_
      simp only [List.drop_succ_cons, List.drop_zero, List.take_succ_cons, List.take_zero, putU]
      simp only [Act.put, List.setIfInBounds_toArray, List.set_cons_zero, List.set_cons_succ, List.getElem_toArray, List.getElem_cons_zero, List.getElem_cons_succ]
      refine list_val (.bool false) (by kernel_rfl) (by kernel_rfl) ?_
      simp only [Act.put, List.setIfInBounds_toArray, List.set_cons_zero, List.set_cons_succ, List.getElem_toArray, List.getElem_cons_zero, List.getElem_cons_succ]
      (refine wpList_step fun K hK => ?_; replace hK := hide hK; go_simp; refine unhide hK _ _ ?_; clear hK K)
      refine wpList_nil ?_
      go_wp2_with fail
      exact unhide hZ
  · skip
    have hE : ends c s r = false := by unfold ends; rw [decide_eq_false_iff_not]; omega
    rw [hE] at hT
    have hZ : Hid (T (.returned (.bool false)) w) := by rw [unhide hT]; exact ⟨rfl, rfl⟩
    clear hT hE
    go_enter Try.func38, Try.ntmps38
    go_upto_region 1 with fail
    refine wp_region_lit ?_
    refine list_val (.int .i64 c) (by kernel_rfl) (by kernel_rfl) ?_
    simp only [Act.put, List.setIfInBounds_toArray, List.set_cons_zero, List.set_cons_succ, List.getElem_toArray, List.getElem_cons_zero, List.getElem_cons_succ]
    refine list_val (.bool false) (by kernel_rfl) (by go_simp) ?_
    simp only [Act.put, List.setIfInBounds_toArray, List.set_cons_zero, List.set_cons_succ, List.getElem_toArray, List.getElem_cons_zero, List.getElem_cons_succ]
    refine list_val_offs 2 (.bool false) (by kernel_rfl) (by kernel_rfl) (by kernel_rfl) ?_
    simp only [List.drop_succ_cons, List.drop_zero, List.take_succ_cons, List.take_zero, putU]
    simp only [Act.put, List.setIfInBounds_toArray, List.set_cons_zero, List.set_cons_succ, List.getElem_toArray, List.getElem_cons_zero, List.getElem_cons_succ]
    refine list_val (.bool false) (by kernel_rfl) (by kernel_rfl) ?_
    simp only [Act.put, List.setIfInBounds_toArray, List.set_cons_zero, List.set_cons_succ, List.getElem_toArray, List.getElem_cons_zero, List.getElem_cons_succ]
    refine list_val_offs 2 (.bool false) (by kernel_rfl) (by kernel_rfl) (by kernel_rfl) ?_
    simp only [List.drop_succ_cons, List.drop_zero, List.take_succ_cons, List.take_zero, putU]
    simp only [Act.put, List.setIfInBounds_toArray, List.set_cons_zero, List.set_cons_succ, List.getElem_toArray, List.getElem_cons_zero, List.getElem_cons_succ]
    refine list_val (.bool false) (by kernel_rfl) (by kernel_rfl) ?_
    simp only [Act.put, List.setIfInBounds_toArray, List.set_cons_zero, List.set_cons_succ, List.getElem_toArray, List.getElem_cons_zero, List.getElem_cons_succ]
    refine list_val_offs 2 (.bool false) (by kernel_rfl) (by kernel_rfl) (by kernel_rfl) ?_
    simp only [List.drop_succ_cons, List.drop_zero, List.take_succ_cons, List.take_zero, putU]
    simp only [Act.put, List.setIfInBounds_toArray, List.set_cons_zero, List.set_cons_succ, List.getElem_toArray, List.getElem_cons_zero, List.getElem_cons_succ]
    refine list_val (.bool false) (by kernel_rfl) (by kernel_rfl) ?_
    simp only [Act.put, List.setIfInBounds_toArray, List.set_cons_zero, List.set_cons_succ, List.getElem_toArray, List.getElem_cons_zero, List.getElem_cons_succ]
    refine list_val_offs 2 (.bool false) (by kernel_rfl) (by kernel_rfl) (by kernel_rfl) ?_
    simp only [List.drop_succ_cons, List.drop_zero, List.take_succ_cons, List.take_zero, putU]
    simp only [Act.put, List.setIfInBounds_toArray, List.set_cons_zero, List.set_cons_succ, List.getElem_toArray, List.getElem_cons_zero, List.getElem_cons_succ]
    refine list_val (.bool false) (by kernel_rfl) (by kernel_rfl) ?_
    simp only [Act.put, List.setIfInBounds_toArray, List.set_cons_zero, List.set_cons_succ, List.getElem_toArray, List.getElem_cons_zero, List.getElem_cons_succ]
    (refine wpList_step fun K hK => ?_; replace hK := hide hK; go_simp; refine unhide hK _ _ ?_; clear hK K)
    refine wpList_nil ?_
    go_wp2_with fail
    exact unhide hZ
set_option maxHeartbeats 4000000 in
theorem qhops_on (n : Int) (w : World) : Calls Try.prog 68 #[.int .i64 n, .int .i64 146, .int .i64 48] w (fun r w' => ∃ h : Int, r = .returned (.int .i64 h) ∧ decide (0 < h) = onS n ∧ w' = w) := by
  obtain ⟨T, hT⟩ : ∃ T : Ending → World → Prop, T = (fun r w' => ∃ h : Int, r = .returned (.int .i64 h) ∧ decide (0 < h) = onS n ∧ w' = w) := ⟨_, rfl⟩
  rw [← hT]
  replace hT := hide hT
  have hI0 : Hid (∀ i : Int, 1 ≤ i → i ≤ (0 : Nat) → n ≠ 146 + 48 * i) := fun i h1 h2 => by omega
  go_enter Try.func68, Try.ntmps68
  go_wp2_with fail
  go_loopw [7] (fun i wr => ∃ j : Nat, j ≤ 3 ∧ i = .int .i64 ((j : Int) + 1) ∧ Hid (∀ i : Int, 1 ≤ i → i ≤ (j : Nat) → n ≠ 146 + 48 * i) ∧ wr = w) (fun i _ => 4 - (intOf i).toNat)
  case atStart => exact ⟨0, by omega, rfl, hI0, rfl⟩
  case round =>
  clear hI0
  obtain ⟨j, hj, rfl, hA, rfl⟩ := hrel
  have hA1 := unhide hA
  clear hA
  obtain rfl | rfl | rfl | rfl : j = 0 ∨ j = 1 ∨ j = 2 ∨ j = 3 := by omega
  · skip
    rw [show ((0 : Nat) : Int) + 1 = 1 from rfl]
    by_cases hn : n = 194
    · skip
      subst hn
      have hZ : Hid (T (.returned (.int .i64 1)) wr) := by rw [unhide hT]; exact ⟨_, rfl, rfl, rfl⟩
      clear hA1 hT
      go_wp2_with fail
      exact unhide hZ
    · skip
      have hI2 : Hid (∀ i : Int, 1 ≤ i → i ≤ ((1 : Nat) : Int) → n ≠ 146 + 48 * i) := by
        intro m h1 h2
        by_cases hm : m ≤ ((0 : Nat) : Int)
        · exact hA1 m h1 hm
        · obtain rfl : m = 1 := by omega
          exact hn
      clear hA1
      go_wp2_with fail
      go_roundw
      case rel => exact ⟨1, by omega, rfl, hI2, trivial⟩
      case measure => decide
  · skip
    rw [show ((1 : Nat) : Int) + 1 = 2 from rfl]
    by_cases hn : n = 242
    · skip
      subst hn
      have hZ : Hid (T (.returned (.int .i64 2)) wr) := by rw [unhide hT]; exact ⟨_, rfl, rfl, rfl⟩
      clear hA1 hT
      go_wp2_with fail
      exact unhide hZ
    · skip
      have hI2 : Hid (∀ i : Int, 1 ≤ i → i ≤ ((2 : Nat) : Int) → n ≠ 146 + 48 * i) := by
        intro m h1 h2
        by_cases hm : m ≤ ((1 : Nat) : Int)
        · exact hA1 m h1 hm
        · obtain rfl : m = 2 := by omega
          exact hn
      clear hA1
      go_wp2_with fail
      go_roundw
      case rel => exact ⟨2, by omega, rfl, hI2, trivial⟩
      case measure => decide
  · skip
    rw [show ((2 : Nat) : Int) + 1 = 3 from rfl]
    by_cases hn : n = 290
    · skip
      subst hn
      have hZ : Hid (T (.returned (.int .i64 3)) wr) := by rw [unhide hT]; exact ⟨_, rfl, rfl, rfl⟩
      clear hA1 hT
      go_wp2_with fail
      exact unhide hZ
    · skip
      have hI2 : Hid (∀ i : Int, 1 ≤ i → i ≤ ((3 : Nat) : Int) → n ≠ 146 + 48 * i) := by
        intro m h1 h2
        by_cases hm : m ≤ ((2 : Nat) : Int)
        · exact hA1 m h1 hm
        · obtain rfl : m = 3 := by omega
          exact hn
      clear hA1
      go_wp2_with fail
      go_roundw
      case rel => exact ⟨3, by omega, rfl, hI2, trivial⟩
      case measure => decide
  · skip
    have hS : onS n = false := by
      unfold onS
      rw [decide_eq_false_iff_not]
      have e1 := hA1 1 (by omega) (by omega)
      have e2 := hA1 2 (by omega) (by omega)
      have e3 := hA1 3 (by omega) (by omega)
      omega
    have hZ : Hid (T (.returned (.int .i64 0)) wr) := by rw [unhide hT]; exact ⟨_, rfl, by rw [hS]; rfl, rfl⟩
    clear hA1 hS hT
    rw [show ((3 : Nat) : Int) + 1 = 4 from rfl]
    go_wp2_with fail
    exact unhide hZ
set_option maxHeartbeats 4000000 in
theorem qon_ok (n : Int) (w : World) : Calls Try.prog 39 #[.int .i64 n] w (fun r w' => ∃ h : Int, r = .returned (.int .i64 h) ∧ decide (0 < h) = onS n ∧ w' = w) := by
  obtain ⟨T, hT⟩ : ∃ T : Ending → World → Prop, T = (fun r w' => ∃ h : Int, r = .returned (.int .i64 h) ∧ decide (0 < h) = onS n ∧ w' = w) := ⟨_, rfl⟩
  rw [← hT]
  replace hT := hide hT
  go_enter Try.func39, Try.ntmps39
  go_upto_region 1 with fail
  refine wp_region_lit ?_
  refine list_val (.int .i64 n) (by kernel_rfl) (by kernel_rfl) ?_
  simp only [Act.put, List.setIfInBounds_toArray, List.set_cons_zero, List.set_cons_succ, List.getElem_toArray, List.getElem_cons_zero, List.getElem_cons_succ]
  refine list_call 68 #[.int .i64 n, .int .i64 146, .int .i64 48] (by kernel_rfl) (by kernel_rfl) ((qhops_on n w).mono ?_)
  rintro r u ⟨h, rfl, hh, rfl⟩
  have hZ : Hid (T (.returned (.int .i64 h)) u) := by rw [unhide hT]; exact ⟨_, rfl, hh, rfl⟩
  clear hh
  refine ⟨_, rfl, ?_⟩
  simp only [Act.put, List.setIfInBounds_toArray, List.set_cons_zero, List.set_cons_succ, List.getElem_toArray, List.getElem_cons_zero, List.getElem_cons_succ]
  (refine wpList_step fun K hK => ?_; replace hK := hide hK; go_simp; refine unhide hK _ _ ?_; clear hK K)
  refine wpList_nil ?_
  go_wp2_with fail
  exact unhide hZ
set_option maxHeartbeats 4000000 in
theorem qhops_rp (n : Int) (w : World) : Calls Try.prog 68 #[.int .i64 n, .int .i64 130, .int .i64 16] w (fun r w' => ∃ h : Int, r = .returned (.int .i64 h) ∧ decide (0 < h) = rpS n ∧ w' = w) := by
  obtain ⟨T, hT⟩ : ∃ T : Ending → World → Prop, T = (fun r w' => ∃ h : Int, r = .returned (.int .i64 h) ∧ decide (0 < h) = rpS n ∧ w' = w) := ⟨_, rfl⟩
  rw [← hT]
  replace hT := hide hT
  have hI0 : Hid (∀ i : Int, 1 ≤ i → i ≤ (0 : Nat) → n ≠ 130 + 16 * i) := fun i h1 h2 => by omega
  go_enter Try.func68, Try.ntmps68
  go_wp2_with fail
  go_loopw [7] (fun i wr => ∃ j : Nat, j ≤ 3 ∧ i = .int .i64 ((j : Int) + 1) ∧ Hid (∀ i : Int, 1 ≤ i → i ≤ (j : Nat) → n ≠ 130 + 16 * i) ∧ wr = w) (fun i _ => 4 - (intOf i).toNat)
  case atStart => exact ⟨0, by omega, rfl, hI0, rfl⟩
  case round =>
  clear hI0
  obtain ⟨j, hj, rfl, hA, rfl⟩ := hrel
  have hA1 := unhide hA
  clear hA
  obtain rfl | rfl | rfl | rfl : j = 0 ∨ j = 1 ∨ j = 2 ∨ j = 3 := by omega
  · skip
    rw [show ((0 : Nat) : Int) + 1 = 1 from rfl]
    by_cases hn : n = 146
    · skip
      subst hn
      have hZ : Hid (T (.returned (.int .i64 1)) wr) := by rw [unhide hT]; exact ⟨_, rfl, rfl, rfl⟩
      clear hA1 hT
      go_wp2_with fail
      exact unhide hZ
    · skip
      have hI2 : Hid (∀ i : Int, 1 ≤ i → i ≤ ((1 : Nat) : Int) → n ≠ 130 + 16 * i) := by
        intro m h1 h2
        by_cases hm : m ≤ ((0 : Nat) : Int)
        · exact hA1 m h1 hm
        · obtain rfl : m = 1 := by omega
          exact hn
      clear hA1
      go_wp2_with fail
      go_roundw
      case rel => exact ⟨1, by omega, rfl, hI2, trivial⟩
      case measure => decide
  · skip
    rw [show ((1 : Nat) : Int) + 1 = 2 from rfl]
    by_cases hn : n = 162
    · skip
      subst hn
      have hZ : Hid (T (.returned (.int .i64 2)) wr) := by rw [unhide hT]; exact ⟨_, rfl, rfl, rfl⟩
      clear hA1 hT
      go_wp2_with fail
      exact unhide hZ
    · skip
      have hI2 : Hid (∀ i : Int, 1 ≤ i → i ≤ ((2 : Nat) : Int) → n ≠ 130 + 16 * i) := by
        intro m h1 h2
        by_cases hm : m ≤ ((1 : Nat) : Int)
        · exact hA1 m h1 hm
        · obtain rfl : m = 2 := by omega
          exact hn
      clear hA1
      go_wp2_with fail
      go_roundw
      case rel => exact ⟨2, by omega, rfl, hI2, trivial⟩
      case measure => decide
  · skip
    rw [show ((2 : Nat) : Int) + 1 = 3 from rfl]
    by_cases hn : n = 178
    · skip
      subst hn
      have hZ : Hid (T (.returned (.int .i64 3)) wr) := by rw [unhide hT]; exact ⟨_, rfl, rfl, rfl⟩
      clear hA1 hT
      go_wp2_with fail
      exact unhide hZ
    · skip
      have hI2 : Hid (∀ i : Int, 1 ≤ i → i ≤ ((3 : Nat) : Int) → n ≠ 130 + 16 * i) := by
        intro m h1 h2
        by_cases hm : m ≤ ((2 : Nat) : Int)
        · exact hA1 m h1 hm
        · obtain rfl : m = 3 := by omega
          exact hn
      clear hA1
      go_wp2_with fail
      go_roundw
      case rel => exact ⟨3, by omega, rfl, hI2, trivial⟩
      case measure => decide
  · skip
    have hS : rpS n = false := by
      unfold rpS
      rw [decide_eq_false_iff_not]
      have e1 := hA1 1 (by omega) (by omega)
      have e2 := hA1 2 (by omega) (by omega)
      have e3 := hA1 3 (by omega) (by omega)
      omega
    have hZ : Hid (T (.returned (.int .i64 0)) wr) := by rw [unhide hT]; exact ⟨_, rfl, by rw [hS]; rfl, rfl⟩
    clear hA1 hS hT
    rw [show ((3 : Nat) : Int) + 1 = 4 from rfl]
    go_wp2_with fail
    exact unhide hZ
set_option maxHeartbeats 4000000 in
theorem qrp_ok (n : Int) (w : World) : Calls Try.prog 41 #[.int .i64 n] w (fun r w' => ∃ h : Int, r = .returned (.int .i64 h) ∧ decide (0 < h) = rpS n ∧ w' = w) := by
  obtain ⟨T, hT⟩ : ∃ T : Ending → World → Prop, T = (fun r w' => ∃ h : Int, r = .returned (.int .i64 h) ∧ decide (0 < h) = rpS n ∧ w' = w) := ⟨_, rfl⟩
  rw [← hT]
  replace hT := hide hT
  go_enter Try.func41, Try.ntmps41
  go_upto_region 1 with fail
  refine wp_region_lit ?_
  refine list_val (.int .i64 n) (by kernel_rfl) (by kernel_rfl) ?_
  simp only [Act.put, List.setIfInBounds_toArray, List.set_cons_zero, List.set_cons_succ, List.getElem_toArray, List.getElem_cons_zero, List.getElem_cons_succ]
  refine list_call 68 #[.int .i64 n, .int .i64 130, .int .i64 16] (by kernel_rfl) (by kernel_rfl) ((qhops_rp n w).mono ?_)
  rintro r u ⟨h, rfl, hh, rfl⟩
  have hZ : Hid (T (.returned (.int .i64 h)) u) := by rw [unhide hT]; exact ⟨_, rfl, hh, rfl⟩
  clear hh
  refine ⟨_, rfl, ?_⟩
  simp only [Act.put, List.setIfInBounds_toArray, List.set_cons_zero, List.set_cons_succ, List.getElem_toArray, List.getElem_cons_zero, List.getElem_cons_succ]
  (refine wpList_step fun K hK => ?_; replace hK := hide hK; go_simp; refine unhide hK _ _ ?_; clear hK K)
  refine wpList_nil ?_
  go_wp2_with fail
  exact unhide hZ
end Go.Proofs.Ytfmocneoffkmpaa
