/-
  Names and digits: which signs a name may have, what a digit stands for, why a text is no key.
-/
import Derived.Test.YtpmgmpihmpifgaaDoorIB
namespace Go.Proofs.YtpmgmpihmpifgaaDoor
open Go.RowKit
set_option maxRecDepth 100000
set_option linter.unusedSimpArgs false
set_option linter.unusedVariables false

theorem innames_t (c : Int) (h : isN c = true) (w : World) : Calls Tryd.prog 27 #[.int .u8 c] w (fun r w' => r = .returned (.bool true) ∧ w' = w) := by
  have h : (97 ≤ c ∧ c ≤ 122) ∨ (48 ≤ c ∧ c ≤ 57) ∨ c = 45 := by
    unfold isN at h
    simp at h
    omega
  rcases h with ⟨h1, h2⟩ | ⟨h1, h2⟩ | rfl
  · go_enter Tryd.func27, Tryd.ntmps27
    go_wp2_with fail
    exact bodyPost_ret (v := .bool true) (by simp [results, Tryd.results27, go_sem]) rfl ⟨rfl, rfl⟩
  · have h3 : ¬ 97 ≤ c := by omega
    go_enter Tryd.func27, Tryd.ntmps27
    go_wp2_with fail
    exact bodyPost_ret (v := .bool true) (by simp [results, Tryd.results27, go_sem]) rfl ⟨rfl, rfl⟩
  · go_enter Tryd.func27, Tryd.ntmps27
    go_wp2_with fail
    exact bodyPost_ret (v := .bool true) (by simp [results, Tryd.results27, go_sem]) rfl ⟨rfl, rfl⟩
theorem innames_f (c : Int) (h : isN c = false) (w : World) : Calls Tryd.prog 27 #[.int .u8 c] w (fun r w' => r = .returned (.bool false) ∧ w' = w) := by
  have h : (¬ 97 ≤ c ∧ ¬ 48 ≤ c ∧ ¬ c = 45) ∨ (¬ 97 ≤ c ∧ 48 ≤ c ∧ ¬ c ≤ 57 ∧ ¬ c = 45) ∨ (97 ≤ c ∧ ¬ c ≤ 122 ∧ 48 ≤ c ∧ ¬ c ≤ 57 ∧ ¬ c = 45) := by
    unfold isN at h
    simp at h
    omega
  rcases h with ⟨h1, h2, h3⟩ | ⟨h1, h2, h3, h4⟩ | ⟨h1, h2, h3, h4, h5⟩
  · go_enter Tryd.func27, Tryd.ntmps27
    go_wp2_with fail
    exact bodyPost_ret (v := .bool false) (by simp [results, Tryd.results27, go_sem]) rfl ⟨rfl, rfl⟩
  · go_enter Tryd.func27, Tryd.ntmps27
    go_wp2_with fail
    exact bodyPost_ret (v := .bool false) (by simp [results, Tryd.results27, go_sem]) rfl ⟨rfl, rfl⟩
  · go_enter Tryd.func27, Tryd.ntmps27
    go_wp2_with fail
    exact bodyPost_ret (v := .bool false) (by simp [results, Tryd.results27, go_sem]) rfl ⟨rfl, rfl⟩
theorem valueof_t (c : Int) (h : isD c = true) (w : World) : Calls Tryd.prog 28 #[.int .u8 c] w (fun r w' => r = .returned (.tuple #[.int .u8 (dv c), .bool true]) ∧ w' = w) := by
  have h : c = 48 ∨ c = 49 ∨ c = 50 ∨ c = 51 ∨ c = 52 ∨ c = 53 ∨ c = 54 ∨ c = 55 ∨ c = 56 ∨ c = 57 ∨ c = 97 ∨ c = 98 ∨ c = 99 ∨ c = 100 ∨ c = 101 ∨ c = 102 := by
    have := isD_cases h
    omega
  rcases h with rfl | rfl | rfl | rfl | rfl | rfl | rfl | rfl | rfl | rfl | rfl | rfl | rfl | rfl | rfl | rfl
  all_goals
    go_enter Tryd.func28, Tryd.ntmps28
    go_wp2_with fail
    refine bodyPost_ret ?_ rfl ⟨rfl, rfl⟩
    simp [results, Tryd.results28, go_sem]
    try decide
theorem valueof_f (c : Int) (h : isD c = false) (w : World) : Calls Tryd.prog 28 #[.int .u8 c] w (fun r w' => r = .returned (.tuple #[.int .u8 0, .bool false]) ∧ w' = w) := by
  have h := isD_not h
  have h0 : ¬ c = 48 := by omega
  have h1 : ¬ c = 49 := by omega
  have h2 : ¬ c = 50 := by omega
  have h3 : ¬ c = 51 := by omega
  have h4 : ¬ c = 52 := by omega
  have h5 : ¬ c = 53 := by omega
  have h6 : ¬ c = 54 := by omega
  have h7 : ¬ c = 55 := by omega
  have h8 : ¬ c = 56 := by omega
  have h9 : ¬ c = 57 := by omega
  have ha : ¬ c = 97 := by omega
  have hb : ¬ c = 98 := by omega
  have hc : ¬ c = 99 := by omega
  have hd : ¬ c = 100 := by omega
  have he : ¬ c = 101 := by omega
  have hf : ¬ c = 102 := by omega
  clear h
  go_enter Tryd.func28, Tryd.ntmps28
  go_wp2_with fail
  exact bodyPost_ret (v := .tuple #[.int .u8 0, .bool false]) (by simp [results, Tryd.results28, go_sem]) rfl ⟨rfl, rfl⟩
/-- why a text is no key -/
def spv (e p : Int) : Array Value := #[.int .i64 e, .int .i64 p]
theorem spv_one (e p : Int) : (spv e p).all (·.oneCell') = true := by unfold spv; simp [Value.oneCell']
theorem Tryd.infoSpot : (Tryd.prog.info? 28).map (·.size) = some 2 := by kernel_rfl
set_option maxHeartbeats 4000000 in
theorem nokey_ok (p : Int) (w : World) : Calls Tryd.prog 29 #[.int .i64 p] w (fun r w' => r = .returned (.agg (spv 261 p)) ∧ Gr w w') := by
  obtain ⟨T, hT⟩ : ∃ T : Ending → World → Prop, T = (fun r w' => r = .returned (.agg (spv 261 p)) ∧ Gr w w') := ⟨_, rfl⟩
  rw [← hT]
  replace hT := hide hT
  go_enter Tryd.func29, Tryd.ntmps29
  go_upto_region 1 with fail
  have hB := (Bl.nil w).new #[.int .i64 0, .int .i64 0] 28
  simp only [List.nil_append] at hB
  generalize World.alloc _ _ = u at *
  replace hB : Bl w [⟨w.heap.size, spv 0 0, 28⟩] u := hB
  refine wp_region_lit ?_
  refine list_val (.int .i64 p) (by kernel_rfl) (by kernel_rfl) ?_
  simp only [Act.put, List.setIfInBounds_toArray, List.set_cons_zero, List.set_cons_succ, List.getElem_toArray, List.getElem_cons_zero, List.getElem_cons_succ]
  refine list_val (.agg (spv 261 p)) (by kernel_rfl) (by kernel_rfl) ?_
  simp only [Act.put, List.setIfInBounds_toArray, List.set_cons_zero, List.set_cons_succ, List.getElem_toArray, List.getElem_cons_zero, List.getElem_cons_succ]
  refine list_store 28 (.tmp 2) (.tmp 4) w.heap.size (spv 261 p) 28 (spv 0 0) (by kernel_rfl) rfl (by kernel_rfl) (by kernel_rfl) (hB.get 0 (x := ⟨w.heap.size, spv 0 0, 28⟩) rfl) (by rw [Tryd.infoSpot]; rfl) rfl (spv_one _ _) ?_
  replace hB := hB.set 0 (x := ⟨w.heap.size, spv 0 0, 28⟩) rfl (spv 261 p)
  simp only [List.set_cons_zero] at hB
  generalize World.setRow _ _ _ = u2 at *
  simp only [Act.put, List.setIfInBounds_toArray, List.set_cons_zero, List.set_cons_succ, List.getElem_toArray, List.getElem_cons_zero, List.getElem_cons_succ]
  refine wpList_nil ?_
  replace hB := hide hB
  go_wp2_with fail
  replace hB := unhide hB
  rw [unhide hT]
  exact bodyPost_ret (v := .agg (spv 261 p)) (results_cell_row Tryd.results29 _ _ w.heap.size 28 (spv 261 p) (0, 0) _ rfl (hB.get 0 (x := ⟨w.heap.size, spv 261 p, 28⟩) rfl) Tryd.underlying28 rfl (by rw [Tryd.infoSpot]; rfl)) rfl ⟨rfl, hB.gr⟩
end Go.Proofs.YtpmgmpihmpifgaaDoor
