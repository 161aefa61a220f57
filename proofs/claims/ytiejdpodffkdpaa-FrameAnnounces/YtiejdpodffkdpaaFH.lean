/-
  Layer 14: how long onions and replies are; packets.
-/
import Derived.Test.YtiejdpodffkdpaaFG
namespace Go.Proofs.Ytiejdpodffkdpaa
open Go.RowKit
set_option maxRecDepth 100000
set_option linter.unusedSimpArgs false
set_option linter.unusedVariables false
def onz (h : Int) : Int := if 1 ≤ h ∧ h ≤ 3 then 146 + 48 * h else 0
def rpz (h : Int) : Int := if 1 ≤ h ∧ h ≤ 3 then 130 + 16 * h else 0
def onS (n : Int) : Bool := decide (n = 194 ∨ n = 242 ∨ n = 290)
def rpS (n : Int) : Bool := decide (n = 146 ∨ n = 162 ∨ n = 178)
def ends (c s r : Int) : Bool := decide ((0 ≤ c ∧ c < 4) ∧ (0 ≤ s ∧ s < 3) ∧ 0 < r)
/-- the bytes of a packet -/
def pkB (k c s r : Int) (B : List Int) : List Int := ([k, c, s] ++ lowL r 8) ++ B
set_option maxHeartbeats 1000000 in
theorem grown_on (h : Int) (w : World) : Calls Try.prog 32 #[.int .i64 146, .int .i64 48, .int .i64 h] w (fun r w' => r = .returned (.int .i64 (onz h)) ∧ w' = w) := by
  obtain ⟨T, hT⟩ : ∃ T : Ending → World → Prop, T = (fun r w' => r = .returned (.int .i64 (onz h)) ∧ w' = w) := ⟨_, rfl⟩
  rw [← hT]
  replace hT := hide hT
  by_cases h1 : h < 1
  · have hZ : Hid (T (.returned (.int .i64 0)) w) := by rw [unhide hT]; exact ⟨by unfold onz; rw [if_neg (by omega)], rfl⟩
    go_enter Try.func32, Try.ntmps32
    go_wp2_with fail
    exact unhide hZ
  · by_cases h2 : 3 < h
    · have hZ : Hid (T (.returned (.int .i64 0)) w) := by rw [unhide hT]; exact ⟨by unfold onz; rw [if_neg (by omega)], rfl⟩
      go_enter Try.func32, Try.ntmps32
      go_wp2_with fail
      exact unhide hZ
    · obtain rfl | rfl | rfl : h = 1 ∨ h = 2 ∨ h = 3 := by omega
      · have hZ : Hid (T (.returned (.int .i64 194)) w) := by rw [unhide hT]; exact ⟨rfl, rfl⟩
        clear h1 h2
        go_enter Try.func32, Try.ntmps32
        go_wp2_with fail
        exact unhide hZ
      · have hZ : Hid (T (.returned (.int .i64 242)) w) := by rw [unhide hT]; exact ⟨rfl, rfl⟩
        clear h1 h2
        go_enter Try.func32, Try.ntmps32
        go_wp2_with fail
        exact unhide hZ
      · have hZ : Hid (T (.returned (.int .i64 290)) w) := by rw [unhide hT]; exact ⟨rfl, rfl⟩
        clear h1 h2
        go_enter Try.func32, Try.ntmps32
        go_wp2_with fail
        exact unhide hZ
set_option maxHeartbeats 1000000 in
theorem grown_rp (h : Int) (w : World) : Calls Try.prog 32 #[.int .i64 130, .int .i64 16, .int .i64 h] w (fun r w' => r = .returned (.int .i64 (rpz h)) ∧ w' = w) := by
  obtain ⟨T, hT⟩ : ∃ T : Ending → World → Prop, T = (fun r w' => r = .returned (.int .i64 (rpz h)) ∧ w' = w) := ⟨_, rfl⟩
  rw [← hT]
  replace hT := hide hT
  by_cases h1 : h < 1
  · have hZ : Hid (T (.returned (.int .i64 0)) w) := by rw [unhide hT]; exact ⟨by unfold rpz; rw [if_neg (by omega)], rfl⟩
    go_enter Try.func32, Try.ntmps32
    go_wp2_with fail
    exact unhide hZ
  · by_cases h2 : 3 < h
    · have hZ : Hid (T (.returned (.int .i64 0)) w) := by rw [unhide hT]; exact ⟨by unfold rpz; rw [if_neg (by omega)], rfl⟩
      go_enter Try.func32, Try.ntmps32
      go_wp2_with fail
      exact unhide hZ
    · obtain rfl | rfl | rfl : h = 1 ∨ h = 2 ∨ h = 3 := by omega
      · have hZ : Hid (T (.returned (.int .i64 146)) w) := by rw [unhide hT]; exact ⟨rfl, rfl⟩
        clear h1 h2
        go_enter Try.func32, Try.ntmps32
        go_wp2_with fail
        exact unhide hZ
      · have hZ : Hid (T (.returned (.int .i64 162)) w) := by rw [unhide hT]; exact ⟨rfl, rfl⟩
        clear h1 h2
        go_enter Try.func32, Try.ntmps32
        go_wp2_with fail
        exact unhide hZ
      · have hZ : Hid (T (.returned (.int .i64 178)) w) := by rw [unhide hT]; exact ⟨rfl, rfl⟩
        clear h1 h2
        go_enter Try.func32, Try.ntmps32
        go_wp2_with fail
        exact unhide hZ
set_option maxHeartbeats 4000000 in
theorem fon_ok (h : Int) (w : World) : Calls Try.prog 16 #[.int .i64 h] w (Vl (.int .i64 (onz h)) w) := by
  obtain ⟨T, hT⟩ : ∃ T, T = Vl (.int .i64 (onz h)) w := ⟨_, rfl⟩
  rw [← hT]
  replace hT := hide hT
  go_enter Try.func16, Try.ntmps16
  go_upto_region 1 with fail
  refine wp_region_lit ?_
  refine list_val (.int .i64 h) (by kernel_rfl) (by kernel_rfl) ?_
  simp only [Act.put, List.setIfInBounds_toArray, List.set_cons_zero, List.set_cons_succ, List.getElem_toArray, List.getElem_cons_zero, List.getElem_cons_succ]
  refine list_call 32 #[.int .i64 146, .int .i64 48, .int .i64 h] (by kernel_rfl) (by kernel_rfl) ((grown_on h w).mono ?_)
  rintro r u ⟨rfl, rfl⟩
  generalize onz h = x at *
  refine ⟨_, rfl, ?_⟩
  simp only [Act.put, List.setIfInBounds_toArray, List.set_cons_zero, List.set_cons_succ, List.getElem_toArray, List.getElem_cons_zero, List.getElem_cons_succ]
  (refine wpList_step fun K hK => ?_; replace hK := hide hK; go_simp; refine unhide hK _ _ ?_; clear hK K)
  refine wpList_nil ?_
  have hZ : Hid (Vl (.int .i64 x) u (.returned (.int .i64 x)) u) := ⟨rfl, Gr.refl u⟩
  go_wp2_with fail
  rw [unhide hT]
  exact unhide hZ
end Go.Proofs.Ytiejdpodffkdpaa
