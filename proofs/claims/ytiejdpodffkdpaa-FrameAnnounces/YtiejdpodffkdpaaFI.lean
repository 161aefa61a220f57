/-
  Layer 14: packets are put and got.
-/
import Derived.Test.YtiejdpodffkdpaaFH
namespace Go.Proofs.Ytiejdpodffkdpaa
open Go.RowKit
set_option maxRecDepth 100000
set_option linter.unusedSimpArgs false
set_option linter.unusedVariables false
theorem on_size {n : Nat} (h : onS (n : Int) = true) : n = 194 ∨ n = 242 ∨ n = 290 := by unfold onS at h; rw [decide_eq_true_iff] at h; omega
theorem rp_size {n : Nat} (h : rpS (n : Int) = true) : n = 146 ∨ n = 162 ∨ n = 178 := by unfold rpS at h; rw [decide_eq_true_iff] at h; omega
theorem ends_is {c s r : Int} (h : ends c s r = true) : (0 ≤ c ∧ c < 4) ∧ (0 ≤ s ∧ s < 3) ∧ 0 < r := by unfold ends at h; rwa [decide_eq_true_iff] at h
end Go.Proofs.Ytiejdpodffkdpaa
