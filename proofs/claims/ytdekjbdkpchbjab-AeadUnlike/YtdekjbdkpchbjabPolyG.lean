/-
  The reference: a row modulo 2^130 - 5.
-/
import Derived.Test.YtdekjbdkpchbjabPolyF
import Derived.Deep.LoopGhost
namespace Go.Proofs.Ytdekjbdkpchbjab
open Go.RowKit
set_option maxRecDepth 100000
set_option linter.unusedSimpArgs false
set_option linter.unusedVariables false
def P5 : Nat := 2 ^ 130 - 5
theorem li_one (w : World) (x : Nat) : Li (w.alloc (.cells #[.int .i64 (x : Int)] 3 (0, 0))) (some ⟨w.heap.size, 0, none⟩) 1 1 [x] := by
  refine ⟨rfl, .inr ⟨_, 0, rfl, fun j hj => ?_⟩, Nat.le_refl _, by omega⟩
  have hj0 : j = 0 := by simpa using hj
  subst hj0
  exact cell_of (blk_new _ _) rfl
theorem five_allB : AllB [5] := fun x hx => by
  have h : x = 5 := by simpa using hx
  omega
theorem Q130_eq : Q130 = 1361129467683753853853498429727072845824 := by decide
theorem P5_eq : P5 = 1361129467683753853853498429727072845819 := by decide
theorem rest_mod (VL VU X : Nat) (h : (VL + Q130 * VU) % P5 = X) : (VL + VU * 5) % P5 = X := by
  rw [← h, Q130_eq, P5_eq]
  omega
theorem rest_end (VL X : Nat) (hl : VL < Q130) (h : VL % P5 = X) : (VL + 5 < Q130 → VL = X) ∧ (Q130 ≤ VL + 5 → (VL + 5) % Q130 = X) := by
  rw [← h]
  rw [Q130_eq] at *
  rw [P5_eq]
  omega
def RestP (A L : List Nat) : Prop := AllB L ∧ V L = V A % P5 ∧ L.length = 17
end Go.Proofs.Ytdekjbdkpchbjab
