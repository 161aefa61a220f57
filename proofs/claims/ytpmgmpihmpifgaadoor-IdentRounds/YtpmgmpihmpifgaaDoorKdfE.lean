/-
  Expand; bytes that are held against each other.
-/
import Derived.Test.YtpmgmpihmpifgaaDoorKdfD
namespace Go.Proofs.YtpmgmpihmpifgaaDoor
open Go.RowKit
set_option maxRecDepth 100000
set_option linter.unusedSimpArgs false
set_option linter.unusedVariables false

def Expd (K I : List Int) (n : Nat) (w : World) (r : Ending) (w' : World) : Prop := ∃ a, r = .returned (.tuple #[.slice a n n, .int .i64 0]) ∧ Lb w' a n n (spL K I n) ∧ Gr w w'
theorem xb_self (x : Int) (hx : 0 ≤ x ∧ x < 256) : bits .xor .u8 x x = 0 := by
  obtain ⟨X, rfl⟩ := Int.eq_ofNat_of_zero_le hx.1
  rw [u8_xor_nat X X (by omega) (by omega), Nat.xor_self]
  rfl
theorem kor_zero : bits .or .u8 0 0 = 0 := by decide +kernel
end Go.Proofs.YtpmgmpihmpifgaaDoor
