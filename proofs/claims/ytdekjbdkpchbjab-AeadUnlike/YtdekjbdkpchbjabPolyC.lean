/-
  The reference: sums of rows.
-/
import Derived.Test.YtdekjbdkpchbjabChaRX
namespace Go.Proofs.Ytdekjbdkpchbjab
open Go.RowKit
set_option maxRecDepth 100000
set_option linter.unusedSimpArgs false
set_option linter.unusedVariables false
theorem plus_step (P VL c x y s d c2 X Y : Nat) (h : VL + P * c = X + Y) (hs : s = x + y + c) (hd : d = s % 256) (hc : c2 = s / 256) : VL + P * d + P * 256 * c2 = X + P * x + (Y + P * y) := by
  have e : s = d + 256 * c2 := by omega
  have e2 : P * s = P * d + P * 256 * c2 := by rw [e, Nat.mul_add, Nat.mul_assoc]
  have e3 : P * s = P * x + P * y + P * c := by rw [hs, Nat.mul_add, Nat.mul_add]
  omega
def PlusP (A B L : List Nat) : Prop := AllB L ∧ V L = V A + V B ∧ L.length ≤ max A.length B.length + 1
end Go.Proofs.Ytdekjbdkpchbjab
