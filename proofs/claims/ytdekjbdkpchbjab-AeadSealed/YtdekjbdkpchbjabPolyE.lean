/-
  The reference: what is left of a row behind 130 bits, and the lowest of them.
-/
import Derived.Test.YtdekjbdkpchbjabPolyD
namespace Go.Proofs.Ytdekjbdkpchbjab
open Go.RowKit
set_option maxRecDepth 100000
set_option linter.unusedSimpArgs false
set_option linter.unusedVariables false
/-- two new rows -/
def Hi (A : List Nat) (w : World) (r : Ending) (w' : World) : Prop := ∃ vu vl U L, r = .returned (.tuple #[vu, vl]) ∧ Oi w.heap.size w' vu U ∧ Oi w.heap.size w' vl L ∧ AllB U ∧ AllB L ∧ V U = V A / Q130 ∧ V L = V A % Q130 ∧ U.length = A.length - 16 ∧ L.length = 17 ∧ Gr w w'
end Go.Proofs.Ytdekjbdkpchbjab
