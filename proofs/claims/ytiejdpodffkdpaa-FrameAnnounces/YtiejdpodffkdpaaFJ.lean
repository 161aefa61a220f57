/-
  Layer 14: packets are got.
-/
import Derived.Test.YtiejdpodffkdpaaFI
namespace Go.Proofs.Ytiejdpodffkdpaa
open Go.RowKit
set_option maxRecDepth 100000
set_option linter.unusedSimpArgs false
set_option linter.unusedVariables false
/-- what of a packet's bytes is told -/
def pkv (L : List Int) (v : Value) : Array Value := #[.int .i64 (L.getD 1 0), .int .i64 (L.getD 2 0), .int .u64 (lowN ((L.drop 3).take 8)), v]
def pkE (L : List Int) : Bool := ends (L.getD 1 0) (L.getD 2 0) (lowN ((L.drop 3).take 8))
def Gok (L : List Int) (w : World) (r : Ending) (w' : World) : Prop := ∃ v, r = .returned (.tuple #[.agg (pkv L v), .int .i64 0]) ∧ Ob w.heap.size w' v (L.drop 11) ∧ Gr w w'
theorem agg4_one {a b c d : Value} (h : (#[a, b, c, d] : Array Value).all (·.oneCell') = true) : True := trivial
end Go.Proofs.Ytiejdpodffkdpaa
