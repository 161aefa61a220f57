/-
  Layer 14: ups and downs are got.
-/
import Derived.Test.YtiejdpodffkdpaaFJ
namespace Go.Proofs.Ytiejdpodffkdpaa
open Go.RowKit
set_option maxRecDepth 100000
set_option linter.unusedSimpArgs false
set_option linter.unusedVariables false
end Go.Proofs.Ytiejdpodffkdpaa
