/-
  The reference's Copy and Same; the law's spoil and whole.
-/
import Derived.Test.YtcefkkoombmndabUN
import Derived.Test.YtcefkkoombmndabUJ
namespace Go.Proofs.Ytcefkkoombmndab
open Go.RowKit
set_option maxRecDepth 100000
set_option linter.unusedSimpArgs false
set_option linter.unusedVariables false
end Go.Proofs.Ytcefkkoombmndab
