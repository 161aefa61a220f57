/-
  Rows of four words.
-/
import Derived.Test.YtdekjbdkpchbjabChaX
namespace Go.Proofs.Ytdekjbdkpchbjab
open Go.RowKit
set_option maxRecDepth 100000
/-- four words in a row -/
def ql (q : Q4) : List Int := [q.a, q.b, q.c, q.d]
end Go.Proofs.Ytdekjbdkpchbjab
