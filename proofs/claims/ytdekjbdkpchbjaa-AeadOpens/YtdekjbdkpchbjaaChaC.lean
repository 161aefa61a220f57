/-
  Rows of four words.
-/
import Derived.Test.YtdekjbdkpchbjaaChaX
namespace Go.Proofs.Ytdekjbdkpchbjaa
open Go.RowKit
set_option maxRecDepth 100000
theorem Try.info4 : (Try.prog.info? 79).map (·.size) = some 4 := by kernel_rfl
/-- four words in a row -/
def ql (q : Q4) : List Int := [q.a, q.b, q.c, q.d]
end Go.Proofs.Ytdekjbdkpchbjaa
