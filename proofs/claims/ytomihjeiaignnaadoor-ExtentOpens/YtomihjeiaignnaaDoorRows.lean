/-
  NARROWER THAN 'FOR EVERY INPUT', by the rows' own cells (each row's printed sentence says how): ExtentTakes: laid · ExtentOpens: laid · ExtentLogs: laid · ExtentNone: laid · ExtentCuts: laid · ExtentApart: laid.
  DERIVED. THE GIVEN ROWS OF THIS SEAT. 6 by the template 'for every input the law returns true; each argument reads behind the call as it read before'; 0 by the template 'total and deterministic' (their statements: YtomihjeiaignnaaDoorTotals.lean).
  GIVEN WITH THE SEED: the statements are not yours to turn. If you find one false, say at which input.
  Laid BY PROGRAM, IN A SANDBOX (cutbox-rows.mjs): the forced cells as the released guide's own fill.sh prints them over the translation 42d29711dc0f61d1… (all of the seat's roots in one cut). By AI agents, Wed Nov 11 2026. No macro, syntax, notation, axiom, sorry.
-/
import Derived.Test.YtomihjeiaignnaaDoorChecked
import GoSem.Claim
import GoSem.ClaimJoined
import GoSem.ClaimMapViews
import Derived.JoinedTies
import Derived.KernelRfl
namespace Go.Proofs.YtomihjeiaignnaaDoor
/- THE CELL 'sum', in the pinned program and in every row, IS THE sha256 OF THE DUMP (.gsa) THAT YtomihjeiaignnaaDoorProg.lean LOADS. Nothing in Lean hashes anything: it is a label: what it is worth is what the hold of that sum in a sandbox is worth. -/
noncomputable def Tryd.pinned : Pinned := { name := "ytomihjeiaignnaadoor", sum := "42d29711dc0f61d172f45068f58e2efbd769874f56a834f9bdc6db60674966f0", checked := Tryd.checked }
namespace Rows
def none {H : Type} : Left H := { results := [], args := [] }

/- WHAT THE LISTED PACKAGE-LEVEL VARIABLES READ AS WHEN THE CALL BEGINS. Each datum BY PROGRAM (the guide's laid-datum.mjs) off the statement by which the dump's own 'gosem.cut.vars' lays the variable. In a bare row this is a premise. The card (YtomihjeiaignnaaDoorCards.lean) ties it to the program's text. -/
def laid_hollowtree_sha_first {H : Type} : DataW H := .agg [.lit (.int .u32 1779033703), .lit (.int .u32 3144134277), .lit (.int .u32 1013904242), .lit (.int .u32 2773480762), .lit (.int .u32 1359893119), .lit (.int .u32 2600822924), .lit (.int .u32 528734635), .lit (.int .u32 1541459225)]

/-- 'hollowtreelaw11.ExtentTakes': WHATEVER THE INPUT: true; the input reads as it did. -/
def extentTakesSpec : ChangeSpec := { name := "extentTakes", fn := fun _ => fun
  | [d1, d2] => { results := [.lit (.bool true)], args := [d1, d2] }
  | _ => none }
def extentTakesRow : OpenClaim := { program := "ytomihjeiaignnaadoor", sum := "42d29711dc0f61d172f45068f58e2efbd769874f56a834f9bdc6db60674966f0", func := "hollowtree/hollowtreelaw11.ExtentTakes", spec := "extentTakes", unfollowed := true, recurses := true, named := ["hollowtree/sha.first"], apart := false, laid := [("hollowtree/sha.first", laid_hollowtree_sha_first)] }
def ExtentTakesSaid : Prop := extentTakesRow.holds Tryd.pinned (OpenSpec.ofChange extentTakesSpec)

/-- ITS FALSE NEIGHBOUR: 'it returns false'. Refute it at one input. -/
def extentTakesWrong : ChangeSpec := { name := "extentTakes", fn := fun _ => fun
  | [d1, d2] => { results := [.lit (.bool false)], args := [d1, d2] }
  | _ => none }
def ExtentTakesWrongFalsely : Prop := extentTakesRow.holds Tryd.pinned (OpenSpec.ofChange extentTakesWrong)

/-- 'hollowtreelaw11.ExtentOpens': WHATEVER THE INPUT: true; the input reads as it did. -/
def extentOpensSpec : ChangeSpec := { name := "extentOpens", fn := fun _ => fun
  | [d] => { results := [.lit (.bool true)], args := [d] }
  | _ => none }
def extentOpensRow : OpenClaim := { program := "ytomihjeiaignnaadoor", sum := "42d29711dc0f61d172f45068f58e2efbd769874f56a834f9bdc6db60674966f0", func := "hollowtree/hollowtreelaw11.ExtentOpens", spec := "extentOpens", unfollowed := true, recurses := true, named := ["hollowtree/sha.first"], apart := false, laid := [("hollowtree/sha.first", laid_hollowtree_sha_first)] }
def ExtentOpensSaid : Prop := extentOpensRow.holds Tryd.pinned (OpenSpec.ofChange extentOpensSpec)

/-- ITS FALSE NEIGHBOUR: 'it returns false'. Refute it at one input. -/
def extentOpensWrong : ChangeSpec := { name := "extentOpens", fn := fun _ => fun
  | [d] => { results := [.lit (.bool false)], args := [d] }
  | _ => none }
def ExtentOpensWrongFalsely : Prop := extentOpensRow.holds Tryd.pinned (OpenSpec.ofChange extentOpensWrong)

/-- 'hollowtreelaw11.ExtentLogs': WHATEVER THE INPUT: true; the input reads as it did. -/
def extentLogsSpec : ChangeSpec := { name := "extentLogs", fn := fun _ => fun
  | [d1, d2, d3] => { results := [.lit (.bool true)], args := [d1, d2, d3] }
  | _ => none }
def extentLogsRow : OpenClaim := { program := "ytomihjeiaignnaadoor", sum := "42d29711dc0f61d172f45068f58e2efbd769874f56a834f9bdc6db60674966f0", func := "hollowtree/hollowtreelaw11.ExtentLogs", spec := "extentLogs", unfollowed := true, recurses := true, named := ["hollowtree/sha.first"], apart := false, laid := [("hollowtree/sha.first", laid_hollowtree_sha_first)] }
def ExtentLogsSaid : Prop := extentLogsRow.holds Tryd.pinned (OpenSpec.ofChange extentLogsSpec)

/-- ITS FALSE NEIGHBOUR: 'it returns false'. Refute it at one input. -/
def extentLogsWrong : ChangeSpec := { name := "extentLogs", fn := fun _ => fun
  | [d1, d2, d3] => { results := [.lit (.bool false)], args := [d1, d2, d3] }
  | _ => none }
def ExtentLogsWrongFalsely : Prop := extentLogsRow.holds Tryd.pinned (OpenSpec.ofChange extentLogsWrong)

/-- 'hollowtreelaw11.ExtentNone': WHATEVER THE INPUT: true; the input reads as it did. -/
def extentNoneSpec : ChangeSpec := { name := "extentNone", fn := fun _ => fun
  | [d1, d2] => { results := [.lit (.bool true)], args := [d1, d2] }
  | _ => none }
def extentNoneRow : OpenClaim := { program := "ytomihjeiaignnaadoor", sum := "42d29711dc0f61d172f45068f58e2efbd769874f56a834f9bdc6db60674966f0", func := "hollowtree/hollowtreelaw11.ExtentNone", spec := "extentNone", unfollowed := true, recurses := true, named := ["hollowtree/sha.first"], apart := false, laid := [("hollowtree/sha.first", laid_hollowtree_sha_first)] }
def ExtentNoneSaid : Prop := extentNoneRow.holds Tryd.pinned (OpenSpec.ofChange extentNoneSpec)

/-- ITS FALSE NEIGHBOUR: 'it returns false'. Refute it at one input. -/
def extentNoneWrong : ChangeSpec := { name := "extentNone", fn := fun _ => fun
  | [d1, d2] => { results := [.lit (.bool false)], args := [d1, d2] }
  | _ => none }
def ExtentNoneWrongFalsely : Prop := extentNoneRow.holds Tryd.pinned (OpenSpec.ofChange extentNoneWrong)

/-- 'hollowtreelaw11.ExtentCuts': WHATEVER THE INPUT: true; the input reads as it did. -/
def extentCutsSpec : ChangeSpec := { name := "extentCuts", fn := fun _ => fun
  | [d1, d2, d3] => { results := [.lit (.bool true)], args := [d1, d2, d3] }
  | _ => none }
def extentCutsRow : OpenClaim := { program := "ytomihjeiaignnaadoor", sum := "42d29711dc0f61d172f45068f58e2efbd769874f56a834f9bdc6db60674966f0", func := "hollowtree/hollowtreelaw11.ExtentCuts", spec := "extentCuts", unfollowed := true, recurses := true, named := ["hollowtree/sha.first"], apart := false, laid := [("hollowtree/sha.first", laid_hollowtree_sha_first)] }
def ExtentCutsSaid : Prop := extentCutsRow.holds Tryd.pinned (OpenSpec.ofChange extentCutsSpec)

/-- ITS FALSE NEIGHBOUR: 'it returns false'. Refute it at one input. -/
def extentCutsWrong : ChangeSpec := { name := "extentCuts", fn := fun _ => fun
  | [d1, d2, d3] => { results := [.lit (.bool false)], args := [d1, d2, d3] }
  | _ => none }
def ExtentCutsWrongFalsely : Prop := extentCutsRow.holds Tryd.pinned (OpenSpec.ofChange extentCutsWrong)

/-- 'hollowtreelaw11.ExtentApart': WHATEVER THE INPUT: true; the input reads as it did. -/
def extentApartSpec : ChangeSpec := { name := "extentApart", fn := fun _ => fun
  | [d1, d2] => { results := [.lit (.bool true)], args := [d1, d2] }
  | _ => none }
def extentApartRow : OpenClaim := { program := "ytomihjeiaignnaadoor", sum := "42d29711dc0f61d172f45068f58e2efbd769874f56a834f9bdc6db60674966f0", func := "hollowtree/hollowtreelaw11.ExtentApart", spec := "extentApart", unfollowed := true, recurses := true, named := ["hollowtree/sha.first"], apart := false, laid := [("hollowtree/sha.first", laid_hollowtree_sha_first)] }
def ExtentApartSaid : Prop := extentApartRow.holds Tryd.pinned (OpenSpec.ofChange extentApartSpec)

/-- ITS FALSE NEIGHBOUR: 'it returns false'. Refute it at one input. -/
def extentApartWrong : ChangeSpec := { name := "extentApart", fn := fun _ => fun
  | [d1, d2] => { results := [.lit (.bool false)], args := [d1, d2] }
  | _ => none }
def ExtentApartWrongFalsely : Prop := extentApartRow.holds Tryd.pinned (OpenSpec.ofChange extentApartWrong)

/- THE SECOND FORM. 'bulk': how many values and letters a reading holds, each counted each time it is reached (what is shared counts as often as it is met; a slice's spare places count too). A statement '..UptoSaid' is the law's where the arguments, and the package variables that the reading takes, are together of bulk at most 1048576: NARROWER than '..Said'. Prove '..Said' where nothing that the law and all that it calls make is longer than what came in: it says more and counts as full. Else prove '..UptoSaid'. A law counts once. -/
mutual
def uptoBulk {H : Type} : DataW H → Nat
  | .lit (.string bytes) => bytes.length + 1
  | .lit _ => 1
  | .nil => 1
  | .ptr d => uptoBulk d + 1
  | .slice elems spare => uptoBulkAll elems + uptoBulkAll spare + 1
  | .agg parts => uptoBulkAll parts + 1
  | .iface _ d => uptoBulk d + 1
  | .map entries => uptoBulkEntries entries + 1
  | .held _ => 1
def uptoBulkAll {H : Type} : List (DataW H) → Nat
  | [] => 0
  | d :: r => uptoBulk d + uptoBulkAll r
def uptoBulkEntries {H : Type} : List (Lit × DataW H) → Nat
  | [] => 0
  | x :: r => uptoBulkEntry x + uptoBulkEntries r
def uptoBulkEntry {H : Type} : Lit × DataW H → Nat
  | (.string bytes, d) => bytes.length + uptoBulk d + 1
  | (_, d) => uptoBulk d + 1
 end
def uptoSmall : (H : Type) → List (DataW H) → Bool := fun _ ds => decide (uptoBulkAll ds ≤ 1048576)
def OpenSpec.upto (s : _root_.Go.ChangeSpec) : _root_.Go.OpenSpec := { _root_.Go.OpenSpec.ofChange s with cond := some uptoSmall }

/-- 'hollowtreelaw11.ExtentTakes', WHERE WHAT IT READS IS OF BULK AT MOST 1048576: true; the input reads as it did. -/
def extentTakesUptoRow : OpenClaim := { program := "ytomihjeiaignnaadoor", sum := "42d29711dc0f61d172f45068f58e2efbd769874f56a834f9bdc6db60674966f0", func := "hollowtree/hollowtreelaw11.ExtentTakes", spec := "extentTakes", unfollowed := true, recurses := true, named := ["hollowtree/sha.first"], apart := false, laid := [("hollowtree/sha.first", laid_hollowtree_sha_first)], narrowed := true }
def ExtentTakesUptoSaid : Prop := extentTakesUptoRow.holds Tryd.pinned (OpenSpec.upto extentTakesSpec)

/-- 'hollowtreelaw11.ExtentOpens', WHERE WHAT IT READS IS OF BULK AT MOST 1048576: true; the input reads as it did. -/
def extentOpensUptoRow : OpenClaim := { program := "ytomihjeiaignnaadoor", sum := "42d29711dc0f61d172f45068f58e2efbd769874f56a834f9bdc6db60674966f0", func := "hollowtree/hollowtreelaw11.ExtentOpens", spec := "extentOpens", unfollowed := true, recurses := true, named := ["hollowtree/sha.first"], apart := false, laid := [("hollowtree/sha.first", laid_hollowtree_sha_first)], narrowed := true }
def ExtentOpensUptoSaid : Prop := extentOpensUptoRow.holds Tryd.pinned (OpenSpec.upto extentOpensSpec)

/-- 'hollowtreelaw11.ExtentLogs', WHERE WHAT IT READS IS OF BULK AT MOST 1048576: true; the input reads as it did. -/
def extentLogsUptoRow : OpenClaim := { program := "ytomihjeiaignnaadoor", sum := "42d29711dc0f61d172f45068f58e2efbd769874f56a834f9bdc6db60674966f0", func := "hollowtree/hollowtreelaw11.ExtentLogs", spec := "extentLogs", unfollowed := true, recurses := true, named := ["hollowtree/sha.first"], apart := false, laid := [("hollowtree/sha.first", laid_hollowtree_sha_first)], narrowed := true }
def ExtentLogsUptoSaid : Prop := extentLogsUptoRow.holds Tryd.pinned (OpenSpec.upto extentLogsSpec)

/-- 'hollowtreelaw11.ExtentNone', WHERE WHAT IT READS IS OF BULK AT MOST 1048576: true; the input reads as it did. -/
def extentNoneUptoRow : OpenClaim := { program := "ytomihjeiaignnaadoor", sum := "42d29711dc0f61d172f45068f58e2efbd769874f56a834f9bdc6db60674966f0", func := "hollowtree/hollowtreelaw11.ExtentNone", spec := "extentNone", unfollowed := true, recurses := true, named := ["hollowtree/sha.first"], apart := false, laid := [("hollowtree/sha.first", laid_hollowtree_sha_first)], narrowed := true }
def ExtentNoneUptoSaid : Prop := extentNoneUptoRow.holds Tryd.pinned (OpenSpec.upto extentNoneSpec)

/-- 'hollowtreelaw11.ExtentCuts', WHERE WHAT IT READS IS OF BULK AT MOST 1048576: true; the input reads as it did. -/
def extentCutsUptoRow : OpenClaim := { program := "ytomihjeiaignnaadoor", sum := "42d29711dc0f61d172f45068f58e2efbd769874f56a834f9bdc6db60674966f0", func := "hollowtree/hollowtreelaw11.ExtentCuts", spec := "extentCuts", unfollowed := true, recurses := true, named := ["hollowtree/sha.first"], apart := false, laid := [("hollowtree/sha.first", laid_hollowtree_sha_first)], narrowed := true }
def ExtentCutsUptoSaid : Prop := extentCutsUptoRow.holds Tryd.pinned (OpenSpec.upto extentCutsSpec)

/-- 'hollowtreelaw11.ExtentApart', WHERE WHAT IT READS IS OF BULK AT MOST 1048576: true; the input reads as it did. -/
def extentApartUptoRow : OpenClaim := { program := "ytomihjeiaignnaadoor", sum := "42d29711dc0f61d172f45068f58e2efbd769874f56a834f9bdc6db60674966f0", func := "hollowtree/hollowtreelaw11.ExtentApart", spec := "extentApart", unfollowed := true, recurses := true, named := ["hollowtree/sha.first"], apart := false, laid := [("hollowtree/sha.first", laid_hollowtree_sha_first)], narrowed := true }
def ExtentApartUptoSaid : Prop := extentApartUptoRow.holds Tryd.pinned (OpenSpec.upto extentApartSpec)

end Rows
end Go.Proofs.YtomihjeiaignnaaDoor
