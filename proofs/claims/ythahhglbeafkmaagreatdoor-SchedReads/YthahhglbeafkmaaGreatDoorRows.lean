/-
  NARROWER THAN 'FOR EVERY INPUT', by the rows' own cells (each row's printed sentence says how): SchedMakes: laid · SchedReads: laid · SchedCovers: laid.
  DERIVED. THE GIVEN ROWS OF THIS SEAT. 3 by the template 'for every input the law returns true; each argument reads behind the call as it read before'; 0 by the template 'total and deterministic' (their statements: YthahhglbeafkmaaGreatDoorTotals.lean).
  GIVEN WITH THE SEED: the statements are not yours to turn. If you find one false, say at which input.
  Laid BY PROGRAM, IN A SANDBOX (cutbox-rows.mjs): the forced cells as the released guide's own fill.sh prints them over the translation 33ae139c5e106110… (all of the seat's roots in one cut). By AI agents, Wed Nov 11 2026. No macro, syntax, notation, axiom, sorry.
-/
import Derived.Test.YthahhglbeafkmaaGreatDoorChecked
import GoSem.Claim
import GoSem.ClaimJoined
import GoSem.ClaimMapViews
import Derived.JoinedTies
import Derived.KernelRfl
namespace Go.Proofs.YthahhglbeafkmaaGreatDoor
/- THE CELL 'sum', in the pinned program and in every row, IS THE sha256 OF THE DUMP (.gsa) THAT YthahhglbeafkmaaGreatDoorProg.lean LOADS. Nothing in Lean hashes anything: it is a label: what it is worth is what the hold of that sum in a sandbox is worth. -/
noncomputable def Tryz.pinned : Pinned := { name := "ythahhglbeafkmaagreatdoor", sum := "33ae139c5e10611035b45f0e9b6951f9b52cfd5b09847201d709df7a1082fdcd", checked := Tryz.checked }
namespace Rows
def none {H : Type} : Left H := { results := [], args := [] }

/- WHAT THE LISTED PACKAGE-LEVEL VARIABLES READ AS WHEN THE CALL BEGINS. Each datum BY PROGRAM (the guide's laid-datum.mjs) off the statement by which the dump's own 'gosem.cut.vars' lays the variable. In a bare row this is a premise. The card (YthahhglbeafkmaaGreatDoorCards.lean) ties it to the program's text. -/
def laid_hollowtree_sha_first {H : Type} : DataW H := .agg [.lit (.int .u32 1779033703), .lit (.int .u32 3144134277), .lit (.int .u32 1013904242), .lit (.int .u32 2773480762), .lit (.int .u32 1359893119), .lit (.int .u32 2600822924), .lit (.int .u32 528734635), .lit (.int .u32 1541459225)]

/-- 'hollowtreelaw19.SchedMakes': WHATEVER THE INPUT: true; the input reads as it did. -/
def schedMakesSpec : ChangeSpec := { name := "schedMakes", fn := fun _ => fun
  | [d1, d2, d3] => { results := [.lit (.bool true)], args := [d1, d2, d3] }
  | _ => none }
def schedMakesRow : OpenClaim := { program := "ythahhglbeafkmaagreatdoor", sum := "33ae139c5e10611035b45f0e9b6951f9b52cfd5b09847201d709df7a1082fdcd", func := "hollowtree/hollowtreelaw19.SchedMakes", spec := "schedMakes", unfollowed := true, recurses := true, named := ["hollowtree/sha.first"], apart := false, laid := [("hollowtree/sha.first", laid_hollowtree_sha_first)] }
def SchedMakesSaid : Prop := schedMakesRow.holds Tryz.pinned (OpenSpec.ofChange schedMakesSpec)

/-- ITS FALSE NEIGHBOUR: 'it returns false'. Refute it at one input. -/
def schedMakesWrong : ChangeSpec := { name := "schedMakes", fn := fun _ => fun
  | [d1, d2, d3] => { results := [.lit (.bool false)], args := [d1, d2, d3] }
  | _ => none }
def SchedMakesWrongFalsely : Prop := schedMakesRow.holds Tryz.pinned (OpenSpec.ofChange schedMakesWrong)

/-- 'hollowtreelaw19.SchedReads': WHATEVER THE INPUT: true; the input reads as it did. -/
def schedReadsSpec : ChangeSpec := { name := "schedReads", fn := fun _ => fun
  | [d1, d2, d3] => { results := [.lit (.bool true)], args := [d1, d2, d3] }
  | _ => none }
def schedReadsRow : OpenClaim := { program := "ythahhglbeafkmaagreatdoor", sum := "33ae139c5e10611035b45f0e9b6951f9b52cfd5b09847201d709df7a1082fdcd", func := "hollowtree/hollowtreelaw19.SchedReads", spec := "schedReads", unfollowed := true, recurses := true, named := ["hollowtree/sha.first"], apart := false, laid := [("hollowtree/sha.first", laid_hollowtree_sha_first)] }
def SchedReadsSaid : Prop := schedReadsRow.holds Tryz.pinned (OpenSpec.ofChange schedReadsSpec)

/-- ITS FALSE NEIGHBOUR: 'it returns false'. Refute it at one input. -/
def schedReadsWrong : ChangeSpec := { name := "schedReads", fn := fun _ => fun
  | [d1, d2, d3] => { results := [.lit (.bool false)], args := [d1, d2, d3] }
  | _ => none }
def SchedReadsWrongFalsely : Prop := schedReadsRow.holds Tryz.pinned (OpenSpec.ofChange schedReadsWrong)

/-- 'hollowtreelaw19.SchedCovers': WHATEVER THE INPUT: true; the input reads as it did. -/
def schedCoversSpec : ChangeSpec := { name := "schedCovers", fn := fun _ => fun
  | [d1, d2] => { results := [.lit (.bool true)], args := [d1, d2] }
  | _ => none }
def schedCoversRow : OpenClaim := { program := "ythahhglbeafkmaagreatdoor", sum := "33ae139c5e10611035b45f0e9b6951f9b52cfd5b09847201d709df7a1082fdcd", func := "hollowtree/hollowtreelaw19.SchedCovers", spec := "schedCovers", unfollowed := true, recurses := true, named := ["hollowtree/sha.first"], apart := false, laid := [("hollowtree/sha.first", laid_hollowtree_sha_first)] }
def SchedCoversSaid : Prop := schedCoversRow.holds Tryz.pinned (OpenSpec.ofChange schedCoversSpec)

/-- ITS FALSE NEIGHBOUR: 'it returns false'. Refute it at one input. -/
def schedCoversWrong : ChangeSpec := { name := "schedCovers", fn := fun _ => fun
  | [d1, d2] => { results := [.lit (.bool false)], args := [d1, d2] }
  | _ => none }
def SchedCoversWrongFalsely : Prop := schedCoversRow.holds Tryz.pinned (OpenSpec.ofChange schedCoversWrong)

/- THE SECOND FORM. 'bulk': how many values and letters a reading holds, each counted each time it is reached (what is shared counts as often as it is met; a slice's spare places count too). A statement '..UptoSaid' is the law's where the arguments, and the package variables that the reading takes, are together of bulk at most 1048576: NARROWER than '..Said'. Prove '..Said' where nothing that the law and all that it calls make is longer than what came in: it says more and counts as full. Else prove '..UptoSaid'. A law counts once. -/
mutual
def uptoBulk {H : Type} : DataW H → Nat
  | .lit (.string bytes) => bytes.length + 1
  | .lit _ => 1
  | .nil => 1
  | .ptr d => uptoBulk d + 1
  | .slice elems spare => uptoBulkAll elems + uptoBulkAll spare + 1
  | .agg parts => uptoBulkAll parts + 1
  | .iface _ d => uptoBulk d + 1
  | .map entries => uptoBulkEntries entries + 1
  | .held _ => 1
def uptoBulkAll {H : Type} : List (DataW H) → Nat
  | [] => 0
  | d :: r => uptoBulk d + uptoBulkAll r
def uptoBulkEntries {H : Type} : List (Lit × DataW H) → Nat
  | [] => 0
  | x :: r => uptoBulkEntry x + uptoBulkEntries r
def uptoBulkEntry {H : Type} : Lit × DataW H → Nat
  | (.string bytes, d) => bytes.length + uptoBulk d + 1
  | (_, d) => uptoBulk d + 1
 end
def uptoSmall : (H : Type) → List (DataW H) → Bool := fun _ ds => decide (uptoBulkAll ds ≤ 1048576)
def OpenSpec.upto (s : _root_.Go.ChangeSpec) : _root_.Go.OpenSpec := { _root_.Go.OpenSpec.ofChange s with cond := some uptoSmall }

/-- 'hollowtreelaw19.SchedMakes', WHERE WHAT IT READS IS OF BULK AT MOST 1048576: true; the input reads as it did. -/
def schedMakesUptoRow : OpenClaim := { program := "ythahhglbeafkmaagreatdoor", sum := "33ae139c5e10611035b45f0e9b6951f9b52cfd5b09847201d709df7a1082fdcd", func := "hollowtree/hollowtreelaw19.SchedMakes", spec := "schedMakes", unfollowed := true, recurses := true, named := ["hollowtree/sha.first"], apart := false, laid := [("hollowtree/sha.first", laid_hollowtree_sha_first)], narrowed := true }
def SchedMakesUptoSaid : Prop := schedMakesUptoRow.holds Tryz.pinned (OpenSpec.upto schedMakesSpec)

/-- 'hollowtreelaw19.SchedReads', WHERE WHAT IT READS IS OF BULK AT MOST 1048576: true; the input reads as it did. -/
def schedReadsUptoRow : OpenClaim := { program := "ythahhglbeafkmaagreatdoor", sum := "33ae139c5e10611035b45f0e9b6951f9b52cfd5b09847201d709df7a1082fdcd", func := "hollowtree/hollowtreelaw19.SchedReads", spec := "schedReads", unfollowed := true, recurses := true, named := ["hollowtree/sha.first"], apart := false, laid := [("hollowtree/sha.first", laid_hollowtree_sha_first)], narrowed := true }
def SchedReadsUptoSaid : Prop := schedReadsUptoRow.holds Tryz.pinned (OpenSpec.upto schedReadsSpec)

/-- 'hollowtreelaw19.SchedCovers', WHERE WHAT IT READS IS OF BULK AT MOST 1048576: true; the input reads as it did. -/
def schedCoversUptoRow : OpenClaim := { program := "ythahhglbeafkmaagreatdoor", sum := "33ae139c5e10611035b45f0e9b6951f9b52cfd5b09847201d709df7a1082fdcd", func := "hollowtree/hollowtreelaw19.SchedCovers", spec := "schedCovers", unfollowed := true, recurses := true, named := ["hollowtree/sha.first"], apart := false, laid := [("hollowtree/sha.first", laid_hollowtree_sha_first)], narrowed := true }
def SchedCoversUptoSaid : Prop := schedCoversUptoRow.holds Tryz.pinned (OpenSpec.upto schedCoversSpec)

end Rows
end Go.Proofs.YthahhglbeafkmaaGreatDoor
