/-
  NARROWER THAN 'FOR EVERY INPUT', by the rows' own cells (each row's printed sentence says how): KdfCodes: laid · KdfSpreads: laid · KdfLabels: laid · KdfParts: laid · KdfFewer: laid · KdfApart: laid.
  DERIVED. THE GIVEN ROWS OF THIS SEAT. 6 by the template 'for every input the law returns true; each argument reads behind the call as it read before'; 0 by the template 'total and deterministic' (their statements: YthnmebhljkccnaaDoorTotals.lean).
  GIVEN WITH THE SEED: the statements are not yours to turn. If you find one false, say at which input.
  Laid BY PROGRAM, IN A SANDBOX (cutbox-rows.mjs): the forced cells as the released guide's own fill.sh prints them over the translation 458692ad1831d38a… (all of the seat's roots in one cut). By AI agents, Wed Nov 11 2026. No macro, syntax, notation, axiom, sorry.
-/
import Derived.Test.YthnmebhljkccnaaDoorChecked
import GoSem.Claim
import GoSem.ClaimJoined
import GoSem.ClaimMapViews
import Derived.JoinedTies
import Derived.KernelRfl
namespace Go.Proofs.YthnmebhljkccnaaDoor
/- THE CELL 'sum', in the pinned program and in every row, IS THE sha256 OF THE DUMP (.gsa) THAT YthnmebhljkccnaaDoorProg.lean LOADS. Nothing in Lean hashes anything: it is a label: what it is worth is what the hold of that sum in a sandbox is worth. -/
noncomputable def Tryd.pinned : Pinned := { name := "ythnmebhljkccnaadoor", sum := "458692ad1831d38aeadd21f4fc714aa97bc3ddfd1d8a3df8a27d48f0254852b7", checked := Tryd.checked }
namespace Rows
def none {H : Type} : Left H := { results := [], args := [] }

/- WHAT THE LISTED PACKAGE-LEVEL VARIABLES READ AS WHEN THE CALL BEGINS. Each datum BY PROGRAM (the guide's laid-datum.mjs) off the statement by which the dump's own 'gosem.cut.vars' lays the variable. In a bare row this is a premise. The card (YthnmebhljkccnaaDoorCards.lean) ties it to the program's text. -/
def laid_hollowtree_sha_first {H : Type} : DataW H := .agg [.lit (.int .u32 1779033703), .lit (.int .u32 3144134277), .lit (.int .u32 1013904242), .lit (.int .u32 2773480762), .lit (.int .u32 1359893119), .lit (.int .u32 2600822924), .lit (.int .u32 528734635), .lit (.int .u32 1541459225)]

/-- 'hollowtreelaw05.KdfCodes': WHATEVER THE INPUT: true; the input reads as it did. -/
def kdfCodesSpec : ChangeSpec := { name := "kdfCodes", fn := fun _ => fun
  | [d1, d2] => { results := [.lit (.bool true)], args := [d1, d2] }
  | _ => none }
def kdfCodesRow : OpenClaim := { program := "ythnmebhljkccnaadoor", sum := "458692ad1831d38aeadd21f4fc714aa97bc3ddfd1d8a3df8a27d48f0254852b7", func := "hollowtree/hollowtreelaw05.KdfCodes", spec := "kdfCodes", unfollowed := true, recurses := true, named := ["hollowtree/sha.first"], apart := false, laid := [("hollowtree/sha.first", laid_hollowtree_sha_first)] }
def KdfCodesSaid : Prop := kdfCodesRow.holds Tryd.pinned (OpenSpec.ofChange kdfCodesSpec)

/-- ITS FALSE NEIGHBOUR: 'it returns false'. Refute it at one input. -/
def kdfCodesWrong : ChangeSpec := { name := "kdfCodes", fn := fun _ => fun
  | [d1, d2] => { results := [.lit (.bool false)], args := [d1, d2] }
  | _ => none }
def KdfCodesWrongFalsely : Prop := kdfCodesRow.holds Tryd.pinned (OpenSpec.ofChange kdfCodesWrong)

/-- 'hollowtreelaw05.KdfSpreads': WHATEVER THE INPUT: true; the input reads as it did. -/
def kdfSpreadsSpec : ChangeSpec := { name := "kdfSpreads", fn := fun _ => fun
  | [d1, d2, d3] => { results := [.lit (.bool true)], args := [d1, d2, d3] }
  | _ => none }
def kdfSpreadsRow : OpenClaim := { program := "ythnmebhljkccnaadoor", sum := "458692ad1831d38aeadd21f4fc714aa97bc3ddfd1d8a3df8a27d48f0254852b7", func := "hollowtree/hollowtreelaw05.KdfSpreads", spec := "kdfSpreads", unfollowed := true, recurses := true, named := ["hollowtree/sha.first"], apart := false, laid := [("hollowtree/sha.first", laid_hollowtree_sha_first)] }
def KdfSpreadsSaid : Prop := kdfSpreadsRow.holds Tryd.pinned (OpenSpec.ofChange kdfSpreadsSpec)

/-- ITS FALSE NEIGHBOUR: 'it returns false'. Refute it at one input. -/
def kdfSpreadsWrong : ChangeSpec := { name := "kdfSpreads", fn := fun _ => fun
  | [d1, d2, d3] => { results := [.lit (.bool false)], args := [d1, d2, d3] }
  | _ => none }
def KdfSpreadsWrongFalsely : Prop := kdfSpreadsRow.holds Tryd.pinned (OpenSpec.ofChange kdfSpreadsWrong)

/-- 'hollowtreelaw05.KdfLabels': WHATEVER THE INPUT: true; the input reads as it did. -/
def kdfLabelsSpec : ChangeSpec := { name := "kdfLabels", fn := fun _ => fun
  | [d1, d2, d3] => { results := [.lit (.bool true)], args := [d1, d2, d3] }
  | _ => none }
def kdfLabelsRow : OpenClaim := { program := "ythnmebhljkccnaadoor", sum := "458692ad1831d38aeadd21f4fc714aa97bc3ddfd1d8a3df8a27d48f0254852b7", func := "hollowtree/hollowtreelaw05.KdfLabels", spec := "kdfLabels", unfollowed := true, recurses := true, named := ["hollowtree/sha.first"], apart := false, laid := [("hollowtree/sha.first", laid_hollowtree_sha_first)] }
def KdfLabelsSaid : Prop := kdfLabelsRow.holds Tryd.pinned (OpenSpec.ofChange kdfLabelsSpec)

/-- ITS FALSE NEIGHBOUR: 'it returns false'. Refute it at one input. -/
def kdfLabelsWrong : ChangeSpec := { name := "kdfLabels", fn := fun _ => fun
  | [d1, d2, d3] => { results := [.lit (.bool false)], args := [d1, d2, d3] }
  | _ => none }
def KdfLabelsWrongFalsely : Prop := kdfLabelsRow.holds Tryd.pinned (OpenSpec.ofChange kdfLabelsWrong)

/-- 'hollowtreelaw05.KdfParts': WHATEVER THE INPUT: true; the input reads as it did. -/
def kdfPartsSpec : ChangeSpec := { name := "kdfParts", fn := fun _ => fun
  | [d1, d2, d3] => { results := [.lit (.bool true)], args := [d1, d2, d3] }
  | _ => none }
def kdfPartsRow : OpenClaim := { program := "ythnmebhljkccnaadoor", sum := "458692ad1831d38aeadd21f4fc714aa97bc3ddfd1d8a3df8a27d48f0254852b7", func := "hollowtree/hollowtreelaw05.KdfParts", spec := "kdfParts", unfollowed := true, recurses := true, named := ["hollowtree/sha.first"], apart := false, laid := [("hollowtree/sha.first", laid_hollowtree_sha_first)] }
def KdfPartsSaid : Prop := kdfPartsRow.holds Tryd.pinned (OpenSpec.ofChange kdfPartsSpec)

/-- ITS FALSE NEIGHBOUR: 'it returns false'. Refute it at one input. -/
def kdfPartsWrong : ChangeSpec := { name := "kdfParts", fn := fun _ => fun
  | [d1, d2, d3] => { results := [.lit (.bool false)], args := [d1, d2, d3] }
  | _ => none }
def KdfPartsWrongFalsely : Prop := kdfPartsRow.holds Tryd.pinned (OpenSpec.ofChange kdfPartsWrong)

/-- 'hollowtreelaw05.KdfFewer': WHATEVER THE INPUT: true; the input reads as it did. -/
def kdfFewerSpec : ChangeSpec := { name := "kdfFewer", fn := fun _ => fun
  | [d1, d2, d3] => { results := [.lit (.bool true)], args := [d1, d2, d3] }
  | _ => none }
def kdfFewerRow : OpenClaim := { program := "ythnmebhljkccnaadoor", sum := "458692ad1831d38aeadd21f4fc714aa97bc3ddfd1d8a3df8a27d48f0254852b7", func := "hollowtree/hollowtreelaw05.KdfFewer", spec := "kdfFewer", unfollowed := true, recurses := true, named := ["hollowtree/sha.first"], apart := false, laid := [("hollowtree/sha.first", laid_hollowtree_sha_first)] }
def KdfFewerSaid : Prop := kdfFewerRow.holds Tryd.pinned (OpenSpec.ofChange kdfFewerSpec)

/-- ITS FALSE NEIGHBOUR: 'it returns false'. Refute it at one input. -/
def kdfFewerWrong : ChangeSpec := { name := "kdfFewer", fn := fun _ => fun
  | [d1, d2, d3] => { results := [.lit (.bool false)], args := [d1, d2, d3] }
  | _ => none }
def KdfFewerWrongFalsely : Prop := kdfFewerRow.holds Tryd.pinned (OpenSpec.ofChange kdfFewerWrong)

/-- 'hollowtreelaw05.KdfApart': WHATEVER THE INPUT: true; the input reads as it did. -/
def kdfApartSpec : ChangeSpec := { name := "kdfApart", fn := fun _ => fun
  | [d1, d2, d3] => { results := [.lit (.bool true)], args := [d1, d2, d3] }
  | _ => none }
def kdfApartRow : OpenClaim := { program := "ythnmebhljkccnaadoor", sum := "458692ad1831d38aeadd21f4fc714aa97bc3ddfd1d8a3df8a27d48f0254852b7", func := "hollowtree/hollowtreelaw05.KdfApart", spec := "kdfApart", unfollowed := true, recurses := true, named := ["hollowtree/sha.first"], apart := false, laid := [("hollowtree/sha.first", laid_hollowtree_sha_first)] }
def KdfApartSaid : Prop := kdfApartRow.holds Tryd.pinned (OpenSpec.ofChange kdfApartSpec)

/-- ITS FALSE NEIGHBOUR: 'it returns false'. Refute it at one input. -/
def kdfApartWrong : ChangeSpec := { name := "kdfApart", fn := fun _ => fun
  | [d1, d2, d3] => { results := [.lit (.bool false)], args := [d1, d2, d3] }
  | _ => none }
def KdfApartWrongFalsely : Prop := kdfApartRow.holds Tryd.pinned (OpenSpec.ofChange kdfApartWrong)

/- THE SECOND FORM. 'bulk': how many values and letters a reading holds, each counted each time it is reached (what is shared counts as often as it is met; a slice's spare places count too). A statement '..UptoSaid' is the law's where the arguments, and the package variables that the reading takes, are together of bulk at most 1048576: NARROWER than '..Said'. Prove '..Said' where nothing that the law and all that it calls make is longer than what came in: it says more and counts as full. Else prove '..UptoSaid'. A law counts once. -/
mutual
def uptoBulk {H : Type} : DataW H → Nat
  | .lit (.string bytes) => bytes.length + 1
  | .lit _ => 1
  | .nil => 1
  | .ptr d => uptoBulk d + 1
  | .slice elems spare => uptoBulkAll elems + uptoBulkAll spare + 1
  | .agg parts => uptoBulkAll parts + 1
  | .iface _ d => uptoBulk d + 1
  | .map entries => uptoBulkEntries entries + 1
  | .held _ => 1
def uptoBulkAll {H : Type} : List (DataW H) → Nat
  | [] => 0
  | d :: r => uptoBulk d + uptoBulkAll r
def uptoBulkEntries {H : Type} : List (Lit × DataW H) → Nat
  | [] => 0
  | x :: r => uptoBulkEntry x + uptoBulkEntries r
def uptoBulkEntry {H : Type} : Lit × DataW H → Nat
  | (.string bytes, d) => bytes.length + uptoBulk d + 1
  | (_, d) => uptoBulk d + 1
 end
def uptoSmall : (H : Type) → List (DataW H) → Bool := fun _ ds => decide (uptoBulkAll ds ≤ 1048576)
def OpenSpec.upto (s : _root_.Go.ChangeSpec) : _root_.Go.OpenSpec := { _root_.Go.OpenSpec.ofChange s with cond := some uptoSmall }

/-- 'hollowtreelaw05.KdfCodes', WHERE WHAT IT READS IS OF BULK AT MOST 1048576: true; the input reads as it did. -/
def kdfCodesUptoRow : OpenClaim := { program := "ythnmebhljkccnaadoor", sum := "458692ad1831d38aeadd21f4fc714aa97bc3ddfd1d8a3df8a27d48f0254852b7", func := "hollowtree/hollowtreelaw05.KdfCodes", spec := "kdfCodes", unfollowed := true, recurses := true, named := ["hollowtree/sha.first"], apart := false, laid := [("hollowtree/sha.first", laid_hollowtree_sha_first)], narrowed := true }
def KdfCodesUptoSaid : Prop := kdfCodesUptoRow.holds Tryd.pinned (OpenSpec.upto kdfCodesSpec)

/-- 'hollowtreelaw05.KdfSpreads', WHERE WHAT IT READS IS OF BULK AT MOST 1048576: true; the input reads as it did. -/
def kdfSpreadsUptoRow : OpenClaim := { program := "ythnmebhljkccnaadoor", sum := "458692ad1831d38aeadd21f4fc714aa97bc3ddfd1d8a3df8a27d48f0254852b7", func := "hollowtree/hollowtreelaw05.KdfSpreads", spec := "kdfSpreads", unfollowed := true, recurses := true, named := ["hollowtree/sha.first"], apart := false, laid := [("hollowtree/sha.first", laid_hollowtree_sha_first)], narrowed := true }
def KdfSpreadsUptoSaid : Prop := kdfSpreadsUptoRow.holds Tryd.pinned (OpenSpec.upto kdfSpreadsSpec)

/-- 'hollowtreelaw05.KdfLabels', WHERE WHAT IT READS IS OF BULK AT MOST 1048576: true; the input reads as it did. -/
def kdfLabelsUptoRow : OpenClaim := { program := "ythnmebhljkccnaadoor", sum := "458692ad1831d38aeadd21f4fc714aa97bc3ddfd1d8a3df8a27d48f0254852b7", func := "hollowtree/hollowtreelaw05.KdfLabels", spec := "kdfLabels", unfollowed := true, recurses := true, named := ["hollowtree/sha.first"], apart := false, laid := [("hollowtree/sha.first", laid_hollowtree_sha_first)], narrowed := true }
def KdfLabelsUptoSaid : Prop := kdfLabelsUptoRow.holds Tryd.pinned (OpenSpec.upto kdfLabelsSpec)

/-- 'hollowtreelaw05.KdfParts', WHERE WHAT IT READS IS OF BULK AT MOST 1048576: true; the input reads as it did. -/
def kdfPartsUptoRow : OpenClaim := { program := "ythnmebhljkccnaadoor", sum := "458692ad1831d38aeadd21f4fc714aa97bc3ddfd1d8a3df8a27d48f0254852b7", func := "hollowtree/hollowtreelaw05.KdfParts", spec := "kdfParts", unfollowed := true, recurses := true, named := ["hollowtree/sha.first"], apart := false, laid := [("hollowtree/sha.first", laid_hollowtree_sha_first)], narrowed := true }
def KdfPartsUptoSaid : Prop := kdfPartsUptoRow.holds Tryd.pinned (OpenSpec.upto kdfPartsSpec)

/-- 'hollowtreelaw05.KdfFewer', WHERE WHAT IT READS IS OF BULK AT MOST 1048576: true; the input reads as it did. -/
def kdfFewerUptoRow : OpenClaim := { program := "ythnmebhljkccnaadoor", sum := "458692ad1831d38aeadd21f4fc714aa97bc3ddfd1d8a3df8a27d48f0254852b7", func := "hollowtree/hollowtreelaw05.KdfFewer", spec := "kdfFewer", unfollowed := true, recurses := true, named := ["hollowtree/sha.first"], apart := false, laid := [("hollowtree/sha.first", laid_hollowtree_sha_first)], narrowed := true }
def KdfFewerUptoSaid : Prop := kdfFewerUptoRow.holds Tryd.pinned (OpenSpec.upto kdfFewerSpec)

/-- 'hollowtreelaw05.KdfApart', WHERE WHAT IT READS IS OF BULK AT MOST 1048576: true; the input reads as it did. -/
def kdfApartUptoRow : OpenClaim := { program := "ythnmebhljkccnaadoor", sum := "458692ad1831d38aeadd21f4fc714aa97bc3ddfd1d8a3df8a27d48f0254852b7", func := "hollowtree/hollowtreelaw05.KdfApart", spec := "kdfApart", unfollowed := true, recurses := true, named := ["hollowtree/sha.first"], apart := false, laid := [("hollowtree/sha.first", laid_hollowtree_sha_first)], narrowed := true }
def KdfApartUptoSaid : Prop := kdfApartUptoRow.holds Tryd.pinned (OpenSpec.upto kdfApartSpec)

end Rows
end Go.Proofs.YthnmebhljkccnaaDoor
