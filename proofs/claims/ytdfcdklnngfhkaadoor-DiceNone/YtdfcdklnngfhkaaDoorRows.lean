/-
  NARROWER THAN 'FOR EVERY INPUT', by the rows' own cells (each row's printed sentence says how): DiceDraws: laid · DiceForks: laid · DiceNone: laid · DiceParts: laid · DiceOrders: laid · DiceApart: laid.
  DERIVED. THE GIVEN ROWS OF THIS SEAT. 6 by the template 'for every input the law returns true; each argument reads behind the call as it read before'; 0 by the template 'total and deterministic' (their statements: YtdfcdklnngfhkaaDoorTotals.lean).
  GIVEN WITH THE SEED: the statements are not yours to turn. If you find one false, say at which input.
  Laid BY PROGRAM, IN A SANDBOX (cutbox-rows.mjs): the forced cells as the released guide's own fill.sh prints them over the translation f5868ebdd87a235a… (all of the seat's roots in one cut). By AI agents, Wed Nov 11 2026. No macro, syntax, notation, axiom, sorry.
-/
import Derived.Test.YtdfcdklnngfhkaaDoorChecked
import GoSem.Claim
import GoSem.ClaimJoined
import GoSem.ClaimMapViews
import Derived.JoinedTies
import Derived.KernelRfl
namespace Go.Proofs.YtdfcdklnngfhkaaDoor
/- THE CELL 'sum', in the pinned program and in every row, IS THE sha256 OF THE DUMP (.gsa) THAT YtdfcdklnngfhkaaDoorProg.lean LOADS. Nothing in Lean hashes anything: it is a label: what it is worth is what the hold of that sum in a sandbox is worth. -/
noncomputable def Tryd.pinned : Pinned := { name := "ytdfcdklnngfhkaadoor", sum := "f5868ebdd87a235a73f840f5fa2a167c003a567fc82c8a1bb5ed3dce90033cc1", checked := Tryd.checked }
namespace Rows
def none {H : Type} : Left H := { results := [], args := [] }

/- WHAT THE LISTED PACKAGE-LEVEL VARIABLES READ AS WHEN THE CALL BEGINS. Each datum BY PROGRAM (the guide's laid-datum.mjs) off the statement by which the dump's own 'gosem.cut.vars' lays the variable. In a bare row this is a premise. The card (YtdfcdklnngfhkaaDoorCards.lean) ties it to the program's text. -/
def laid_hollowtree_sha_first {H : Type} : DataW H := .agg [.lit (.int .u32 1779033703), .lit (.int .u32 3144134277), .lit (.int .u32 1013904242), .lit (.int .u32 2773480762), .lit (.int .u32 1359893119), .lit (.int .u32 2600822924), .lit (.int .u32 528734635), .lit (.int .u32 1541459225)]

/-- 'hollowtreelaw09.DiceDraws': WHATEVER THE INPUT: true; the input reads as it did. -/
def diceDrawsSpec : ChangeSpec := { name := "diceDraws", fn := fun _ => fun
  | [d1, d2] => { results := [.lit (.bool true)], args := [d1, d2] }
  | _ => none }
def diceDrawsRow : OpenClaim := { program := "ytdfcdklnngfhkaadoor", sum := "f5868ebdd87a235a73f840f5fa2a167c003a567fc82c8a1bb5ed3dce90033cc1", func := "hollowtree/hollowtreelaw09.DiceDraws", spec := "diceDraws", unfollowed := true, recurses := true, named := ["hollowtree/sha.first"], apart := false, laid := [("hollowtree/sha.first", laid_hollowtree_sha_first)] }
def DiceDrawsSaid : Prop := diceDrawsRow.holds Tryd.pinned (OpenSpec.ofChange diceDrawsSpec)

/-- ITS FALSE NEIGHBOUR: 'it returns false'. Refute it at one input. -/
def diceDrawsWrong : ChangeSpec := { name := "diceDraws", fn := fun _ => fun
  | [d1, d2] => { results := [.lit (.bool false)], args := [d1, d2] }
  | _ => none }
def DiceDrawsWrongFalsely : Prop := diceDrawsRow.holds Tryd.pinned (OpenSpec.ofChange diceDrawsWrong)

/-- 'hollowtreelaw09.DiceForks': WHATEVER THE INPUT: true; the input reads as it did. -/
def diceForksSpec : ChangeSpec := { name := "diceForks", fn := fun _ => fun
  | [d1, d2, d3] => { results := [.lit (.bool true)], args := [d1, d2, d3] }
  | _ => none }
def diceForksRow : OpenClaim := { program := "ytdfcdklnngfhkaadoor", sum := "f5868ebdd87a235a73f840f5fa2a167c003a567fc82c8a1bb5ed3dce90033cc1", func := "hollowtree/hollowtreelaw09.DiceForks", spec := "diceForks", unfollowed := true, recurses := true, named := ["hollowtree/sha.first"], apart := false, laid := [("hollowtree/sha.first", laid_hollowtree_sha_first)] }
def DiceForksSaid : Prop := diceForksRow.holds Tryd.pinned (OpenSpec.ofChange diceForksSpec)

/-- ITS FALSE NEIGHBOUR: 'it returns false'. Refute it at one input. -/
def diceForksWrong : ChangeSpec := { name := "diceForks", fn := fun _ => fun
  | [d1, d2, d3] => { results := [.lit (.bool false)], args := [d1, d2, d3] }
  | _ => none }
def DiceForksWrongFalsely : Prop := diceForksRow.holds Tryd.pinned (OpenSpec.ofChange diceForksWrong)

/-- 'hollowtreelaw09.DiceNone': WHATEVER THE INPUT: true; the input reads as it did. -/
def diceNoneSpec : ChangeSpec := { name := "diceNone", fn := fun _ => fun
  | [d] => { results := [.lit (.bool true)], args := [d] }
  | _ => none }
def diceNoneRow : OpenClaim := { program := "ytdfcdklnngfhkaadoor", sum := "f5868ebdd87a235a73f840f5fa2a167c003a567fc82c8a1bb5ed3dce90033cc1", func := "hollowtree/hollowtreelaw09.DiceNone", spec := "diceNone", unfollowed := true, recurses := true, named := ["hollowtree/sha.first"], apart := false, laid := [("hollowtree/sha.first", laid_hollowtree_sha_first)] }
def DiceNoneSaid : Prop := diceNoneRow.holds Tryd.pinned (OpenSpec.ofChange diceNoneSpec)

/-- ITS FALSE NEIGHBOUR: 'it returns false'. Refute it at one input. -/
def diceNoneWrong : ChangeSpec := { name := "diceNone", fn := fun _ => fun
  | [d] => { results := [.lit (.bool false)], args := [d] }
  | _ => none }
def DiceNoneWrongFalsely : Prop := diceNoneRow.holds Tryd.pinned (OpenSpec.ofChange diceNoneWrong)

/-- 'hollowtreelaw09.DiceParts': WHATEVER THE INPUT: true; the input reads as it did. -/
def dicePartsSpec : ChangeSpec := { name := "diceParts", fn := fun _ => fun
  | [d1, d2, d3] => { results := [.lit (.bool true)], args := [d1, d2, d3] }
  | _ => none }
def dicePartsRow : OpenClaim := { program := "ytdfcdklnngfhkaadoor", sum := "f5868ebdd87a235a73f840f5fa2a167c003a567fc82c8a1bb5ed3dce90033cc1", func := "hollowtree/hollowtreelaw09.DiceParts", spec := "diceParts", unfollowed := true, recurses := true, named := ["hollowtree/sha.first"], apart := false, laid := [("hollowtree/sha.first", laid_hollowtree_sha_first)] }
def DicePartsSaid : Prop := dicePartsRow.holds Tryd.pinned (OpenSpec.ofChange dicePartsSpec)

/-- ITS FALSE NEIGHBOUR: 'it returns false'. Refute it at one input. -/
def dicePartsWrong : ChangeSpec := { name := "diceParts", fn := fun _ => fun
  | [d1, d2, d3] => { results := [.lit (.bool false)], args := [d1, d2, d3] }
  | _ => none }
def DicePartsWrongFalsely : Prop := dicePartsRow.holds Tryd.pinned (OpenSpec.ofChange dicePartsWrong)

/-- 'hollowtreelaw09.DiceOrders': WHATEVER THE INPUT: true; the input reads as it did. -/
def diceOrdersSpec : ChangeSpec := { name := "diceOrders", fn := fun _ => fun
  | [d1, d2] => { results := [.lit (.bool true)], args := [d1, d2] }
  | _ => none }
def diceOrdersRow : OpenClaim := { program := "ytdfcdklnngfhkaadoor", sum := "f5868ebdd87a235a73f840f5fa2a167c003a567fc82c8a1bb5ed3dce90033cc1", func := "hollowtree/hollowtreelaw09.DiceOrders", spec := "diceOrders", unfollowed := true, recurses := true, named := ["hollowtree/sha.first"], apart := false, laid := [("hollowtree/sha.first", laid_hollowtree_sha_first)] }
def DiceOrdersSaid : Prop := diceOrdersRow.holds Tryd.pinned (OpenSpec.ofChange diceOrdersSpec)

/-- ITS FALSE NEIGHBOUR: 'it returns false'. Refute it at one input. -/
def diceOrdersWrong : ChangeSpec := { name := "diceOrders", fn := fun _ => fun
  | [d1, d2] => { results := [.lit (.bool false)], args := [d1, d2] }
  | _ => none }
def DiceOrdersWrongFalsely : Prop := diceOrdersRow.holds Tryd.pinned (OpenSpec.ofChange diceOrdersWrong)

/-- 'hollowtreelaw09.DiceApart': WHATEVER THE INPUT: true; the input reads as it did. -/
def diceApartSpec : ChangeSpec := { name := "diceApart", fn := fun _ => fun
  | [d1, d2, d3] => { results := [.lit (.bool true)], args := [d1, d2, d3] }
  | _ => none }
def diceApartRow : OpenClaim := { program := "ytdfcdklnngfhkaadoor", sum := "f5868ebdd87a235a73f840f5fa2a167c003a567fc82c8a1bb5ed3dce90033cc1", func := "hollowtree/hollowtreelaw09.DiceApart", spec := "diceApart", unfollowed := true, recurses := true, named := ["hollowtree/sha.first"], apart := false, laid := [("hollowtree/sha.first", laid_hollowtree_sha_first)] }
def DiceApartSaid : Prop := diceApartRow.holds Tryd.pinned (OpenSpec.ofChange diceApartSpec)

/-- ITS FALSE NEIGHBOUR: 'it returns false'. Refute it at one input. -/
def diceApartWrong : ChangeSpec := { name := "diceApart", fn := fun _ => fun
  | [d1, d2, d3] => { results := [.lit (.bool false)], args := [d1, d2, d3] }
  | _ => none }
def DiceApartWrongFalsely : Prop := diceApartRow.holds Tryd.pinned (OpenSpec.ofChange diceApartWrong)

/- THE SECOND FORM. 'bulk': how many values and letters a reading holds, each counted each time it is reached (what is shared counts as often as it is met; a slice's spare places count too). A statement '..UptoSaid' is the law's where the arguments, and the package variables that the reading takes, are together of bulk at most 1048576: NARROWER than '..Said'. Prove '..Said' where nothing that the law and all that it calls make is longer than what came in: it says more and counts as full. Else prove '..UptoSaid'. A law counts once. -/
mutual
def uptoBulk {H : Type} : DataW H → Nat
  | .lit (.string bytes) => bytes.length + 1
  | .lit _ => 1
  | .nil => 1
  | .ptr d => uptoBulk d + 1
  | .slice elems spare => uptoBulkAll elems + uptoBulkAll spare + 1
  | .agg parts => uptoBulkAll parts + 1
  | .iface _ d => uptoBulk d + 1
  | .map entries => uptoBulkEntries entries + 1
  | .held _ => 1
def uptoBulkAll {H : Type} : List (DataW H) → Nat
  | [] => 0
  | d :: r => uptoBulk d + uptoBulkAll r
def uptoBulkEntries {H : Type} : List (Lit × DataW H) → Nat
  | [] => 0
  | x :: r => uptoBulkEntry x + uptoBulkEntries r
def uptoBulkEntry {H : Type} : Lit × DataW H → Nat
  | (.string bytes, d) => bytes.length + uptoBulk d + 1
  | (_, d) => uptoBulk d + 1
 end
def uptoSmall : (H : Type) → List (DataW H) → Bool := fun _ ds => decide (uptoBulkAll ds ≤ 1048576)
def OpenSpec.upto (s : _root_.Go.ChangeSpec) : _root_.Go.OpenSpec := { _root_.Go.OpenSpec.ofChange s with cond := some uptoSmall }

/-- 'hollowtreelaw09.DiceDraws', WHERE WHAT IT READS IS OF BULK AT MOST 1048576: true; the input reads as it did. -/
def diceDrawsUptoRow : OpenClaim := { program := "ytdfcdklnngfhkaadoor", sum := "f5868ebdd87a235a73f840f5fa2a167c003a567fc82c8a1bb5ed3dce90033cc1", func := "hollowtree/hollowtreelaw09.DiceDraws", spec := "diceDraws", unfollowed := true, recurses := true, named := ["hollowtree/sha.first"], apart := false, laid := [("hollowtree/sha.first", laid_hollowtree_sha_first)], narrowed := true }
def DiceDrawsUptoSaid : Prop := diceDrawsUptoRow.holds Tryd.pinned (OpenSpec.upto diceDrawsSpec)

/-- 'hollowtreelaw09.DiceForks', WHERE WHAT IT READS IS OF BULK AT MOST 1048576: true; the input reads as it did. -/
def diceForksUptoRow : OpenClaim := { program := "ytdfcdklnngfhkaadoor", sum := "f5868ebdd87a235a73f840f5fa2a167c003a567fc82c8a1bb5ed3dce90033cc1", func := "hollowtree/hollowtreelaw09.DiceForks", spec := "diceForks", unfollowed := true, recurses := true, named := ["hollowtree/sha.first"], apart := false, laid := [("hollowtree/sha.first", laid_hollowtree_sha_first)], narrowed := true }
def DiceForksUptoSaid : Prop := diceForksUptoRow.holds Tryd.pinned (OpenSpec.upto diceForksSpec)

/-- 'hollowtreelaw09.DiceNone', WHERE WHAT IT READS IS OF BULK AT MOST 1048576: true; the input reads as it did. -/
def diceNoneUptoRow : OpenClaim := { program := "ytdfcdklnngfhkaadoor", sum := "f5868ebdd87a235a73f840f5fa2a167c003a567fc82c8a1bb5ed3dce90033cc1", func := "hollowtree/hollowtreelaw09.DiceNone", spec := "diceNone", unfollowed := true, recurses := true, named := ["hollowtree/sha.first"], apart := false, laid := [("hollowtree/sha.first", laid_hollowtree_sha_first)], narrowed := true }
def DiceNoneUptoSaid : Prop := diceNoneUptoRow.holds Tryd.pinned (OpenSpec.upto diceNoneSpec)

/-- 'hollowtreelaw09.DiceParts', WHERE WHAT IT READS IS OF BULK AT MOST 1048576: true; the input reads as it did. -/
def dicePartsUptoRow : OpenClaim := { program := "ytdfcdklnngfhkaadoor", sum := "f5868ebdd87a235a73f840f5fa2a167c003a567fc82c8a1bb5ed3dce90033cc1", func := "hollowtree/hollowtreelaw09.DiceParts", spec := "diceParts", unfollowed := true, recurses := true, named := ["hollowtree/sha.first"], apart := false, laid := [("hollowtree/sha.first", laid_hollowtree_sha_first)], narrowed := true }
def DicePartsUptoSaid : Prop := dicePartsUptoRow.holds Tryd.pinned (OpenSpec.upto dicePartsSpec)

/-- 'hollowtreelaw09.DiceOrders', WHERE WHAT IT READS IS OF BULK AT MOST 1048576: true; the input reads as it did. -/
def diceOrdersUptoRow : OpenClaim := { program := "ytdfcdklnngfhkaadoor", sum := "f5868ebdd87a235a73f840f5fa2a167c003a567fc82c8a1bb5ed3dce90033cc1", func := "hollowtree/hollowtreelaw09.DiceOrders", spec := "diceOrders", unfollowed := true, recurses := true, named := ["hollowtree/sha.first"], apart := false, laid := [("hollowtree/sha.first", laid_hollowtree_sha_first)], narrowed := true }
def DiceOrdersUptoSaid : Prop := diceOrdersUptoRow.holds Tryd.pinned (OpenSpec.upto diceOrdersSpec)

/-- 'hollowtreelaw09.DiceApart', WHERE WHAT IT READS IS OF BULK AT MOST 1048576: true; the input reads as it did. -/
def diceApartUptoRow : OpenClaim := { program := "ytdfcdklnngfhkaadoor", sum := "f5868ebdd87a235a73f840f5fa2a167c003a567fc82c8a1bb5ed3dce90033cc1", func := "hollowtree/hollowtreelaw09.DiceApart", spec := "diceApart", unfollowed := true, recurses := true, named := ["hollowtree/sha.first"], apart := false, laid := [("hollowtree/sha.first", laid_hollowtree_sha_first)], narrowed := true }
def DiceApartUptoSaid : Prop := diceApartUptoRow.holds Tryd.pinned (OpenSpec.upto diceApartSpec)

end Rows
end Go.Proofs.YtdfcdklnngfhkaaDoor
