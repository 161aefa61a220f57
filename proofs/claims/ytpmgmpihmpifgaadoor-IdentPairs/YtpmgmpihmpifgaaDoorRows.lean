/-
  NARROWER THAN 'FOR EVERY INPUT', by the rows' own cells (each row's printed sentence says how): IdentNames: laid · IdentTexts: laid · IdentPairs: laid · IdentRounds: laid · IdentBack: laid · IdentShares: laid.
  DERIVED. THE GIVEN ROWS OF THIS SEAT. 6 by the template 'for every input the law returns true; each argument reads behind the call as it read before'; 0 by the template 'total and deterministic' (their statements: YtpmgmpihmpifgaaDoorTotals.lean).
  GIVEN WITH THE SEED: the statements are not yours to turn. If you find one false, say at which input.
  Laid BY PROGRAM, IN A SANDBOX (cutbox-rows.mjs): the forced cells as the released guide's own fill.sh prints them over the translation 50e7d5d9a50d0381… (all of the seat's roots in one cut). By AI agents, Wed Nov 11 2026. No macro, syntax, notation, axiom, sorry.
-/
import Derived.Test.YtpmgmpihmpifgaaDoorChecked
import GoSem.Claim
import GoSem.ClaimJoined
import GoSem.ClaimMapViews
import Derived.JoinedTies
import Derived.KernelRfl
namespace Go.Proofs.YtpmgmpihmpifgaaDoor
/- THE CELL 'sum', in the pinned program and in every row, IS THE sha256 OF THE DUMP (.gsa) THAT YtpmgmpihmpifgaaDoorProg.lean LOADS. Nothing in Lean hashes anything: it is a label: what it is worth is what the hold of that sum in a sandbox is worth. -/
noncomputable def Tryd.pinned : Pinned := { name := "ytpmgmpihmpifgaadoor", sum := "50e7d5d9a50d038184efb6daada079054b72d764374b076eae8accb279a55aa0", checked := Tryd.checked }
namespace Rows
def none {H : Type} : Left H := { results := [], args := [] }

/- WHAT THE LISTED PACKAGE-LEVEL VARIABLES READ AS WHEN THE CALL BEGINS. Each datum BY PROGRAM (the guide's laid-datum.mjs) off the statement by which the dump's own 'gosem.cut.vars' lays the variable. In a bare row this is a premise. The card (YtpmgmpihmpifgaaDoorCards.lean) ties it to the program's text. -/
def laid_hollowtree_sha_first {H : Type} : DataW H := .agg [.lit (.int .u32 1779033703), .lit (.int .u32 3144134277), .lit (.int .u32 1013904242), .lit (.int .u32 2773480762), .lit (.int .u32 1359893119), .lit (.int .u32 2600822924), .lit (.int .u32 528734635), .lit (.int .u32 1541459225)]

/-- 'hollowtreelaw16.IdentNames': WHATEVER THE INPUT: true; the input reads as it did. -/
def identNamesSpec : ChangeSpec := { name := "identNames", fn := fun _ => fun
  | [d] => { results := [.lit (.bool true)], args := [d] }
  | _ => none }
def identNamesRow : OpenClaim := { program := "ytpmgmpihmpifgaadoor", sum := "50e7d5d9a50d038184efb6daada079054b72d764374b076eae8accb279a55aa0", func := "hollowtree/hollowtreelaw16.IdentNames", spec := "identNames", named := ["hollowtree/sha.first"], apart := false, laid := [("hollowtree/sha.first", laid_hollowtree_sha_first)] }
def IdentNamesSaid : Prop := identNamesRow.holds Tryd.pinned (OpenSpec.ofChange identNamesSpec)

/-- ITS FALSE NEIGHBOUR: 'it returns false'. Refute it at one input. -/
def identNamesWrong : ChangeSpec := { name := "identNames", fn := fun _ => fun
  | [d] => { results := [.lit (.bool false)], args := [d] }
  | _ => none }
def IdentNamesWrongFalsely : Prop := identNamesRow.holds Tryd.pinned (OpenSpec.ofChange identNamesWrong)

/-- 'hollowtreelaw16.IdentTexts': WHATEVER THE INPUT: true; the input reads as it did. -/
def identTextsSpec : ChangeSpec := { name := "identTexts", fn := fun _ => fun
  | [d1, d2] => { results := [.lit (.bool true)], args := [d1, d2] }
  | _ => none }
def identTextsRow : OpenClaim := { program := "ytpmgmpihmpifgaadoor", sum := "50e7d5d9a50d038184efb6daada079054b72d764374b076eae8accb279a55aa0", func := "hollowtree/hollowtreelaw16.IdentTexts", spec := "identTexts", named := ["hollowtree/sha.first"], apart := false, laid := [("hollowtree/sha.first", laid_hollowtree_sha_first)] }
def IdentTextsSaid : Prop := identTextsRow.holds Tryd.pinned (OpenSpec.ofChange identTextsSpec)

/-- ITS FALSE NEIGHBOUR: 'it returns false'. Refute it at one input. -/
def identTextsWrong : ChangeSpec := { name := "identTexts", fn := fun _ => fun
  | [d1, d2] => { results := [.lit (.bool false)], args := [d1, d2] }
  | _ => none }
def IdentTextsWrongFalsely : Prop := identTextsRow.holds Tryd.pinned (OpenSpec.ofChange identTextsWrong)

/-- 'hollowtreelaw16.IdentPairs': WHATEVER THE INPUT: true; the input reads as it did. -/
def identPairsSpec : ChangeSpec := { name := "identPairs", fn := fun _ => fun
  | [d1, d2] => { results := [.lit (.bool true)], args := [d1, d2] }
  | _ => none }
def identPairsRow : OpenClaim := { program := "ytpmgmpihmpifgaadoor", sum := "50e7d5d9a50d038184efb6daada079054b72d764374b076eae8accb279a55aa0", func := "hollowtree/hollowtreelaw16.IdentPairs", spec := "identPairs", inPlace := ["math/bits.Add64"], unfollowed := true, recurses := true, named := ["hollowtree/sha.first"], apart := false, laid := [("hollowtree/sha.first", laid_hollowtree_sha_first)] }
def IdentPairsSaid : Prop := identPairsRow.holds Tryd.pinned (OpenSpec.ofChange identPairsSpec)

/-- ITS FALSE NEIGHBOUR: 'it returns false'. Refute it at one input. -/
def identPairsWrong : ChangeSpec := { name := "identPairs", fn := fun _ => fun
  | [d1, d2] => { results := [.lit (.bool false)], args := [d1, d2] }
  | _ => none }
def IdentPairsWrongFalsely : Prop := identPairsRow.holds Tryd.pinned (OpenSpec.ofChange identPairsWrong)

/-- 'hollowtreelaw16.IdentRounds': WHATEVER THE INPUT: true; the input reads as it did. -/
def identRoundsSpec : ChangeSpec := { name := "identRounds", fn := fun _ => fun
  | [d1, d2] => { results := [.lit (.bool true)], args := [d1, d2] }
  | _ => none }
def identRoundsRow : OpenClaim := { program := "ytpmgmpihmpifgaadoor", sum := "50e7d5d9a50d038184efb6daada079054b72d764374b076eae8accb279a55aa0", func := "hollowtree/hollowtreelaw16.IdentRounds", spec := "identRounds", unfollowed := true, recurses := true, named := ["hollowtree/sha.first"], apart := false, laid := [("hollowtree/sha.first", laid_hollowtree_sha_first)] }
def IdentRoundsSaid : Prop := identRoundsRow.holds Tryd.pinned (OpenSpec.ofChange identRoundsSpec)

/-- ITS FALSE NEIGHBOUR: 'it returns false'. Refute it at one input. -/
def identRoundsWrong : ChangeSpec := { name := "identRounds", fn := fun _ => fun
  | [d1, d2] => { results := [.lit (.bool false)], args := [d1, d2] }
  | _ => none }
def IdentRoundsWrongFalsely : Prop := identRoundsRow.holds Tryd.pinned (OpenSpec.ofChange identRoundsWrong)

/-- 'hollowtreelaw16.IdentBack': WHATEVER THE INPUT: true; the input reads as it did. -/
def identBackSpec : ChangeSpec := { name := "identBack", fn := fun _ => fun
  | [d1, d2] => { results := [.lit (.bool true)], args := [d1, d2] }
  | _ => none }
def identBackRow : OpenClaim := { program := "ytpmgmpihmpifgaadoor", sum := "50e7d5d9a50d038184efb6daada079054b72d764374b076eae8accb279a55aa0", func := "hollowtree/hollowtreelaw16.IdentBack", spec := "identBack", named := ["hollowtree/sha.first"], apart := false, laid := [("hollowtree/sha.first", laid_hollowtree_sha_first)] }
def IdentBackSaid : Prop := identBackRow.holds Tryd.pinned (OpenSpec.ofChange identBackSpec)

/-- ITS FALSE NEIGHBOUR: 'it returns false'. Refute it at one input. -/
def identBackWrong : ChangeSpec := { name := "identBack", fn := fun _ => fun
  | [d1, d2] => { results := [.lit (.bool false)], args := [d1, d2] }
  | _ => none }
def IdentBackWrongFalsely : Prop := identBackRow.holds Tryd.pinned (OpenSpec.ofChange identBackWrong)

/-- 'hollowtreelaw16.IdentShares': WHATEVER THE INPUT: true; the input reads as it did. -/
def identSharesSpec : ChangeSpec := { name := "identShares", fn := fun _ => fun
  | [d1, d2, d3] => { results := [.lit (.bool true)], args := [d1, d2, d3] }
  | _ => none }
def identSharesRow : OpenClaim := { program := "ytpmgmpihmpifgaadoor", sum := "50e7d5d9a50d038184efb6daada079054b72d764374b076eae8accb279a55aa0", func := "hollowtree/hollowtreelaw16.IdentShares", spec := "identShares", inPlace := ["math/bits.Add64"], unfollowed := true, recurses := true, named := ["hollowtree/sha.first"], apart := false, laid := [("hollowtree/sha.first", laid_hollowtree_sha_first)] }
def IdentSharesSaid : Prop := identSharesRow.holds Tryd.pinned (OpenSpec.ofChange identSharesSpec)

/-- ITS FALSE NEIGHBOUR: 'it returns false'. Refute it at one input. -/
def identSharesWrong : ChangeSpec := { name := "identShares", fn := fun _ => fun
  | [d1, d2, d3] => { results := [.lit (.bool false)], args := [d1, d2, d3] }
  | _ => none }
def IdentSharesWrongFalsely : Prop := identSharesRow.holds Tryd.pinned (OpenSpec.ofChange identSharesWrong)

/- THE SECOND FORM. 'bulk': how many values and letters a reading holds, each counted each time it is reached (what is shared counts as often as it is met; a slice's spare places count too). A statement '..UptoSaid' is the law's where the arguments, and the package variables that the reading takes, are together of bulk at most 1048576: NARROWER than '..Said'. Prove '..Said' where nothing that the law and all that it calls make is longer than what came in: it says more and counts as full. Else prove '..UptoSaid'. A law counts once. -/
mutual
def uptoBulk {H : Type} : DataW H → Nat
  | .lit (.string bytes) => bytes.length + 1
  | .lit _ => 1
  | .nil => 1
  | .ptr d => uptoBulk d + 1
  | .slice elems spare => uptoBulkAll elems + uptoBulkAll spare + 1
  | .agg parts => uptoBulkAll parts + 1
  | .iface _ d => uptoBulk d + 1
  | .map entries => uptoBulkEntries entries + 1
  | .held _ => 1
def uptoBulkAll {H : Type} : List (DataW H) → Nat
  | [] => 0
  | d :: r => uptoBulk d + uptoBulkAll r
def uptoBulkEntries {H : Type} : List (Lit × DataW H) → Nat
  | [] => 0
  | x :: r => uptoBulkEntry x + uptoBulkEntries r
def uptoBulkEntry {H : Type} : Lit × DataW H → Nat
  | (.string bytes, d) => bytes.length + uptoBulk d + 1
  | (_, d) => uptoBulk d + 1
 end
def uptoSmall : (H : Type) → List (DataW H) → Bool := fun _ ds => decide (uptoBulkAll ds ≤ 1048576)
def OpenSpec.upto (s : _root_.Go.ChangeSpec) : _root_.Go.OpenSpec := { _root_.Go.OpenSpec.ofChange s with cond := some uptoSmall }

/-- 'hollowtreelaw16.IdentNames', WHERE WHAT IT READS IS OF BULK AT MOST 1048576: true; the input reads as it did. -/
def identNamesUptoRow : OpenClaim := { program := "ytpmgmpihmpifgaadoor", sum := "50e7d5d9a50d038184efb6daada079054b72d764374b076eae8accb279a55aa0", func := "hollowtree/hollowtreelaw16.IdentNames", spec := "identNames", named := ["hollowtree/sha.first"], apart := false, laid := [("hollowtree/sha.first", laid_hollowtree_sha_first)], narrowed := true }
def IdentNamesUptoSaid : Prop := identNamesUptoRow.holds Tryd.pinned (OpenSpec.upto identNamesSpec)

/-- 'hollowtreelaw16.IdentTexts', WHERE WHAT IT READS IS OF BULK AT MOST 1048576: true; the input reads as it did. -/
def identTextsUptoRow : OpenClaim := { program := "ytpmgmpihmpifgaadoor", sum := "50e7d5d9a50d038184efb6daada079054b72d764374b076eae8accb279a55aa0", func := "hollowtree/hollowtreelaw16.IdentTexts", spec := "identTexts", named := ["hollowtree/sha.first"], apart := false, laid := [("hollowtree/sha.first", laid_hollowtree_sha_first)], narrowed := true }
def IdentTextsUptoSaid : Prop := identTextsUptoRow.holds Tryd.pinned (OpenSpec.upto identTextsSpec)

/-- 'hollowtreelaw16.IdentPairs', WHERE WHAT IT READS IS OF BULK AT MOST 1048576: true; the input reads as it did. -/
def identPairsUptoRow : OpenClaim := { program := "ytpmgmpihmpifgaadoor", sum := "50e7d5d9a50d038184efb6daada079054b72d764374b076eae8accb279a55aa0", func := "hollowtree/hollowtreelaw16.IdentPairs", spec := "identPairs", inPlace := ["math/bits.Add64"], unfollowed := true, recurses := true, named := ["hollowtree/sha.first"], apart := false, laid := [("hollowtree/sha.first", laid_hollowtree_sha_first)], narrowed := true }
def IdentPairsUptoSaid : Prop := identPairsUptoRow.holds Tryd.pinned (OpenSpec.upto identPairsSpec)

/-- 'hollowtreelaw16.IdentRounds', WHERE WHAT IT READS IS OF BULK AT MOST 1048576: true; the input reads as it did. -/
def identRoundsUptoRow : OpenClaim := { program := "ytpmgmpihmpifgaadoor", sum := "50e7d5d9a50d038184efb6daada079054b72d764374b076eae8accb279a55aa0", func := "hollowtree/hollowtreelaw16.IdentRounds", spec := "identRounds", unfollowed := true, recurses := true, named := ["hollowtree/sha.first"], apart := false, laid := [("hollowtree/sha.first", laid_hollowtree_sha_first)], narrowed := true }
def IdentRoundsUptoSaid : Prop := identRoundsUptoRow.holds Tryd.pinned (OpenSpec.upto identRoundsSpec)

/-- 'hollowtreelaw16.IdentBack', WHERE WHAT IT READS IS OF BULK AT MOST 1048576: true; the input reads as it did. -/
def identBackUptoRow : OpenClaim := { program := "ytpmgmpihmpifgaadoor", sum := "50e7d5d9a50d038184efb6daada079054b72d764374b076eae8accb279a55aa0", func := "hollowtree/hollowtreelaw16.IdentBack", spec := "identBack", named := ["hollowtree/sha.first"], apart := false, laid := [("hollowtree/sha.first", laid_hollowtree_sha_first)], narrowed := true }
def IdentBackUptoSaid : Prop := identBackUptoRow.holds Tryd.pinned (OpenSpec.upto identBackSpec)

/-- 'hollowtreelaw16.IdentShares', WHERE WHAT IT READS IS OF BULK AT MOST 1048576: true; the input reads as it did. -/
def identSharesUptoRow : OpenClaim := { program := "ytpmgmpihmpifgaadoor", sum := "50e7d5d9a50d038184efb6daada079054b72d764374b076eae8accb279a55aa0", func := "hollowtree/hollowtreelaw16.IdentShares", spec := "identShares", inPlace := ["math/bits.Add64"], unfollowed := true, recurses := true, named := ["hollowtree/sha.first"], apart := false, laid := [("hollowtree/sha.first", laid_hollowtree_sha_first)], narrowed := true }
def IdentSharesUptoSaid : Prop := identSharesUptoRow.holds Tryd.pinned (OpenSpec.upto identSharesSpec)

end Rows
end Go.Proofs.YtpmgmpihmpifgaaDoor
