/-
  No cell of these rows narrows 'for every input' (looked for: loops, veiled, ifaces, maps, wideKeys, modest, calm, conditions, laid).
  DERIVED. THE GIVEN ROWS OF THIS SEAT. 6 by the template 'for every input the law returns true; each argument reads behind the call as it read before'; 0 by the template 'total and deterministic' (their statements: YtgjejgaendlkjaaTotals.lean).
  GIVEN WITH THE SEED: the statements are not yours to turn. If you find one false, say at which input.
  Laid BY PROGRAM, IN A SANDBOX (cutbox-rows.mjs): the forced cells as the released guide's own fill.sh prints them over the translation 8cf4db043a9901e7… (all of the seat's roots in one cut). By AI agents, Wed Nov 11 2026. No macro, syntax, notation, axiom, sorry.
-/
import Derived.Test.YtgjejgaendlkjaaChecked
import GoSem.Claim
import GoSem.ClaimJoined
import GoSem.ClaimMapViews
import Derived.JoinedTies
import Derived.KernelRfl
namespace Go.Proofs.Ytgjejgaendlkjaa
/- THE CELL 'sum', in the pinned program and in every row, IS THE sha256 OF THE DUMP (.gsa) THAT YtgjejgaendlkjaaProg.lean LOADS. Nothing in Lean hashes anything: it is a label: what it is worth is what the hold of that sum in a sandbox is worth. -/
noncomputable def Try.pinned : Pinned := { name := "ytgjejgaendlkjaa", sum := "8cf4db043a9901e745756f2ac5dd1fe492101b4d23eae06f51ae49b2021d6166", checked := Try.checked }
namespace Rows
def none {H : Type} : Left H := { results := [], args := [] }

/-- 'hollowtreelaw07.PolyCodes': WHATEVER THE INPUT: true; the input reads as it did. -/
def polyCodesSpec : ChangeSpec := { name := "polyCodes", fn := fun _ => fun
  | [d1, d2] => { results := [.lit (.bool true)], args := [d1, d2] }
  | _ => none }
def polyCodesRow : OpenClaim := { program := "ytgjejgaendlkjaa", sum := "8cf4db043a9901e745756f2ac5dd1fe492101b4d23eae06f51ae49b2021d6166", func := "hollowtree/hollowtreelaw07.PolyCodes", spec := "polyCodes", apart := false }
def PolyCodesSaid : Prop := polyCodesRow.holds Try.pinned (OpenSpec.ofChange polyCodesSpec)

/-- ITS FALSE NEIGHBOUR: 'it returns false'. Refute it at one input. -/
def polyCodesWrong : ChangeSpec := { name := "polyCodes", fn := fun _ => fun
  | [d1, d2] => { results := [.lit (.bool false)], args := [d1, d2] }
  | _ => none }
def PolyCodesWrongFalsely : Prop := polyCodesRow.holds Try.pinned (OpenSpec.ofChange polyCodesWrong)

/-- 'hollowtreelaw07.PolyPieces': WHATEVER THE INPUT: true; the input reads as it did. -/
def polyPiecesSpec : ChangeSpec := { name := "polyPieces", fn := fun _ => fun
  | [d1, d2] => { results := [.lit (.bool true)], args := [d1, d2] }
  | _ => none }
def polyPiecesRow : OpenClaim := { program := "ytgjejgaendlkjaa", sum := "8cf4db043a9901e745756f2ac5dd1fe492101b4d23eae06f51ae49b2021d6166", func := "hollowtree/hollowtreelaw07.PolyPieces", spec := "polyPieces", apart := false }
def PolyPiecesSaid : Prop := polyPiecesRow.holds Try.pinned (OpenSpec.ofChange polyPiecesSpec)

/-- ITS FALSE NEIGHBOUR: 'it returns false'. Refute it at one input. -/
def polyPiecesWrong : ChangeSpec := { name := "polyPieces", fn := fun _ => fun
  | [d1, d2] => { results := [.lit (.bool false)], args := [d1, d2] }
  | _ => none }
def PolyPiecesWrongFalsely : Prop := polyPiecesRow.holds Try.pinned (OpenSpec.ofChange polyPiecesWrong)

/-- 'hollowtreelaw07.PolyNone': WHATEVER THE INPUT: true; the input reads as it did. -/
def polyNoneSpec : ChangeSpec := { name := "polyNone", fn := fun _ => fun
  | [d] => { results := [.lit (.bool true)], args := [d] }
  | _ => none }
def polyNoneRow : OpenClaim := { program := "ytgjejgaendlkjaa", sum := "8cf4db043a9901e745756f2ac5dd1fe492101b4d23eae06f51ae49b2021d6166", func := "hollowtree/hollowtreelaw07.PolyNone", spec := "polyNone", apart := false }
def PolyNoneSaid : Prop := polyNoneRow.holds Try.pinned (OpenSpec.ofChange polyNoneSpec)

/-- ITS FALSE NEIGHBOUR: 'it returns false'. Refute it at one input. -/
def polyNoneWrong : ChangeSpec := { name := "polyNone", fn := fun _ => fun
  | [d] => { results := [.lit (.bool false)], args := [d] }
  | _ => none }
def PolyNoneWrongFalsely : Prop := polyNoneRow.holds Try.pinned (OpenSpec.ofChange polyNoneWrong)

/-- 'hollowtreelaw07.PolyAddend': WHATEVER THE INPUT: true; the input reads as it did. -/
def polyAddendSpec : ChangeSpec := { name := "polyAddend", fn := fun _ => fun
  | [d1, d2] => { results := [.lit (.bool true)], args := [d1, d2] }
  | _ => none }
def polyAddendRow : OpenClaim := { program := "ytgjejgaendlkjaa", sum := "8cf4db043a9901e745756f2ac5dd1fe492101b4d23eae06f51ae49b2021d6166", func := "hollowtree/hollowtreelaw07.PolyAddend", spec := "polyAddend", apart := false }
def PolyAddendSaid : Prop := polyAddendRow.holds Try.pinned (OpenSpec.ofChange polyAddendSpec)

/-- ITS FALSE NEIGHBOUR: 'it returns false'. Refute it at one input. -/
def polyAddendWrong : ChangeSpec := { name := "polyAddend", fn := fun _ => fun
  | [d1, d2] => { results := [.lit (.bool false)], args := [d1, d2] }
  | _ => none }
def PolyAddendWrongFalsely : Prop := polyAddendRow.holds Try.pinned (OpenSpec.ofChange polyAddendWrong)

/-- 'hollowtreelaw07.PolyClamped': WHATEVER THE INPUT: true; the input reads as it did. -/
def polyClampedSpec : ChangeSpec := { name := "polyClamped", fn := fun _ => fun
  | [d1, d2, d3] => { results := [.lit (.bool true)], args := [d1, d2, d3] }
  | _ => none }
def polyClampedRow : OpenClaim := { program := "ytgjejgaendlkjaa", sum := "8cf4db043a9901e745756f2ac5dd1fe492101b4d23eae06f51ae49b2021d6166", func := "hollowtree/hollowtreelaw07.PolyClamped", spec := "polyClamped", apart := false }
def PolyClampedSaid : Prop := polyClampedRow.holds Try.pinned (OpenSpec.ofChange polyClampedSpec)

/-- ITS FALSE NEIGHBOUR: 'it returns false'. Refute it at one input. -/
def polyClampedWrong : ChangeSpec := { name := "polyClamped", fn := fun _ => fun
  | [d1, d2, d3] => { results := [.lit (.bool false)], args := [d1, d2, d3] }
  | _ => none }
def PolyClampedWrongFalsely : Prop := polyClampedRow.holds Try.pinned (OpenSpec.ofChange polyClampedWrong)

/-- 'hollowtreelaw07.PolyMoved': WHATEVER THE INPUT: true; the input reads as it did. -/
def polyMovedSpec : ChangeSpec := { name := "polyMoved", fn := fun _ => fun
  | [d1, d2] => { results := [.lit (.bool true)], args := [d1, d2] }
  | _ => none }
def polyMovedRow : OpenClaim := { program := "ytgjejgaendlkjaa", sum := "8cf4db043a9901e745756f2ac5dd1fe492101b4d23eae06f51ae49b2021d6166", func := "hollowtree/hollowtreelaw07.PolyMoved", spec := "polyMoved", apart := false }
def PolyMovedSaid : Prop := polyMovedRow.holds Try.pinned (OpenSpec.ofChange polyMovedSpec)

/-- ITS FALSE NEIGHBOUR: 'it returns false'. Refute it at one input. -/
def polyMovedWrong : ChangeSpec := { name := "polyMoved", fn := fun _ => fun
  | [d1, d2] => { results := [.lit (.bool false)], args := [d1, d2] }
  | _ => none }
def PolyMovedWrongFalsely : Prop := polyMovedRow.holds Try.pinned (OpenSpec.ofChange polyMovedWrong)

/- THE SECOND FORM. 'bulk': how many values and letters a reading holds, each counted each time it is reached (what is shared counts as often as it is met; a slice's spare places count too). A statement '..UptoSaid' is the law's where the arguments, and the package variables that the reading takes, are together of bulk at most 1048576: NARROWER than '..Said'. Prove '..Said' where nothing that the law and all that it calls make is longer than what came in: it says more and counts as full. Else prove '..UptoSaid'. A law counts once. -/
mutual
def uptoBulk {H : Type} : DataW H → Nat
  | .lit (.string bytes) => bytes.length + 1
  | .lit _ => 1
  | .nil => 1
  | .ptr d => uptoBulk d + 1
  | .slice elems spare => uptoBulkAll elems + uptoBulkAll spare + 1
  | .agg parts => uptoBulkAll parts + 1
  | .iface _ d => uptoBulk d + 1
  | .map entries => uptoBulkEntries entries + 1
  | .held _ => 1
def uptoBulkAll {H : Type} : List (DataW H) → Nat
  | [] => 0
  | d :: r => uptoBulk d + uptoBulkAll r
def uptoBulkEntries {H : Type} : List (Lit × DataW H) → Nat
  | [] => 0
  | x :: r => uptoBulkEntry x + uptoBulkEntries r
def uptoBulkEntry {H : Type} : Lit × DataW H → Nat
  | (.string bytes, d) => bytes.length + uptoBulk d + 1
  | (_, d) => uptoBulk d + 1
 end
def uptoSmall : (H : Type) → List (DataW H) → Bool := fun _ ds => decide (uptoBulkAll ds ≤ 1048576)
def OpenSpec.upto (s : _root_.Go.ChangeSpec) : _root_.Go.OpenSpec := { _root_.Go.OpenSpec.ofChange s with cond := some uptoSmall }

/-- 'hollowtreelaw07.PolyCodes', WHERE WHAT IT READS IS OF BULK AT MOST 1048576: true; the input reads as it did. -/
def polyCodesUptoRow : OpenClaim := { program := "ytgjejgaendlkjaa", sum := "8cf4db043a9901e745756f2ac5dd1fe492101b4d23eae06f51ae49b2021d6166", func := "hollowtree/hollowtreelaw07.PolyCodes", spec := "polyCodes", apart := false, narrowed := true }
def PolyCodesUptoSaid : Prop := polyCodesUptoRow.holds Try.pinned (OpenSpec.upto polyCodesSpec)

/-- 'hollowtreelaw07.PolyPieces', WHERE WHAT IT READS IS OF BULK AT MOST 1048576: true; the input reads as it did. -/
def polyPiecesUptoRow : OpenClaim := { program := "ytgjejgaendlkjaa", sum := "8cf4db043a9901e745756f2ac5dd1fe492101b4d23eae06f51ae49b2021d6166", func := "hollowtree/hollowtreelaw07.PolyPieces", spec := "polyPieces", apart := false, narrowed := true }
def PolyPiecesUptoSaid : Prop := polyPiecesUptoRow.holds Try.pinned (OpenSpec.upto polyPiecesSpec)

/-- 'hollowtreelaw07.PolyNone', WHERE WHAT IT READS IS OF BULK AT MOST 1048576: true; the input reads as it did. -/
def polyNoneUptoRow : OpenClaim := { program := "ytgjejgaendlkjaa", sum := "8cf4db043a9901e745756f2ac5dd1fe492101b4d23eae06f51ae49b2021d6166", func := "hollowtree/hollowtreelaw07.PolyNone", spec := "polyNone", apart := false, narrowed := true }
def PolyNoneUptoSaid : Prop := polyNoneUptoRow.holds Try.pinned (OpenSpec.upto polyNoneSpec)

/-- 'hollowtreelaw07.PolyAddend', WHERE WHAT IT READS IS OF BULK AT MOST 1048576: true; the input reads as it did. -/
def polyAddendUptoRow : OpenClaim := { program := "ytgjejgaendlkjaa", sum := "8cf4db043a9901e745756f2ac5dd1fe492101b4d23eae06f51ae49b2021d6166", func := "hollowtree/hollowtreelaw07.PolyAddend", spec := "polyAddend", apart := false, narrowed := true }
def PolyAddendUptoSaid : Prop := polyAddendUptoRow.holds Try.pinned (OpenSpec.upto polyAddendSpec)

/-- 'hollowtreelaw07.PolyClamped', WHERE WHAT IT READS IS OF BULK AT MOST 1048576: true; the input reads as it did. -/
def polyClampedUptoRow : OpenClaim := { program := "ytgjejgaendlkjaa", sum := "8cf4db043a9901e745756f2ac5dd1fe492101b4d23eae06f51ae49b2021d6166", func := "hollowtree/hollowtreelaw07.PolyClamped", spec := "polyClamped", apart := false, narrowed := true }
def PolyClampedUptoSaid : Prop := polyClampedUptoRow.holds Try.pinned (OpenSpec.upto polyClampedSpec)

/-- 'hollowtreelaw07.PolyMoved', WHERE WHAT IT READS IS OF BULK AT MOST 1048576: true; the input reads as it did. -/
def polyMovedUptoRow : OpenClaim := { program := "ytgjejgaendlkjaa", sum := "8cf4db043a9901e745756f2ac5dd1fe492101b4d23eae06f51ae49b2021d6166", func := "hollowtree/hollowtreelaw07.PolyMoved", spec := "polyMoved", apart := false, narrowed := true }
def PolyMovedUptoSaid : Prop := polyMovedUptoRow.holds Try.pinned (OpenSpec.upto polyMovedSpec)

end Rows
end Go.Proofs.Ytgjejgaendlkjaa
