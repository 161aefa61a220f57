/-
  NARROWER THAN 'FOR EVERY INPUT', by the rows' own cells (each row's printed sentence says how): ShaSums: laid · ShaPieces: laid · ShaPads: laid · ShaNone: laid · ShaCopies: laid · ShaWhole: laid.
  DERIVED. THE GIVEN ROWS OF THIS SEAT. 6 by the template 'for every input the law returns true; each argument reads behind the call as it read before'; 0 by the template 'total and deterministic' (their statements: YtnjgcenanpkelaaDoorTotals.lean).
  GIVEN WITH THE SEED: the statements are not yours to turn. If you find one false, say at which input.
  Laid BY PROGRAM, IN A SANDBOX (cutbox-rows.mjs): the forced cells as the released guide's own fill.sh prints them over the translation aa2ef40edf81ecab… (all of the seat's roots in one cut). By AI agents, Wed Nov 11 2026. No macro, syntax, notation, axiom, sorry.
-/
import Derived.Test.YtnjgcenanpkelaaDoorChecked
import GoSem.Claim
import GoSem.ClaimJoined
import GoSem.ClaimMapViews
import Derived.JoinedTies
import Derived.KernelRfl
namespace Go.Proofs.YtnjgcenanpkelaaDoor
/- THE CELL 'sum', in the pinned program and in every row, IS THE sha256 OF THE DUMP (.gsa) THAT YtnjgcenanpkelaaDoorProg.lean LOADS. Nothing in Lean hashes anything: it is a label: what it is worth is what the hold of that sum in a sandbox is worth. -/
noncomputable def Tryd.pinned : Pinned := { name := "ytnjgcenanpkelaadoor", sum := "aa2ef40edf81ecab0cb732ef6297d2041be3e5fec359f9a2963f4f9218fa12b2", checked := Tryd.checked }
namespace Rows
def none {H : Type} : Left H := { results := [], args := [] }

/- WHAT THE LISTED PACKAGE-LEVEL VARIABLES READ AS WHEN THE CALL BEGINS. Each datum BY PROGRAM (the guide's laid-datum.mjs) off the statement by which the dump's own 'gosem.cut.vars' lays the variable. In a bare row this is a premise. The card (YtnjgcenanpkelaaDoorCards.lean) ties it to the program's text. -/
def laid_hollowtree_sha_first {H : Type} : DataW H := .agg [.lit (.int .u32 1779033703), .lit (.int .u32 3144134277), .lit (.int .u32 1013904242), .lit (.int .u32 2773480762), .lit (.int .u32 1359893119), .lit (.int .u32 2600822924), .lit (.int .u32 528734635), .lit (.int .u32 1541459225)]

/-- 'hollowtreelaw04.ShaSums': WHATEVER THE INPUT: true; the input reads as it did. -/
def shaSumsSpec : ChangeSpec := { name := "shaSums", fn := fun _ => fun
  | [d] => { results := [.lit (.bool true)], args := [d] }
  | _ => none }
def shaSumsRow : OpenClaim := { program := "ytnjgcenanpkelaadoor", sum := "aa2ef40edf81ecab0cb732ef6297d2041be3e5fec359f9a2963f4f9218fa12b2", func := "hollowtree/hollowtreelaw04.ShaSums", spec := "shaSums", named := ["hollowtree/sha.first"], apart := false, laid := [("hollowtree/sha.first", laid_hollowtree_sha_first)] }
def ShaSumsSaid : Prop := shaSumsRow.holds Tryd.pinned (OpenSpec.ofChange shaSumsSpec)

/-- ITS FALSE NEIGHBOUR: 'it returns false'. Refute it at one input. -/
def shaSumsWrong : ChangeSpec := { name := "shaSums", fn := fun _ => fun
  | [d] => { results := [.lit (.bool false)], args := [d] }
  | _ => none }
def ShaSumsWrongFalsely : Prop := shaSumsRow.holds Tryd.pinned (OpenSpec.ofChange shaSumsWrong)

/-- 'hollowtreelaw04.ShaPieces': WHATEVER THE INPUT: true; the input reads as it did. -/
def shaPiecesSpec : ChangeSpec := { name := "shaPieces", fn := fun _ => fun
  | [d] => { results := [.lit (.bool true)], args := [d] }
  | _ => none }
def shaPiecesRow : OpenClaim := { program := "ytnjgcenanpkelaadoor", sum := "aa2ef40edf81ecab0cb732ef6297d2041be3e5fec359f9a2963f4f9218fa12b2", func := "hollowtree/hollowtreelaw04.ShaPieces", spec := "shaPieces", named := ["hollowtree/sha.first"], apart := false, laid := [("hollowtree/sha.first", laid_hollowtree_sha_first)] }
def ShaPiecesSaid : Prop := shaPiecesRow.holds Tryd.pinned (OpenSpec.ofChange shaPiecesSpec)

/-- ITS FALSE NEIGHBOUR: 'it returns false'. Refute it at one input. -/
def shaPiecesWrong : ChangeSpec := { name := "shaPieces", fn := fun _ => fun
  | [d] => { results := [.lit (.bool false)], args := [d] }
  | _ => none }
def ShaPiecesWrongFalsely : Prop := shaPiecesRow.holds Tryd.pinned (OpenSpec.ofChange shaPiecesWrong)

/-- 'hollowtreelaw04.ShaPads': WHATEVER THE INPUT: true; the input reads as it did. -/
def shaPadsSpec : ChangeSpec := { name := "shaPads", fn := fun _ => fun
  | [d] => { results := [.lit (.bool true)], args := [d] }
  | _ => none }
def shaPadsRow : OpenClaim := { program := "ytnjgcenanpkelaadoor", sum := "aa2ef40edf81ecab0cb732ef6297d2041be3e5fec359f9a2963f4f9218fa12b2", func := "hollowtree/hollowtreelaw04.ShaPads", spec := "shaPads", named := ["hollowtree/sha.first"], apart := false, laid := [("hollowtree/sha.first", laid_hollowtree_sha_first)] }
def ShaPadsSaid : Prop := shaPadsRow.holds Tryd.pinned (OpenSpec.ofChange shaPadsSpec)

/-- ITS FALSE NEIGHBOUR: 'it returns false'. Refute it at one input. -/
def shaPadsWrong : ChangeSpec := { name := "shaPads", fn := fun _ => fun
  | [d] => { results := [.lit (.bool false)], args := [d] }
  | _ => none }
def ShaPadsWrongFalsely : Prop := shaPadsRow.holds Tryd.pinned (OpenSpec.ofChange shaPadsWrong)

/-- 'hollowtreelaw04.ShaNone': WHATEVER THE INPUT: true; the input reads as it did. -/
def shaNoneSpec : ChangeSpec := { name := "shaNone", fn := fun _ => fun
  | [d] => { results := [.lit (.bool true)], args := [d] }
  | _ => none }
def shaNoneRow : OpenClaim := { program := "ytnjgcenanpkelaadoor", sum := "aa2ef40edf81ecab0cb732ef6297d2041be3e5fec359f9a2963f4f9218fa12b2", func := "hollowtree/hollowtreelaw04.ShaNone", spec := "shaNone", named := ["hollowtree/sha.first"], apart := false, laid := [("hollowtree/sha.first", laid_hollowtree_sha_first)] }
def ShaNoneSaid : Prop := shaNoneRow.holds Tryd.pinned (OpenSpec.ofChange shaNoneSpec)

/-- ITS FALSE NEIGHBOUR: 'it returns false'. Refute it at one input. -/
def shaNoneWrong : ChangeSpec := { name := "shaNone", fn := fun _ => fun
  | [d] => { results := [.lit (.bool false)], args := [d] }
  | _ => none }
def ShaNoneWrongFalsely : Prop := shaNoneRow.holds Tryd.pinned (OpenSpec.ofChange shaNoneWrong)

/-- 'hollowtreelaw04.ShaCopies': WHATEVER THE INPUT: true; the input reads as it did. -/
def shaCopiesSpec : ChangeSpec := { name := "shaCopies", fn := fun _ => fun
  | [d1, d2, d3] => { results := [.lit (.bool true)], args := [d1, d2, d3] }
  | _ => none }
def shaCopiesRow : OpenClaim := { program := "ytnjgcenanpkelaadoor", sum := "aa2ef40edf81ecab0cb732ef6297d2041be3e5fec359f9a2963f4f9218fa12b2", func := "hollowtree/hollowtreelaw04.ShaCopies", spec := "shaCopies", named := ["hollowtree/sha.first"], apart := false, laid := [("hollowtree/sha.first", laid_hollowtree_sha_first)] }
def ShaCopiesSaid : Prop := shaCopiesRow.holds Tryd.pinned (OpenSpec.ofChange shaCopiesSpec)

/-- ITS FALSE NEIGHBOUR: 'it returns false'. Refute it at one input. -/
def shaCopiesWrong : ChangeSpec := { name := "shaCopies", fn := fun _ => fun
  | [d1, d2, d3] => { results := [.lit (.bool false)], args := [d1, d2, d3] }
  | _ => none }
def ShaCopiesWrongFalsely : Prop := shaCopiesRow.holds Tryd.pinned (OpenSpec.ofChange shaCopiesWrong)

/-- 'hollowtreelaw04.ShaWhole': WHATEVER THE INPUT: true; the input reads as it did. -/
def shaWholeSpec : ChangeSpec := { name := "shaWhole", fn := fun _ => fun
  | [d1, d2] => { results := [.lit (.bool true)], args := [d1, d2] }
  | _ => none }
def shaWholeRow : OpenClaim := { program := "ytnjgcenanpkelaadoor", sum := "aa2ef40edf81ecab0cb732ef6297d2041be3e5fec359f9a2963f4f9218fa12b2", func := "hollowtree/hollowtreelaw04.ShaWhole", spec := "shaWhole", named := ["hollowtree/sha.first"], apart := false, laid := [("hollowtree/sha.first", laid_hollowtree_sha_first)] }
def ShaWholeSaid : Prop := shaWholeRow.holds Tryd.pinned (OpenSpec.ofChange shaWholeSpec)

/-- ITS FALSE NEIGHBOUR: 'it returns false'. Refute it at one input. -/
def shaWholeWrong : ChangeSpec := { name := "shaWhole", fn := fun _ => fun
  | [d1, d2] => { results := [.lit (.bool false)], args := [d1, d2] }
  | _ => none }
def ShaWholeWrongFalsely : Prop := shaWholeRow.holds Tryd.pinned (OpenSpec.ofChange shaWholeWrong)

/- THE SECOND FORM. 'bulk': how many values and letters a reading holds, each counted each time it is reached (what is shared counts as often as it is met; a slice's spare places count too). A statement '..UptoSaid' is the law's where the arguments, and the package variables that the reading takes, are together of bulk at most 1048576: NARROWER than '..Said'. Prove '..Said' where nothing that the law and all that it calls make is longer than what came in: it says more and counts as full. Else prove '..UptoSaid'. A law counts once. -/
mutual
def uptoBulk {H : Type} : DataW H → Nat
  | .lit (.string bytes) => bytes.length + 1
  | .lit _ => 1
  | .nil => 1
  | .ptr d => uptoBulk d + 1
  | .slice elems spare => uptoBulkAll elems + uptoBulkAll spare + 1
  | .agg parts => uptoBulkAll parts + 1
  | .iface _ d => uptoBulk d + 1
  | .map entries => uptoBulkEntries entries + 1
  | .held _ => 1
def uptoBulkAll {H : Type} : List (DataW H) → Nat
  | [] => 0
  | d :: r => uptoBulk d + uptoBulkAll r
def uptoBulkEntries {H : Type} : List (Lit × DataW H) → Nat
  | [] => 0
  | x :: r => uptoBulkEntry x + uptoBulkEntries r
def uptoBulkEntry {H : Type} : Lit × DataW H → Nat
  | (.string bytes, d) => bytes.length + uptoBulk d + 1
  | (_, d) => uptoBulk d + 1
 end
def uptoSmall : (H : Type) → List (DataW H) → Bool := fun _ ds => decide (uptoBulkAll ds ≤ 1048576)
def OpenSpec.upto (s : _root_.Go.ChangeSpec) : _root_.Go.OpenSpec := { _root_.Go.OpenSpec.ofChange s with cond := some uptoSmall }

/-- 'hollowtreelaw04.ShaSums', WHERE WHAT IT READS IS OF BULK AT MOST 1048576: true; the input reads as it did. -/
def shaSumsUptoRow : OpenClaim := { program := "ytnjgcenanpkelaadoor", sum := "aa2ef40edf81ecab0cb732ef6297d2041be3e5fec359f9a2963f4f9218fa12b2", func := "hollowtree/hollowtreelaw04.ShaSums", spec := "shaSums", named := ["hollowtree/sha.first"], apart := false, laid := [("hollowtree/sha.first", laid_hollowtree_sha_first)], narrowed := true }
def ShaSumsUptoSaid : Prop := shaSumsUptoRow.holds Tryd.pinned (OpenSpec.upto shaSumsSpec)

/-- 'hollowtreelaw04.ShaPieces', WHERE WHAT IT READS IS OF BULK AT MOST 1048576: true; the input reads as it did. -/
def shaPiecesUptoRow : OpenClaim := { program := "ytnjgcenanpkelaadoor", sum := "aa2ef40edf81ecab0cb732ef6297d2041be3e5fec359f9a2963f4f9218fa12b2", func := "hollowtree/hollowtreelaw04.ShaPieces", spec := "shaPieces", named := ["hollowtree/sha.first"], apart := false, laid := [("hollowtree/sha.first", laid_hollowtree_sha_first)], narrowed := true }
def ShaPiecesUptoSaid : Prop := shaPiecesUptoRow.holds Tryd.pinned (OpenSpec.upto shaPiecesSpec)

/-- 'hollowtreelaw04.ShaPads', WHERE WHAT IT READS IS OF BULK AT MOST 1048576: true; the input reads as it did. -/
def shaPadsUptoRow : OpenClaim := { program := "ytnjgcenanpkelaadoor", sum := "aa2ef40edf81ecab0cb732ef6297d2041be3e5fec359f9a2963f4f9218fa12b2", func := "hollowtree/hollowtreelaw04.ShaPads", spec := "shaPads", named := ["hollowtree/sha.first"], apart := false, laid := [("hollowtree/sha.first", laid_hollowtree_sha_first)], narrowed := true }
def ShaPadsUptoSaid : Prop := shaPadsUptoRow.holds Tryd.pinned (OpenSpec.upto shaPadsSpec)

/-- 'hollowtreelaw04.ShaNone', WHERE WHAT IT READS IS OF BULK AT MOST 1048576: true; the input reads as it did. -/
def shaNoneUptoRow : OpenClaim := { program := "ytnjgcenanpkelaadoor", sum := "aa2ef40edf81ecab0cb732ef6297d2041be3e5fec359f9a2963f4f9218fa12b2", func := "hollowtree/hollowtreelaw04.ShaNone", spec := "shaNone", named := ["hollowtree/sha.first"], apart := false, laid := [("hollowtree/sha.first", laid_hollowtree_sha_first)], narrowed := true }
def ShaNoneUptoSaid : Prop := shaNoneUptoRow.holds Tryd.pinned (OpenSpec.upto shaNoneSpec)

/-- 'hollowtreelaw04.ShaCopies', WHERE WHAT IT READS IS OF BULK AT MOST 1048576: true; the input reads as it did. -/
def shaCopiesUptoRow : OpenClaim := { program := "ytnjgcenanpkelaadoor", sum := "aa2ef40edf81ecab0cb732ef6297d2041be3e5fec359f9a2963f4f9218fa12b2", func := "hollowtree/hollowtreelaw04.ShaCopies", spec := "shaCopies", named := ["hollowtree/sha.first"], apart := false, laid := [("hollowtree/sha.first", laid_hollowtree_sha_first)], narrowed := true }
def ShaCopiesUptoSaid : Prop := shaCopiesUptoRow.holds Tryd.pinned (OpenSpec.upto shaCopiesSpec)

/-- 'hollowtreelaw04.ShaWhole', WHERE WHAT IT READS IS OF BULK AT MOST 1048576: true; the input reads as it did. -/
def shaWholeUptoRow : OpenClaim := { program := "ytnjgcenanpkelaadoor", sum := "aa2ef40edf81ecab0cb732ef6297d2041be3e5fec359f9a2963f4f9218fa12b2", func := "hollowtree/hollowtreelaw04.ShaWhole", spec := "shaWhole", named := ["hollowtree/sha.first"], apart := false, laid := [("hollowtree/sha.first", laid_hollowtree_sha_first)], narrowed := true }
def ShaWholeUptoSaid : Prop := shaWholeUptoRow.holds Tryd.pinned (OpenSpec.upto shaWholeSpec)

end Rows
end Go.Proofs.YtnjgcenanpkelaaDoor
