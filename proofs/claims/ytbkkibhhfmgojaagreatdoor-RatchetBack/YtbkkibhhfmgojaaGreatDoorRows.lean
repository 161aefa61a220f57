/-
  NARROWER THAN 'FOR EVERY INPUT', by the rows' own cells (each row's printed sentence says how): RatchetStarts: laid · RatchetSeals: laid · RatchetOpens: laid · RatchetBytes: laid · RatchetTalks: laid · RatchetBack: laid.
  DERIVED. THE GIVEN ROWS OF THIS SEAT. 6 by the template 'for every input the law returns true; each argument reads behind the call as it read before'; 0 by the template 'total and deterministic' (their statements: YtbkkibhhfmgojaaGreatDoorTotals.lean).
  GIVEN WITH THE SEED: the statements are not yours to turn. If you find one false, say at which input.
  Laid BY PROGRAM, IN A SANDBOX (cutbox-rows.mjs): the forced cells as the released guide's own fill.sh prints them over the translation bea690f87ae8f0f7… (all of the seat's roots in one cut). By AI agents, Wed Nov 11 2026. No macro, syntax, notation, axiom, sorry.
-/
import Derived.Test.YtbkkibhhfmgojaaGreatDoorChecked
import GoSem.Claim
import GoSem.ClaimJoined
import GoSem.ClaimMapViews
import Derived.JoinedTies
import Derived.KernelRfl
namespace Go.Proofs.YtbkkibhhfmgojaaGreatDoor
/- THE CELL 'sum', in the pinned program and in every row, IS THE sha256 OF THE DUMP (.gsa) THAT YtbkkibhhfmgojaaGreatDoorProg.lean LOADS. Nothing in Lean hashes anything: it is a label: what it is worth is what the hold of that sum in a sandbox is worth. -/
noncomputable def Tryz.pinned : Pinned := { name := "ytbkkibhhfmgojaagreatdoor", sum := "bea690f87ae8f0f71e4190133d167a307d89bbaaba8b1101fabf6e96c277596c", checked := Tryz.checked }
namespace Rows
def none {H : Type} : Left H := { results := [], args := [] }

/- WHAT THE LISTED PACKAGE-LEVEL VARIABLES READ AS WHEN THE CALL BEGINS. Each datum BY PROGRAM (the guide's laid-datum.mjs) off the statement by which the dump's own 'gosem.cut.vars' lays the variable. In a bare row this is a premise. The card (YtbkkibhhfmgojaaGreatDoorCards.lean) ties it to the program's text. -/
def laid_hollowtree_sha_first {H : Type} : DataW H := .agg [.lit (.int .u32 1779033703), .lit (.int .u32 3144134277), .lit (.int .u32 1013904242), .lit (.int .u32 2773480762), .lit (.int .u32 1359893119), .lit (.int .u32 2600822924), .lit (.int .u32 528734635), .lit (.int .u32 1541459225)]
def laid_hollowtree_curve_lows {H : Type} : DataW H := .agg [.agg [.lit (.int .u8 0), .lit (.int .u8 0), .lit (.int .u8 0), .lit (.int .u8 0), .lit (.int .u8 0), .lit (.int .u8 0), .lit (.int .u8 0), .lit (.int .u8 0), .lit (.int .u8 0), .lit (.int .u8 0), .lit (.int .u8 0), .lit (.int .u8 0), .lit (.int .u8 0), .lit (.int .u8 0), .lit (.int .u8 0), .lit (.int .u8 0), .lit (.int .u8 0), .lit (.int .u8 0), .lit (.int .u8 0), .lit (.int .u8 0), .lit (.int .u8 0), .lit (.int .u8 0), .lit (.int .u8 0), .lit (.int .u8 0), .lit (.int .u8 0), .lit (.int .u8 0), .lit (.int .u8 0), .lit (.int .u8 0), .lit (.int .u8 0), .lit (.int .u8 0), .lit (.int .u8 0), .lit (.int .u8 0)], .agg [.lit (.int .u8 1), .lit (.int .u8 0), .lit (.int .u8 0), .lit (.int .u8 0), .lit (.int .u8 0), .lit (.int .u8 0), .lit (.int .u8 0), .lit (.int .u8 0), .lit (.int .u8 0), .lit (.int .u8 0), .lit (.int .u8 0), .lit (.int .u8 0), .lit (.int .u8 0), .lit (.int .u8 0), .lit (.int .u8 0), .lit (.int .u8 0), .lit (.int .u8 0), .lit (.int .u8 0), .lit (.int .u8 0), .lit (.int .u8 0), .lit (.int .u8 0), .lit (.int .u8 0), .lit (.int .u8 0), .lit (.int .u8 0), .lit (.int .u8 0), .lit (.int .u8 0), .lit (.int .u8 0), .lit (.int .u8 0), .lit (.int .u8 0), .lit (.int .u8 0), .lit (.int .u8 0), .lit (.int .u8 0)], .agg [.lit (.int .u8 236), .lit (.int .u8 255), .lit (.int .u8 255), .lit (.int .u8 255), .lit (.int .u8 255), .lit (.int .u8 255), .lit (.int .u8 255), .lit (.int .u8 255), .lit (.int .u8 255), .lit (.int .u8 255), .lit (.int .u8 255), .lit (.int .u8 255), .lit (.int .u8 255), .lit (.int .u8 255), .lit (.int .u8 255), .lit (.int .u8 255), .lit (.int .u8 255), .lit (.int .u8 255), .lit (.int .u8 255), .lit (.int .u8 255), .lit (.int .u8 255), .lit (.int .u8 255), .lit (.int .u8 255), .lit (.int .u8 255), .lit (.int .u8 255), .lit (.int .u8 255), .lit (.int .u8 255), .lit (.int .u8 255), .lit (.int .u8 255), .lit (.int .u8 255), .lit (.int .u8 255), .lit (.int .u8 127)], .agg [.lit (.int .u8 224), .lit (.int .u8 235), .lit (.int .u8 122), .lit (.int .u8 124), .lit (.int .u8 59), .lit (.int .u8 65), .lit (.int .u8 184), .lit (.int .u8 174), .lit (.int .u8 22), .lit (.int .u8 86), .lit (.int .u8 227), .lit (.int .u8 250), .lit (.int .u8 241), .lit (.int .u8 159), .lit (.int .u8 196), .lit (.int .u8 106), .lit (.int .u8 218), .lit (.int .u8 9), .lit (.int .u8 141), .lit (.int .u8 235), .lit (.int .u8 156), .lit (.int .u8 50), .lit (.int .u8 177), .lit (.int .u8 253), .lit (.int .u8 134), .lit (.int .u8 98), .lit (.int .u8 5), .lit (.int .u8 22), .lit (.int .u8 95), .lit (.int .u8 73), .lit (.int .u8 184), .lit (.int .u8 0)], .agg [.lit (.int .u8 95), .lit (.int .u8 156), .lit (.int .u8 149), .lit (.int .u8 188), .lit (.int .u8 163), .lit (.int .u8 80), .lit (.int .u8 140), .lit (.int .u8 36), .lit (.int .u8 177), .lit (.int .u8 208), .lit (.int .u8 177), .lit (.int .u8 85), .lit (.int .u8 156), .lit (.int .u8 131), .lit (.int .u8 239), .lit (.int .u8 91), .lit (.int .u8 4), .lit (.int .u8 68), .lit (.int .u8 92), .lit (.int .u8 196), .lit (.int .u8 88), .lit (.int .u8 28), .lit (.int .u8 142), .lit (.int .u8 134), .lit (.int .u8 216), .lit (.int .u8 34), .lit (.int .u8 78), .lit (.int .u8 221), .lit (.int .u8 208), .lit (.int .u8 159), .lit (.int .u8 17), .lit (.int .u8 87)]]

/-- 'hollowtreelaw17.RatchetStarts': WHATEVER THE INPUT: true; the input reads as it did. -/
def ratchetStartsSpec : ChangeSpec := { name := "ratchetStarts", fn := fun _ => fun
  | [d] => { results := [.lit (.bool true)], args := [d] }
  | _ => none }
def ratchetStartsRow : OpenClaim := { program := "ytbkkibhhfmgojaagreatdoor", sum := "bea690f87ae8f0f71e4190133d167a307d89bbaaba8b1101fabf6e96c277596c", func := "hollowtree/hollowtreelaw17.RatchetStarts", spec := "ratchetStarts", inPlace := ["math/bits.Add64"], unfollowed := true, recurses := true, named := ["hollowtree/sha.first", "hollowtree/curve.lows"], plainKeys := false, apart := false, laid := [("hollowtree/sha.first", laid_hollowtree_sha_first), ("hollowtree/curve.lows", laid_hollowtree_curve_lows)] }
def RatchetStartsSaid : Prop := ratchetStartsRow.holds Tryz.pinned (OpenSpec.ofChange ratchetStartsSpec)

/-- ITS FALSE NEIGHBOUR: 'it returns false'. Refute it at one input. -/
def ratchetStartsWrong : ChangeSpec := { name := "ratchetStarts", fn := fun _ => fun
  | [d] => { results := [.lit (.bool false)], args := [d] }
  | _ => none }
def RatchetStartsWrongFalsely : Prop := ratchetStartsRow.holds Tryz.pinned (OpenSpec.ofChange ratchetStartsWrong)

/-- 'hollowtreelaw17.RatchetSeals': WHATEVER THE INPUT: true; the input reads as it did. -/
def ratchetSealsSpec : ChangeSpec := { name := "ratchetSeals", fn := fun _ => fun
  | [d1, d2] => { results := [.lit (.bool true)], args := [d1, d2] }
  | _ => none }
def ratchetSealsRow : OpenClaim := { program := "ytbkkibhhfmgojaagreatdoor", sum := "bea690f87ae8f0f71e4190133d167a307d89bbaaba8b1101fabf6e96c277596c", func := "hollowtree/hollowtreelaw17.RatchetSeals", spec := "ratchetSeals", inPlace := ["math/bits.Add64"], unfollowed := true, recurses := true, named := ["hollowtree/sha.first", "hollowtree/curve.lows"], plainKeys := false, apart := false, laid := [("hollowtree/sha.first", laid_hollowtree_sha_first), ("hollowtree/curve.lows", laid_hollowtree_curve_lows)] }
def RatchetSealsSaid : Prop := ratchetSealsRow.holds Tryz.pinned (OpenSpec.ofChange ratchetSealsSpec)

/-- ITS FALSE NEIGHBOUR: 'it returns false'. Refute it at one input. -/
def ratchetSealsWrong : ChangeSpec := { name := "ratchetSeals", fn := fun _ => fun
  | [d1, d2] => { results := [.lit (.bool false)], args := [d1, d2] }
  | _ => none }
def RatchetSealsWrongFalsely : Prop := ratchetSealsRow.holds Tryz.pinned (OpenSpec.ofChange ratchetSealsWrong)

/-- 'hollowtreelaw17.RatchetOpens': WHATEVER THE INPUT: true; the input reads as it did. -/
def ratchetOpensSpec : ChangeSpec := { name := "ratchetOpens", fn := fun _ => fun
  | [d1, d2, d3] => { results := [.lit (.bool true)], args := [d1, d2, d3] }
  | _ => none }
def ratchetOpensRow : OpenClaim := { program := "ytbkkibhhfmgojaagreatdoor", sum := "bea690f87ae8f0f71e4190133d167a307d89bbaaba8b1101fabf6e96c277596c", func := "hollowtree/hollowtreelaw17.RatchetOpens", spec := "ratchetOpens", inPlace := ["math/bits.Add64"], unfollowed := true, recurses := true, named := ["hollowtree/sha.first", "hollowtree/curve.lows"], plainKeys := false, apart := false, laid := [("hollowtree/sha.first", laid_hollowtree_sha_first), ("hollowtree/curve.lows", laid_hollowtree_curve_lows)] }
def RatchetOpensSaid : Prop := ratchetOpensRow.holds Tryz.pinned (OpenSpec.ofChange ratchetOpensSpec)

/-- ITS FALSE NEIGHBOUR: 'it returns false'. Refute it at one input. -/
def ratchetOpensWrong : ChangeSpec := { name := "ratchetOpens", fn := fun _ => fun
  | [d1, d2, d3] => { results := [.lit (.bool false)], args := [d1, d2, d3] }
  | _ => none }
def RatchetOpensWrongFalsely : Prop := ratchetOpensRow.holds Tryz.pinned (OpenSpec.ofChange ratchetOpensWrong)

/-- 'hollowtreelaw17.RatchetBytes': WHATEVER THE INPUT: true; the input reads as it did. -/
def ratchetBytesSpec : ChangeSpec := { name := "ratchetBytes", fn := fun _ => fun
  | [d1, d2] => { results := [.lit (.bool true)], args := [d1, d2] }
  | _ => none }
def ratchetBytesRow : OpenClaim := { program := "ytbkkibhhfmgojaagreatdoor", sum := "bea690f87ae8f0f71e4190133d167a307d89bbaaba8b1101fabf6e96c277596c", func := "hollowtree/hollowtreelaw17.RatchetBytes", spec := "ratchetBytes", inPlace := ["math/bits.Add64"], unfollowed := true, recurses := true, named := ["hollowtree/sha.first", "hollowtree/curve.lows"], plainKeys := false, apart := false, laid := [("hollowtree/sha.first", laid_hollowtree_sha_first), ("hollowtree/curve.lows", laid_hollowtree_curve_lows)] }
def RatchetBytesSaid : Prop := ratchetBytesRow.holds Tryz.pinned (OpenSpec.ofChange ratchetBytesSpec)

/-- ITS FALSE NEIGHBOUR: 'it returns false'. Refute it at one input. -/
def ratchetBytesWrong : ChangeSpec := { name := "ratchetBytes", fn := fun _ => fun
  | [d1, d2] => { results := [.lit (.bool false)], args := [d1, d2] }
  | _ => none }
def RatchetBytesWrongFalsely : Prop := ratchetBytesRow.holds Tryz.pinned (OpenSpec.ofChange ratchetBytesWrong)

/-- 'hollowtreelaw17.RatchetTalks': WHATEVER THE INPUT: true; the input reads as it did. -/
def ratchetTalksSpec : ChangeSpec := { name := "ratchetTalks", fn := fun _ => fun
  | [d1, d2, d3] => { results := [.lit (.bool true)], args := [d1, d2, d3] }
  | _ => none }
def ratchetTalksRow : OpenClaim := { program := "ytbkkibhhfmgojaagreatdoor", sum := "bea690f87ae8f0f71e4190133d167a307d89bbaaba8b1101fabf6e96c277596c", func := "hollowtree/hollowtreelaw17.RatchetTalks", spec := "ratchetTalks", inPlace := ["math/bits.Add64"], unfollowed := true, recurses := true, named := ["hollowtree/sha.first", "hollowtree/curve.lows"], plainKeys := false, apart := false, laid := [("hollowtree/sha.first", laid_hollowtree_sha_first), ("hollowtree/curve.lows", laid_hollowtree_curve_lows)] }
def RatchetTalksSaid : Prop := ratchetTalksRow.holds Tryz.pinned (OpenSpec.ofChange ratchetTalksSpec)

/-- ITS FALSE NEIGHBOUR: 'it returns false'. Refute it at one input. -/
def ratchetTalksWrong : ChangeSpec := { name := "ratchetTalks", fn := fun _ => fun
  | [d1, d2, d3] => { results := [.lit (.bool false)], args := [d1, d2, d3] }
  | _ => none }
def RatchetTalksWrongFalsely : Prop := ratchetTalksRow.holds Tryz.pinned (OpenSpec.ofChange ratchetTalksWrong)

/-- 'hollowtreelaw17.RatchetBack': WHATEVER THE INPUT: true; the input reads as it did. -/
def ratchetBackSpec : ChangeSpec := { name := "ratchetBack", fn := fun _ => fun
  | [d1, d2] => { results := [.lit (.bool true)], args := [d1, d2] }
  | _ => none }
def ratchetBackRow : OpenClaim := { program := "ytbkkibhhfmgojaagreatdoor", sum := "bea690f87ae8f0f71e4190133d167a307d89bbaaba8b1101fabf6e96c277596c", func := "hollowtree/hollowtreelaw17.RatchetBack", spec := "ratchetBack", inPlace := ["math/bits.Add64"], unfollowed := true, recurses := true, named := ["hollowtree/sha.first", "hollowtree/curve.lows"], plainKeys := false, apart := false, laid := [("hollowtree/sha.first", laid_hollowtree_sha_first), ("hollowtree/curve.lows", laid_hollowtree_curve_lows)] }
def RatchetBackSaid : Prop := ratchetBackRow.holds Tryz.pinned (OpenSpec.ofChange ratchetBackSpec)

/-- ITS FALSE NEIGHBOUR: 'it returns false'. Refute it at one input. -/
def ratchetBackWrong : ChangeSpec := { name := "ratchetBack", fn := fun _ => fun
  | [d1, d2] => { results := [.lit (.bool false)], args := [d1, d2] }
  | _ => none }
def RatchetBackWrongFalsely : Prop := ratchetBackRow.holds Tryz.pinned (OpenSpec.ofChange ratchetBackWrong)

/- THE SECOND FORM. 'bulk': how many values and letters a reading holds, each counted each time it is reached (what is shared counts as often as it is met; a slice's spare places count too). A statement '..UptoSaid' is the law's where the arguments, and the package variables that the reading takes, are together of bulk at most 1048576: NARROWER than '..Said'. Prove '..Said' where nothing that the law and all that it calls make is longer than what came in: it says more and counts as full. Else prove '..UptoSaid'. A law counts once. -/
mutual
def uptoBulk {H : Type} : DataW H → Nat
  | .lit (.string bytes) => bytes.length + 1
  | .lit _ => 1
  | .nil => 1
  | .ptr d => uptoBulk d + 1
  | .slice elems spare => uptoBulkAll elems + uptoBulkAll spare + 1
  | .agg parts => uptoBulkAll parts + 1
  | .iface _ d => uptoBulk d + 1
  | .map entries => uptoBulkEntries entries + 1
  | .held _ => 1
def uptoBulkAll {H : Type} : List (DataW H) → Nat
  | [] => 0
  | d :: r => uptoBulk d + uptoBulkAll r
def uptoBulkEntries {H : Type} : List (Lit × DataW H) → Nat
  | [] => 0
  | x :: r => uptoBulkEntry x + uptoBulkEntries r
def uptoBulkEntry {H : Type} : Lit × DataW H → Nat
  | (.string bytes, d) => bytes.length + uptoBulk d + 1
  | (_, d) => uptoBulk d + 1
 end
def uptoSmall : (H : Type) → List (DataW H) → Bool := fun _ ds => decide (uptoBulkAll ds ≤ 1048576)
def OpenSpec.upto (s : _root_.Go.ChangeSpec) : _root_.Go.OpenSpec := { _root_.Go.OpenSpec.ofChange s with cond := some uptoSmall }

/-- 'hollowtreelaw17.RatchetStarts', WHERE WHAT IT READS IS OF BULK AT MOST 1048576: true; the input reads as it did. -/
def ratchetStartsUptoRow : OpenClaim := { program := "ytbkkibhhfmgojaagreatdoor", sum := "bea690f87ae8f0f71e4190133d167a307d89bbaaba8b1101fabf6e96c277596c", func := "hollowtree/hollowtreelaw17.RatchetStarts", spec := "ratchetStarts", inPlace := ["math/bits.Add64"], unfollowed := true, recurses := true, named := ["hollowtree/sha.first", "hollowtree/curve.lows"], plainKeys := false, apart := false, laid := [("hollowtree/sha.first", laid_hollowtree_sha_first), ("hollowtree/curve.lows", laid_hollowtree_curve_lows)], narrowed := true }
def RatchetStartsUptoSaid : Prop := ratchetStartsUptoRow.holds Tryz.pinned (OpenSpec.upto ratchetStartsSpec)

/-- 'hollowtreelaw17.RatchetSeals', WHERE WHAT IT READS IS OF BULK AT MOST 1048576: true; the input reads as it did. -/
def ratchetSealsUptoRow : OpenClaim := { program := "ytbkkibhhfmgojaagreatdoor", sum := "bea690f87ae8f0f71e4190133d167a307d89bbaaba8b1101fabf6e96c277596c", func := "hollowtree/hollowtreelaw17.RatchetSeals", spec := "ratchetSeals", inPlace := ["math/bits.Add64"], unfollowed := true, recurses := true, named := ["hollowtree/sha.first", "hollowtree/curve.lows"], plainKeys := false, apart := false, laid := [("hollowtree/sha.first", laid_hollowtree_sha_first), ("hollowtree/curve.lows", laid_hollowtree_curve_lows)], narrowed := true }
def RatchetSealsUptoSaid : Prop := ratchetSealsUptoRow.holds Tryz.pinned (OpenSpec.upto ratchetSealsSpec)

/-- 'hollowtreelaw17.RatchetOpens', WHERE WHAT IT READS IS OF BULK AT MOST 1048576: true; the input reads as it did. -/
def ratchetOpensUptoRow : OpenClaim := { program := "ytbkkibhhfmgojaagreatdoor", sum := "bea690f87ae8f0f71e4190133d167a307d89bbaaba8b1101fabf6e96c277596c", func := "hollowtree/hollowtreelaw17.RatchetOpens", spec := "ratchetOpens", inPlace := ["math/bits.Add64"], unfollowed := true, recurses := true, named := ["hollowtree/sha.first", "hollowtree/curve.lows"], plainKeys := false, apart := false, laid := [("hollowtree/sha.first", laid_hollowtree_sha_first), ("hollowtree/curve.lows", laid_hollowtree_curve_lows)], narrowed := true }
def RatchetOpensUptoSaid : Prop := ratchetOpensUptoRow.holds Tryz.pinned (OpenSpec.upto ratchetOpensSpec)

/-- 'hollowtreelaw17.RatchetBytes', WHERE WHAT IT READS IS OF BULK AT MOST 1048576: true; the input reads as it did. -/
def ratchetBytesUptoRow : OpenClaim := { program := "ytbkkibhhfmgojaagreatdoor", sum := "bea690f87ae8f0f71e4190133d167a307d89bbaaba8b1101fabf6e96c277596c", func := "hollowtree/hollowtreelaw17.RatchetBytes", spec := "ratchetBytes", inPlace := ["math/bits.Add64"], unfollowed := true, recurses := true, named := ["hollowtree/sha.first", "hollowtree/curve.lows"], plainKeys := false, apart := false, laid := [("hollowtree/sha.first", laid_hollowtree_sha_first), ("hollowtree/curve.lows", laid_hollowtree_curve_lows)], narrowed := true }
def RatchetBytesUptoSaid : Prop := ratchetBytesUptoRow.holds Tryz.pinned (OpenSpec.upto ratchetBytesSpec)

/-- 'hollowtreelaw17.RatchetTalks', WHERE WHAT IT READS IS OF BULK AT MOST 1048576: true; the input reads as it did. -/
def ratchetTalksUptoRow : OpenClaim := { program := "ytbkkibhhfmgojaagreatdoor", sum := "bea690f87ae8f0f71e4190133d167a307d89bbaaba8b1101fabf6e96c277596c", func := "hollowtree/hollowtreelaw17.RatchetTalks", spec := "ratchetTalks", inPlace := ["math/bits.Add64"], unfollowed := true, recurses := true, named := ["hollowtree/sha.first", "hollowtree/curve.lows"], plainKeys := false, apart := false, laid := [("hollowtree/sha.first", laid_hollowtree_sha_first), ("hollowtree/curve.lows", laid_hollowtree_curve_lows)], narrowed := true }
def RatchetTalksUptoSaid : Prop := ratchetTalksUptoRow.holds Tryz.pinned (OpenSpec.upto ratchetTalksSpec)

/-- 'hollowtreelaw17.RatchetBack', WHERE WHAT IT READS IS OF BULK AT MOST 1048576: true; the input reads as it did. -/
def ratchetBackUptoRow : OpenClaim := { program := "ytbkkibhhfmgojaagreatdoor", sum := "bea690f87ae8f0f71e4190133d167a307d89bbaaba8b1101fabf6e96c277596c", func := "hollowtree/hollowtreelaw17.RatchetBack", spec := "ratchetBack", inPlace := ["math/bits.Add64"], unfollowed := true, recurses := true, named := ["hollowtree/sha.first", "hollowtree/curve.lows"], plainKeys := false, apart := false, laid := [("hollowtree/sha.first", laid_hollowtree_sha_first), ("hollowtree/curve.lows", laid_hollowtree_curve_lows)], narrowed := true }
def RatchetBackUptoSaid : Prop := ratchetBackUptoRow.holds Tryz.pinned (OpenSpec.upto ratchetBackSpec)

end Rows
end Go.Proofs.YtbkkibhhfmgojaaGreatDoor
