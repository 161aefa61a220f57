/-
  NARROWER THAN 'FOR EVERY INPUT', by the rows' own cells (each row's printed sentence says how): CurveKeys: laid · CurveShares: laid.
  DERIVED. THE GIVEN ROWS OF THIS SEAT. 2 by the template 'for every input the law returns true; each argument reads behind the call as it read before'; 0 by the template 'total and deterministic' (their statements: YtebgmneffpeahaaDoorTotals.lean).
  GIVEN WITH THE SEED: the statements are not yours to turn. If you find one false, say at which input.
  Laid BY PROGRAM, IN A SANDBOX (cutbox-rows.mjs): the forced cells as the released guide's own fill.sh prints them over the translation 1c5c134f033bd068… (all of the seat's roots in one cut). By AI agents, Wed Nov 11 2026. No macro, syntax, notation, axiom, sorry.
-/
import Derived.Test.YtebgmneffpeahaaDoorChecked
import GoSem.Claim
import GoSem.ClaimJoined
import GoSem.ClaimMapViews
import Derived.JoinedTies
import Derived.KernelRfl
namespace Go.Proofs.YtebgmneffpeahaaDoor
/- THE CELL 'sum', in the pinned program and in every row, IS THE sha256 OF THE DUMP (.gsa) THAT YtebgmneffpeahaaDoorProg.lean LOADS. Nothing in Lean hashes anything: it is a label: what it is worth is what the hold of that sum in a sandbox is worth. -/
noncomputable def Tryd.pinned : Pinned := { name := "ytebgmneffpeahaadoor", sum := "1c5c134f033bd06891068e75cb51813c83cd3e551e705d16eedb74ea68c252f3", checked := Tryd.checked }
namespace Rows
def none {H : Type} : Left H := { results := [], args := [] }

/- WHAT THE LISTED PACKAGE-LEVEL VARIABLES READ AS WHEN THE CALL BEGINS. Each datum BY PROGRAM (the guide's laid-datum.mjs) off the statement by which the dump's own 'gosem.cut.vars' lays the variable. In a bare row this is a premise. The card (YtebgmneffpeahaaDoorCards.lean) ties it to the program's text. -/
def laid_hollowtree_curve_lows {H : Type} : DataW H := .agg [.agg [.lit (.int .u8 0), .lit (.int .u8 0), .lit (.int .u8 0), .lit (.int .u8 0), .lit (.int .u8 0), .lit (.int .u8 0), .lit (.int .u8 0), .lit (.int .u8 0), .lit (.int .u8 0), .lit (.int .u8 0), .lit (.int .u8 0), .lit (.int .u8 0), .lit (.int .u8 0), .lit (.int .u8 0), .lit (.int .u8 0), .lit (.int .u8 0), .lit (.int .u8 0), .lit (.int .u8 0), .lit (.int .u8 0), .lit (.int .u8 0), .lit (.int .u8 0), .lit (.int .u8 0), .lit (.int .u8 0), .lit (.int .u8 0), .lit (.int .u8 0), .lit (.int .u8 0), .lit (.int .u8 0), .lit (.int .u8 0), .lit (.int .u8 0), .lit (.int .u8 0), .lit (.int .u8 0), .lit (.int .u8 0)], .agg [.lit (.int .u8 1), .lit (.int .u8 0), .lit (.int .u8 0), .lit (.int .u8 0), .lit (.int .u8 0), .lit (.int .u8 0), .lit (.int .u8 0), .lit (.int .u8 0), .lit (.int .u8 0), .lit (.int .u8 0), .lit (.int .u8 0), .lit (.int .u8 0), .lit (.int .u8 0), .lit (.int .u8 0), .lit (.int .u8 0), .lit (.int .u8 0), .lit (.int .u8 0), .lit (.int .u8 0), .lit (.int .u8 0), .lit (.int .u8 0), .lit (.int .u8 0), .lit (.int .u8 0), .lit (.int .u8 0), .lit (.int .u8 0), .lit (.int .u8 0), .lit (.int .u8 0), .lit (.int .u8 0), .lit (.int .u8 0), .lit (.int .u8 0), .lit (.int .u8 0), .lit (.int .u8 0), .lit (.int .u8 0)], .agg [.lit (.int .u8 236), .lit (.int .u8 255), .lit (.int .u8 255), .lit (.int .u8 255), .lit (.int .u8 255), .lit (.int .u8 255), .lit (.int .u8 255), .lit (.int .u8 255), .lit (.int .u8 255), .lit (.int .u8 255), .lit (.int .u8 255), .lit (.int .u8 255), .lit (.int .u8 255), .lit (.int .u8 255), .lit (.int .u8 255), .lit (.int .u8 255), .lit (.int .u8 255), .lit (.int .u8 255), .lit (.int .u8 255), .lit (.int .u8 255), .lit (.int .u8 255), .lit (.int .u8 255), .lit (.int .u8 255), .lit (.int .u8 255), .lit (.int .u8 255), .lit (.int .u8 255), .lit (.int .u8 255), .lit (.int .u8 255), .lit (.int .u8 255), .lit (.int .u8 255), .lit (.int .u8 255), .lit (.int .u8 127)], .agg [.lit (.int .u8 224), .lit (.int .u8 235), .lit (.int .u8 122), .lit (.int .u8 124), .lit (.int .u8 59), .lit (.int .u8 65), .lit (.int .u8 184), .lit (.int .u8 174), .lit (.int .u8 22), .lit (.int .u8 86), .lit (.int .u8 227), .lit (.int .u8 250), .lit (.int .u8 241), .lit (.int .u8 159), .lit (.int .u8 196), .lit (.int .u8 106), .lit (.int .u8 218), .lit (.int .u8 9), .lit (.int .u8 141), .lit (.int .u8 235), .lit (.int .u8 156), .lit (.int .u8 50), .lit (.int .u8 177), .lit (.int .u8 253), .lit (.int .u8 134), .lit (.int .u8 98), .lit (.int .u8 5), .lit (.int .u8 22), .lit (.int .u8 95), .lit (.int .u8 73), .lit (.int .u8 184), .lit (.int .u8 0)], .agg [.lit (.int .u8 95), .lit (.int .u8 156), .lit (.int .u8 149), .lit (.int .u8 188), .lit (.int .u8 163), .lit (.int .u8 80), .lit (.int .u8 140), .lit (.int .u8 36), .lit (.int .u8 177), .lit (.int .u8 208), .lit (.int .u8 177), .lit (.int .u8 85), .lit (.int .u8 156), .lit (.int .u8 131), .lit (.int .u8 239), .lit (.int .u8 91), .lit (.int .u8 4), .lit (.int .u8 68), .lit (.int .u8 92), .lit (.int .u8 196), .lit (.int .u8 88), .lit (.int .u8 28), .lit (.int .u8 142), .lit (.int .u8 134), .lit (.int .u8 216), .lit (.int .u8 34), .lit (.int .u8 78), .lit (.int .u8 221), .lit (.int .u8 208), .lit (.int .u8 159), .lit (.int .u8 17), .lit (.int .u8 87)]]

/-- 'hollowtreelaw03.CurveKeys': WHATEVER THE INPUT: true; the input reads as it did. -/
def curveKeysSpec : ChangeSpec := { name := "curveKeys", fn := fun _ => fun
  | [d] => { results := [.lit (.bool true)], args := [d] }
  | _ => none }
def curveKeysRow : OpenClaim := { program := "ytebgmneffpeahaadoor", sum := "1c5c134f033bd06891068e75cb51813c83cd3e551e705d16eedb74ea68c252f3", func := "hollowtree/hollowtreelaw03.CurveKeys", spec := "curveKeys", inPlace := ["math/bits.Add64"], named := ["hollowtree/curve.lows"], apart := false, laid := [("hollowtree/curve.lows", laid_hollowtree_curve_lows)] }
def CurveKeysSaid : Prop := curveKeysRow.holds Tryd.pinned (OpenSpec.ofChange curveKeysSpec)

/-- ITS FALSE NEIGHBOUR: 'it returns false'. Refute it at one input. -/
def curveKeysWrong : ChangeSpec := { name := "curveKeys", fn := fun _ => fun
  | [d] => { results := [.lit (.bool false)], args := [d] }
  | _ => none }
def CurveKeysWrongFalsely : Prop := curveKeysRow.holds Tryd.pinned (OpenSpec.ofChange curveKeysWrong)

/-- 'hollowtreelaw03.CurveShares': WHATEVER THE INPUT: true; the input reads as it did. -/
def curveSharesSpec : ChangeSpec := { name := "curveShares", fn := fun _ => fun
  | [d1, d2] => { results := [.lit (.bool true)], args := [d1, d2] }
  | _ => none }
def curveSharesRow : OpenClaim := { program := "ytebgmneffpeahaadoor", sum := "1c5c134f033bd06891068e75cb51813c83cd3e551e705d16eedb74ea68c252f3", func := "hollowtree/hollowtreelaw03.CurveShares", spec := "curveShares", inPlace := ["math/bits.Add64"], named := ["hollowtree/curve.lows"], apart := false, laid := [("hollowtree/curve.lows", laid_hollowtree_curve_lows)] }
def CurveSharesSaid : Prop := curveSharesRow.holds Tryd.pinned (OpenSpec.ofChange curveSharesSpec)

/-- ITS FALSE NEIGHBOUR: 'it returns false'. Refute it at one input. -/
def curveSharesWrong : ChangeSpec := { name := "curveShares", fn := fun _ => fun
  | [d1, d2] => { results := [.lit (.bool false)], args := [d1, d2] }
  | _ => none }
def CurveSharesWrongFalsely : Prop := curveSharesRow.holds Tryd.pinned (OpenSpec.ofChange curveSharesWrong)

/- THE SECOND FORM. 'bulk': how many values and letters a reading holds, each counted each time it is reached (what is shared counts as often as it is met; a slice's spare places count too). A statement '..UptoSaid' is the law's where the arguments, and the package variables that the reading takes, are together of bulk at most 1048576: NARROWER than '..Said'. Prove '..Said' where nothing that the law and all that it calls make is longer than what came in: it says more and counts as full. Else prove '..UptoSaid'. A law counts once. -/
mutual
def uptoBulk {H : Type} : DataW H → Nat
  | .lit (.string bytes) => bytes.length + 1
  | .lit _ => 1
  | .nil => 1
  | .ptr d => uptoBulk d + 1
  | .slice elems spare => uptoBulkAll elems + uptoBulkAll spare + 1
  | .agg parts => uptoBulkAll parts + 1
  | .iface _ d => uptoBulk d + 1
  | .map entries => uptoBulkEntries entries + 1
  | .held _ => 1
def uptoBulkAll {H : Type} : List (DataW H) → Nat
  | [] => 0
  | d :: r => uptoBulk d + uptoBulkAll r
def uptoBulkEntries {H : Type} : List (Lit × DataW H) → Nat
  | [] => 0
  | x :: r => uptoBulkEntry x + uptoBulkEntries r
def uptoBulkEntry {H : Type} : Lit × DataW H → Nat
  | (.string bytes, d) => bytes.length + uptoBulk d + 1
  | (_, d) => uptoBulk d + 1
 end
def uptoSmall : (H : Type) → List (DataW H) → Bool := fun _ ds => decide (uptoBulkAll ds ≤ 1048576)
def OpenSpec.upto (s : _root_.Go.ChangeSpec) : _root_.Go.OpenSpec := { _root_.Go.OpenSpec.ofChange s with cond := some uptoSmall }

/-- 'hollowtreelaw03.CurveKeys', WHERE WHAT IT READS IS OF BULK AT MOST 1048576: true; the input reads as it did. -/
def curveKeysUptoRow : OpenClaim := { program := "ytebgmneffpeahaadoor", sum := "1c5c134f033bd06891068e75cb51813c83cd3e551e705d16eedb74ea68c252f3", func := "hollowtree/hollowtreelaw03.CurveKeys", spec := "curveKeys", inPlace := ["math/bits.Add64"], named := ["hollowtree/curve.lows"], apart := false, laid := [("hollowtree/curve.lows", laid_hollowtree_curve_lows)], narrowed := true }
def CurveKeysUptoSaid : Prop := curveKeysUptoRow.holds Tryd.pinned (OpenSpec.upto curveKeysSpec)

/-- 'hollowtreelaw03.CurveShares', WHERE WHAT IT READS IS OF BULK AT MOST 1048576: true; the input reads as it did. -/
def curveSharesUptoRow : OpenClaim := { program := "ytebgmneffpeahaadoor", sum := "1c5c134f033bd06891068e75cb51813c83cd3e551e705d16eedb74ea68c252f3", func := "hollowtree/hollowtreelaw03.CurveShares", spec := "curveShares", inPlace := ["math/bits.Add64"], named := ["hollowtree/curve.lows"], apart := false, laid := [("hollowtree/curve.lows", laid_hollowtree_curve_lows)], narrowed := true }
def CurveSharesUptoSaid : Prop := curveSharesUptoRow.holds Tryd.pinned (OpenSpec.upto curveSharesSpec)

end Rows
end Go.Proofs.YtebgmneffpeahaaDoor
