/-
  Layer 14: the reference's messages, exchanges, envelopes of bytes.
-/
import Derived.Test.YtiejdpodffkdpaaFR
namespace Go.Proofs.Ytiejdpodffkdpaa
open Go.RowKit
set_option maxRecDepth 100000
set_option linter.unusedSimpArgs false
set_option linter.unusedVariables false
theorem list_off {P : Program} {ops : Array Oper} {Q : Exit → Act → World → Prop} {rest : List Oper} {o : Oper} {a : Act} {w : World} (hw : Region.wanted o (yielded ops a.tmps) = false) (h : wpList P ops Q rest (a.put o.dst undef) w) : wpList P ops Q (o :: rest) a w := by
  refine wpList_step fun K hK => ?_
  rw [if_neg (ne_true_of_eq_false hw)]
  exact hK _ _ h
def putU : List Oper → Act → Act
  | [], a => a
  | o :: os, a => putU os (a.put o.dst undef)
def offB (ops : Array Oper) : List Oper → Act → Bool
  | [], _ => true
  | o :: os, a => !(Region.wanted o (yielded ops a.tmps)) && offB ops os (a.put o.dst undef)
theorem list_offs {P : Program} {ops : Array Oper} {Q : Exit → Act → World → Prop} {w : World} : ∀ (k : Nat) (rest : List Oper) (a : Act), offB ops (rest.take k) a = true → wpList P ops Q (rest.drop k) (putU (rest.take k) a) w → wpList P ops Q rest a w
  | 0, rest, a, _, h => h
  | k + 1, [], a, _, h => h
  | k + 1, o :: rest, a, ho, h => by
    simp only [List.take_succ_cons, offB, Bool.and_eq_true, Bool.not_eq_true'] at ho
    exact list_off ho.1 (list_offs k rest _ ho.2 h)
/-- an operation whose value is known, and k behind it that are not wanted -/
theorem list_val_offs {P : Program} {ops : Array Oper} {Q : Exit → Act → World → Prop} {rest : List Oper} {o : Oper} {a : Act} {w : World} (k : Nat) (v : Value) (hw : Region.wanted o (yielded ops a.tmps) = true) (hx : (execOp a.eval o).run P w = .ok (.value v) w) (ho : offB ops (rest.take k) (a.put o.dst v) = true) (h : wpList P ops Q (rest.drop k) (putU (rest.take k) (a.put o.dst v)) w) : wpList P ops Q (o :: rest) a w :=
  list_val v hw hx (list_offs k rest _ ho h)
end Go.Proofs.Ytiejdpodffkdpaa
