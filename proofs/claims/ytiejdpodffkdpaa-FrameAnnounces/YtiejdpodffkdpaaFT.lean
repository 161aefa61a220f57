/-
  Layer 14: the reference's envelopes as bytes, and of bytes.
-/
import Derived.Test.YtiejdpodffkdpaaFS
namespace Go.Proofs.Ytiejdpodffkdpaa
open Go.RowKit
set_option maxRecDepth 100000
set_option linter.unusedSimpArgs false
set_option linter.unusedVariables false
/-- one byte in a row of its own -/
def Sl8 (k : Int) (u : World) (q : Value) : Prop := ∃ h, q = .slice (some ⟨h, 0, none⟩) 1 1 ∧ u.heap[h]? = some (.cells (kc [k]) 5 (0, 0))
theorem Sl8.gr {k : Int} {u v : World} {q : Value} (h : Sl8 k u q) (e : Gr u v) : Sl8 k v q := by
  obtain ⟨p, h1, h2⟩ := h
  exact ⟨p, h1, e.blk h2⟩
/-- a new record -/
def NRec (b : Nat) (C : Array Value) (t : TypeId) (u : World) (q : Value) : Prop := ∃ g, q = .pointer (some ⟨g, 0, none⟩) ∧ b ≤ g ∧ u.heap[g]? = some (.cells C t (0, 0))
theorem NRec.gr {b : Nat} {C : Array Value} {t : TypeId} {u v : World} {q : Value} (h : NRec b C t u q) (e : Gr u v) : NRec b C t v q := by
  obtain ⟨p, h1, h2, h3⟩ := h
  exact ⟨p, h1, h2, e.blk h3⟩
theorem exec_ibs {a : Act} {o : Oper} (w : World) (x y : Operand) (ho : o.op = .indexAddr 26 x y) (g q len cap i : Nat) (hx : a.eval x = .slice (some ⟨g, q, none⟩) len cap) (hy : a.eval y = .int .i64 i) (hi : i < len) :
    (execOp a.eval o).run Try.prog w = .ok (.value (.pointer (some ⟨g, q + i, none⟩))) w := by
  have h1 : (i : Int) < (len : Int) := by omega
  unfold execOp
  simp only [ho, hx, hy]
  go_simp
end Go.Proofs.Ytiejdpodffkdpaa
