/-
  Steps of the laws' walks: a slice up to its room, an element of it, a byte loaded and stored; numbers told by their bytes.
-/
import Derived.Test.YtdekjbdkpchbjaaAeW
namespace Go.Proofs.Ytdekjbdkpchbjaa
open Go.RowKit
set_option maxRecDepth 100000
set_option linter.unusedSimpArgs false
set_option linter.unusedVariables false
theorem exec_cap {a : Act} {o : Oper} (w : World) (x y : Operand) (ho : o.op = .slice 26 x none (some y) none) (g len cap n : Nat) (hx : a.eval x = .slice (some ⟨g, 0, none⟩) len cap) (hy : a.eval y = .int .i64 n) (hc : 0 < cap) (hn : n ≤ cap) :
    (execOp a.eval o).run Try.prog w = .ok (.value (.slice (some ⟨g, 0, none⟩) n cap)) w := by
  have h1 : (0 : Int) ≤ n := by omega
  have h2 : (n : Int) ≤ cap := by omega
  have h3 : ¬ cap = 0 := by omega
  have hu : Try.prog.underlying 26 = some (.slice (Try.prog.elem 26)) := by kernel_rfl
  have hz : (sizeOf (Try.prog.elem 26)).run Try.prog w = .ok 1 w := by kernel_rfl
  simp [execOp, ho, hx, hy, run_sliceAt_slice _ _ _ _ _ _ hu, run_slice_h _ _ _ _ _ hu _ _ h1 h2, hz, sliced, h3]
  rfl
theorem exec_u8 {op : Oper} {a : Act} (w : World) (x : Operand) (ho : op.op = .load 5 x) (g i : Nat) (hx : a.eval x = .pointer (some ⟨g, i, none⟩)) (v : Int) (hc : w.cell? ⟨g, i, none⟩ = some (.int .u8 v)) : (execOp a.eval op).run Try.prog w = .ok (.value (.int .u8 v)) w := by
  unfold execOp
  simp only [ho, hx, Instr.loadAt, Instr.sureAddr, Sem.run_bind, Sem.run_pure, Result.andThen_ok]
  go_simp
theorem exec_at {a : Act} {o : Oper} (w : World) (x y : Operand) (ho : o.op = .indexAddr 26 x y) (g q len cap i : Nat) (hx : a.eval x = .slice (some ⟨g, q, none⟩) len cap) (hy : a.eval y = .int .i64 i) (hi : i < len) :
    (execOp a.eval o).run Try.prog w = .ok (.value (.pointer (some ⟨g, q + i, none⟩))) w := by
  have h1 : (i : Int) < (len : Int) := by omega
  unfold execOp
  simp only [ho, hx, hy]
  go_simp
theorem lowL_inj : ∀ (k : Nat) (n m : Int), 0 ≤ n → 0 ≤ m → n < 256 ^ k → m < 256 ^ k → lowL n k = lowL m k → n = m
  | 0, n, m, h1, h2, h3, h4, _ => by
    rw [Int.pow_zero] at h3 h4
    omega
  | k + 1, n, m, h1, h2, h3, h4, h => by
    rw [lowL, lowL, List.cons.injEq] at h
    rw [Int.pow_succ] at h3 h4
    have := lowL_inj k (n / 256) (m / 256) (by omega) (by omega) (by omega) (by omega) h.2
    omega
theorem cntL_ne (n m : Int) (h1 : 0 ≤ n) (h2 : 0 ≤ m) (h3 : n < 18446744073709551616) (h4 : m < 18446744073709551616) (h : n ≠ m) : cntL n ≠ cntL m := fun e => by
  unfold cntL at e
  exact h (lowL_inj 8 n m h1 h2 h3 h4 (List.append_cancel_left e))
/-- sealed texts of one length are one just if the texts are -/
theorem seal_inj (K N A : List Int) {P Q : List Int} (hP : IsB P) (hQ : IsB Q) (hl : P.length = Q.length) (h : sealL K N A P = sealL K N A Q) : P = Q := by
  unfold sealL at h
  exact xl_inj K N 1 hP hQ (List.append_inj h (by rw [xl_len, xl_len, hl])).1
theorem Gr.setAt {a w : World} (h : Gr a w) {g : Nat} (hg : a.heap.size ≤ g) (i : Nat) (x : Value) : Gr a (w.setCell ⟨g, i, none⟩ x) := h.setCell hg x
end Go.Proofs.Ytdekjbdkpchbjaa
