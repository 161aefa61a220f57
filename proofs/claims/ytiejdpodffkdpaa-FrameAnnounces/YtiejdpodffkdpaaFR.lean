/-
  Layer 14: the reference's records of bytes.
-/
import Derived.Test.YtiejdpodffkdpaaFQ
namespace Go.Proofs.Ytiejdpodffkdpaa
open Go.RowKit
set_option maxRecDepth 100000
set_option linter.unusedSimpArgs false
set_option linter.unusedVariables false
theorem exec_winl {a : Act} {o : Oper} (w : World) (x y z : Operand) (ho : o.op = .slice 26 x (some y) (some z) none) (p q len cap l h m : Nat) (hx : a.eval x = .slice (some ⟨p, q, none⟩) len cap) (hy : a.eval y = .int .i64 l) (hz : a.eval z = .int .i64 h) (h1 : h = l + m) (h0 : 0 < m) (h2 : h ≤ cap) :
    (execOp a.eval o).run Try.prog w = .ok (.value (.slice (some ⟨p, q + l, none⟩) m (cap - l))) w := by
  have e0 : h - l = m := by omega
  have e1 : (0 : Int) ≤ l := by omega
  have e2 : (l : Int) ≤ h := by omega
  have e3 : (h : Int) ≤ cap := by omega
  have hu : Try.prog.underlying 26 = some (.slice (Try.prog.elem 26)) := by kernel_rfl
  have hs : (sizeOf (Try.prog.elem 26)).run Try.prog w = .ok 1 w := by kernel_rfl
  have hne : ¬ cap = l := by omega
  simp [execOp, ho, hx, hy, hz, run_sliceAt_slice _ _ _ _ _ _ hu, run_slice_lh _ _ _ _ _ hu _ _ _ _ e1 e2 e3, hs, sliced, hne, Addr.add_mid, e0]
theorem exec_froml {a : Act} {o : Oper} (w : World) (x y : Operand) (ho : o.op = .slice 26 x (some y) none none) (p q len cap l : Nat) (hx : a.eval x = .slice (some ⟨p, q, none⟩) len cap) (hy : a.eval y = .int .i64 l) (h1 : l < len) (h2 : len ≤ cap) :
    (execOp a.eval o).run Try.prog w = .ok (.value (.slice (some ⟨p, q + l, none⟩) (len - l) (cap - l))) w := by
  have h := exec_from w x y ho (some ⟨p, q, none⟩) len cap l hx hy h2 (by omega)
  rw [if_neg (by omega), Option.map_some, Addr.add_mid] at h
  exact h
theorem lb_win {w : World} {p q n c : Nat} {L : List Int} (h : Lb w (some ⟨p, q, none⟩) n c L) (l m : Nat) (hm : l + m ≤ n) (h0 : 0 < n) : Lb w (some ⟨p, q + l, none⟩) m (c - l) ((L.drop l).take m) := by
  have hat : At w p q L := by
    rcases h.sl with e | ⟨p', q', e, h2⟩
    · have := h.len
      rw [e] at this
      simp at this
      omega
    · have e2 := Option.some.inj e
      injection e2 with e3 e4 _
      subst e3 e4
      exact h2
  exact ⟨sub_len h.len hm, sub_isB h.isB l m, .inr ⟨p, q + l, rfl, (hat.drop l).take m⟩, by have := h.cap; omega, by have := h.max; omega⟩
theorem lb_fromd {w : World} {p q n c : Nat} {L : List Int} (h : Lb w (some ⟨p, q, none⟩) n c L) (l : Nat) (hm : l < n) : Lb w (some ⟨p, q + l, none⟩) (n - l) (c - l) (L.drop l) := by
  have h1 := lb_win h l (n - l) (by omega) (by omega)
  rwa [List.take_of_length_le (by rw [List.length_drop, h.len]; exact Nat.le_refl _)] at h1
theorem lb_cell {w : World} {p q n c : Nat} {L : List Int} (h : Lb w (some ⟨p, q, none⟩) n c L) (i : Nat) (hi : i < n) : w.cell? ⟨p, q + i, none⟩ = some (.int .u8 (L.getD i 0)) := by
  obtain ⟨p', q', e, h2⟩ := h.cellAt hi
  have e2 := Option.some.inj e
  injection e2 with e3 e4 _
  subst e3 e4
  exact h2
end Go.Proofs.Ytiejdpodffkdpaa
