/-
  append of a list of bytes to one that the call itself has made, guarded or not.
-/
import Derived.Test.YtcbdjijkliknoaaKey
import Derived.Laws.AppendOwnNone
namespace Go.Proofs.Ytcbdjijkliknoaa
open Go.RowKit

theorem wpList_wanted {P : Program} {w : World} {ops : Array Oper} {rest : List Oper} {o : Oper} {a : Act} {Q : Exit → Act → World → Prop} (hw : Region.wanted o (yielded ops a.tmps) = true)
    (h : Oper.wp P o a w (wpList P ops Q rest) Q) : wpList P ops Q (o :: rest) a w := by
  rw [wpList, if_pos hw]
  exact Or.inl h

theorem wpList_append_bytes {w : World} {ops : Array Oper} {rest : List Oper} {o : Oper} {a : Act} {Q : Exit → Act → World → Prop} (hw : Region.wanted o (yielded ops a.tmps) = true) (s x : Operand)
    (ho : o.op = .call { callee := .builtin .append, args := #[s, x], argTypes := #[22, 22] }) (B : Nat) (v : Value) (m : Nat) (l0 : List Int) (hs : a.eval s = v) (hown : w.ownsRow B 5 1 v m (l0.map (Value.int .u8)))
    (sp : Option Addr) (n sc : Nat) (l : List Int) (hx : a.eval x = .slice sp n sc) (hsp : sp = none → sc = 0) (hbs : Bs w sp n l) (hmn : m + n ≤ 140737488355328) (hB : B ≤ w.heap.size)
    (h : ∀ a' c' w', Hid (w'.ownsRow B 5 1 (.slice a' (m + n) c') (m + n) ((l0 ++ l).map (Value.int .u8))) → w.grownBy w' v.ownBlock → wpList Try.prog ops Q rest (a.put o.dst (.slice a' (m + n) c')) w') :
    wpList Try.prog ops Q (o :: rest) a w := by
  obtain ⟨i0, hi, hz0, hz1, hz2⟩ := info_parts Try.info5
  refine wpList_wanted hw ?_
  rcases sp with _ | ad
  · have h0 := hsp rfl
    subst h0
    have hn : n = 0 := by
      rcases Nat.eq_zero_or_pos n with h0 | h0
      · exact h0
      · obtain ⟨_, _, h, _⟩ := hbs.2.2 h0; simp at h
    subst hn
    obtain rfl := List.eq_nil_of_length_eq_zero hbs.1
    obtain ⟨a', c', rfl⟩ := own_slice hown
    have hrun := run_append_owned_none (P := Try.prog) (w := w) B 22 o.type 5 i0 1 Try.underlying22 hi _ m _ hown
    unfold Oper.wp
    simp [execOp, ho, resolve, invoke, builtin, hs, hx, hrun, Result.andThen]
    exact h a' c' w (by rw [List.append_nil]; exact hown) (World.grownBy.refl _ _)
  · refine wp_append_own w s x 22 ho B 5 i0 (.int .u8 0) 1 1 Try.underlying22 hi hz0 hz1 hz2 rfl (by decide) v m _ hs hown ad n sc (l.map (Value.int .u8)) hx (by have := hbs.1; simp; omega) ?_ ?_ (by unfold maxLen; omega) (by omega) hB ?_
    · intro j u hj
      have hl := hbs.1
      subst hl
      rcases Nat.eq_zero_or_pos l.length with h0 | h0
      · obtain rfl := List.eq_nil_of_length_eq_zero h0
        simp at hj
      · obtain ⟨ad', had, hc⟩ := bs_cells hbs h0
        simp only [Option.some.injEq] at had
        subst had
        exact hc j u hj
    · intro u hu
      obtain ⟨y, _, rfl⟩ := List.mem_map.1 hu
      rfl
    · intro v' w' h1 h2 _
      obtain ⟨a', c', rfl⟩ := own_slice h1
      refine h a' c' w' ?_ h2
      show World.ownsRow _ _ _ _ _ _ _
      rw [List.map_append]
      exact h1
end Go.Proofs.Ytcbdjijkliknoaa
