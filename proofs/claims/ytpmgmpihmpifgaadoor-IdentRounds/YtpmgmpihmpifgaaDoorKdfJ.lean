/-
  Parts in memory of their own; Extract.
-/
import Derived.Test.YtpmgmpihmpifgaaDoorKdfI
namespace Go.Proofs.YtpmgmpihmpifgaaDoor
open Go.RowKit
set_option maxRecDepth 100000
set_option linter.unusedSimpArgs false
set_option linter.unusedVariables false

theorem Tryd.infoB : (Tryd.prog.info? 33).map (fun i => (i.zero, i.size, i.bytes)) = some (some (.slice none 0 0), 1, 24) := by kernel_rfl
/-- a row of lists that the call itself has made -/
def Ov (b : Nat) (w : World) (v : Value) (xs : List Value) : Prop := w.ownsRow b 33 1 v xs.length xs
theorem Ov.gr {b : Nat} {w u : World} {v : Value} {xs : List Value} (h : Ov b w v xs) (k : Gr w u) : Ov b u v xs := by
  obtain ⟨h1, h2 | ⟨g, cap, cur, h2, h3, h4, h5⟩⟩ := h
  · exact ⟨h1, .inl h2⟩
  · exact ⟨h1, .inr ⟨g, cap, cur, h2, h3, k.blk h4, h5⟩⟩
theorem Ov.grown {b : Nat} {w u u' : World} {v : Value} {xs : List Value} (h : Ov b u v xs) (hb : w.heap.size ≤ b) (k : Gr w u) (g : u.grownBy u' v.ownBlock) : Gr w u' := by
  refine ⟨g.os.trans k.os, g.tape.trans k.tape, g.output.trans k.output, Nat.le_trans k.size g.size, fun i hi => (g.block i (Nat.lt_of_lt_of_le hi k.size) ?_).trans (k.block i hi)⟩
  intro e
  have := (World.ownsRow.lt h i e.symm).1
  omega
/-- a list of bytes stays while the row is written: their blocks are of two types -/
theorem Ob.beside {b b' : Nat} {u u' : World} {v x : Value} {L : List Int} {xs : List Value} (h : Ob b u v L) (k : Ov b' u x xs) (g : u.grownBy u' x.ownBlock) : Ob b u' v L := by
  obtain ⟨h1, h2 | ⟨p, cap, cur, h2, h3, h4, h5⟩⟩ := h
  · exact ⟨h1, .inl h2⟩
  · refine ⟨h1, .inr ⟨p, cap, cur, h2, h3, ?_, h5⟩⟩
    rw [g.block p (lt_of_block h4) ?_]
    · exact h4
    · intro e
      rcases k.2 with ⟨k1, _⟩ | ⟨q, cap2, cur2, k1, _, k3, _⟩
      · rw [k1] at e; cases e
      · rw [k1] at e
        have e2 : q = p := by simpa [Value.ownBlock] using e.symm
        rw [e2, h4] at k3
        have k4 := Option.some.inj k3
        simp at k4
theorem app_row {w : World} {ops : Array Oper} {rest : List Oper} {o : Oper} {a : Act} {Q : Exit → Act → World → Prop} (hgd : o.guard = none) (s x : Operand)
    (ho : o.op = .call { callee := .builtin .append, args := #[s, x], argTypes := #[62, 62] }) (b : Nat) (v : Value) (xs : List Value) (hs : a.eval s = v) (hown : Ov b w v xs)
    (g : Nat) (y : Value) (t : TypeId) (hx : a.eval x = .slice (some ⟨g, 0, none⟩) 1 1) (hg : w.heap[g]? = some (.cells #[y] t (0, 0))) (hy : y.oneCell' = true) (hbig : xs.length ≤ 1000000) (hB : b ≤ w.heap.size)
    (h : ∀ v' w', Ov b w' v' (xs ++ [y]) → w.grownBy w' v.ownBlock → wpList Tryd.prog ops Q rest (a.put o.dst v') w') :
    wpList Tryd.prog ops Q (o :: rest) a w := by
  obtain ⟨i0, hi, hz0, hz1, hz2⟩ := info_parts Tryd.infoB
  refine wpList_append_own_wide w hgd s x 62 ho b 33 i0 (.slice none 0 0) 1 24 Tryd.underlying62 hi hz0 hz1 hz2 rfl (by decide) v xs.length xs hs hown ⟨g, 0, none⟩ 1 1 [y] hx rfl ?_ ?_ (by unfold maxLen; omega) (by omega) hB ?_
  · intro j u hj
    have hj0 : j = 0 := by have := (List.getElem?_eq_some_iff.1 hj).1; simp at this; exact this
    subst hj0
    have hu : y = u := by simpa using hj
    subst hu
    rw [Addr.add_mid]
    exact cell_of hg rfl
  · intro u hu
    have : u = y := by simpa using hu
    subst this
    exact hy
  · intro v' w' h1 h2 _
    refine h v' w' ?_ h2
    unfold Ov
    rw [List.length_append]
    exact h1
/-- the first k parts, copied -/
structure CI (w : World) (ps : List (List Int)) (k : Nat) (v3 : Value) (xs : List Value) (v : World) : Prop where
  ov : Ov w.heap.size v v3 xs
  len : xs.length = k
  ea : ∀ j, j < k → ∃ a n c, xs[j]? = some (.slice a n c) ∧ Ob w.heap.size v (.slice a n c) (ps.getD j [])
  gr : Gr w v
theorem CI.more {w : World} {ps : List (List Int)} {k : Nat} {v3 : Value} {xs : List Value} {u v : World} (h : CI w ps k v3 xs u) (g : Gr u v) : CI w ps k v3 xs v :=
  ⟨h.ov.gr g, h.len, fun j hj => by obtain ⟨a, n, c, h1, h2⟩ := h.ea j hj; exact ⟨a, n, c, h1, h2.gr g⟩, h.gr.trans g⟩
def Copd (ps : List (List Int)) (w : World) (r : Ending) (w' : World) : Prop := ∃ a c, r = .returned (.slice a ps.length c) ∧ Pr w' a ps ∧ Gr w w'
theorem CI.done {w : World} {ps : List (List Int)} {k : Nat} {v3 : Value} {xs : List Value} {v : World} (h : CI w ps k v3 xs v) (hk : ps.length = k) (hb : ∀ p ∈ ps, IsB p) : ∃ a c, v3 = .slice a k c ∧ Pr v a ps := by
  rcases h.ov.2 with ⟨h1, h2⟩ | ⟨g, cap, cur, h1, h2, h3, h4, h5, h6, h7⟩
  · have h0 : k = 0 := by rw [← h.len]; exact h2
    subst h0
    exact ⟨none, 0, h1, .inl (List.eq_nil_of_length_eq_zero hk)⟩
  · rw [h.len] at h1 h7 h4
    refine ⟨_, cap, h1, .inr ⟨g, 0, rfl, fun j hj => ?_⟩⟩
    obtain ⟨a, n, c, h8, h9⟩ := h.ea j (by omega)
    obtain ⟨a2, c2, e2, h10, h11, h12⟩ := h9.slice
    obtain ⟨rfl, rfl, rfl⟩ := (Value.slice.injEq _ _ _ _ _ _).mp e2
    refine ⟨a, _, c, ?_, rfl, hb _ (by rw [List.getD_eq_getElem?_getD, List.getElem?_eq_getElem hj]; exact List.getElem_mem _), h12, h10, by unfold maxLen at h11; omega⟩
    rw [Nat.zero_add]
    refine cell_of h3 ?_
    rw [← Array.getElem?_toList]
    rw [← h7, Nat.mul_one, List.getElem?_take, if_pos (by omega)] at h8
    exact h8
end Go.Proofs.YtpmgmpihmpifgaaDoor
