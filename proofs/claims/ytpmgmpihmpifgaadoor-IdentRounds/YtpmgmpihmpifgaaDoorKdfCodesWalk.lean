/-
  The code of whatever key and parts is the document's: the walk.
-/
import Derived.Test.YtpmgmpihmpifgaaDoorKdfJ
namespace Go.Proofs.YtpmgmpihmpifgaaDoor
open Go.RowKit
set_option maxRecDepth 100000
set_option linter.unusedSimpArgs false
set_option linter.unusedVariables false

/-- where bytes lie, if there are any -/
theorem Lb.old {w : World} {a : Option Addr} {n c : Nat} {D : List Int} (h : Lb w a n c D) : ∀ y, a = some y → y.block < w.heap.size ∨ D = [] := by
  intro y hy
  rcases h.sl with h1 | ⟨p, o, e, h2⟩
  · exact .inr h1
  · by_cases h0 : D = []
    · exact .inr h0
    · rw [e] at hy
      have hy2 : y = ⟨p, o, none⟩ := (Option.some.inj hy).symm
      have := lt_of_cell (h2 0 (by cases hh : D with | nil => exact absurd hh h0 | cons x r => simp))
      rw [hy2]
      exact .inl this
theorem Lb.app2 {u v : World} {b : Nat} {x : Value} {L D : List Int} {a : Option Addr} {n c : Nat} (h : Lb u a n c D) (hold : ∀ y, a = some y → y.block < b ∨ D = []) (ho : Ob b u x L) (k : u.grownBy v x.ownBlock) : Lb v a n c D := by
  refine ⟨h.len, h.isB, ?_, h.cap, h.max⟩
  rcases h.sl with h1 | ⟨p, o, h1, h2⟩
  · exact .inl h1
  · rcases hold _ h1 with h3 | h3
    · refine .inr ⟨p, o, h1, fun j hj => ?_⟩
      have h4 := h2 j hj
      dsimp only at h3
      rw [cell_heap (k.block p (lt_of_cell h4) (fun e => by have := (World.ownsRow.lt ho _ e.symm).1; omega))]
      exact h4
    · exact .inl h3
end Go.Proofs.YtpmgmpihmpifgaaDoor
