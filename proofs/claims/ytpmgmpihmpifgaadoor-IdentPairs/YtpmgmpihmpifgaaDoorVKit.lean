/-
  Plain facts on blocks of the call's own.
-/
import Derived.Test.YtpmgmpihmpifgaaDoorXK1
namespace Go.Proofs.YtpmgmpihmpifgaaDoor.Cv
open Go.RowKit

theorem _root_.Go.Proofs.YtpmgmpihmpifgaaDoor.Res.five {w v : World} {b : Nat} {t : TypeId} (h : Res w b 5 t v) : ∃ q0 q1 q2 q3 q4, v.cell? ⟨b, 0, none⟩ = some q0 ∧ v.cell? ⟨b, 1, none⟩ = some q1 ∧ v.cell? ⟨b, 2, none⟩ = some q2 ∧ v.cell? ⟨b, 3, none⟩ = some q3 ∧ v.cell? ⟨b, 4, none⟩ = some q4 ∧
    v.frozen? ⟨b, 0, none⟩ = false ∧ v.frozen? ⟨b, 1, none⟩ = false ∧ v.frozen? ⟨b, 2, none⟩ = false ∧ v.frozen? ⟨b, 3, none⟩ = false ∧ v.frozen? ⟨b, 4, none⟩ = false := by
  obtain ⟨q0, h0⟩ := h.cell 0 (by decide)
  obtain ⟨q1, h1⟩ := h.cell 1 (by decide)
  obtain ⟨q2, h2⟩ := h.cell 2 (by decide)
  obtain ⟨q3, h3⟩ := h.cell 3 (by decide)
  obtain ⟨q4, h4⟩ := h.cell 4 (by decide)
  exact ⟨q0, q1, q2, q3, q4, h0, h1, h2, h3, h4, h.froz 0, h.froz 1, h.froz 2, h.froz 3, h.froz 4⟩
theorem _root_.Go.Proofs.YtpmgmpihmpifgaaDoor.Res.set5 {w v : World} {b : Nat} {t : TypeId} (h : Res w b 5 t v) (x0 x1 x2 x3 x4 : Value) : Res w b 5 t (((((v.setCell ⟨b, 0, none⟩ x0).setCell ⟨b, 1, none⟩ x1).setCell ⟨b, 2, none⟩ x2).setCell ⟨b, 3, none⟩ x3).setCell ⟨b, 4, none⟩ x4) :=
  ((((h.set 0 x0).set 1 x1).set 2 x2).set 3 x3).set 4 x4

/-- the second of two new blocks -/
theorem res22 {w v : World} {o : Obj} {cs : Array Value} {t : TypeId} {n : Nat} (hg : Gr ((w.alloc o).alloc (.cells cs t (0, 0))) v) (hn : cs.size = n) : Res w (w.heap.size + 1) n t v := by
  refine Res.gr ⟨((Gr.refl _).alloc _).alloc _, by omega, cs, hn, ?_⟩ hg
  simp only [blk_alloc, size_alloc]
  rw [if_pos trivial]
/-- the third of three new blocks -/
theorem res33 {w v : World} {o o' : Obj} {cs : Array Value} {t : TypeId} {n : Nat} (hg : Gr (((w.alloc o).alloc o').alloc (.cells cs t (0, 0))) v) (hn : cs.size = n) : Res w (w.heap.size + 1 + 1) n t v := by
  refine Res.gr ⟨(((Gr.refl _).alloc _).alloc _).alloc _, by omega, cs, hn, ?_⟩ hg
  simp only [blk_alloc, size_alloc]
  rw [if_pos trivial]
end Go.Proofs.YtpmgmpihmpifgaaDoor.Cv
