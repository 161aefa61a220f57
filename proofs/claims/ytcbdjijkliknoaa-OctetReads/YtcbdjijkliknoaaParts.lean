/-
  Plain facts, of no program: bytes that lie in memory, a world that is left still or turned in one block alone, a reader's block of three cells.
-/
import Derived.WalkKit
import Derived.WalkSpells
import Derived.WalkLawsBesides
namespace Go.Proofs.Ytcbdjijkliknoaa
open Go.RowKit

theorem hide {p : Prop} (h : p) : Hid p := h
theorem unhide {p : Prop} (h : Hid p) : p := h

/-- The first n cells from a on hold the bytes l. -/
def Bs (w : World) (a : Option Addr) (n : Nat) (l : List Int) : Prop :=
  l.length = n ∧ (∀ x ∈ l, 0 ≤ x ∧ x < 256) ∧ (0 < n → ∃ b off, a = some ⟨b, off, none⟩ ∧ ∀ i, i < n → w.cell? ⟨b, off + i, none⟩ = some (.int .u8 (l.getD i 0)))

/-- Nothing has turned but the count of draws. -/
structure Still (w w' : World) : Prop where
  os : w'.os = w.os
  tape : w'.tape = w.tape
  output : w'.output = w.output
  heap : w'.heap = w.heap

theorem Still.refl (w : World) : Still w w := ⟨rfl, rfl, rfl, rfl⟩
theorem Still.drew {a w : World} (h : Still a w) : Still a w.drew := ⟨h.os, h.tape, h.output, h.heap⟩
theorem Still.drewN (w : World) (n : Nat) : Still w (w.drewN n) := ⟨rfl, rfl, rfl, rfl⟩
theorem Still.trans {a b c : World} (h : Still a b) (k : Still b c) : Still a c := ⟨k.os.trans h.os, k.tape.trans h.tape, k.output.trans h.output, k.heap.trans h.heap⟩
theorem Still.cell {w w' : World} (h : Still w w') (p : Addr) : w'.cell? p = w.cell? p := World.cell?_of_block (w := w) (by rw [h.heap])
theorem Still.frozen {w w' : World} (h : Still w w') (p : Addr) : w'.frozen? p = w.frozen? p := World.frozen?_of_block (w := w) (by rw [h.heap])
theorem Still.below {w w' : World} (h : Still w w') (B : Nat) : Below B w w' := ⟨h.os, h.tape, h.output, by rw [h.heap]; exact Nat.le_refl _, fun _ _ => by rw [h.heap]⟩

/-- Nothing has turned but the block p. -/
structure But (p : Nat) (w w' : World) : Prop where
  os : w'.os = w.os
  tape : w'.tape = w.tape
  output : w'.output = w.output
  size : w'.heap.size = w.heap.size
  block : ∀ k, k ≠ p → w'.heap[k]? = w.heap[k]?

theorem But.refl (p : Nat) (w : World) : But p w w := ⟨rfl, rfl, rfl, rfl, fun _ _ => rfl⟩
theorem But.trans {p : Nat} {a b c : World} (h : But p a b) (k : But p b c) : But p a c := ⟨k.os.trans h.os, k.tape.trans h.tape, k.output.trans h.output, k.size.trans h.size, fun i hi => (k.block i hi).trans (h.block i hi)⟩
theorem Still.but {w w' : World} (h : Still w w') (p : Nat) : But p w w' := ⟨h.os, h.tape, h.output, by rw [h.heap], fun _ _ => by rw [h.heap]⟩
theorem But.set (p o : Nat) (w : World) (v : Value) : But p w (w.setCell ⟨p, o, none⟩ v) := ⟨rfl, rfl, rfl, by simp, fun k hk => Below.heap_setCell w _ v k hk⟩
theorem But.below {p B : Nat} {w w' : World} (h : But p w w') (hB : B ≤ p) : Below B w w' := ⟨h.os, h.tape, h.output, by rw [h.size]; exact Nat.le_refl _, fun k hk => h.block k (by omega)⟩

/-- A reader's block: where it is, its error, its bytes. -/
def Rd (w : World) (p : Nat) (i e : Int) (d : Value) : Prop := w.heap[p]? = some (.cells #[.int .i64 i, .int .i64 e, d] 67 (0, 0))
theorem Rd.lt {w : World} {p : Nat} {i e : Int} {d : Value} (h : Rd w p i e d) : p < w.heap.size := lt_of_block h
theorem Rd.c0 {w : World} {p : Nat} {i e : Int} {d : Value} (h : Rd w p i e d) : w.cell? ⟨p, 0, none⟩ = some (.int .i64 i) := by unfold Rd at h; simp [World.cell?, h]
theorem Rd.c1 {w : World} {p : Nat} {i e : Int} {d : Value} (h : Rd w p i e d) : w.cell? ⟨p, 1, none⟩ = some (.int .i64 e) := by unfold Rd at h; simp [World.cell?, h]
theorem Rd.c2 {w : World} {p : Nat} {i e : Int} {d : Value} (h : Rd w p i e d) : w.cell? ⟨p, 2, none⟩ = some d := by unfold Rd at h; simp [World.cell?, h]
theorem Rd.f {w : World} {p : Nat} {i e : Int} {d : Value} (h : Rd w p i e d) (o : Nat) : w.frozen? ⟨p, o, none⟩ = false := by unfold Rd at h; simp [World.frozen?, h]
theorem Rd.still {w w' : World} {p : Nat} {i e : Int} {d : Value} (h : Rd w p i e d) (s : Still w w') : Rd w' p i e d := by unfold Rd at *; rw [s.heap]; exact h
theorem Rd.below {w w' : World} {p B : Nat} {i e : Int} {d : Value} (h : Rd w p i e d) (s : Below B w w') (hp : p < B) : Rd w' p i e d := by unfold Rd at *; rw [s.block p hp]; exact h
theorem Rd.but {w w' : World} {p q : Nat} {i e : Int} {d : Value} (h : Rd w p i e d) (s : But q w w') (hp : p ≠ q) : Rd w' p i e d := by unfold Rd at *; rw [s.block p hp]; exact h

theorem three_set0 {w : World} {b : Nat} {x y z u : Value} {t : TypeId} (h : w.heap[b]? = some (.cells #[x, y, z] t (0, 0))) : (w.setCell ⟨b, 0, none⟩ u).heap[b]? = some (.cells #[u, y, z] t (0, 0)) := by
  have hlt := lt_of_block h
  have h' : w.heap[b] = .cells #[x, y, z] t (0, 0) := by simpa [Array.getElem?_eq_getElem hlt] using h
  show (w.heap.modify b _)[b]? = _
  rw [Array.getElem?_eq_getElem (by simpa using hlt), Array.getElem_modify_self, h']
  rfl
theorem three_set1 {w : World} {b : Nat} {x y z u : Value} {t : TypeId} (h : w.heap[b]? = some (.cells #[x, y, z] t (0, 0))) : (w.setCell ⟨b, 1, none⟩ u).heap[b]? = some (.cells #[x, u, z] t (0, 0)) := by
  have hlt := lt_of_block h
  have h' : w.heap[b] = .cells #[x, y, z] t (0, 0) := by simpa [Array.getElem?_eq_getElem hlt] using h
  show (w.heap.modify b _)[b]? = _
  rw [Array.getElem?_eq_getElem (by simpa using hlt), Array.getElem_modify_self, h']
  rfl

theorem lt_of_cell {w : World} {p : Addr} {v : Value} (h : w.cell? p = some v) : p.block < w.heap.size := by
  rcases Nat.lt_or_ge p.block w.heap.size with h' | h'
  · exact h'
  · simp [World.cell?, Array.getElem?_eq_none h'] at h

theorem Bs.below {w w' : World} {a : Option Addr} {n : Nat} {l : List Int} (h : Bs w a n l) (s : Below w.heap.size w w') : Bs w' a n l := by
  obtain ⟨h1, h2, h3⟩ := h
  refine ⟨h1, h2, fun hn => ?_⟩
  obtain ⟨b, off, ha, hc⟩ := h3 hn
  exact ⟨b, off, ha, fun i hi => by rw [s.cell (p := ⟨b, off + i, none⟩) (lt_of_cell (hc i hi))]; exact hc i hi⟩
theorem Bs.still {w w' : World} {a : Option Addr} {n : Nat} {l : List Int} (h : Bs w a n l) (s : Still w w') : Bs w' a n l := h.below (s.below _)
/-- What lies in another block stays. -/
theorem Bs.but {w w' : World} {a : Option Addr} {n p : Nat} {l : List Int} (h : Bs w a n l) (s : But p w w') (hp : ∀ x, a = some x → x.block ≠ p) : Bs w' a n l := by
  obtain ⟨h1, h2, h3⟩ := h
  refine ⟨h1, h2, fun hn => ?_⟩
  obtain ⟨b, off, ha, hc⟩ := h3 hn
  exact ⟨b, off, ha, fun i hi => by rw [World.cell?_of_block (w := w) (a := ⟨b, off + i, none⟩) (s.block b (hp _ ha))]; exact hc i hi⟩
theorem Bs.nil (w : World) (a : Option Addr) : Bs w a 0 [] := ⟨rfl, by simp, fun h => by omega⟩
end Go.Proofs.Ytcbdjijkliknoaa
