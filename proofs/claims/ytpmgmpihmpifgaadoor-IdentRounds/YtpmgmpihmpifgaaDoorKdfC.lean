/-
  wakes answers true; parts as bytes in a row.
-/
import Derived.Test.YtpmgmpihmpifgaaDoorKdfB
namespace Go.Proofs.YtpmgmpihmpifgaaDoor
open Go.RowKit
set_option maxRecDepth 100000
set_option linter.unusedSimpArgs false
set_option linter.unusedVariables false

theorem Lb.nil (w : World) : Lb w none 0 0 [] := ⟨rfl, (by intro x hx; cases hx), .inl rfl, by omega, by omega⟩
theorem Pr.one {w : World} {p : Nat} {a : Option Addr} {n c : Nat} {t : TypeId} {P : List Int} (h : w.heap[p]? = some (.cells #[.slice a n c] t (0, 0))) (hp : Lb w a n c P) : Pr w (some ⟨p, 0, none⟩) [P] := by
  refine .inr ⟨p, 0, rfl, fun j hj => ?_⟩
  have hj0 : j = 0 := by simp at hj; exact hj
  subst hj0
  exact ⟨a, n, c, cell_of h rfl, hp.len, hp.isB, hp.sl, hp.cap, hp.max⟩
theorem Pr.pair {w : World} {p : Nat} {a b : Option Addr} {n c m d : Nat} {t : TypeId} {P Q : List Int} (h : w.heap[p]? = some (.cells #[.slice a n c, .slice b m d] t (0, 0))) (hp : Lb w a n c P) (hq : Lb w b m d Q) : Pr w (some ⟨p, 0, none⟩) [P, Q] := by
  refine .inr ⟨p, 0, rfl, fun j hj => ?_⟩
  have hj0 : j = 0 ∨ j = 1 := by simp at hj; omega
  rcases hj0 with rfl | rfl
  · exact ⟨a, n, c, cell_of h rfl, hp.len, hp.isB, hp.sl, hp.cap, hp.max⟩
  · exact ⟨b, m, d, cell_of h rfl, hq.len, hq.isB, hq.sl, hq.cap, hq.max⟩
theorem Pr.three {w : World} {p : Nat} {a b e : Option Addr} {n c m d k f : Nat} {t : TypeId} {P Q R : List Int} (h : w.heap[p]? = some (.cells #[.slice a n c, .slice b m d, .slice e k f] t (0, 0))) (hp : Lb w a n c P) (hq : Lb w b m d Q) (hr : Lb w e k f R) : Pr w (some ⟨p, 0, none⟩) [P, Q, R] := by
  refine .inr ⟨p, 0, rfl, fun j hj => ?_⟩
  have hj0 : j = 0 ∨ j = 1 ∨ j = 2 := by simp at hj; omega
  rcases hj0 with rfl | rfl | rfl
  · exact ⟨a, n, c, cell_of h rfl, hp.len, hp.isB, hp.sl, hp.cap, hp.max⟩
  · exact ⟨b, m, d, cell_of h rfl, hq.len, hq.isB, hq.sl, hq.cap, hq.max⟩
  · exact ⟨e, k, f, cell_of h rfl, hr.len, hr.isB, hr.sl, hr.cap, hr.max⟩
theorem conv_bs (l : List Int) (w : World) : (convert 33 33 (.slice (some ⟨w.heap.size, 0, none⟩) l.length l.length)).run Tryd.prog (w.alloc (.cells (kc l) 5)) = .ok (.slice (some ⟨w.heap.size, 0, none⟩) l.length l.length) (w.alloc (.cells (kc l) 5 (l.length, l.length + 1))) := by
  have hs : (w.alloc (.cells (kc l) 5)).shape? w.heap.size = some (5, l.length) := by
    unfold World.shape?
    rw [blk_new]
    simp [kc_size]
  have hf : (w.alloc (.cells (kc l) 5)).freeze ⟨w.heap.size, l.length, none⟩ 1 = w.alloc (.cells (kc l) 5 (l.length, l.length + 1)) := by
    unfold World.freeze World.alloc
    simp only [Nat.one_ne_zero, if_false]
    congr 1
    apply Array.ext
    · simp
    · intro i h1 h2
      simp only [Array.getElem_modify, Array.getElem_push]
      split
      · rename_i e
        subst e
        simp
      · have h3 : i < w.heap.size := by simp at h1; omega
        simp [h3]
  simp [convert, run_underlying Tryd.underlying33, run_underlying Tryd.underlying5, markStringish, shape, hs, hf, Sem.run, go_sem]
theorem kc_at' {w : World} {g : Nat} {l : List Int} {t : TypeId} {z : Nat × Nat} (h : w.heap[g]? = some (.cells (kc l) t z)) : At w g 0 l := fun j hj => by
  rw [Nat.zero_add]
  exact cell_of h (kc_get l j hj)
def isBb (l : List Int) : Bool := l.all fun x => decide (0 ≤ x) && decide (x < 256)
theorem isB_of {l : List Int} (h : isBb l = true) : IsB l := by
  intro x hx
  have := List.all_eq_true.1 h x hx
  simpa using this
def tx0 : List Int := [74, 101, 102, 101]
def tx1 : List Int := [119, 104, 97, 116, 32, 100, 111, 32, 121, 97, 32, 119, 97, 110, 116, 32]
def tx2 : List Int := [102, 111, 114, 32, 110, 111, 116, 104, 105, 110, 103, 63]
theorem jefe0 : (hmacL tx0 ([tx1, tx2] : List (List Int)).flatten).getD 0 0 = 91 := by decide +kernel
theorem jefe31 : (hmacL tx0 ([tx1, tx2] : List (List Int)).flatten).getD 31 0 = 67 := by decide +kernel
/-- bytes of a text, made -/
theorem lit_lb {w : World} (l : List Int) (hb : isBb l = true) (hl : l.length < 100) : Lb (w.alloc (.cells (kc l) 5 (l.length, l.length + 1))) (some ⟨w.heap.size, 0, none⟩) l.length l.length l :=
  ⟨rfl, isB_of hb, .inr ⟨_, 0, rfl, kc_at' (blk_new _ _)⟩, Nat.le_refl _, by omega⟩
end Go.Proofs.YtpmgmpihmpifgaaDoor
