/-
  Parts that come to the same bytes: the walk.
-/
import Derived.Test.YtpmgmpihmpifgaaDoorKdfC
namespace Go.Proofs.YtpmgmpihmpifgaaDoor
open Go.RowKit
set_option maxRecDepth 100000
set_option linter.unusedSimpArgs false
set_option linter.unusedVariables false

theorem Sl.cutl {w : World} {a : Option Addr} {n c : Nat} {B : List Int} (h : Lb w a n c B) (k : Nat) (hk : k ≤ n) : Lb w a k c (B.take k) := by
  refine ⟨by rw [List.length_take, h.len]; omega, isB_take h.isB k, ?_, by have := h.cap; omega, h.max⟩
  rcases h.sl with h1 | ⟨p, o, h1, h2⟩
  · left; rw [h1]; simp
  · exact .inr ⟨p, o, h1, h2.take k⟩
theorem Sl.cutr {w : World} {a : Option Addr} {n c : Nat} {B : List Int} (h : Lb w a n c B) (k : Nat) (hk : k ≤ n) : Lb w (if c = k then a else Option.map (fun x => x.add k) a) (n - k) (c - k) (B.drop k) := by
  refine ⟨by rw [List.length_drop, h.len], isB_drop h.isB k, ?_, by have := h.cap; omega, by have := h.max; omega⟩
  rcases h.sl with h1 | ⟨p, o, h1, h2⟩
  · left; rw [h1]; simp
  · split
    · left
      have := h.cap
      have h3 := h.len
      exact List.drop_eq_nil_of_le (by omega)
    · exact .inr ⟨p, o + k, by rw [h1]; simp [Addr.add_mid], h2.drop k⟩
/-- three lists in a row that the call has made -/
def Tri (u : World) (v : Value) (x y z : Value) : Prop := ∃ g, v = .slice (some ⟨g, 0, none⟩) 3 3 ∧ u.heap[g]? = some (.cells #[x, y, z] 33 (0, 0))
def Mono (u : World) (v : Value) (x : Value) : Prop := ∃ g, v = .slice (some ⟨g, 0, none⟩) 1 1 ∧ u.heap[g]? = some (.cells #[x] 33 (0, 0))
theorem Mono.gr {u u' : World} {v x : Value} (h : Mono u v x) (k : Gr u u') : Mono u' v x := by
  obtain ⟨g, h1, h2⟩ := h
  exact ⟨g, h1, k.blk h2⟩
end Go.Proofs.YtpmgmpihmpifgaaDoor
