/-
  The reference: a place of a row, bytes as a row, sums of rows.
-/
import Derived.Test.YtdekjbdkpchbjabPolyA
namespace Go.Proofs.Ytdekjbdkpchbjab
open Go.RowKit
set_option maxRecDepth 100000
set_option linter.unusedSimpArgs false
set_option linter.unusedVariables false
/-- a new row of numbers of which p holds -/
def Ri (P : List Nat → Prop) (w : World) (r : Ending) (w' : World) : Prop := ∃ v L, r = .returned v ∧ Oi w.heap.size w' v L ∧ P L ∧ Gr w w'
def nb (B : List Int) : List Nat := B.map Int.toNat
theorem nb_get (B : List Int) (hb : IsB B) (i : Nat) : (((nb B).getD i 0 : Nat) : Int) = B.getD i 0 := by
  have h := hb.at_ i
  rcases Nat.lt_or_ge i B.length with hi | hi
  · unfold nb
    simp [hi] at h ⊢
    omega
  · unfold nb
    simp [List.getElem?_eq_none hi]
theorem nb_allB (B : List Int) (hb : IsB B) : AllB (nb B) := fun x hx => by
  unfold nb at hx
  obtain ⟨y, hy, rfl⟩ := List.mem_map.1 hx
  have := hb y hy
  omega
theorem nb_len (B : List Int) : (nb B).length = B.length := by simp [nb]
end Go.Proofs.Ytdekjbdkpchbjab
