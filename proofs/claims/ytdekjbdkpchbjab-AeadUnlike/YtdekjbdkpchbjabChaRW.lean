/-
  Four bytes as a word, the places of the quarters, by the reference.
-/
import Derived.Test.YtdekjbdkpchbjabChaRQ
import Derived.Deep.QuietTactic
import Derived.BigQuiet
namespace Go.Proofs.Ytdekjbdkpchbjab
open Go.RowKit
set_option maxRecDepth 100000
set_option linter.unusedSimpArgs false
set_option linter.unusedVariables false
/-- four bytes as a word -/
def wd (K : List Int) (o : Nat) : Int := bits .or .u32 (bits .or .u32 (bits .or .u32 (K.getD o 0) (K.getD (o + 1) 0 * 256)) (K.getD (o + 2) 0 * 65536)) (K.getD (o + 3) 0 * 16777216)
/-- numbers in a row -/
def ic (l : List Nat) : Array Value := (l.map (fun x : Nat => Value.int .i64 (x : Int))).toArray
theorem ic_size (l : List Nat) : (ic l).size = l.length := by simp [ic]
theorem ic_one (l : List Nat) : (ic l).all (·.oneCell') = true := by unfold ic; simp [Value.oneCell']
theorem ic_cell {v : World} {g : Nat} {l : List Nat} {t : TypeId} (h : v.heap[g]? = some (.cells (ic l) t (0, 0))) (i : Nat) (hi : i < l.length) : v.cell? ⟨g, i, none⟩ = some (.int .i64 ((l.getD i 0 : Nat) : Int)) := by
  refine cell_of h ?_
  unfold ic
  simp [hi]
/-- the places of the eight quarters -/
def PL : List Nat := [0, 4, 8, 12, 1, 5, 9, 13, 2, 6, 10, 14, 3, 7, 11, 15, 0, 5, 10, 15, 1, 6, 11, 12, 2, 7, 8, 13, 3, 4, 9, 14]
def P32 : List Nat := List.replicate 32 0
/-- the places of the quarter number t -/
def pl4 (t : Nat) : List Nat := (PL.drop (4 * t)).take 4
theorem pl4_len (t : Nat) (h : t < 8) : (pl4 t).length = 4 := by unfold pl4 PL; simp; omega
theorem pl4_lt (t : Nat) (h : t < 8) : ∀ i, (pl4 t).getD i 0 < 16 := by
  have hd : ∀ t, t < 8 → ∀ i, i < 4 → (pl4 t).getD i 0 < 16 := by decide
  intro i
  rcases Nat.lt_or_ge i 4 with hi | hi
  · exact hd t h i hi
  · rw [List.getD_eq_getElem?_getD, List.getElem?_eq_none (by rw [pl4_len t h]; exact hi)]
    decide
/-- the words behind t quarters of two rounds -/
def qpl (X : List Int) (p : List Nat) : List Int := qp X (p.getD 0 0) (p.getD 1 0) (p.getD 2 0) (p.getD 3 0)
def dq (X : List Int) : Nat → List Int
  | 0 => X
  | t + 1 => qpl (dq X t) (pl4 t)
theorem dq_len (X : List Int) : ∀ t, (dq X t).length = X.length
  | 0 => rfl
  | t + 1 => by rw [dq, qpl, qp_len, dq_len X t]
theorem dq_all (X : List Int) : dq X 8 = dbl X := rfl
end Go.Proofs.Ytdekjbdkpchbjab
