/-
  A key, spread.
-/
import Derived.Test.YtpmgmpihmpifgabDoorKdfPartsWalk
namespace Go.Proofs.YtpmgmpihmpifgabDoor
open Go.RowKit
set_option maxRecDepth 100000
set_option linter.unusedSimpArgs false
set_option linter.unusedVariables false

/-- the code number i -/
def lastT (K I : List Int) : Nat → List Int
  | 0 => []
  | i + 1 => hmacL K (lastT K I i ++ (I ++ [(((i + 1) % 256 : Nat) : Int)]))
/-- i codes, one behind the other -/
def outT (K I : List Int) : Nat → List Int
  | 0 => []
  | i + 1 => outT K I i ++ lastT K I (i + 1)
theorem outT_len (K I : List Int) : ∀ i, (outT K I i).length = 32 * i
  | 0 => rfl
  | i + 1 => by
    rw [outT, List.length_append, outT_len K I i, lastT, hmacL_len]
    omega
theorem outT_add (K I : List Int) (m : Nat) : ∀ d, ∃ r, outT K I (m + d) = outT K I m ++ r
  | 0 => ⟨[], by simp⟩
  | d + 1 => by
    obtain ⟨r, hr⟩ := outT_add K I m d
    refine ⟨r ++ lastT K I (m + d + 1), ?_⟩
    rw [← Nat.add_assoc, outT, hr, List.append_assoc]
/-- a key, spread to n bytes -/
def spL (K I : List Int) (n : Nat) : List Int := (outT K I ((n + 31) / 32)).take n
theorem spL_len (K I : List Int) (n : Nat) : (spL K I n).length = n := by
  unfold spL
  rw [List.length_take, outT_len]
  omega
theorem spL_of (K I : List Int) (n m : Nat) (h : n ≤ 32 * m) : (outT K I m).take n = spL K I n := by
  obtain ⟨d, hd⟩ : ∃ d, m = (n + 31) / 32 + d := ⟨m - (n + 31) / 32, by omega⟩
  obtain ⟨r, hr⟩ := outT_add K I ((n + 31) / 32) d
  unfold spL
  rw [hd, hr, List.take_append_of_le_length (by rw [outT_len]; omega)]
theorem spL_fewer (K I : List Int) (n m : Nat) (h : n ≤ m) : (spL K I m).take n = spL K I n := by
  unfold spL
  rw [List.take_take, Nat.min_eq_left h]
  exact spL_of K I n _ (by omega)
theorem lastT_isB (K I : List Int) : ∀ i, IsB (lastT K I i)
  | 0 => by intro x hx; cases hx
  | i + 1 => by rw [lastT]; exact sumL_isB _
theorem outT_isB (K I : List Int) : ∀ i, IsB (outT K I i)
  | 0 => by intro x hx; cases hx
  | i + 1 => by rw [outT]; exact isB_append (outT_isB K I i) (lastT_isB K I (i + 1))
theorem spL_isB (K I : List Int) (n : Nat) : IsB (spL K I n) := isB_take (outT_isB _ _ _) n
theorem lastT_len (K I : List Int) (i : Nat) : (lastT K I (i + 1)).length = 32 := by rw [lastT]; exact hmacL_len _ _
/-- what spread answers -/
def Spr (K I : List Int) (n : Nat) (w : World) (r : Ending) (w' : World) : Prop := ∃ a, r = .returned (.slice a n n) ∧ Lb w' a n n (spL K I n) ∧ (∀ x, a = some x → w.heap.size ≤ x.block) ∧ Gr w w'
structure SI (w : World) (b gk : Nat) (K I : List Int) (i : Nat) (v7 : Value) (a8 : Option Addr) (n8 c8 : Nat) (v : World) : Prop where
  ob : Ob b v v7 (outT K I i)
  la : Lb v a8 n8 c8 (lastT K I i)
  bk : v.heap[gk]? = some (.cells (kc K) 23 (0, 0))
  gr : Gr w v
  sz : b ≤ v.heap.size
theorem SI.more {w : World} {b gk : Nat} {K I : List Int} {i : Nat} {v7 : Value} {a8 : Option Addr} {n8 c8 : Nat} {u v : World} (h : SI w b gk K I i v7 a8 n8 c8 u) (k : Gr u v) : SI w b gk K I i v7 a8 n8 c8 v :=
  ⟨h.ob.gr k, h.la.gr k, k.blk h.bk, h.gr.trans k, Nat.le_trans h.sz k.size⟩
end Go.Proofs.YtpmgmpihmpifgabDoor
