/-
  The bytes of a number, as a value; what is or'ed, by bytes.
-/
import Derived.Test.YtpmgmpihmpifgaaDoorVKit
import Derived.Laws.Rows
import Derived.Laws.Tables
import Derived.Laws.CopyOwn
namespace Go.Proofs.YtpmgmpihmpifgaaDoor.Cv
open Go.RowKit

/-- cells that hold these bytes -/
def kc (l : List Int) : Array Value := (l.map (Value.int .u8)).toArray
/-- the lowest k bytes of a number, noughts behind them: 32 in all -/
def digs (n : Int) (k : Nat) : List Int := (List.range 32).map (fun j => if j < k then n / 256 ^ j % 256 else 0)
/-- the 32 bytes of a number, the lowest first -/
def keyV (n : Int) : Value := .agg (kc (digs n 32))

theorem digs_len (n : Int) (k : Nat) : (digs n k).length = 32 := by simp [digs]
theorem digs_set (n x : Int) (k : Nat) (h : x = n / 256 ^ k % 256) : (digs n k).set k x = digs n (k + 1) := by
  subst h
  apply List.ext_getElem
  · simp [digs]
  · intro i h1 h2
    simp only [digs, List.getElem_set, List.getElem_map, List.getElem_range]
    by_cases e : k = i
    · subst e; simp
    · rw [if_neg e]
      by_cases e2 : i < k
      · rw [if_pos e2, if_pos (by omega)]
      · rw [if_neg e2, if_neg (by omega)]
theorem kc_size (l : List Int) : (kc l).size = l.length := by simp [kc]
theorem kc_one (l : List Int) : (kc l).all (·.oneCell') = true := by
  simp only [kc, List.all_toArray, List.all_eq_true]
  intro v hv
  obtain ⟨x, _, rfl⟩ := List.mem_map.1 hv
  rfl

/-- A block of a key's bytes. -/
def KB (w : World) (g : Nat) (l : List Int) : Prop := w.heap[g]? = some (.cells (kc l) 25 (0, 0))
theorem KB.cell {w : World} {g : Nat} {l : List Int} (h : KB w g l) (i : Nat) (hi : i < l.length) : w.cell? ⟨g, i, none⟩ = some (.int .u8 (l.getD i 0)) := by
  have e : (kc l)[i]? = some (.int .u8 (l.getD i 0)) := by simp [kc, List.getD, List.getElem?_eq_getElem hi]
  exact cell_of h e
theorem KB.froz {w : World} {g : Nat} {l : List Int} (h : KB w g l) (i : Nat) : w.frozen? ⟨g, i, none⟩ = false := froz_of h
theorem KB.gr {w w' : World} {g : Nat} {l : List Int} (h : KB w g l) (s : Gr w w') : KB w' g l := s.blk h
theorem KB.set {w : World} {g : Nat} {l : List Int} (h : KB w g l) (i : Nat) (x : Int) : KB (w.setCell ⟨g, i, none⟩ (.int .u8 x)) g (l.set i x) := by
  unfold KB at *
  rw [heap_setCell_same w g i _ _ _ h]
  simp [kc, List.map_set]
theorem KB.other {w : World} {g g' i : Nat} {l : List Int} {x : Value} (h : KB w g l) (hn : g ≠ g') : KB (w.setCell ⟨g', i, none⟩ x) g l := by
  unfold KB at *
  rw [Below.heap_setCell w ⟨g', i, none⟩ x g hn]; exact h
theorem KB.drew {w : World} {g : Nat} {l : List Int} (h : KB w g l) : KB w.drew g l := h

theorem or_sum (t : Nat) (K x y : Int) (hK : K = 2 ^ t) (ht : t ≤ 64) (hx : 0 ≤ x ∧ x < K) (hy : 0 ≤ y ∧ y * K < 18446744073709551616) : bits .or .u64 x (y * K) = x + y * K := by
  obtain ⟨a, rfl⟩ := Int.eq_ofNat_of_zero_le hx.1
  obtain ⟨b, rfl⟩ := Int.eq_ofNat_of_zero_le hy.1
  have hK2 : K = ((2 ^ t : Nat) : Int) := by rw [hK]; simp
  have hp : (2 ^ t : Nat) ≤ 2 ^ 64 := Nat.pow_le_pow_right (by omega) ht
  have hp2 : (2 ^ 64 : Nat) = 18446744073709551616 := by decide
  rw [hK2] at hx hy ⊢
  have e : (b : Int) * ((2 ^ t : Nat) : Int) = ((b * 2 ^ t : Nat) : Int) := by simp
  rw [e] at hy ⊢
  have ha : a < 2 ^ t := by omega
  rw [bits_or_u64_nat _ _ (by omega) (by omega)]
  have h := Nat.shiftLeft_add_eq_or_of_lt ha b
  rw [Nat.shiftLeft_eq] at h
  have h2 : a ||| b * 2 ^ t = a + b * 2 ^ t := by rw [Nat.or_comm, ← h, Nat.add_comm]
  rw [h2]
  simp

theorem or_byte (t : Nat) (K J x y : Int) (hK : K = 2 ^ t) (ht : t ≤ 56) (hJ : J * K = 18446744073709551616) (h0 : 0 < K) (hJ0 : 0 < J) (hx : 0 ≤ x ∧ x < K) : bits .or .u64 x (IntKind.u64.wrap (y * K)) % 256 = (x + y * K) % 256 := by
  have e1 : IntKind.u64.wrap (y * K) = (y % J) * K := by
    rw [IntKind.wrap_u64, ← hJ, Int.mul_comm y, Int.mul_comm J, Int.mul_emod_mul_of_pos _ _ h0, Int.mul_comm]
  have b0 : 0 ≤ y % J := Int.emod_nonneg _ (by omega)
  have b1 : y % J < J := Int.emod_lt_of_pos _ hJ0
  have b2 : (y % J) * K < 18446744073709551616 := by rw [← hJ]; exact Int.mul_lt_mul_of_pos_right b1 h0
  rw [e1, or_sum t K x (y % J) hK (by omega) hx ⟨b0, b2⟩]
  have e2 : y * K = (y % J) * K + 18446744073709551616 * (y / J) := by
    rw [← hJ]
    have := Int.emod_add_mul_ediv y J
    have h3 : J * K * (y / J) = J * (y / J) * K := by rw [Int.mul_assoc, Int.mul_comm K, ← Int.mul_assoc]
    rw [h3, ← Int.add_mul, this]
  rw [e2]
  omega
end Go.Proofs.YtpmgmpihmpifgaaDoor.Cv
