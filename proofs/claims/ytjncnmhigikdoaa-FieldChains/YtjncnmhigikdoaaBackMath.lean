/-
  FieldBack: the walk.
-/
import Derived.Test.YtjncnmhigikdoaaWakes
import Derived.Deep.RegionHeld
import Derived.Deep.DrawnRows
namespace Go.Proofs.Ytjncnmhigikdoaa
open Go.RowKit
set_option maxRecDepth 100000
attribute [local go_sem ↓] Go.wp_at_zero Go.wp_at_succ

/-- cells that hold the bytes of the number m -/
def KeyIs (L : List Value) (m : Int) : Prop := 0 ≤ m ∧ L = (digs m 32).map (Value.int .u8)
theorem from_L (L : List Value) (m : Int) (h : Hid (KeyIs L m)) (w : World) : Calls Try.prog 10 #[.agg L.toArray] w (fun r w' => ∃ a b c d e, r = .returned (.agg #[.int .u64 a, .int .u64 b, .int .u64 c, .int .u64 d, .int .u64 e]) ∧ Hid (Rep (m % 57896044618658097711785492504343953926634992332820282019728792003956564819968) a b c d e) ∧ Gr w w') := by
  obtain ⟨h1, rfl⟩ := unhide h
  exact from_at m (hide h1) w

theorem alloc_row (w : World) (z cs : Array Value) (t : TypeId) : Gr w ((w.alloc (.cells z t (0, 0))).setRow w.heap.size cs) ∧ ((w.alloc (.cells z t (0, 0))).setRow w.heap.size cs).heap[w.heap.size]? = some (.cells cs t (0, 0)) :=
  ⟨below_setRow ((Gr.refl w).alloc _) (Nat.le_refl _) _, setRow_heap _ _ _ _ _ _ (blk_new _ _)⟩
theorem Gr.setRow {w v : World} (h : Gr w v) (g : Nat) (hg : w.heap.size ≤ g) (cs : Array Value) : Gr w (v.setRow g cs) := below_setRow h hg cs

/-- where the four variables lie, and what they hold -/
def FB (bx bb bc bt : Nat) (LX LB LT : List Value) (c0 c1 c2 c3 c4 : Int) (v : World) : Prop :=
  v.heap[bx]? = some (.cells LX.toArray 23 (0, 0)) ∧ v.heap[bb]? = some (.cells LB.toArray 23 (0, 0)) ∧ v.heap[bc]? = some (.cells #[.int .u64 c0, .int .u64 c1, .int .u64 c2, .int .u64 c3, .int .u64 c4] 29 (0, 0)) ∧ v.heap[bt]? = some (.cells LT.toArray 23 (0, 0))
theorem FB.gr {bx bb bc bt : Nat} {LX LB LT : List Value} {c0 c1 c2 c3 c4 : Int} {u v : World} (h : FB bx bb bc bt LX LB LT c0 c1 c2 c3 c4 u) (g : Gr u v) : FB bx bb bc bt LX LB LT c0 c1 c2 c3 c4 v := ⟨g.blk h.1, g.blk h.2.1, g.blk h.2.2.1, g.blk h.2.2.2⟩
theorem range_of {v : World} {b : Nat} {L : List Value} {t : TypeId} (h : v.heap[b]? = some (.cells L.toArray t (0, 0))) : v.rangeAt b 0 L := by
  intro j x hj
  have : (L.toArray)[0 + j]? = some x := by simpa using hj
  exact cell_of h this

theorem xor128 (z : Int) (h : 0 ≤ z ∧ z < 256) : bits .xor .u8 z 128 = if z < 128 then z + 128 else z - 128 := by
  obtain ⟨n, rfl⟩ := Int.eq_ofNat_of_zero_le h.1
  have : ∀ n : Fin 256, bits .xor .u8 (n.val : Int) 128 = if (n.val : Int) < 128 then (n.val : Int) + 128 else (n.val : Int) - 128 := by decide +kernel
  exact this ⟨n, by omega⟩

/-- the highest bit turned -/
def turn (n : Int) : Int := if n < 57896044618658097711785492504343953926634992332820282019728792003956564819968 then n + 57896044618658097711785492504343953926634992332820282019728792003956564819968 else n - 57896044618658097711785492504343953926634992332820282019728792003956564819968
theorem turn_ok (n : Int) (h : 0 ≤ n ∧ n < 115792089237316195423570985008687907853269984665640564039457584007913129639936) : 0 ≤ turn n ∧ turn n % 57896044618658097711785492504343953926634992332820282019728792003956564819968 = n % 57896044618658097711785492504343953926634992332820282019728792003956564819968 := by
  unfold turn
  split <;> omega
theorem turn_digs (n : Int) (h : 0 ≤ n ∧ n < 115792089237316195423570985008687907853269984665640564039457584007913129639936) : (digs n 32).set 31 (bits .xor .u8 (n / 256 ^ 31 % 256) 128) = digs (turn n) 32 := by
  have e : (256 : Int) ^ 31 = 452312848583266388373324160190187140051835877600158453279131187530910662656 := by decide
  rw [xor128 _ (by omega)]
  apply List.ext_getElem
  · simp [digs]
  · intro i h1 h2
    simp only [digs, List.getElem_set, List.getElem_map, List.getElem_range]
    have hi : i < 32 := by simpa [digs] using h2
    rw [if_pos hi, if_pos hi]
    by_cases e31 : 31 = i
    · subst e31
      rw [if_pos rfl, e]
      unfold turn
      split <;> split <;> omega
    · rw [if_neg e31]
      have hp : (0 : Int) < 256 ^ i := Int.pow_pos (by omega)
      have e2 : (57896044618658097711785492504343953926634992332820282019728792003956564819968 : Int) = 128 * 256 ^ (30 - i) * 256 * 256 ^ i := by
        have : (128 : Int) * 256 ^ (30 - i) * 256 * 256 ^ i = 128 * (256 ^ (30 - i) * 256 * 256 ^ i) := by simp [Int.mul_assoc]
        rw [this, ← Int.pow_succ, ← Int.pow_add]
        have : 30 - i + 1 + i = 31 := by omega
        rw [this, e]
        decide
      unfold turn
      split
      · rw [show n + 57896044618658097711785492504343953926634992332820282019728792003956564819968 = n + 128 * 256 ^ (30 - i) * 256 * 256 ^ i from by rw [← e2], Int.add_mul_ediv_right _ _ (by omega), Int.add_mul_emod_self_right]
      · rw [show n - 57896044618658097711785492504343953926634992332820282019728792003956564819968 = n + (-(128 * 256 ^ (30 - i)) * 256) * 256 ^ i from by rw [Int.neg_mul, Int.neg_mul, ← e2]; omega, Int.add_mul_ediv_right _ _ (by omega), Int.add_mul_emod_self_right]
end Go.Proofs.Ytjncnmhigikdoaa
