/-
  Plain facts on products of limbs.
-/
import Derived.Test.YtpmgmpihmpifgaaDoorXK1
namespace Go.Proofs.YtpmgmpihmpifgaaDoor.Cv
open Go.RowKit

theorem mul_val (a0 a1 a2 a3 a4 b0 b1 b2 b3 b4 : Int) :
    val (0 + a0 * b0 + a1 * (b4 * 19) + a2 * (b3 * 19) + a3 * (b2 * 19) + a4 * (b1 * 19))
      (0 + a0 * b1 + a1 * b0 + a2 * (b4 * 19) + a3 * (b3 * 19) + a4 * (b2 * 19))
      (0 + a0 * b2 + a1 * b1 + a2 * b0 + a3 * (b4 * 19) + a4 * (b3 * 19))
      (0 + a0 * b3 + a1 * b2 + a2 * b1 + a3 * b0 + a4 * (b4 * 19))
      (0 + a0 * b4 + a1 * b3 + a2 * b2 + a3 * b1 + a4 * b0)
    + pp * (a1 * b4 + a2 * b3 + a3 * b2 + a4 * b1 + (a2 * b4 + a3 * b3 + a4 * b2) * 2251799813685248 + (a3 * b4 + a4 * b3) * 5070602400912917605986812821504 + a4 * b4 * 11417981541647679048466287755595961091061972992)
    = val a0 a1 a2 a3 a4 * val b0 b1 b2 b3 b4 := by
  unfold val pp
  grind

theorem mul_mod (m n x y : Int) (h : x % pp = m % pp) (h' : y % pp = n % pp) : x * y % pp = m * n % pp := by
  rw [Int.mul_emod, h, h', ← Int.mul_emod]

theorem prod_lt {x y X Y : Int} (hx : 0 ≤ x ∧ x < X) (hy : 0 ≤ y ∧ y < Y) : 0 ≤ x * y ∧ x * y ≤ X * Y := by
  refine ⟨Int.mul_nonneg hx.1 hy.1, ?_⟩
  exact Int.mul_le_mul (by omega) (by omega) hy.1 (by omega)
end Go.Proofs.YtpmgmpihmpifgaaDoor.Cv
