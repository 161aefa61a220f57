/-
  Several texts in one.
-/
import Derived.Test.YtpmgmpihmpifgaaDoorVPrime
/-
  Plain facts, of no program: sums of points of x x + y y = 1 + d x x y y.
-/
namespace Go.Proofs.YtpmgmpihmpifgaaDoor.Ed

/-- on the curve, as a polynomial -/
def C (d x y : Int) : Int := x ^ 2 + y ^ 2 - 1 - d * x ^ 2 * y ^ 2

set_option maxHeartbeats 8000000 in
theorem assoc_x (d x1 y1 x2 y2 x3 y3 : Int) : ((x1*y2+x2*y1)*(1-d*x1*x2*y1*y2)*y3 + x3*(y1*y2-x1*x2)*(1+d*x1*x2*y1*y2)) * ((1+d*x2*x3*y2*y3)*(1-d*x2*x3*y2*y3) + d*x1*y1*(x2*y3+x3*y2)*(y2*y3-x2*x3)) - (x1*(y2*y3-x2*x3)*(1+d*x2*x3*y2*y3) + (x2*y3+x3*y2)*(1-d*x2*x3*y2*y3)*y1) * ((1+d*x1*x2*y1*y2)*(1-d*x1*x2*y1*y2) + d*(x1*y2+x2*y1)*(y1*y2-x1*x2)*x3*y3) =
    (x1*x2^4*y2^3*x3^2*y3*d^2 + (-x1*x2^4*y2*x3^2*y3*d) + (-x1*x2^3*y2^4*x3*y3^2*d^2) + (-x1*x2^3*y2^2*x3^3*d) + x1*x2^3*y2^2*x3*d + x1*x2^2*y2^3*y3^3*d + (-x1*x2^2*y2^3*y3*d) + x1*x2*y2^4*x3*y3^2*d + y1*x2^4*y2^3*x3*y3^2*d^2 + (-y1*x2^4*y2*x3*y3^2*d) + y1*x2^3*y2^4*x3^2*y3*d^2 + y1*x2^3*y2^2*y3^3*d + (-y1*x2^3*y2^2*y3*d) + y1*x2^2*y2^3*x3^3*d + (-y1*x2^2*y2^3*x3*d) + (-y1*x2*y2^4*x3^2*y3*d)) * C d x1 y1 + (x1^3*x2^2*y2*x3^2*y3*d + (-x1^3*x2*y2^2*x3*y3^2*d) + x1^3*x2*x3^3*y3^2*d + (-x1^3*x2*x3^3) + (-x1^3*x2*x3*y3^2) + x1^3*x2*x3 + (-x1^3*y2*x3^2*y3^3*d) + x1^3*y2*x3^2*y3 + x1^3*y2*y3^3 + (-x1^3*y2*y3) + (-x1^2*y1*x2^2*y2*x3^3*y3^2*d^2) + x1^2*y1*x2^2*y2*x3*y3^2*d + (-x1^2*y1*x2*y2^2*x3^2*y3^3*d^2) + x1^2*y1*x2*y2^2*x3^2*y3*d + (-x1^2*y1*x2*x3^2*y3^3*d) + x1^2*y1*x2*x3^2*y3 + x1^2*y1*x2*y3^3 + (-x1^2*y1*x2*y3) + (-x1^2*y1*y2*x3^3*y3^2*d) + x1^2*y1*y2*x3^3 + x1^2*y1*y2*x3*y3^2 + (-x1^2*y1*y2*x3) + (-x1*y1^2*x2^2*y2*x3^2*y3^3*d^2) + x1*y1^2*x2^2*y2*x3^2*y3*d + x1*y1^2*x2*y2^2*x3^3*y3^2*d^2 + (-x1*y1^2*x2*y2^2*x3*y3^2*d) + x1*y1^2*x2*x3^3*y3^2*d + (-x1*y1^2*x2*x3^3) + (-x1*y1^2*x2*x3*y3^2) + x1*y1^2*x2*x3 + (-x1*y1^2*y2*x3^2*y3^3*d) + x1*y1^2*y2*x3^2*y3 + x1*y1^2*y2*y3^3 + (-x1*y1^2*y2*y3) + (-x1*x2^2*y2*x3^2*y3*d) + x1*x2*y2^2*x3*y3^2*d + (-x1*x2*x3^3*y3^2*d) + x1*x2*x3^3 + x1*x2*x3*y3^2 + (-x1*x2*x3) + x1*y2*x3^2*y3^3*d + (-x1*y2*x3^2*y3) + (-x1*y2*y3^3) + x1*y2*y3 + y1^3*x2^2*y2*x3*y3^2*d + y1^3*x2*y2^2*x3^2*y3*d + (-y1^3*x2*x3^2*y3^3*d) + y1^3*x2*x3^2*y3 + y1^3*x2*y3^3 + (-y1^3*x2*y3) + (-y1^3*y2*x3^3*y3^2*d) + y1^3*y2*x3^3 + y1^3*y2*x3*y3^2 + (-y1^3*y2*x3) + (-y1*x2^2*y2*x3*y3^2*d) + (-y1*x2*y2^2*x3^2*y3*d) + y1*x2*x3^2*y3^3*d + (-y1*x2*x3^2*y3) + (-y1*x2*y3^3) + y1*x2*y3 + y1*y2*x3^3*y3^2*d + (-y1*y2*x3^3) + (-y1*y2*x3*y3^2) + y1*y2*x3) * C d x2 y2 + (x1^3*x2^3*x3 + (-x1^3*x2^2*y2*y3) + x1^3*x2*y2^2*x3 + (-x1^3*x2*x3) + (-x1^3*y2^3*y3) + x1^3*y2*y3 + (-x1^2*y1*x2^3*y3) + x1^2*y1*x2^2*y2*x3*d + (-x1^2*y1*x2^2*y2*x3) + x1^2*y1*x2*y2^2*y3*d + (-x1^2*y1*x2*y2^2*y3) + x1^2*y1*x2*y3 + (-x1^2*y1*y2^3*x3) + x1^2*y1*y2*x3 + x1*y1^2*x2^3*x3 + x1*y1^2*x2^2*y2*y3*d + (-x1*y1^2*x2^2*y2*y3) + (-x1*y1^2*x2*y2^2*x3*d) + x1*y1^2*x2*y2^2*x3 + (-x1*y1^2*x2*x3) + (-x1*y1^2*y2^3*y3) + x1*y1^2*y2*y3 + (-x1*x2^3*x3) + x1*x2^2*y2*y3 + (-x1*x2*y2^2*x3) + x1*x2*x3 + x1*y2^3*y3 + (-x1*y2*y3) + (-y1^3*x2^3*y3) + (-y1^3*x2^2*y2*x3) + (-y1^3*x2*y2^2*y3) + y1^3*x2*y3 + (-y1^3*y2^3*x3) + y1^3*y2*x3 + y1*x2^3*y3 + y1*x2^2*y2*x3 + y1*x2*y2^2*y3 + (-y1*x2*y3) + y1*y2^3*x3 + (-y1*y2*x3)) * C d x3 y3 := by
  unfold C
  grind

set_option maxHeartbeats 8000000 in
theorem assoc_y (d x1 y1 x2 y2 x3 y3 : Int) : ((y1*y2-x1*x2)*(1+d*x1*x2*y1*y2)*y3 - (x1*y2+x2*y1)*(1-d*x1*x2*y1*y2)*x3) * ((1+d*x2*x3*y2*y3)*(1-d*x2*x3*y2*y3) - d*x1*y1*(x2*y3+x3*y2)*(y2*y3-x2*x3)) - (y1*(y2*y3-x2*x3)*(1+d*x2*x3*y2*y3) - x1*(x2*y3+x3*y2)*(1-d*x2*x3*y2*y3)) * ((1+d*x1*x2*y1*y2)*(1-d*x1*x2*y1*y2) - d*(x1*y2+x2*y1)*(y1*y2-x1*x2)*x3*y3) =
    ((-x1*x2^4*y2^3*x3*y3^2*d^2) + x1*x2^4*y2*x3*y3^2*d + (-x1*x2^3*y2^4*x3^2*y3*d^2) + (-x1*x2^3*y2^2*y3^3*d) + x1*x2^3*y2^2*y3*d + (-x1*x2^2*y2^3*x3^3*d) + x1*x2^2*y2^3*x3*d + x1*x2*y2^4*x3^2*y3*d + y1*x2^4*y2^3*x3^2*y3*d^2 + (-y1*x2^4*y2*x3^2*y3*d) + (-y1*x2^3*y2^4*x3*y3^2*d^2) + (-y1*x2^3*y2^2*x3^3*d) + y1*x2^3*y2^2*x3*d + y1*x2^2*y2^3*y3^3*d + (-y1*x2^2*y2^3*y3*d) + y1*x2*y2^4*x3*y3^2*d) * C d x1 y1 + ((-x1^3*x2^2*y2*x3*y3^2*d) + (-x1^3*x2*y2^2*x3^2*y3*d) + x1^3*x2*x3^2*y3^3*d + (-x1^3*x2*x3^2*y3) + (-x1^3*x2*y3^3) + x1^3*x2*y3 + x1^3*y2*x3^3*y3^2*d + (-x1^3*y2*x3^3) + (-x1^3*y2*x3*y3^2) + x1^3*y2*x3 + (-x1^2*y1*x2^2*y2*x3^2*y3^3*d^2) + x1^2*y1*x2^2*y2*x3^2*y3*d + x1^2*y1*x2*y2^2*x3^3*y3^2*d^2 + (-x1^2*y1*x2*y2^2*x3*y3^2*d) + x1^2*y1*x2*x3^3*y3^2*d + (-x1^2*y1*x2*x3^3) + (-x1^2*y1*x2*x3*y3^2) + x1^2*y1*x2*x3 + (-x1^2*y1*y2*x3^2*y3^3*d) + x1^2*y1*y2*x3^2*y3 + x1^2*y1*y2*y3^3 + (-x1^2*y1*y2*y3) + x1*y1^2*x2^2*y2*x3^3*y3^2*d^2 + (-x1*y1^2*x2^2*y2*x3*y3^2*d) + x1*y1^2*x2*y2^2*x3^2*y3^3*d^2 + (-x1*y1^2*x2*y2^2*x3^2*y3*d) + x1*y1^2*x2*x3^2*y3^3*d + (-x1*y1^2*x2*x3^2*y3) + (-x1*y1^2*x2*y3^3) + x1*y1^2*x2*y3 + x1*y1^2*y2*x3^3*y3^2*d + (-x1*y1^2*y2*x3^3) + (-x1*y1^2*y2*x3*y3^2) + x1*y1^2*y2*x3 + x1*x2^2*y2*x3*y3^2*d + x1*x2*y2^2*x3^2*y3*d + (-x1*x2*x3^2*y3^3*d) + x1*x2*x3^2*y3 + x1*x2*y3^3 + (-x1*x2*y3) + (-x1*y2*x3^3*y3^2*d) + x1*y2*x3^3 + x1*y2*x3*y3^2 + (-x1*y2*x3) + y1^3*x2^2*y2*x3^2*y3*d + (-y1^3*x2*y2^2*x3*y3^2*d) + y1^3*x2*x3^3*y3^2*d + (-y1^3*x2*x3^3) + (-y1^3*x2*x3*y3^2) + y1^3*x2*x3 + (-y1^3*y2*x3^2*y3^3*d) + y1^3*y2*x3^2*y3 + y1^3*y2*y3^3 + (-y1^3*y2*y3) + (-y1*x2^2*y2*x3^2*y3*d) + y1*x2*y2^2*x3*y3^2*d + (-y1*x2*x3^3*y3^2*d) + y1*x2*x3^3 + y1*x2*x3*y3^2 + (-y1*x2*x3) + y1*y2*x3^2*y3^3*d + (-y1*y2*x3^2*y3) + (-y1*y2*y3^3) + y1*y2*y3) * C d x2 y2 + (x1^3*x2^3*y3 + x1^3*x2^2*y2*x3 + x1^3*x2*y2^2*y3 + (-x1^3*x2*y3) + x1^3*y2^3*x3 + (-x1^3*y2*x3) + x1^2*y1*x2^3*x3 + x1^2*y1*x2^2*y2*y3*d + (-x1^2*y1*x2^2*y2*y3) + (-x1^2*y1*x2*y2^2*x3*d) + x1^2*y1*x2*y2^2*x3 + (-x1^2*y1*x2*x3) + (-x1^2*y1*y2^3*y3) + x1^2*y1*y2*y3 + x1*y1^2*x2^3*y3 + (-x1*y1^2*x2^2*y2*x3*d) + x1*y1^2*x2^2*y2*x3 + (-x1*y1^2*x2*y2^2*y3*d) + x1*y1^2*x2*y2^2*y3 + (-x1*y1^2*x2*y3) + x1*y1^2*y2^3*x3 + (-x1*y1^2*y2*x3) + (-x1*x2^3*y3) + (-x1*x2^2*y2*x3) + (-x1*x2*y2^2*y3) + x1*x2*y3 + (-x1*y2^3*x3) + x1*y2*x3 + y1^3*x2^3*x3 + (-y1^3*x2^2*y2*y3) + y1^3*x2*y2^2*x3 + (-y1^3*x2*x3) + (-y1^3*y2^3*y3) + y1^3*y2*y3 + (-y1*x2^3*x3) + y1*x2^2*y2*y3 + (-y1*x2*y2^2*x3) + y1*x2*x3 + y1*y2^3*y3 + (-y1*y2*y3)) * C d x3 y3 := by
  unfold C
  grind

end Go.Proofs.YtpmgmpihmpifgaaDoor.Ed

/-
  Plain facts, of no program: the sum of two points of x x + y y = 1 + d x x y y, d no square, modulo 2^255 - 19: it is there for all points, and lies on the curve.
-/
namespace Go.Proofs.YtpmgmpihmpifgaaDoor.Ed
open Go.Proofs.YtpmgmpihmpifgaaDoor.Pr
set_option maxRecDepth 100000

/-- the prime -/
def p : Int := 57896044618658097711785492504343953926634992332820282019728792003956564819949
theorem p_PP : p = (PP : Int) := by decide +kernel
theorem dv_iff (a : Int) : p ∣ a ↔ a.natAbs % PP = 0 := by
  rw [p_PP, Int.ofNat_dvd_left, Nat.dvd_iff_mod_eq_zero]
theorem prime_int {a b : Int} (h : p ∣ a * b) : p ∣ a ∨ p ∣ b := by
  rw [dv_iff, Int.natAbs_mul] at h
  by_cases ha : a.natAbs % PP = 0
  · exact .inl ((dv_iff a).2 ha)
  · exact .inr ((dv_iff b).2 (no_zero h ha))
theorem not_mul {a b : Int} (ha : ¬ p ∣ a) (hb : ¬ p ∣ b) : ¬ p ∣ a * b := by
  intro h
  rcases prime_int h with h | h
  · exact ha h
  · exact hb h
theorem cancel {a b : Int} (ha : ¬ p ∣ a) (h : p ∣ a * b) : p ∣ b := by
  rcases prime_int h with h | h
  · exact absurd h ha
  · exact h

/-- the inverse -/
def inv (z : Int) : Int := (z % p) ^ (PP - 2)
theorem inv_ok (z : Int) (h : ¬ p ∣ z) : p ∣ z * inv z - 1 := by
  have h0 : 0 ≤ z % p := Int.emod_nonneg _ (by decide)
  obtain ⟨k, hk⟩ := Int.eq_ofNat_of_zero_le h0
  have hk2 : k % PP ≠ 0 := by
    intro e
    apply h
    have h1 : (z % p) % p = 0 := by
      rw [hk, p_PP, ← Int.natCast_emod, e]
      rfl
    rw [Int.emod_emod] at h1
    exact Int.dvd_of_emod_eq_zero h1
  have hf := fermat k hk2
  unfold inv
  rw [hk]
  have e1 : p ∣ (k : Int) * (k : Int) ^ (PP - 2) - 1 := by
    have e2 : (k : Int) * (k : Int) ^ (PP - 2) = ((k ^ (PP - 1) : Nat) : Int) := by
      rw [Int.natCast_pow, Int.mul_comm, ← Int.pow_succ]
      congr 1
    rw [e2, p_PP]
    have e3 : ((k ^ (PP - 1) : Nat) : Int) % (PP : Int) = 1 := by rw [← Int.natCast_emod, hf]; rfl
    have := Int.mul_ediv_add_emod ((k ^ (PP - 1) : Nat) : Int) (PP : Int)
    rw [e3] at this
    exact ⟨((k ^ (PP - 1) : Nat) : Int) / (PP : Int), by omega⟩
  have e4 : p ∣ z - (k : Int) := by
    rw [← hk]
    have := Int.mul_ediv_add_emod z p
    exact ⟨z / p, by omega⟩
  have e5 : z * (k : Int) ^ (PP - 2) - 1 = ((k : Int) * (k : Int) ^ (PP - 2) - 1) + (z - (k : Int)) * (k : Int) ^ (PP - 2) := by
    generalize (k : Int) ^ (PP - 2) = q
    grind
  rw [e5]
  exact Int.dvd_add e1 (Int.dvd_mul_of_dvd_left e4)

/-- no square -/
def NS (d : Int) : Prop := ∀ s : Int, ¬ p ∣ s * s - d

structure Pt where
  x : Int
  y : Int
def On (d : Int) (P : Pt) : Prop := p ∣ C d P.x P.y
def tt (d : Int) (P Q : Pt) : Int := d * P.x * Q.x * P.y * Q.y

theorem not_one : ¬ p ∣ (1 : Int) := by decide +kernel
theorem not_two : ¬ p ∣ (2 : Int) := by decide +kernel

theorem square_of {a b d : Int} (h : p ∣ a * a - d * (b * b)) (hb : ¬ p ∣ b) : ∃ s : Int, p ∣ s * s - d := by
  have hi := inv_ok b hb
  refine ⟨a * inv b, ?_⟩
  obtain ⟨k, hk⟩ := h
  obtain ⟨m, hm⟩ := hi
  refine ⟨k * (inv b * inv b) + d * (m * (b * inv b + 1)), ?_⟩
  have e : b * inv b = p * m + 1 := by omega
  generalize inv b = q at *
  grind

/-- what stands below is never 0 -/
theorem complete (d e x1 y1 x2 y2 : Int) (hd : NS d) (h1 : p ∣ C d x1 y1) (h2 : p ∣ C d x2 y2) (he : e * e = 1) (ht : p ∣ d * x1 * x2 * y1 * y2 - e) : False := by
  have hne : ¬ p ∣ e := by
    intro h
    apply not_one
    rw [← he]
    exact Int.dvd_mul_of_dvd_left h
  have hn : ¬ p ∣ d * x1 * x2 * y1 * y2 := by
    intro h
    apply hne
    have := Int.dvd_sub h ht
    rwa [show d * x1 * x2 * y1 * y2 - (d * x1 * x2 * y1 * y2 - e) = e from by omega] at this
  have hx1 : ¬ p ∣ x1 := fun h => hn (by rw [show d * x1 * x2 * y1 * y2 = x1 * (d * x2 * y1 * y2) from by grind]; exact Int.dvd_mul_of_dvd_left h)
  have hy1 : ¬ p ∣ y1 := fun h => hn (by rw [show d * x1 * x2 * y1 * y2 = y1 * (d * x1 * x2 * y2) from by grind]; exact Int.dvd_mul_of_dvd_left h)
  have hx2 : ¬ p ∣ x2 := fun h => hn (by rw [show d * x1 * x2 * y1 * y2 = x2 * (d * x1 * y1 * y2) from by grind]; exact Int.dvd_mul_of_dvd_left h)
  have key : ∀ f : Int, f * f = 1 → p ∣ (x1 + f * e * y1) * (x1 + f * e * y1) - d * ((x1 * y1 * (x2 + f * y2)) * (x1 * y1 * (x2 + f * y2))) := by
    intro f hf
    have e1 : (x1 + f * e * y1) * (x1 + f * e * y1) - d * ((x1 * y1 * (x2 + f * y2)) * (x1 * y1 * (x2 + f * y2))) = C d x1 y1 - d * x1 * x1 * y1 * y1 * C d x2 y2 + (d * x1 * x2 * y1 * y2 - e) * (- (e + d * x1 * x2 * y1 * y2) - 2 * f * x1 * y1) := by
      unfold C
      grind
    rw [e1]
    exact Int.dvd_add (Int.dvd_sub h1 (Int.dvd_mul_of_dvd_right h2)) (Int.dvd_mul_of_dvd_left ht)
  have hz : ∀ f : Int, f * f = 1 → p ∣ x2 + f * y2 := by
    intro f hf
    by_cases hq : p ∣ x1 * y1 * (x2 + f * y2)
    · exact cancel (not_mul hx1 hy1) hq
    · obtain ⟨s, hs⟩ := square_of (key f hf) hq
      exact absurd hs (hd s)
  have a1 := hz 1 (by omega)
  have a2 := hz (-1) (by omega)
  have := Int.dvd_add a1 a2
  rw [show x2 + 1 * y2 + (x2 + -1 * y2) = 2 * x2 from by omega] at this
  exact hx2 (cancel not_two this)
end Go.Proofs.YtpmgmpihmpifgaaDoor.Ed

/-
  Plain facts, of no program: points of x x + y y = 1 + d x x y y, d no square, are a group but for the names.
-/
namespace Go.Proofs.YtpmgmpihmpifgaaDoor.Ed
open Go.Proofs.YtpmgmpihmpifgaaDoor.Pr
set_option maxRecDepth 100000

set_option maxHeartbeats 4000000 in
theorem close_id (d x1 y1 x2 y2 : Int) : (x1*y2+x2*y1)^2*(1-d*x1*x2*y1*y2)^2 + (y1*y2-x1*x2)^2*(1+d*x1*x2*y1*y2)^2 - ((1+d*x1*x2*y1*y2)*(1-d*x1*x2*y1*y2))^2 - d*(x1*y2+x2*y1)^2*(y1*y2-x1*x2)^2 =
    (0 + x1^2*y1^2*x2^4*y2^4*d^3 + x1^2*x2^4*y2^4*d^2 - x1^2*x2^4*y2^2*d - x1^2*x2^2*y2^4*d + y1^2*x2^4*y2^4*d^2 - y1^2*x2^4*y2^2*d - y1^2*x2^2*y2^4*d - x2^4*y2^4*d^2 + 2*x2^4*y2^4*d - 2*x2^4*y2^2 + x2^4 - 2*x2^2*y2^4 - 2*x2^2*y2^2*d + 4*x2^2*y2^2 + y2^4) * C d x1 y1 + (0 + x1^4*x2^2*y2^2*d - 2*x1^2*x2^2*y2^2*d + 2*x1^2*x2^2*y2^2 - x1^2*x2^2 - x1^2*y2^2 + y1^4*x2^2*y2^2*d - 2*y1^2*x2^2*y2^2*d + 2*y1^2*x2^2*y2^2 - y1^2*x2^2 - y1^2*y2^2 + x2^2*y2^2*d - 2*x2^2*y2^2 + x2^2 + y2^2 + 1) * C d x2 y2 := by
  unfold C
  grind

/-- the sum -/
def add (d : Int) (P Q : Pt) : Pt := ⟨(P.x * Q.y + Q.x * P.y) * inv (1 + tt d P Q) % p, (P.y * Q.y - P.x * Q.x) * inv (1 - tt d P Q) % p⟩
/-- told by numbers below the prime -/
def Rd (P : Pt) : Prop := (0 ≤ P.x ∧ P.x < p) ∧ (0 ≤ P.y ∧ P.y < p)
theorem add_rd (d : Int) (P Q : Pt) : Rd (add d P Q) := ⟨⟨Int.emod_nonneg _ (by decide), Int.emod_lt_of_pos _ (by decide)⟩, ⟨Int.emod_nonneg _ (by decide), Int.emod_lt_of_pos _ (by decide)⟩⟩

theorem dens {d : Int} {P Q : Pt} (hd : NS d) (hP : On d P) (hQ : On d Q) : ¬ p ∣ 1 + tt d P Q ∧ ¬ p ∣ 1 - tt d P Q := by
  constructor
  · intro h
    exact complete d (-1) P.x P.y Q.x Q.y hd hP hQ (by omega) (by rw [show d * P.x * Q.x * P.y * Q.y - -1 = 1 + tt d P Q from by unfold tt; omega]; exact h)
  · intro h
    refine complete d 1 P.x P.y Q.x Q.y hd hP hQ (by omega) ?_
    rw [show d * P.x * Q.x * P.y * Q.y - 1 = -(1 - tt d P Q) from by unfold tt; omega]
    exact Int.dvd_neg.2 h
theorem div_spec (n z : Int) (hz : ¬ p ∣ z) : p ∣ (n * inv z % p) * z - n := by
  obtain ⟨k, hk⟩ := inv_ok z hz
  have h1 := Int.mul_ediv_add_emod (n * inv z) p
  refine ⟨n * k - (n * inv z / p) * z, ?_⟩
  have e : z * inv z = p * k + 1 := by omega
  generalize inv z = i at *
  generalize n * i / p = m at *
  generalize n * i % p = r at *
  grind
theorem add_x {d : Int} {P Q : Pt} (hd : NS d) (hP : On d P) (hQ : On d Q) : p ∣ (add d P Q).x * (1 + tt d P Q) - (P.x * Q.y + Q.x * P.y) := div_spec _ _ (dens hd hP hQ).1
theorem add_y {d : Int} {P Q : Pt} (hd : NS d) (hP : On d P) (hQ : On d Q) : p ∣ (add d P Q).y * (1 - tt d P Q) - (P.y * Q.y - P.x * Q.x) := div_spec _ _ (dens hd hP hQ).2

theorem sq_not {a : Int} (h : ¬ p ∣ a) : ¬ p ∣ a ^ 2 := by rw [Int.pow_succ, Int.pow_succ, Int.pow_zero, Int.one_mul]; exact not_mul h h

set_option maxHeartbeats 4000000 in
theorem add_on {d : Int} {P Q : Pt} (hd : NS d) (hP : On d P) (hQ : On d Q) : On d (add d P Q) := by
  obtain ⟨n1, n2⟩ := dens hd hP hQ
  have hx := add_x hd hP hQ
  have hy := add_y hd hP hQ
  unfold On at *
  generalize (add d P Q).x = X at *
  generalize (add d P Q).y = Y at *
  have hc := close_id d P.x P.y Q.x Q.y
  have hG : p ∣ (P.x*Q.y+Q.x*P.y)^2*(1-d*P.x*Q.x*P.y*Q.y)^2 + (P.y*Q.y-P.x*Q.x)^2*(1+d*P.x*Q.x*P.y*Q.y)^2 - ((1+d*P.x*Q.x*P.y*Q.y)*(1-d*P.x*Q.x*P.y*Q.y))^2 - d*(P.x*Q.y+Q.x*P.y)^2*(P.y*Q.y-P.x*Q.x)^2 := by
    rw [hc]
    exact Int.dvd_add (Int.dvd_mul_of_dvd_right hP) (Int.dvd_mul_of_dvd_right hQ)
  clear hc
  have et : d * P.x * Q.x * P.y * Q.y = tt d P Q := rfl
  rw [et] at hG
  generalize tt d P Q = t at *
  generalize P.x * Q.y + Q.x * P.y = N at *
  generalize P.y * Q.y - P.x * Q.x = M at *
  have e : ((1 + t) ^ 2 * (1 - t) ^ 2) * C d X Y = (N^2*(1-t)^2 + M^2*(1+t)^2 - ((1+t)*(1-t))^2 - d*N^2*M^2) + (X * (1 + t) - N) * ((X * (1 + t) + N) * ((1 - t)^2 - d * (Y * (1 - t))^2)) + (Y * (1 - t) - M) * ((Y * (1 - t) + M) * ((1 + t)^2 - d * N^2)) := by
    unfold C
    grind
  have h : p ∣ ((1 + t) ^ 2 * (1 - t) ^ 2) * C d X Y := by
    rw [e]
    exact Int.dvd_add (Int.dvd_add hG (Int.dvd_mul_of_dvd_left hx)) (Int.dvd_mul_of_dvd_left hy)
  exact cancel (not_mul (sq_not n1) (sq_not n2)) h

theorem eq_of {a b : Int} (ha : 0 ≤ a ∧ a < p) (hb : 0 ≤ b ∧ b < p) (h : p ∣ a - b) : a = b := by
  obtain ⟨k, hk⟩ := h
  have h1 : k = 0 := by
    rcases Int.lt_trichotomy k 0 with h | h | h
    · have := Int.mul_le_mul_of_nonneg_left (show k ≤ -1 by omega) (show 0 ≤ p by decide)
      omega
    · exact h
    · have := Int.mul_le_mul_of_nonneg_left (show 1 ≤ k by omega) (show 0 ≤ p by decide)
      omega
  rw [h1] at hk
  omega

theorem add_comm (d : Int) (P Q : Pt) : add d P Q = add d Q P := by
  unfold add
  have e : tt d P Q = tt d Q P := by unfold tt; grind
  rw [e, show P.x * Q.y + Q.x * P.y = Q.x * P.y + P.x * Q.y from by omega, show P.y * Q.y - P.x * Q.x = Q.y * P.y - Q.x * P.x from by grind]

/-- (P + Q) + R, cleared of what stands below -/
theorem left_x {d : Int} {P Q R : Pt} (hd : NS d) (hP : On d P) (hQ : On d Q) (hR : On d R) :
    p ∣ (add d (add d P Q) R).x * ((1 + tt d P Q) * (1 - tt d P Q) + d * (P.x*Q.y+Q.x*P.y) * (P.y*Q.y-P.x*Q.x) * R.x * R.y) - ((P.x*Q.y+Q.x*P.y) * (1 - tt d P Q) * R.y + R.x * (P.y*Q.y-P.x*Q.x) * (1 + tt d P Q)) ∧
    ¬ p ∣ (1 + tt d P Q) * (1 - tt d P Q) + d * (P.x*Q.y+Q.x*P.y) * (P.y*Q.y-P.x*Q.x) * R.x * R.y := by
  obtain ⟨n1, n2⟩ := dens hd hP hQ
  have hx := add_x hd hP hQ
  have hy := add_y hd hP hQ
  have hS := add_on hd hP hQ
  have h3 := add_x hd hS hR
  have m1 := (dens hd hS hR).1
  generalize (add d (add d P Q) R).x = X at *
  generalize add d P Q = S at *
  have et : tt d S R = d * S.x * R.x * S.y * R.y := rfl
  rw [et] at h3 m1
  generalize tt d P Q = t at *
  generalize P.x * Q.y + Q.x * P.y = N at *
  generalize P.y * Q.y - P.x * Q.x = M at *
  constructor
  · have e : X * ((1 + t) * (1 - t) + d * N * M * R.x * R.y) - (N * (1 - t) * R.y + R.x * M * (1 + t)) = (X * (1 + d * S.x * R.x * S.y * R.y) - (S.x * R.y + R.x * S.y)) * ((1 + t) * (1 - t)) + (S.x * (1 + t) - N) * ((1 - t) * R.y - X * d * R.x * R.y * (S.y * (1 - t))) + (S.y * (1 - t) - M) * (R.x * (1 + t) - X * d * R.x * R.y * N) := by grind
    rw [e]
    exact Int.dvd_add (Int.dvd_add (Int.dvd_mul_of_dvd_left h3) (Int.dvd_mul_of_dvd_left hx)) (Int.dvd_mul_of_dvd_left hy)
  · intro h
    have e : ((1 + t) * (1 - t)) * (1 + d * S.x * R.x * S.y * R.y) = ((1 + t) * (1 - t) + d * N * M * R.x * R.y) + (S.x * (1 + t) - N) * (d * R.x * R.y * (S.y * (1 - t))) + (S.y * (1 - t) - M) * (d * R.x * R.y * N) := by grind
    have h5 : p ∣ ((1 + t) * (1 - t)) * (1 + d * S.x * R.x * S.y * R.y) := by
      rw [e]
      exact Int.dvd_add (Int.dvd_add h (Int.dvd_mul_of_dvd_left hx)) (Int.dvd_mul_of_dvd_left hy)
    exact m1 (cancel (not_mul n1 n2) h5)
theorem left_y {d : Int} {P Q R : Pt} (hd : NS d) (hP : On d P) (hQ : On d Q) (hR : On d R) :
    p ∣ (add d (add d P Q) R).y * ((1 + tt d P Q) * (1 - tt d P Q) - d * (P.x*Q.y+Q.x*P.y) * (P.y*Q.y-P.x*Q.x) * R.x * R.y) - ((P.y*Q.y-P.x*Q.x) * (1 + tt d P Q) * R.y - (P.x*Q.y+Q.x*P.y) * (1 - tt d P Q) * R.x) ∧
    ¬ p ∣ (1 + tt d P Q) * (1 - tt d P Q) - d * (P.x*Q.y+Q.x*P.y) * (P.y*Q.y-P.x*Q.x) * R.x * R.y := by
  obtain ⟨n1, n2⟩ := dens hd hP hQ
  have hx := add_x hd hP hQ
  have hy := add_y hd hP hQ
  have hS := add_on hd hP hQ
  have h3 := add_y hd hS hR
  have m1 := (dens hd hS hR).2
  generalize (add d (add d P Q) R).y = X at *
  generalize add d P Q = S at *
  have et : tt d S R = d * S.x * R.x * S.y * R.y := rfl
  rw [et] at h3 m1
  generalize tt d P Q = t at *
  generalize P.x * Q.y + Q.x * P.y = N at *
  generalize P.y * Q.y - P.x * Q.x = M at *
  constructor
  · have e : X * ((1 + t) * (1 - t) - d * N * M * R.x * R.y) - (M * (1 + t) * R.y - N * (1 - t) * R.x) = (X * (1 - d * S.x * R.x * S.y * R.y) - (S.y * R.y - S.x * R.x)) * ((1 + t) * (1 - t)) + (S.x * (1 + t) - N) * (X * d * R.x * R.y * (S.y * (1 - t)) - (1 - t) * R.x) + (S.y * (1 - t) - M) * ((1 + t) * R.y + X * d * R.x * R.y * N) := by grind
    rw [e]
    exact Int.dvd_add (Int.dvd_add (Int.dvd_mul_of_dvd_left h3) (Int.dvd_mul_of_dvd_left hx)) (Int.dvd_mul_of_dvd_left hy)
  · intro h
    have e : ((1 + t) * (1 - t)) * (1 - d * S.x * R.x * S.y * R.y) = ((1 + t) * (1 - t) - d * N * M * R.x * R.y) - (S.x * (1 + t) - N) * (d * R.x * R.y * (S.y * (1 - t))) - (S.y * (1 - t) - M) * (d * R.x * R.y * N) := by grind
    have h5 : p ∣ ((1 + t) * (1 - t)) * (1 - d * S.x * R.x * S.y * R.y) := by
      rw [e]
      exact Int.dvd_sub (Int.dvd_sub h (Int.dvd_mul_of_dvd_left hx)) (Int.dvd_mul_of_dvd_left hy)
    exact m1 (cancel (not_mul n1 n2) h5)

theorem join (X Y A Ad B Bd : Int) (h1 : p ∣ X * Ad - A) (h2 : p ∣ Y * Bd - B) (n1 : ¬ p ∣ Ad) (n2 : ¬ p ∣ Bd) (h : p ∣ A * Bd - B * Ad) : p ∣ X - Y := by
  have e : (Ad * Bd) * (X - Y) = (X * Ad - A) * Bd - (Y * Bd - B) * Ad + (A * Bd - B * Ad) := by grind
  have h5 : p ∣ (Ad * Bd) * (X - Y) := by
    rw [e]
    exact Int.dvd_add (Int.dvd_sub (Int.dvd_mul_of_dvd_left h1) (Int.dvd_mul_of_dvd_left h2)) h
  exact cancel (not_mul n1 n2) h5

/-- sums can be grouped -/
theorem add_assoc {d : Int} {P Q R : Pt} (hd : NS d) (hP : On d P) (hQ : On d Q) (hR : On d R) : add d (add d P Q) R = add d P (add d Q R) := by
  have l1 := left_x hd hP hQ hR
  have l2 := left_y hd hP hQ hR
  have r1 := left_x hd hQ hR hP
  have r2 := left_y hd hQ hR hP
  rw [add_comm d (add d Q R) P] at r1 r2
  have ax := assoc_x d P.x P.y Q.x Q.y R.x R.y
  have ay := assoc_y d P.x P.y Q.x Q.y R.x R.y
  have bx : p ∣ ((P.x*Q.y+Q.x*P.y)*(1-d*P.x*Q.x*P.y*Q.y)*R.y + R.x*(P.y*Q.y-P.x*Q.x)*(1+d*P.x*Q.x*P.y*Q.y)) * ((1+d*Q.x*R.x*Q.y*R.y)*(1-d*Q.x*R.x*Q.y*R.y) + d*P.x*P.y*(Q.x*R.y+R.x*Q.y)*(Q.y*R.y-Q.x*R.x)) - (P.x*(Q.y*R.y-Q.x*R.x)*(1+d*Q.x*R.x*Q.y*R.y) + (Q.x*R.y+R.x*Q.y)*(1-d*Q.x*R.x*Q.y*R.y)*P.y) * ((1+d*P.x*Q.x*P.y*Q.y)*(1-d*P.x*Q.x*P.y*Q.y) + d*(P.x*Q.y+Q.x*P.y)*(P.y*Q.y-P.x*Q.x)*R.x*R.y) := by
    rw [ax]
    exact Int.dvd_add (Int.dvd_add (Int.dvd_mul_of_dvd_right hP) (Int.dvd_mul_of_dvd_right hQ)) (Int.dvd_mul_of_dvd_right hR)
  have byy : p ∣ ((P.y*Q.y-P.x*Q.x)*(1+d*P.x*Q.x*P.y*Q.y)*R.y - (P.x*Q.y+Q.x*P.y)*(1-d*P.x*Q.x*P.y*Q.y)*R.x) * ((1+d*Q.x*R.x*Q.y*R.y)*(1-d*Q.x*R.x*Q.y*R.y) - d*P.x*P.y*(Q.x*R.y+R.x*Q.y)*(Q.y*R.y-Q.x*R.x)) - (P.y*(Q.y*R.y-Q.x*R.x)*(1+d*Q.x*R.x*Q.y*R.y) - P.x*(Q.x*R.y+R.x*Q.y)*(1-d*Q.x*R.x*Q.y*R.y)) * ((1+d*P.x*Q.x*P.y*Q.y)*(1-d*P.x*Q.x*P.y*Q.y) - d*(P.x*Q.y+Q.x*P.y)*(P.y*Q.y-P.x*Q.x)*R.x*R.y) := by
    rw [ay]
    exact Int.dvd_add (Int.dvd_add (Int.dvd_mul_of_dvd_right hP) (Int.dvd_mul_of_dvd_right hQ)) (Int.dvd_mul_of_dvd_right hR)
  clear ax ay
  have eX : (add d (add d P Q) R).x = (add d P (add d Q R)).x := by
    refine eq_of (add_rd _ _ _).1 (add_rd _ _ _).1 (join _ _ _ _ _ _ l1.1 r1.1 l1.2 r1.2 ?_)
    unfold tt
    rw [show d * (Q.x * R.y + R.x * Q.y) * (Q.y * R.y - Q.x * R.x) * P.x * P.y = d*P.x*P.y*(Q.x*R.y+R.x*Q.y)*(Q.y*R.y-Q.x*R.x) from by grind, show (Q.x * R.y + R.x * Q.y) * (1 - d * Q.x * R.x * Q.y * R.y) * P.y + P.x * (Q.y * R.y - Q.x * R.x) * (1 + d * Q.x * R.x * Q.y * R.y) = P.x*(Q.y*R.y-Q.x*R.x)*(1+d*Q.x*R.x*Q.y*R.y) + (Q.x*R.y+R.x*Q.y)*(1-d*Q.x*R.x*Q.y*R.y)*P.y from by omega]
    exact bx
  have eY : (add d (add d P Q) R).y = (add d P (add d Q R)).y := by
    refine eq_of (add_rd _ _ _).2 (add_rd _ _ _).2 (join _ _ _ _ _ _ l2.1 r2.1 l2.2 r2.2 ?_)
    unfold tt
    rw [show d * (Q.x * R.y + R.x * Q.y) * (Q.y * R.y - Q.x * R.x) * P.x * P.y = d*P.x*P.y*(Q.x*R.y+R.x*Q.y)*(Q.y*R.y-Q.x*R.x) from by grind, show (Q.y * R.y - Q.x * R.x) * (1 + d * Q.x * R.x * Q.y * R.y) * P.y - (Q.x * R.y + R.x * Q.y) * (1 - d * Q.x * R.x * Q.y * R.y) * P.x = P.y*(Q.y*R.y-Q.x*R.x)*(1+d*Q.x*R.x*Q.y*R.y) - P.x*(Q.x*R.y+R.x*Q.y)*(1-d*Q.x*R.x*Q.y*R.y) from by grind]
    exact byy
  revert eX eY
  generalize add d (add d P Q) R = S1
  generalize add d P (add d Q R) = S2
  cases S1
  cases S2
  intro e1 e2
  simp only [Pt.mk.injEq]
  exact ⟨e1, e2⟩
end Go.Proofs.YtpmgmpihmpifgaaDoor.Ed

/-
  Plain facts, of no program: multiples of a point; the ladder's step, told by y alone.
-/
namespace Go.Proofs.YtpmgmpihmpifgaaDoor.Ed
open Go.Proofs.YtpmgmpihmpifgaaDoor.Pr
set_option maxRecDepth 100000

/-- the sum of none -/
def zero : Pt := ⟨0, 1⟩
theorem zero_on (d : Int) : On d zero := by
  unfold On zero C
  exact ⟨0, by simp⟩
theorem zero_add {d : Int} {P : Pt} (hd : NS d) (hP : On d P) (hr : Rd P) : add d zero P = P := by
  have hx := add_x hd (zero_on d) hP
  have hy := add_y hd (zero_on d) hP
  have et : tt d zero P = 0 := by unfold tt zero; simp
  rw [et] at hx hy
  have r := add_rd d zero P
  have e1 : (add d zero P).x = P.x := by
    refine eq_of r.1 hr.1 ?_
    have : (add d zero P).x * (1 + 0) - (zero.x * P.y + P.x * zero.y) = (add d zero P).x - P.x := by unfold zero; simp
    rwa [this] at hx
  have e2 : (add d zero P).y = P.y := by
    refine eq_of r.2 hr.2 ?_
    have : (add d zero P).y * (1 - 0) - (zero.y * P.y - zero.x * P.x) = (add d zero P).y - P.y := by unfold zero; simp
    rwa [this] at hy
  revert e1 e2
  generalize add d zero P = S
  cases S
  cases P
  intro e1 e2
  simp only [Pt.mk.injEq]
  exact ⟨e1, e2⟩

/-- so many times a point -/
def mul (d : Int) : Nat → Pt → Pt
  | 0, _ => zero
  | n + 1, P => add d (mul d n P) P
theorem zero_rd : Rd zero := ⟨⟨by decide, by decide⟩, ⟨by decide, by decide⟩⟩
theorem mul_on {d : Int} {P : Pt} (hd : NS d) (hP : On d P) : ∀ n, On d (mul d n P)
  | 0 => zero_on d
  | n + 1 => add_on hd (mul_on hd hP n) hP
theorem mul_rd (d : Int) (P : Pt) : ∀ n, Rd (mul d n P)
  | 0 => zero_rd
  | _ + 1 => add_rd _ _ _
theorem mul_add {d : Int} {P : Pt} (hd : NS d) (hP : On d P) (m : Nat) : ∀ n, mul d (m + n) P = add d (mul d m P) (mul d n P)
  | 0 => by
    rw [add_comm]
    exact (zero_add hd (mul_on hd hP m) (mul_rd d P m)).symm
  | n + 1 => by
    show add d (mul d (m + n) P) P = add d (mul d m P) (add d (mul d n P) P)
    rw [mul_add hd hP m n, add_assoc hd (mul_on hd hP m) (mul_on hd hP n) hP]
theorem mul_mul {d : Int} {P : Pt} (hd : NS d) (hP : On d P) (m : Nat) : ∀ n, mul d n (mul d m P) = mul d (n * m) P
  | 0 => by rw [Nat.zero_mul]; rfl
  | n + 1 => by
    show add d (mul d n (mul d m P)) (mul d m P) = _
    rw [mul_mul hd hP m n, ← mul_add hd hP, Nat.succ_mul]
theorem mul_comm {d : Int} {P : Pt} (hd : NS d) (hP : On d P) (m n : Nat) : mul d n (mul d m P) = mul d m (mul d n P) := by
  rw [mul_mul hd hP, mul_mul hd hP, Nat.mul_comm]

/-- X over Z is the place of a point with this y -/
def Rp (X Z y : Int) : Prop := p ∣ (X - Z) - y * (X + Z) ∧ ¬ p ∣ X + Z

theorem dbl_id (c d x y : Int) : ((y*y - (1 - y*y)*(1 + c*(1 - y*y))) * (1 - d*x*x*y*y) - (y*y - x*x) * (y*y + (1 - y*y)*(1 + c*(1 - y*y)))) * (1 - d*y*y) =
    (c*d*y^6 - 2*c*d*y^4 + c*d*y^2 + c*y^4 - 2*c*y^2 + c - 2*d*y^4 + d*y^2 + 1) * C d x y + (2*y^6 - 4*y^4 + 2*y^2) * (d*(c+1) - c) := by
  unfold C
  grind
theorem ns_y {d : Int} (hd : NS d) (y : Int) : ¬ p ∣ 1 - d * y * y := by
  intro h
  have hy : ¬ p ∣ y := by
    intro h2
    apply not_one
    have h3 : p ∣ d * y * y := Int.dvd_mul_of_dvd_right h2
    have := Int.dvd_add h h3
    rwa [show 1 - d * y * y + d * y * y = 1 from by omega] at this
  have h4 : p ∣ 1 * 1 - d * (y * y) := by rw [show 1 * 1 - d * (y * y) = 1 - d * y * y from by grind]; exact h
  obtain ⟨s, hs⟩ := square_of h4 hy
  exact hd s hs
theorem c_one {c d : Int} (hK : p ∣ d * (c + 1) - c) : ¬ p ∣ c + 1 := by
  intro h
  apply not_one
  have h1 : p ∣ d * (c + 1) := Int.dvd_mul_of_dvd_right h
  have h2 := Int.dvd_sub h1 hK
  rw [show d * (c + 1) - (d * (c + 1) - c) = c from by omega] at h2
  have h3 := Int.dvd_sub h h2
  rwa [show c + 1 - c = 1 from by omega] at h3

set_option maxHeartbeats 2000000 in
/-- twice a point -/
theorem double {c d : Int} {P : Pt} (hd : NS d) (hK : p ∣ d * (c + 1) - c) (hP : On d P) (X Z : Int) (h : Rp X Z P.y) :
    Rp (((X + Z) * (X + Z)) * ((X - Z) * (X - Z))) (((X + Z) * (X + Z) - (X - Z) * (X - Z)) * ((X + Z) * (X + Z) + c * ((X + Z) * (X + Z) - (X - Z) * (X - Z)))) (add d P P).y := by
  obtain ⟨hb, hs⟩ := h
  have hy := add_y hd hP hP
  have n2 := (dens hd hP hP).2
  have n3 := ns_y hd P.y
  have n4 := c_one hK
  generalize (add d P P).y = Y at *
  unfold On at hP
  have et : tt d P P = d * P.x * P.x * P.y * P.y := rfl
  rw [et] at hy n2
  generalize X + Z = s at *
  generalize X - Z = b at *
  generalize P.x = x at *
  generalize P.y = y at *
  have hid := dbl_id c d x y
  have hZ0 : p ∣ ((y*y - (1 - y*y)*(1 + c*(1 - y*y))) * (1 - d*x*x*y*y) - (y*y - x*x) * (y*y + (1 - y*y)*(1 + c*(1 - y*y)))) * (1 - d*y*y) := by
    rw [hid]
    exact Int.dvd_add (Int.dvd_mul_of_dvd_right hP) (Int.dvd_mul_of_dvd_right hK)
  have hZ1 : p ∣ (y*y - (1 - y*y)*(1 + c*(1 - y*y))) * (1 - d*x*x*y*y) - (y*y - x*x) * (y*y + (1 - y*y)*(1 + c*(1 - y*y))) := cancel n3 (by rw [Int.mul_comm]; exact hZ0)
  clear hid hZ0
  have key : p ∣ (s * s * (b * b) - (s * s - b * b) * (s * s + c * (s * s - b * b))) - Y * (s * s * (b * b) + (s * s - b * b) * (s * s + c * (s * s - b * b))) := by
    refine cancel n2 ?_
    have e : (1 - d*x*x*y*y) * ((s * s * (b * b) - (s * s - b * b) * (s * s + c * (s * s - b * b))) - Y * (s * s * (b * b) + (s * s - b * b) * (s * s + c * (s * s - b * b)))) =
        (s*s*s*s) * ((y*y - (1 - y*y)*(1 + c*(1 - y*y))) * (1 - d*x*x*y*y) - (y*y - x*x) * (y*y + (1 - y*y)*(1 + c*(1 - y*y))))
        - (Y * (1 - d*x*x*y*y) - (y*y - x*x)) * (s * s * (b * b) + (s * s - b * b) * (s * s + c * (s * s - b * b)))
        + (b - y * s) * ((b + y * s) * (s * s * ((1 - d*x*x*y*y) - (y*y - x*x)) + ((1 - d*x*x*y*y) + (y*y - x*x)) * (s * s + c * (s * s - b * b) + c * (s * s - y * y * s * s)))) := by grind
    rw [e]
    exact Int.dvd_add (Int.dvd_sub (Int.dvd_mul_of_dvd_right hZ1) (Int.dvd_mul_of_dvd_left hy)) (Int.dvd_mul_of_dvd_left hb)
  refine ⟨key, ?_⟩
  intro h0
  have h1 : p ∣ Y * (s * s * (b * b) + (s * s - b * b) * (s * s + c * (s * s - b * b))) := Int.dvd_mul_of_dvd_right h0
  have h2 := Int.dvd_add key h1
  have h3 := Int.dvd_add h2 h0
  rw [show s * s * (b * b) - (s * s - b * b) * (s * s + c * (s * s - b * b)) - Y * (s * s * (b * b) + (s * s - b * b) * (s * s + c * (s * s - b * b))) + Y * (s * s * (b * b) + (s * s - b * b) * (s * s + c * (s * s - b * b))) + (s * s * (b * b) + (s * s - b * b) * (s * s + c * (s * s - b * b))) = 2 * (s * s * (b * b)) from by grind] at h3
  have h4 := cancel not_two h3
  have h5 : p ∣ b * b := cancel (not_mul hs hs) h4
  have h6 : p ∣ b := by
    rcases prime_int h5 with h | h
    · exact h
    · exact h
  have h7 : p ∣ (s * s * s * s) * (c + 1) := by
    have h8 : p ∣ b * (b * (s * s * (c + c + 1) - s * s - c * (b * b))) := Int.dvd_mul_of_dvd_left h6
    have h9 := Int.dvd_add h0 h8
    rwa [show s * s * (b * b) + (s * s - b * b) * (s * s + c * (s * s - b * b)) + b * (b * (s * s * (c + c + 1) - s * s - c * (b * b))) = (s * s * s * s) * (c + 1) from by grind] at h9
  exact n4 (cancel (not_mul (not_mul (not_mul hs hs) hs) hs) h7)
end Go.Proofs.YtpmgmpihmpifgaaDoor.Ed

/-
  Plain facts, of no program: the other half of the ladder's step: the sum of two points whose difference is known, told by y alone.
-/
namespace Go.Proofs.YtpmgmpihmpifgaaDoor.Ed
open Go.Proofs.YtpmgmpihmpifgaaDoor.Pr
set_option maxRecDepth 100000

def neg (P : Pt) : Pt := ⟨-P.x, P.y⟩
theorem neg_on {d : Int} {P : Pt} (h : On d P) : On d (neg P) := by
  unfold On neg at *
  have : C d (-P.x) P.y = C d P.x P.y := by unfold C; grind
  simp only
  rw [this]
  exact h
theorem add_neg {d : Int} {P : Pt} (hd : NS d) (hP : On d P) : add d P (neg P) = zero := by
  have hn := neg_on hP
  have hx := add_x hd hP hn
  have hy := add_y hd hP hn
  obtain ⟨n1, n2⟩ := dens hd hP hn
  have r := add_rd d P (neg P)
  have e1 : (add d P (neg P)).x = zero.x := by
    refine eq_of r.1 zero_rd.1 ?_
    refine cancel n1 ?_
    have : (1 + tt d P (neg P)) * ((add d P (neg P)).x - zero.x) = (add d P (neg P)).x * (1 + tt d P (neg P)) - (P.x * (neg P).y + (neg P).x * P.y) := by unfold neg zero; simp only; grind
    rw [this]
    exact hx
  have e2 : (add d P (neg P)).y = zero.y := by
    refine eq_of r.2 zero_rd.2 ?_
    refine cancel n2 ?_
    have : (1 - tt d P (neg P)) * ((add d P (neg P)).y - zero.y) = ((add d P (neg P)).y * (1 - tt d P (neg P)) - (P.y * (neg P).y - P.x * (neg P).x)) + C d P.x P.y := by
      unfold neg zero tt C
      simp only
      grind
    rw [this]
    exact Int.dvd_add hy hP
  revert e1 e2
  generalize add d P (neg P) = S
  cases S
  intro e1 e2
  unfold zero at *
  simp only at e1 e2
  rw [e1, e2]
/-- the difference is what was added -/
theorem back {d : Int} {P Q : Pt} (hd : NS d) (hP : On d P) (hr : Rd P) (hQ : On d Q) : add d (add d Q P) (neg Q) = P := by
  rw [add_comm d Q P, add_assoc hd hP hQ (neg_on hQ), add_neg hd hQ, add_comm d P zero]
  exact zero_add hd hP hr

set_option maxHeartbeats 2000000 in
theorem diff_id (d x y x' y' : Int) : ((1 - d*x*x'*y*y') + (y*y' - x*x')) * ((1 + d*x*x'*y*y') + (y*y' + x*x')) * ((y' - y)*(y' - y)) - ((1 - d*x*x'*y*y') - (y*y' - x*x')) * ((1 + d*x*x'*y*y') - (y*y' + x*x')) * ((y' + y)*(y' + y)) =
    (4*x'*x'*y*y' - 4*d*x'*x'*y*y'*y'*y') * C d x y + (4*y*y' - 4*y*y*y*y') * C d x' y' := by
  unfold C
  grind

/-- the place u : 1 of a point -/
theorem place_ne {u y : Int} (h : Rp u 1 y) : ¬ p ∣ 1 - y := by
  intro h2
  obtain ⟨h1, _⟩ := h
  apply not_two
  have h3 : p ∣ (1 - y) * (u + 1) := Int.dvd_mul_of_dvd_left h2
  have := Int.dvd_sub h3 h1
  rwa [show (1 - y) * (u + 1) - (u - 1 - y * (u + 1)) = 2 from by grind] at this

set_option maxHeartbeats 4000000 in
/-- the sum of Q and Q + P, by the place of P -/
theorem diff {d : Int} {P Q : Pt} (hd : NS d) (hP : On d P) (hr : Rd P) (hQ : On d Q) (u X2 Z2 X3 Z3 : Int) (hu : Rp u 1 P.y) (hu0 : ¬ p ∣ u) (h2 : Rp X2 Z2 Q.y) (h3 : Rp X3 Z3 (add d Q P).y) :
    Rp (((X3 - Z3) * (X2 + Z2) + (X3 + Z3) * (X2 - Z2)) * ((X3 - Z3) * (X2 + Z2) + (X3 + Z3) * (X2 - Z2))) (u * (((X3 - Z3) * (X2 + Z2) - (X3 + Z3) * (X2 - Z2)) * ((X3 - Z3) * (X2 + Z2) - (X3 + Z3) * (X2 - Z2)))) (add d Q (add d Q P)).y := by
  have hR := add_on hd hQ hP
  have hS := add_y hd hQ hR
  have nS := (dens hd hQ hR).2
  have hB := back hd hP hr hQ
  have hD := add_y hd hR (neg_on hQ)
  have nD := (dens hd hR (neg_on hQ)).2
  rw [hB] at hD
  have hRP := add_y hd hQ hP
  have np := place_ne hu
  obtain ⟨hu1, _⟩ := hu
  generalize (add d Q (add d Q P)).y = Yp at *
  generalize add d Q P = R at *
  have et : tt d Q R = d * Q.x * R.x * Q.y * R.y := rfl
  have et2 : tt d R (neg Q) = -(d * Q.x * R.x * Q.y * R.y) := by unfold tt neg; simp only; grind
  have et3 : tt d Q P = d * Q.x * P.x * Q.y * P.y := rfl
  have en : R.y * (neg Q).y - R.x * (neg Q).x = Q.y * R.y + Q.x * R.x := by unfold neg; simp only; grind
  rw [et] at hS nS
  rw [et2, en] at hD
  rw [et2] at nD
  rw [et3] at hRP
  unfold On at hP hQ hR
  obtain ⟨b2, s2⟩ := h2
  obtain ⟨b3, s3⟩ := h3
  generalize X2 + Z2 = s at *
  generalize X2 - Z2 = b at *
  generalize X3 + Z3 = s' at *
  generalize X3 - Z3 = b' at *
  generalize Q.x = x at *
  generalize Q.y = y at *
  generalize R.x = x' at *
  generalize R.y = y' at *
  generalize hpx : P.x = px at *
  generalize hpy : P.y = ym at *
  clear hB hr hpx hpy
  have hid := diff_id d x y x' y'
  have hI : p ∣ ((1 - d*x*x'*y*y') + (y*y' - x*x')) * ((1 + d*x*x'*y*y') + (y*y' + x*x')) * ((y' - y)*(y' - y)) - ((1 - d*x*x'*y*y') - (y*y' - x*x')) * ((1 + d*x*x'*y*y') - (y*y' + x*x')) * ((y' + y)*(y' + y)) := by
    rw [hid]
    exact Int.dvd_add (Int.dvd_mul_of_dvd_right hQ) (Int.dvd_mul_of_dvd_right hR)
  clear hid
  have hJ : p ∣ (1 + Yp) * (1 + ym) * ((y' - y)*(y' - y)) - (1 - Yp) * (1 - ym) * ((y' + y)*(y' + y)) := by
    refine cancel (not_mul nS nD) ?_
    have e : ((1 - d*x*x'*y*y') * (1 - -(d*x*x'*y*y'))) * ((1 + Yp) * (1 + ym) * ((y' - y)*(y' - y)) - (1 - Yp) * (1 - ym) * ((y' + y)*(y' + y))) =
        (((1 - d*x*x'*y*y') + (y*y' - x*x')) * ((1 + d*x*x'*y*y') + (y*y' + x*x')) * ((y' - y)*(y' - y)) - ((1 - d*x*x'*y*y') - (y*y' - x*x')) * ((1 + d*x*x'*y*y') - (y*y' + x*x')) * ((y' + y)*(y' + y)))
        + (Yp * (1 - d*x*x'*y*y') - (y*y' - x*x')) * ((1 - -(d*x*x'*y*y')) * (1 + ym) * ((y' - y)*(y' - y)) + (1 - -(d*x*x'*y*y')) * (1 - ym) * ((y' + y)*(y' + y)))
        + (ym * (1 - -(d*x*x'*y*y')) - (y*y' + x*x')) * (((1 - d*x*x'*y*y') + (y*y' - x*x')) * ((y' - y)*(y' - y)) + ((1 - d*x*x'*y*y') - (y*y' - x*x')) * ((y' + y)*(y' + y))) := by grind
    rw [e]
    exact Int.dvd_add (Int.dvd_add hI (Int.dvd_mul_of_dvd_left hS)) (Int.dvd_mul_of_dvd_left hD)
  have hA : p ∣ (b' * s + s' * b) - s * s' * (y' + y) := by
    rw [show (b' * s + s' * b) - s * s' * (y' + y) = s * (b' - y' * s') + s' * (b - y * s) from by grind]
    exact Int.dvd_add (Int.dvd_mul_of_dvd_right b3) (Int.dvd_mul_of_dvd_right b2)
  have hB : p ∣ (b' * s - s' * b) - s * s' * (y' - y) := by
    rw [show (b' * s - s' * b) - s * s' * (y' - y) = s * (b' - y' * s') - s' * (b - y * s) from by grind]
    exact Int.dvd_sub (Int.dvd_mul_of_dvd_right b3) (Int.dvd_mul_of_dvd_right b2)
  have nσ := not_mul s2 s3
  generalize b' * s + s' * b = A at *
  generalize b' * s - s' * b = B at *
  generalize s * s' = σ at *
  have hG : p ∣ (A * A - u * (B * B)) - Yp * (A * A + u * (B * B)) := by
    refine cancel np ?_
    have e : (1 - ym) * ((A * A - u * (B * B)) - Yp * (A * A + u * (B * B))) =
        (((A - σ * (y' + y)) * ((1 - Yp) * (1 - ym) * (A + σ * (y' + y)))
        - (B - σ * (y' - y)) * ((1 + Yp) * (1 + ym) * (B + σ * (y' - y))))
        - (u - 1 - ym * (u + 1)) * ((1 + Yp) * (B * B)))
        - ((1 + Yp) * (1 + ym) * ((y' - y)*(y' - y)) - (1 - Yp) * (1 - ym) * ((y' + y)*(y' + y))) * (σ * σ) := by grind
    rw [e]
    exact Int.dvd_sub (Int.dvd_sub (Int.dvd_sub (Int.dvd_mul_of_dvd_left hA) (Int.dvd_mul_of_dvd_left hB)) (Int.dvd_mul_of_dvd_left hu1)) (Int.dvd_mul_of_dvd_left hJ)
  refine ⟨hG, fun hs => ?_⟩
  have hX : p ∣ A := by
    have h1 : p ∣ 2 * (A * A) := by
      rw [show 2 * (A * A) = ((A * A - u * (B * B)) - Yp * (A * A + u * (B * B))) + (A * A + u * (B * B)) * (1 + Yp) from by grind]
      exact Int.dvd_add hG (Int.dvd_mul_of_dvd_left hs)
    have h2 := cancel not_two h1
    exact Classical.byContradiction fun hn => hn (cancel hn h2)
  have hZ : p ∣ B := by
    have h1 : p ∣ u * (B * B) := by
      rw [show u * (B * B) = (A * A + u * (B * B)) - A * A from by grind]
      exact Int.dvd_sub hs (Int.dvd_mul_of_dvd_left hX)
    have h2 := cancel hu0 h1
    exact Classical.byContradiction fun hn => hn (cancel hn h2)
  have ha : p ∣ y' + y := by
    refine cancel nσ ?_
    rw [show σ * (y' + y) = A - (A - σ * (y' + y)) from by grind]
    exact Int.dvd_sub hX hA
  have hb : p ∣ y' - y := by
    refine cancel nσ ?_
    rw [show σ * (y' - y) = B - (B - σ * (y' - y)) from by grind]
    exact Int.dvd_sub hZ hB
  have hy : p ∣ y := by
    refine cancel not_two ?_
    rw [show 2 * y = (y' + y) - (y' - y) from by grind]
    exact Int.dvd_sub ha hb
  have hy' : p ∣ y' := by
    rw [show y' = (y' + y) - y from by grind]
    exact Int.dvd_sub ha hy
  have hx : ¬ p ∣ x := by
    intro hx
    apply not_one
    have : (1 : Int) = x * (x - d * x * y * y) + y * y - C d x y := by unfold C; grind
    rw [this]
    exact Int.dvd_sub (Int.dvd_add (Int.dvd_mul_of_dvd_left hx) (Int.dvd_mul_of_dvd_left hy)) hQ
  have hpx : p ∣ px := by
    refine cancel hx ?_
    rw [show x * px = (y' * (1 - d * x * px * y * ym) - (y * ym - x * px)) - y' * (1 - d * x * px * y * ym) + y * ym from by grind]
    exact Int.dvd_add (Int.dvd_sub hRP (Int.dvd_mul_of_dvd_left hy')) (Int.dvd_mul_of_dvd_left hy)
  have hm : p ∣ (1 - ym) * (1 + ym) := by
    rw [show (1 - ym) * (1 + ym) = px * (px - d * px * ym * ym) - C d px ym from by unfold C; grind]
    exact Int.dvd_sub (Int.dvd_mul_of_dvd_left hpx) hP
  have hm2 := cancel np hm
  apply hu0
  refine cancel np ?_
  rw [show (1 - ym) * u = (u - 1 - ym * (u + 1)) + (1 + ym) from by grind]
  exact Int.dvd_add hu1 hm2
end Go.Proofs.YtpmgmpihmpifgaaDoor.Ed

/-
  Plain facts, of no program: the ladder's two rows are the places of k P and (k + 1) P, and what it answers is the place of the multiple.
-/
namespace Go.Proofs.YtpmgmpihmpifgaaDoor.Ed
open Go.Proofs.YtpmgmpihmpifgaaDoor.Pr
set_option maxRecDepth 100000

theorem rp_congr {X Z X' Z' y : Int} (hx : p ∣ X' - X) (hz : p ∣ Z' - Z) (h : Rp X Z y) : Rp X' Z' y := by
  obtain ⟨h1, h2⟩ := h
  refine ⟨?_, fun h3 => h2 ?_⟩
  · rw [show X' - Z' - y * (X' + Z') = (X - Z - y * (X + Z)) + (X' - X) * (1 - y) - (Z' - Z) * (1 + y) from by grind]
    exact Int.dvd_sub (Int.dvd_add h1 (Int.dvd_mul_of_dvd_left hx)) (Int.dvd_mul_of_dvd_left hz)
  · rw [show X + Z = (X' + Z') - (X' - X) - (Z' - Z) from by grind]
    exact Int.dvd_sub (Int.dvd_sub h3 hx) hz

theorem mul_one {d : Int} {P : Pt} (hd : NS d) (hP : On d P) (hr : Rd P) : mul d 1 P = P := by
  show add d (mul d 0 P) P = P
  exact zero_add hd hP hr
theorem mul_succ {d : Int} {P : Pt} (hd : NS d) (hP : On d P) (hr : Rd P) (k : Nat) : mul d (k + 1) P = add d (mul d k P) P := by
  rw [mul_add hd hP, mul_one hd hP hr]

/-- both rows of the ladder -/
def Rows (d : Int) (P : Pt) (k : Nat) (X2 Z2 X3 Z3 : Int) : Prop := Rp X2 Z2 (mul d k P).y ∧ Rp X3 Z3 (mul d (k + 1) P).y

theorem rows_start {d : Int} {P : Pt} (hd : NS d) (hP : On d P) (hr : Rd P) (u : Int) (hu : Rp u 1 P.y) : Rows d P 0 1 0 u 1 := by
  refine ⟨?_, ?_⟩
  · show Rp 1 0 1
    exact ⟨⟨0, by decide⟩, not_one⟩
  · rw [Nat.zero_add, mul_one hd hP hr]
    exact hu

theorem rows_sum {d : Int} {P : Pt} (hd : NS d) (hP : On d P) (hr : Rd P) (u : Int) (hu : Rp u 1 P.y) (hu0 : ¬ p ∣ u) {k : Nat} {X2 Z2 X3 Z3 : Int} (h : Rows d P k X2 Z2 X3 Z3) :
    Rp (((X3 - Z3) * (X2 + Z2) + (X3 + Z3) * (X2 - Z2)) * ((X3 - Z3) * (X2 + Z2) + (X3 + Z3) * (X2 - Z2))) (u * (((X3 - Z3) * (X2 + Z2) - (X3 + Z3) * (X2 - Z2)) * ((X3 - Z3) * (X2 + Z2) - (X3 + Z3) * (X2 - Z2)))) (mul d (2 * k + 1) P).y := by
  obtain ⟨h2, h3⟩ := h
  rw [mul_succ hd hP hr] at h3
  have := diff hd hP hr (mul_on hd hP k) u X2 Z2 X3 Z3 hu hu0 h2 h3
  rw [show 2 * k + 1 = k + (k + 1) from by omega, mul_add hd hP, mul_succ hd hP hr]
  exact this
theorem rows_low {c d : Int} {P : Pt} (hd : NS d) (hK : p ∣ d * (c + 1) - c) (hP : On d P) {k : Nat} {X Z : Int} (h : Rp X Z (mul d k P).y) :
    Rp (((X + Z) * (X + Z)) * ((X - Z) * (X - Z))) (((X + Z) * (X + Z) - (X - Z) * (X - Z)) * ((X + Z) * (X + Z) + c * ((X + Z) * (X + Z) - (X - Z) * (X - Z)))) (mul d (2 * k) P).y := by
  have := double hd hK (mul_on hd hP k) X Z h
  rw [show 2 * k = k + k from by omega, mul_add hd hP]
  exact this

/-- what is answered of a pair: X times the inverse of Z (none: 0) -/
theorem inv_zero {z : Int} (h : p ∣ z) : inv z = 0 := by
  unfold inv
  rw [Int.emod_eq_zero_of_dvd h]
  exact Int.zero_pow (by decide +kernel)
theorem place {X Z y : Int} (h : Rp X Z y) : p ∣ X * inv Z - (1 + y) * inv (1 - y) := by
  obtain ⟨h1, h2⟩ := h
  have h3 : p ∣ X * (1 - y) - Z * (1 + y) := by
    rw [show X * (1 - y) - Z * (1 + y) = X - Z - y * (X + Z) from by grind]
    exact h1
  by_cases hz : p ∣ Z
  · have hX : ¬ p ∣ X := fun hx => h2 (Int.dvd_add hx hz)
    have h4 : p ∣ X * (1 - y) := by
      rw [show X * (1 - y) = (X * (1 - y) - Z * (1 + y)) + Z * (1 + y) from by grind]
      exact Int.dvd_add h3 (Int.dvd_mul_of_dvd_left hz)
    rw [inv_zero hz, inv_zero (cancel hX h4)]
    simp
  · have ny : ¬ p ∣ 1 - y := by
      intro hy
      have h4 : p ∣ Z * (1 + y) := by
        rw [show Z * (1 + y) = (1 - y) * X - (X * (1 - y) - Z * (1 + y)) from by grind]
        exact Int.dvd_sub (Int.dvd_mul_of_dvd_left hy) h3
      have h5 := cancel hz h4
      apply not_two
      have := Int.dvd_add h5 hy
      rwa [show 1 + y + (1 - y) = 2 from by grind] at this
    have i1 := inv_ok Z hz
    have i2 := inv_ok (1 - y) ny
    refine cancel (not_mul hz ny) ?_
    generalize inv Z = a at *
    generalize inv (1 - y) = b at *
    rw [show Z * (1 - y) * (X * a - (1 + y) * b) = (Z * a - 1) * (X * (1 - y)) - ((1 - y) * b - 1) * (Z * (1 + y)) + (X * (1 - y) - Z * (1 + y)) from by grind]
    exact Int.dvd_add (Int.dvd_sub (Int.dvd_mul_of_dvd_left i1) (Int.dvd_mul_of_dvd_left i2)) h3
end Go.Proofs.YtpmgmpihmpifgaaDoor.Ed

/-
  Plain facts, of no program: squares modulo 2^255 - 19; the two curves' constants are none; every place lies on one of both.
-/
namespace Go.Proofs.YtpmgmpihmpifgaaDoor.Ed
open Go.Proofs.YtpmgmpihmpifgaaDoor.Pr
set_option maxRecDepth 100000

def D1n : Nat := 20800338683988658368647408995589388737092878452977063003340006470870624536394
def D1 : Int := 20800338683988658368647408995589388737092878452977063003340006470870624536394
def D2 : Int := 28692721048178265397853269683490922171210976843790175684556505508326675974058
def ii : Int := 19681161376707505956807079304988542015446066515923890162744021073123829784752
def HH : Nat := 28948022309329048855892746252171976963317496166410141009864396001978282409974
def QQ : Nat := 14474011154664524427946373126085988481658748083205070504932198000989141204987
def EE : Nat := 7237005577332262213973186563042994240829374041602535252466099000494570602494
theorem hh_eq : PP - 1 = HH + HH := by decide +kernel
theorem qq_eq : HH = QQ + QQ := by decide +kernel
theorem ee_eq : EE + EE = QQ + 1 := by decide +kernel
theorem ii_ok : p ∣ ii * ii + 1 := by decide +kernel
theorem d12 : p ∣ D1 * D2 - 1 := by decide +kernel
theorem d1_ne : ¬ p ∣ D1 := by decide +kernel
theorem k1 : p ∣ D1 * (121665 + 1) - 121665 := by decide +kernel
theorem k2 : p ∣ D2 * (-121666 + 1) - -121666 := by decide +kernel
theorem d1_cast : D1 = (D1n : Int) := by decide +kernel
theorem d1_half : p ∣ D1 ^ HH + 1 := by
  have h1 : mp PP 256 D1n HH = PP - 1 := by decide +kernel
  rw [mp_eq PP 256 D1n HH (by decide +kernel)] at h1
  have h2 := Int.mul_ediv_add_emod ((D1n ^ HH : Nat) : Int) (PP : Int)
  rw [← Int.natCast_emod, h1] at h2
  have h3 : ((PP - 1 : Nat) : Int) = p - 1 := by decide +kernel
  rw [h3, ← p_PP, Int.natCast_pow, ← d1_cast] at h2
  generalize D1 ^ HH = w at *
  generalize w / p = v at *
  exact ⟨v + 1, by rw [← h2]; grind⟩

theorem pow_cong {a b : Int} (h : p ∣ a - b) : ∀ n : Nat, p ∣ a ^ n - b ^ n
  | 0 => ⟨0, by rw [Int.pow_zero, Int.pow_zero]; omega⟩
  | n + 1 => by
    rw [Int.pow_succ, Int.pow_succ]
    have ih := pow_cong h n
    generalize a ^ n = x at *
    generalize b ^ n = y at *
    rw [show x * a - y * b = x * (a - b) + (x - y) * b from by grind]
    exact Int.dvd_add (Int.dvd_mul_of_dvd_right h) (Int.dvd_mul_of_dvd_left ih)
theorem as_nat (z : Int) : ∃ k : Nat, p ∣ z - (k : Int) := by
  obtain ⟨k, hk⟩ := Int.eq_ofNat_of_zero_le (Int.emod_nonneg z (show p ≠ 0 by decide))
  refine ⟨k, ?_⟩
  have := Int.mul_ediv_add_emod z p
  rw [hk] at this
  exact ⟨z / p, by omega⟩
theorem ferm_int (z : Int) (h : ¬ p ∣ z) : p ∣ z ^ HH * z ^ HH - 1 := by
  obtain ⟨k, hk⟩ := as_nat z
  have hk2 : k % PP ≠ 0 := by
    intro e
    apply h
    have : p ∣ (k : Int) := by rw [p_PP]; exact Int.ofNat_dvd.2 (Nat.dvd_of_mod_eq_zero e)
    have := Int.dvd_add hk this
    rwa [show z - (k : Int) + k = z from by omega] at this
  have hf := fermat k hk2
  rw [hh_eq] at hf
  have h2 := Int.mul_ediv_add_emod ((k ^ (HH + HH) : Nat) : Int) (PP : Int)
  rw [← Int.natCast_emod, hf, ← p_PP, Int.natCast_pow] at h2
  have h3 := pow_cong hk (HH + HH)
  rw [← Int.pow_add]
  generalize z ^ (HH + HH) = w at *
  generalize (k : Int) ^ (HH + HH) = v at *
  have h4 : p ∣ v - 1 := ⟨v / p, by rw [show ((1 : Nat) : Int) = 1 from rfl] at h2; generalize p * (v / p) = q at *; omega⟩
  rw [show w - 1 = (w - v) + (v - 1) from by omega]
  exact Int.dvd_add h3 h4
/-- a root -/
theorem root {t : Int} (h : p ∣ t ^ HH - 1) : ∃ r : Int, p ∣ r * r - t := by
  rw [qq_eq, Int.pow_add] at h
  have e := congrArg (fun n => t ^ n) ee_eq
  simp only [Int.pow_add, Int.pow_succ] at e
  generalize t ^ EE = r at *
  generalize t ^ QQ = q at *
  have h1 : p ∣ (q - 1) * (q + 1) := by rw [show (q - 1) * (q + 1) = q * q - 1 from by grind]; exact h
  rcases prime_int h1 with h2 | h2
  · refine ⟨r, ?_⟩
    rw [e, show q * t - t = (q - 1) * t from by grind]
    exact Int.dvd_mul_of_dvd_left h2
  · refine ⟨ii * r, ?_⟩
    rw [show ii * r * (ii * r) - t = (ii * ii) * (r * r) - t from by grind, e]
    have := ii_ok
    generalize ii * ii = j at *
    rw [show j * (q * t) - t = (j + 1) * (q * t) - (q + 1) * t from by grind]
    exact Int.dvd_sub (Int.dvd_mul_of_dvd_left this) (Int.dvd_mul_of_dvd_left h2)
theorem root_or (t : Int) : ∃ r : Int, p ∣ r * r - t ∨ p ∣ r * r - D1 * t := by
  by_cases h : p ∣ t
  · exact ⟨0, .inl (by rw [show 0 * 0 - t = -t from by omega]; exact Int.dvd_neg.2 h)⟩
  · have hf := ferm_int t h
    have h1 : p ∣ (t ^ HH - 1) * (t ^ HH + 1) := by
      generalize t ^ HH = w at *
      rw [show (w - 1) * (w + 1) = w * w - 1 from by grind]
      exact hf
    rcases prime_int h1 with h2 | h2
    · obtain ⟨r, hr⟩ := root h2
      exact ⟨r, .inl hr⟩
    · have h3 : p ∣ (D1 * t) ^ HH - 1 := by
        have hd := d1_half
        rw [Int.mul_pow]
        generalize D1 ^ HH = v at *
        generalize t ^ HH = w at *
        rw [show v * w - 1 = (v + 1) * w - (w + 1) from by grind]
        exact Int.dvd_sub (Int.dvd_mul_of_dvd_left hd) h2
      obtain ⟨r, hr⟩ := root h3
      exact ⟨r, .inr hr⟩
theorem ns1 : NS D1 := by
  intro s hs
  have hn : ¬ p ∣ s := by
    intro h
    apply d1_ne
    have hq : p ∣ s * s := Int.dvd_mul_of_dvd_left h
    have := Int.dvd_sub hq hs
    rwa [show s * s - (s * s - D1) = D1 from by omega] at this
  have h1 := ferm_int s hn
  have h2 := pow_cong hs HH
  have h3 := d1_half
  rw [Int.mul_pow] at h2
  generalize s ^ HH * s ^ HH = w at *
  generalize D1 ^ HH = v at *
  apply not_two
  have := Int.dvd_add (Int.dvd_sub h2 h1) h3
  rwa [show w - v - (w - 1) + (v + 1) = 2 from by omega] at this
theorem ns2 : NS D2 := by
  intro s hs
  apply ns1 (s * D1)
  have h := d12
  generalize D1 = a at *
  generalize D2 = b at *
  rw [show s * a * (s * a) - a = (s * s - b) * (a * a) + (a * b - 1) * a from by grind]
  exact Int.dvd_add (Int.dvd_mul_of_dvd_left hs) (Int.dvd_mul_of_dvd_left h)
end Go.Proofs.YtpmgmpihmpifgaaDoor.Ed

/-
  Plain facts, of no program: every place u lies on one of the two curves (on the second with its sign turned), and the ladder's step is one for both.
-/
namespace Go.Proofs.YtpmgmpihmpifgaaDoor.Ed
open Go.Proofs.YtpmgmpihmpifgaaDoor.Pr
set_option maxRecDepth 100000

/-- which curve -/
def Cv (e d : Int) : Prop := (e = 1 ∧ d = D1) ∨ (e = -1 ∧ d = D2)
theorem Cv.ns {e d : Int} (h : Cv e d) : NS d := by
  rcases h with ⟨_, h⟩ | ⟨_, h⟩
  · rw [h]; exact ns1
  · rw [h]; exact ns2
/-- u is the place of P on it -/
def At (e d u : Int) (P : Pt) : Prop := Cv e d ∧ On d P ∧ Rd P ∧ Rp (e * u) 1 P.y

theorem rp_y {X Z y y' : Int} (hy : p ∣ y' - y) (h : Rp X Z y) : Rp X Z y' := by
  obtain ⟨h1, h2⟩ := h
  refine ⟨?_, h2⟩
  rw [show X - Z - y' * (X + Z) = (X - Z - y * (X + Z)) - (y' - y) * (X + Z) from by grind]
  exact Int.dvd_sub h1 (Int.dvd_mul_of_dvd_left hy)
theorem rp_neg {X Z y : Int} (h : Rp X Z y) : Rp (-X) (-Z) y := by
  obtain ⟨h1, h2⟩ := h
  refine ⟨?_, fun h3 => h2 ?_⟩
  · rw [show -X - -Z - y * (-X + -Z) = -(X - Z - y * (X + Z)) from by grind]
    exact Int.dvd_neg.2 h1
  · have := Int.dvd_neg.2 h3
    rwa [show -(-X + -Z) = X + Z from by omega] at this
theorem mod_sub (z : Int) : p ∣ z % p - z := by
  have := Int.mul_ediv_add_emod z p
  exact ⟨-(z / p), by rw [Int.mul_neg]; omega⟩
theorem mk {e d u x y : Int} (h : Cv e d) (hC : p ∣ C d x y) (hR : Rp (e * u) 1 y) : At e d u ⟨x % p, y % p⟩ := by
  have hx := mod_sub x
  have hy := mod_sub y
  refine ⟨h, ?_, ?_, rp_y hy hR⟩
  · unfold On
    simp only
    generalize x % p = x' at *
    generalize y % p = y' at *
    rw [show C d x' y' = C d x y + (x' - x) * ((x' + x) * (1 - d * (y' * y'))) + (y' - y) * ((y' + y) * (1 - d * (x * x))) from by unfold C; grind]
    exact Int.dvd_add (Int.dvd_add hC (Int.dvd_mul_of_dvd_left hx)) (Int.dvd_mul_of_dvd_left hy)
  · exact ⟨⟨Int.emod_nonneg _ (by decide), Int.emod_lt_of_pos _ (by decide)⟩, ⟨Int.emod_nonneg _ (by decide), Int.emod_lt_of_pos _ (by decide)⟩⟩

set_option maxHeartbeats 2000000 in
/-- every place is some point's -/
theorem choice (u : Int) : ∃ e d P, At e d u P := by
  by_cases h1 : p ∣ u + 1
  · refine ⟨-1, D2, _, mk (x := 1) (y := 0) (.inr ⟨rfl, rfl⟩) ⟨0, by unfold C; generalize D2 = d; grind⟩ ⟨?_, fun h => not_two ?_⟩⟩
    · rw [show -1 * u - 1 - 0 * (-1 * u + 1) = -(u + 1) from by grind]
      exact Int.dvd_neg.2 h1
    · have := Int.dvd_add h h1
      rwa [show -1 * u + 1 + (u + 1) = 2 from by omega] at this
  by_cases h2 : p ∣ u - 1
  · refine ⟨1, D1, _, mk (x := 1) (y := 0) (.inl ⟨rfl, rfl⟩) ⟨0, by unfold C; generalize D1 = d; grind⟩ ⟨?_, fun h => h1 ?_⟩⟩
    · rw [show 1 * u - 1 - 0 * (1 * u + 1) = u - 1 from by grind]
      exact h2
    · rwa [Int.one_mul] at h
  have i1 := inv_ok (u + 1) h1
  have i2 := inv_ok (u - 1) h2
  generalize inv (u + 1) = a at *
  generalize inv (u - 1) = z at *
  have n := ns_y ns1 ((u - 1) * a)
  have hR : Rp (1 * u) 1 ((u - 1) * a) := by
    refine ⟨?_, fun h => h1 (by rwa [Int.one_mul] at h)⟩
    rw [show 1 * u - 1 - (u - 1) * a * (1 * u + 1) = ((u + 1) * a - 1) * -(u - 1) from by grind]
    exact Int.dvd_mul_of_dvd_left i1
  have hR2 : Rp (-1 * u) 1 ((u + 1) * z) := by
    refine ⟨?_, fun h => h2 ?_⟩
    · rw [show -1 * u - 1 - (u + 1) * z * (-1 * u + 1) = ((u - 1) * z - 1) * (u + 1) from by grind]
      exact Int.dvd_mul_of_dvd_left i2
    · have := Int.dvd_neg.2 h
      rwa [show -(-1 * u + 1) = u - 1 from by omega] at this
  have hw : p ∣ ((u - 1) * a) * ((u + 1) * z) - 1 := by
    rw [show ((u - 1) * a) * ((u + 1) * z) - 1 = ((u + 1) * a - 1) * ((u - 1) * z) + ((u - 1) * z - 1) from by grind]
    exact Int.dvd_add (Int.dvd_mul_of_dvd_left i1) i2
  generalize (u - 1) * a = y at *
  generalize (u + 1) * z = y' at *
  have i3 := inv_ok _ n
  generalize inv (1 - D1 * y * y) = m at *
  obtain ⟨r, hr | hr⟩ := root_or ((1 - y * y) * m)
  · refine ⟨1, D1, _, mk (x := r) (y := y) (.inl ⟨rfl, rfl⟩) ?_ hR⟩
    generalize D1 = d at *
    rw [show C d r y = (r * r - (1 - y * y) * m) * (1 - d * y * y) + ((1 - d * y * y) * m - 1) * (1 - y * y) from by unfold C; grind]
    exact Int.dvd_add (Int.dvd_mul_of_dvd_left hr) (Int.dvd_mul_of_dvd_left i3)
  · refine ⟨-1, D2, _, mk (x := r) (y := y') (.inr ⟨rfl, rfl⟩) ?_ hR2⟩
    have hd := d12
    have hd0 := d1_ne
    have hy : ¬ p ∣ y := by
      intro h
      apply not_one
      rw [show (1 : Int) = y * y' - (y * y' - 1) from by omega]
      exact Int.dvd_sub (Int.dvd_mul_of_dvd_left h) hw
    refine cancel (not_mul hd0 (not_mul hy hy)) ?_
    generalize D1 = d at *
    generalize D2 = d' at *
    rw [show d * (y * y) * C d' r y' = ((y * y' - 1) * ((y * y' + 1) * (d - r * r)) - (d * d' - 1) * (r * r * (y * y') * (y * y')))
        - ((r * r - d * ((1 - y * y) * m)) * (1 - d * y * y) + ((1 - d * y * y) * m - 1) * (d * (1 - y * y))) from by unfold C; grind]
    exact Int.dvd_sub (Int.dvd_sub (Int.dvd_mul_of_dvd_left hw) (Int.dvd_mul_of_dvd_left hd)) (Int.dvd_add (Int.dvd_mul_of_dvd_left hr) (Int.dvd_mul_of_dvd_left i3))

/-- the ladder's double, one for both curves -/
theorem low_e {e d : Int} {P : Pt} (hc : Cv e d) (hP : On d P) {k : Nat} {X Z : Int} (h : Rp (e * X) Z (mul d k P).y) :
    Rp (e * (((X + Z) * (X + Z)) * ((X - Z) * (X - Z)))) (((X + Z) * (X + Z) - (X - Z) * (X - Z)) * ((X + Z) * (X + Z) + 121665 * ((X + Z) * (X + Z) - (X - Z) * (X - Z)))) (mul d (2 * k) P).y := by
  rcases hc with ⟨he, hd⟩ | ⟨he, hd⟩
  · subst he hd
    rw [Int.one_mul] at h ⊢
    exact rows_low ns1 k1 hP h
  · subst he hd
    have h2 := rp_neg (rows_low ns2 k2 hP h)
    generalize (mul D2 (2 * k) P).y = y at *
    clear h
    have e1 : -((-1 * X + Z) * (-1 * X + Z) * ((-1 * X - Z) * (-1 * X - Z))) = -1 * (((X + Z) * (X + Z)) * ((X - Z) * (X - Z))) := by grind
    have e2 : -(((-1 * X + Z) * (-1 * X + Z) - (-1 * X - Z) * (-1 * X - Z)) * ((-1 * X + Z) * (-1 * X + Z) + -121666 * ((-1 * X + Z) * (-1 * X + Z) - (-1 * X - Z) * (-1 * X - Z)))) =
        ((X + Z) * (X + Z) - (X - Z) * (X - Z)) * ((X + Z) * (X + Z) + 121665 * ((X + Z) * (X + Z) - (X - Z) * (X - Z))) := by grind
    rw [e1, e2] at h2
    exact h2
/-- the ladder's sum, one for both curves -/
theorem sum_e {e d u : Int} {P : Pt} (ha : At e d u P) (hu0 : ¬ p ∣ u) {k : Nat} {X2 Z2 X3 Z3 : Int} (h : Rows d P k (e * X2) Z2 (e * X3) Z3) :
    Rp (e * (((X3 - Z3) * (X2 + Z2) + (X3 + Z3) * (X2 - Z2)) * ((X3 - Z3) * (X2 + Z2) + (X3 + Z3) * (X2 - Z2)))) (u * (((X3 - Z3) * (X2 + Z2) - (X3 + Z3) * (X2 - Z2)) * ((X3 - Z3) * (X2 + Z2) - (X3 + Z3) * (X2 - Z2)))) (mul d (2 * k + 1) P).y := by
  obtain ⟨hc, hP, hr, hu⟩ := ha
  rcases hc with ⟨he, hd⟩ | ⟨he, hd⟩
  · subst he hd
    have h2 := rows_sum ns1 hP hr _ hu (by rw [Int.one_mul]; exact hu0) h
    simp only [Int.one_mul] at h2 ⊢
    exact h2
  · subst he hd
    have h2 := rp_neg (rows_sum ns2 hP hr _ hu (by intro h; apply hu0; have := Int.dvd_neg.2 h; rwa [show -(-1 * u) = u from by omega] at this) h)
    generalize (mul D2 (2 * k + 1) P).y = y at *
    clear h hu
    refine cast ?_ h2
    congr 1 <;> grind
end Go.Proofs.YtpmgmpihmpifgaaDoor.Ed

/-
  Plain facts, of no program: what the ladder answers, and what it answers of its own answer.
-/
namespace Go.Proofs.YtpmgmpihmpifgaaDoor.Ed
open Go.Proofs.YtpmgmpihmpifgaaDoor.Pr
set_option maxRecDepth 100000

/-- the ladder's rows at k -/
def Fits (e d : Int) (P : Pt) (k : Nat) (X2 Z2 X3 Z3 : Int) : Prop := Rows d P k (e * X2) Z2 (e * X3) Z3
theorem fits_congr {e d : Int} {P : Pt} {k : Nat} {X2 Z2 X3 Z3 X2' Z2' X3' Z3' : Int} (a : p ∣ X2' - X2) (b : p ∣ Z2' - Z2) (a' : p ∣ X3' - X3) (b' : p ∣ Z3' - Z3) (h : Fits e d P k X2 Z2 X3 Z3) : Fits e d P k X2' Z2' X3' Z3' := by
  refine ⟨rp_congr ?_ b h.1, rp_congr ?_ b' h.2⟩
  · rw [← Int.mul_sub]; exact Int.dvd_mul_of_dvd_right a
  · rw [← Int.mul_sub]; exact Int.dvd_mul_of_dvd_right a'
theorem fits_start {e d u : Int} {P : Pt} (ha : At e d u P) : Fits e d P 0 1 0 u 1 := by
  obtain ⟨hc, hP, hr, hu⟩ := ha
  have h := rows_start hc.ns hP hr _ hu
  refine ⟨?_, h.2⟩
  rcases hc with ⟨he, _⟩ | ⟨he, _⟩
  · subst he
    exact h.1
  · subst he
    show Rp (-1 * 1) 0 1
    exact ⟨⟨0, by decide⟩, by decide +kernel⟩
theorem fits_zero {e d u : Int} {P : Pt} (ha : At e d u P) (hu0 : ¬ p ∣ u) {k : Nat} {X2 Z2 X3 Z3 : Int} (h : Fits e d P k X2 Z2 X3 Z3) :
    Fits e d P (2 * k) (((X2 + Z2) * (X2 + Z2)) * ((X2 - Z2) * (X2 - Z2))) (((X2 + Z2) * (X2 + Z2) - (X2 - Z2) * (X2 - Z2)) * ((X2 + Z2) * (X2 + Z2) + 121665 * ((X2 + Z2) * (X2 + Z2) - (X2 - Z2) * (X2 - Z2))))
      (((X3 - Z3) * (X2 + Z2) + (X3 + Z3) * (X2 - Z2)) * ((X3 - Z3) * (X2 + Z2) + (X3 + Z3) * (X2 - Z2))) (u * (((X3 - Z3) * (X2 + Z2) - (X3 + Z3) * (X2 - Z2)) * ((X3 - Z3) * (X2 + Z2) - (X3 + Z3) * (X2 - Z2)))) :=
  ⟨low_e ha.1 ha.2.1 h.1, sum_e ha hu0 h⟩
theorem fits_one {e d u : Int} {P : Pt} (ha : At e d u P) (hu0 : ¬ p ∣ u) {k : Nat} {X2 Z2 X3 Z3 : Int} (h : Fits e d P k X2 Z2 X3 Z3) :
    Fits e d P (2 * k + 1) (((X3 - Z3) * (X2 + Z2) + (X3 + Z3) * (X2 - Z2)) * ((X3 - Z3) * (X2 + Z2) + (X3 + Z3) * (X2 - Z2))) (u * (((X3 - Z3) * (X2 + Z2) - (X3 + Z3) * (X2 - Z2)) * ((X3 - Z3) * (X2 + Z2) - (X3 + Z3) * (X2 - Z2))))
      (((X3 + Z3) * (X3 + Z3)) * ((X3 - Z3) * (X3 - Z3))) (((X3 + Z3) * (X3 + Z3) - (X3 - Z3) * (X3 - Z3)) * ((X3 + Z3) * (X3 + Z3) + 121665 * ((X3 + Z3) * (X3 + Z3) - (X3 - Z3) * (X3 - Z3)))) :=
  ⟨sum_e ha hu0 h, low_e (k := k + 1) ha.1 ha.2.1 h.2⟩

/-- the place of a point with this y -/
def V (e y : Int) : Int := e * ((1 + y) * inv (1 - y))
theorem Cv.sq {e d : Int} (h : Cv e d) : e * e = 1 := by
  rcases h with ⟨h, _⟩ | ⟨h, _⟩ <;> subst h <;> rfl
theorem answer {e d : Int} {P : Pt} (hc : Cv e d) {k : Nat} {X2 Z2 X3 Z3 : Int} (h : Fits e d P k X2 Z2 X3 Z3) : p ∣ X2 * inv Z2 - V e (mul d k P).y := by
  have h1 := place h.1
  have he := hc.sq
  unfold V
  generalize (1 + (mul d k P).y) * inv (1 - (mul d k P).y) = v at *
  generalize inv Z2 = z at *
  rw [show X2 * z - e * v = e * e * X2 * z - e * v from by rw [he]; grind, show e * e * X2 * z - e * v = e * (e * X2 * z - v) from by grind]
  exact Int.dvd_mul_of_dvd_right h1

/-- the two points with x = 0 -/
def Tw (d : Int) (Q : Pt) : Prop := On d Q ∧ p ∣ (1 + Q.y) * (1 - Q.y)
theorem v_tw {e d : Int} {Q : Pt} (hc : Cv e d) (hQ : On d Q) : p ∣ V e Q.y ↔ Tw d Q := by
  have he := hc.sq
  have ne : ¬ p ∣ e := by
    intro h
    apply not_one
    rw [← he]
    exact Int.dvd_mul_of_dvd_left h
  unfold V Tw
  constructor
  · intro h
    refine ⟨hQ, ?_⟩
    rcases prime_int (cancel ne h) with h1 | h1
    · exact Int.dvd_mul_of_dvd_left h1
    · by_cases hy : p ∣ 1 - Q.y
      · exact Int.dvd_mul_of_dvd_right hy
      · exfalso
        have i := inv_ok _ hy
        apply not_one
        have h2 : p ∣ (1 - Q.y) * inv (1 - Q.y) := Int.dvd_mul_of_dvd_right h1
        have := Int.dvd_sub h2 i
        generalize (1 - Q.y) * inv (1 - Q.y) = w at this
        rwa [show w - (w - 1) = 1 from by omega] at this
  · rintro ⟨_, h⟩
    rcases prime_int h with h1 | h1
    · exact Int.dvd_mul_of_dvd_right (Int.dvd_mul_of_dvd_left h1)
    · rw [inv_zero h1]
      simp
theorem tw_x {d : Int} {Q : Pt} (hd : NS d) (h : Tw d Q) : p ∣ Q.x := by
  obtain ⟨h1, h2⟩ := h
  unfold On at h1
  have n := ns_y hd Q.y
  generalize Q.x = x at *
  generalize Q.y = y at *
  have h3 : p ∣ (1 - d * y * y) * (x * x) := by
    rw [show (1 - d * y * y) * (x * x) = C d x y + (1 + y) * (1 - y) from by unfold C; grind]
    exact Int.dvd_add h1 h2
  rcases prime_int (cancel n h3) with h | h <;> exact h
theorem tw_add {d : Int} {P Q : Pt} (hd : NS d) (hP : Tw d P) (hQ : Tw d Q) : Tw d (add d P Q) := by
  have hx := tw_x hd hP
  have hy := add_y hd hP.1 hQ.1
  refine ⟨add_on hd hP.1 hQ.1, ?_⟩
  have h1 := hP.2
  have h2 := hQ.2
  have et : tt d P Q = d * P.x * Q.x * P.y * Q.y := rfl
  rw [et] at hy
  generalize (add d P Q).y = Y at *
  generalize P.x = x at *
  generalize P.y = y at *
  generalize Q.x = x' at *
  generalize Q.y = y' at *
  have h3 : p ∣ Y - y * y' := by
    rw [show Y - y * y' = (Y * (1 - d * x * x' * y * y') - (y * y' - x * x')) + x * (Y * d * x' * y * y' - x') from by grind]
    exact Int.dvd_add hy (Int.dvd_mul_of_dvd_left hx)
  rw [show (1 + Y) * (1 - Y) = (1 + y) * (1 - y) * (y' * y') + (1 + y') * (1 - y') - (Y - y * y') * (Y + y * y') from by grind]
  exact Int.dvd_sub (Int.dvd_add (Int.dvd_mul_of_dvd_left h1) h2) (Int.dvd_mul_of_dvd_left h3)
theorem tw_mul {d : Int} {Q : Pt} (hd : NS d) (h : Tw d Q) : ∀ j, Tw d (mul d j Q)
  | 0 => ⟨zero_on d, by show p ∣ (1 + 1) * (1 - 1); exact ⟨0, by decide⟩⟩
  | j + 1 => tw_add hd (tw_mul hd h j) h
/-- the place 0 stays -/
theorem v_zero {e d : Int} {Q : Pt} (hc : Cv e d) (hQ : On d Q) (h : p ∣ V e Q.y) (j : Nat) : p ∣ V e (mul d j Q).y :=
  (v_tw hc (mul_on hc.ns hQ j)).2 (tw_mul hc.ns ((v_tw hc hQ).1 h) j)
/-- an answer that is not 0 is the place of the multiple -/
theorem at_of {e d w : Int} {Q : Pt} (hc : Cv e d) (hQ : On d Q) (hr : Rd Q) (hw : p ∣ w - V e Q.y) (hn : ¬ p ∣ w) : At e d w Q := by
  have he := hc.sq
  have ny : ¬ p ∣ 1 - Q.y := by
    intro h
    apply hn
    unfold V at hw
    rw [inv_zero h] at hw
    simpa using hw
  have i := inv_ok _ ny
  have key : p ∣ e * w * (1 - Q.y) - (1 + Q.y) := by
    unfold V at hw
    generalize inv (1 - Q.y) = z at *
    generalize Q.y = y at *
    rw [show e * w * (1 - y) - (1 + y) = (w - e * ((1 + y) * z)) * (e * (1 - y)) + ((1 - y) * z * (e * e) - 1) * (1 + y) from by grind, he, Int.mul_one]
    exact Int.dvd_add (Int.dvd_mul_of_dvd_left hw) (Int.dvd_mul_of_dvd_left i)
  refine ⟨hc, hQ, hr, ?_, fun h => not_two ?_⟩
  · rw [show e * w - 1 - Q.y * (e * w + 1) = e * w * (1 - Q.y) - (1 + Q.y) from by grind]
    exact key
  · have h1 : p ∣ (e * w + 1) * (1 - Q.y) := Int.dvd_mul_of_dvd_left h
    have := Int.dvd_sub h1 key
    rwa [show (e * w + 1) * (1 - Q.y) - (e * w * (1 - Q.y) - (1 + Q.y)) = 2 from by grind] at this
end Go.Proofs.YtpmgmpihmpifgaaDoor.Ed

/-
  Plain facts, of no program: the ladder as a plain function of the bits, highest first; two ladders in either order answer the same.
-/
namespace Go.Proofs.YtpmgmpihmpifgaaDoor.Ed
open Go.Proofs.YtpmgmpihmpifgaaDoor.Pr
set_option maxRecDepth 100000

structure St where
  a : Int
  b : Int
  c : Int
  d : Int
def dX (X Z : Int) : Int := ((X + Z) * (X + Z)) * ((X - Z) * (X - Z))
def dZ (X Z : Int) : Int := ((X + Z) * (X + Z) - (X - Z) * (X - Z)) * ((X + Z) * (X + Z) + 121665 * ((X + Z) * (X + Z) - (X - Z) * (X - Z)))
def sX (X2 Z2 X3 Z3 : Int) : Int := ((X3 - Z3) * (X2 + Z2) + (X3 + Z3) * (X2 - Z2)) * ((X3 - Z3) * (X2 + Z2) + (X3 + Z3) * (X2 - Z2))
def sZ (u X2 Z2 X3 Z3 : Int) : Int := u * (((X3 - Z3) * (X2 + Z2) - (X3 + Z3) * (X2 - Z2)) * ((X3 - Z3) * (X2 + Z2) - (X3 + Z3) * (X2 - Z2)))
def stp (u : Int) (s : St) (t : Bool) : St :=
  match t with
  | false => ⟨dX s.a s.b, dZ s.a s.b, sX s.a s.b s.c s.d, sZ u s.a s.b s.c s.d⟩
  | true => ⟨sX s.a s.b s.c s.d, sZ u s.a s.b s.c s.d, dX s.c s.d, dZ s.c s.d⟩
def up (k : Nat) (t : Bool) : Nat :=
  match t with
  | false => 2 * k
  | true => 2 * k + 1
def num (bs : List Bool) : Nat := bs.foldl up 0
def lad (u : Int) (bs : List Bool) : St := bs.foldl (stp u) ⟨1, 0, u, 1⟩
/-- what the ladder answers -/
def ans (u : Int) (bs : List Bool) : Int := (lad u bs).a * inv (lad u bs).b

theorem run_fits {e d u : Int} {P : Pt} (ha : At e d u P) (hu0 : ¬ p ∣ u) : ∀ (bs : List Bool) (k : Nat) (s : St), Fits e d P k s.a s.b s.c s.d →
    Fits e d P (bs.foldl up k) (bs.foldl (stp u) s).a (bs.foldl (stp u) s).b (bs.foldl (stp u) s).c (bs.foldl (stp u) s).d
  | [], _, _, h => h
  | false :: bs, k, _, h => run_fits ha hu0 bs (2 * k) _ (fits_zero ha hu0 h)
  | true :: bs, k, _, h => run_fits ha hu0 bs (2 * k + 1) _ (fits_one ha hu0 h)
theorem ans_v {e d u : Int} {P : Pt} (ha : At e d u P) (hu0 : ¬ p ∣ u) (bs : List Bool) : p ∣ ans u bs - V e (mul d (num bs) P).y :=
  answer ha.1 (run_fits ha hu0 bs 0 _ (fits_start ha))

/-- the place 0 -/
def Nil (s : St) : Prop := p ∣ s.b ∧ p ∣ s.d ∧ p ∣ s.a * s.c
theorem nil_d (X Z : Int) (h : p ∣ Z) : p ∣ dZ X Z := by
  unfold dZ
  rw [show (X + Z) * (X + Z) - (X - Z) * (X - Z) = Z * (4 * X) from by grind]
  exact Int.dvd_mul_of_dvd_left (Int.dvd_mul_of_dvd_left h)
theorem nil_s {X2 Z2 X3 Z3 : Int} (h2 : p ∣ Z2) (h : p ∣ X2 * X3) : p ∣ sX X2 Z2 X3 Z3 := by
  unfold sX
  refine Int.dvd_mul_of_dvd_left ?_
  rw [show (X3 - Z3) * (X2 + Z2) + (X3 + Z3) * (X2 - Z2) = X2 * X3 * 2 - Z2 * (2 * Z3) from by grind]
  exact Int.dvd_sub (Int.dvd_mul_of_dvd_left h) (Int.dvd_mul_of_dvd_left h2)
theorem nil_stp {u : Int} (hu : p ∣ u) {s : St} (h : Nil s) (t : Bool) : Nil (stp u s t) := by
  obtain ⟨h1, h2, h3⟩ := h
  have hs := nil_s (Z3 := s.d) h1 h3
  have hz : p ∣ sZ u s.a s.b s.c s.d := Int.dvd_mul_of_dvd_left hu
  cases t
  · exact ⟨nil_d _ _ h1, hz, Int.dvd_mul_of_dvd_right hs⟩
  · exact ⟨hz, nil_d _ _ h2, Int.dvd_mul_of_dvd_left hs⟩
theorem nil_first {u : Int} (hu : p ∣ u) (t : Bool) : Nil (stp u ⟨1, 0, u, 1⟩ t) := by
  have hz : p ∣ sZ u 1 0 u 1 := Int.dvd_mul_of_dvd_left hu
  have hs : p ∣ sX 1 0 u 1 := by
    unfold sX
    rw [show (u - 1) * (1 + 0) + (u + 1) * (1 - 0) = u * 2 from by grind]
    exact Int.dvd_mul_of_dvd_left (Int.dvd_mul_of_dvd_left hu)
  cases t
  · exact ⟨nil_d _ _ ⟨0, rfl⟩, hz, Int.dvd_mul_of_dvd_right hs⟩
  · refine ⟨hz, ?_, Int.dvd_mul_of_dvd_left hs⟩
    show p ∣ dZ u 1
    unfold dZ
    rw [show (u + 1) * (u + 1) - (u - 1) * (u - 1) = u * 4 from by grind]
    exact Int.dvd_mul_of_dvd_left (Int.dvd_mul_of_dvd_left hu)
theorem nil_run {u : Int} (hu : p ∣ u) : ∀ (bs : List Bool) (s : St), Nil s → Nil (bs.foldl (stp u) s)
  | [], _, h => h
  | t :: bs, _, h => nil_run hu bs _ (nil_stp hu h t)
theorem ans_nil {u : Int} (hu : p ∣ u) : ∀ (bs : List Bool), p ∣ ans u bs
  | [] => by
    show p ∣ 1 * inv 0
    rw [inv_zero (z := 0) ⟨0, rfl⟩]
    exact ⟨0, rfl⟩
  | t :: bs => by
    have h := (nil_run hu bs _ (nil_first hu t)).1
    have h2 : inv (lad u (t :: bs)).b = 0 := inv_zero h
    unfold ans
    rw [h2]
    exact ⟨0, by omega⟩

/-- the ladder of an answer -/
theorem ans_again {e d u w : Int} {P : Pt} (ha : At e d u P) (hu0 : ¬ p ∣ u) (bs cs : List Bool) (hw : p ∣ w - ans u bs) : p ∣ ans w cs - V e (mul d (num cs * num bs) P).y := by
  have hv := ans_v ha hu0 bs
  have hwv : p ∣ w - V e (mul d (num bs) P).y := by
    have := Int.dvd_add hw hv
    rwa [show w - ans u bs + (ans u bs - V e (mul d (num bs) P).y) = w - V e (mul d (num bs) P).y from by omega] at this
  have hon := mul_on ha.1.ns ha.2.1 (num bs)
  rw [← mul_mul ha.1.ns ha.2.1]
  by_cases hn : p ∣ w
  · have h0 : p ∣ V e (mul d (num bs) P).y := by
      have := Int.dvd_sub hn hwv
      rwa [show w - (w - V e (mul d (num bs) P).y) = V e (mul d (num bs) P).y from by omega] at this
    exact Int.dvd_sub (ans_nil hn cs) (v_zero ha.1 hon h0 _)
  · exact ans_v (at_of ha.1 hon (mul_rd d P _) hwv hn) hn cs
/-- in either order -/
theorem ans_comm (u w w' : Int) (bs cs : List Bool) (hw : p ∣ w - ans u bs) (hw' : p ∣ w' - ans u cs) : p ∣ ans w cs - ans w' bs := by
  by_cases hu0 : p ∣ u
  · have h1 := Int.dvd_add hw (ans_nil hu0 bs)
    have h2 := Int.dvd_add hw' (ans_nil hu0 cs)
    rw [show w - ans u bs + ans u bs = w from by omega] at h1
    rw [show w' - ans u cs + ans u cs = w' from by omega] at h2
    exact Int.dvd_sub (ans_nil h1 cs) (ans_nil h2 bs)
  · obtain ⟨e, d, P, ha⟩ := choice u
    have h1 := ans_again ha hu0 bs cs hw
    have h2 := ans_again ha hu0 cs bs hw'
    rw [Nat.mul_comm] at h2
    have := Int.dvd_sub h1 h2
    generalize V e (mul d (num cs * num bs) P).y = v at this
    rwa [show ans w cs - v - (ans w' bs - v) = ans w cs - ans w' bs from by omega] at this
end Go.Proofs.YtpmgmpihmpifgaaDoor.Ed

/-
  Plain facts, of no program: the ladder of a key's number, bit by bit from 254 down; what it answers, reckoned for the secret 0.
-/
namespace Go.Proofs.YtpmgmpihmpifgaaDoor.Ed
open Go.Proofs.YtpmgmpihmpifgaaDoor.Pr
set_option maxRecDepth 100000

/-- the bit t -/
def bt (M t : Nat) : Bool := M / 2 ^ t % 2 == 1
/-- the n highest bits of 255 -/
def hi (M : Nat) : Nat → List Bool
  | 0 => []
  | n + 1 => hi M n ++ [bt M (254 - n)]
theorem num_app (bs : List Bool) (t : Bool) : num (bs ++ [t]) = up (num bs) t := by
  unfold num
  rw [List.foldl_append]
  rfl
theorem lad_app (u : Int) (bs : List Bool) (t : Bool) : lad u (bs ++ [t]) = stp u (lad u bs) t := by
  unfold lad
  rw [List.foldl_append]
  rfl
theorem num_hi {M : Nat} (hM : M < 2 ^ 255) : ∀ n, n ≤ 255 → num (hi M n) = M / 2 ^ (255 - n)
  | 0, _ => by
    rw [Nat.sub_zero, Nat.div_eq_of_lt hM]
    rfl
  | n + 1, h => by
    show num (hi M n ++ [bt M (254 - n)]) = _
    rw [num_app, num_hi hM n (by omega), show 255 - n = (254 - n) + 1 from by omega, show 255 - (n + 1) = 254 - n from by omega, Nat.pow_succ, ← Nat.div_div_eq_div_mul]
    unfold bt
    generalize M / 2 ^ (254 - n) = x
    rcases (show x % 2 = 0 ∨ x % 2 = 1 by omega) with e | e
    · rw [e]
      show 2 * (x / 2) = x
      omega
    · rw [e]
      show 2 * (x / 2) + 1 = x
      omega
theorem num_all {M : Nat} (hM : M < 2 ^ 255) : num (hi M 255) = M := by
  rw [num_hi hM 255 (Nat.le_refl _), Nat.sub_self, Nat.pow_zero, Nat.div_one]

/-- what X reckons -/
def out (u : Int) (M : Nat) : Int := (lad u (hi M 255)).a * (lad u (hi M 255)).b ^ (PP - 2)
theorem inv_pow (z : Int) : p ∣ z ^ (PP - 2) - inv z := by
  have h : p ∣ z - z % p := by
    have := mod_sub z
    have := Int.dvd_neg.2 this
    generalize z % p = r at *
    rwa [show -(r - z) = z - r from by omega] at this
  unfold inv
  exact pow_cong h _
theorem out_ans (u : Int) (M : Nat) : p ∣ out u M - ans u (hi M 255) := by
  unfold out ans
  have := inv_pow (lad u (hi M 255)).b
  generalize (lad u (hi M 255)).b ^ (PP - 2) = x at *
  generalize inv (lad u (hi M 255)).b = y at *
  generalize (lad u (hi M 255)).a = z at *
  rw [show z * x - z * y = z * (x - y) from by grind]
  exact Int.dvd_mul_of_dvd_right this

/-- alike modulo p -/
def Cg (a b : Int) : Prop := p ∣ a - b
theorem Cg.refl (a : Int) : Cg a a := ⟨0, by omega⟩
theorem Cg.add {a b c d : Int} (h : Cg a b) (k : Cg c d) : Cg (a + c) (b + d) := by
  unfold Cg at *
  rw [show a + c - (b + d) = (a - b) + (c - d) from by omega]
  exact Int.dvd_add h k
theorem Cg.sub {a b c d : Int} (h : Cg a b) (k : Cg c d) : Cg (a - c) (b - d) := by
  unfold Cg at *
  rw [show a - c - (b - d) = (a - b) - (c - d) from by omega]
  exact Int.dvd_sub h k
theorem Cg.mul {a b c d : Int} (h : Cg a b) (k : Cg c d) : Cg (a * c) (b * d) := by
  unfold Cg at *
  rw [show a * c - b * d = (a - b) * c + b * (c - d) from by grind]
  exact Int.dvd_add (Int.dvd_mul_of_dvd_left h) (Int.dvd_mul_of_dvd_right k)
theorem Cg.symm {a b : Int} (h : Cg a b) : Cg b a := by
  unfold Cg at *
  have := Int.dvd_neg.2 h
  rwa [show -(a - b) = b - a from by omega] at this
theorem Cg.trans {a b c : Int} (h : Cg a b) (k : Cg b c) : Cg a c := by
  unfold Cg at *
  have := Int.dvd_add h k
  rwa [show a - b + (b - c) = a - c from by omega] at this
theorem Cg.modL {a b : Int} (h : Cg a b) : Cg (a % p) b := Cg.trans (mod_sub a) h
theorem Cg.eq {a b : Int} (h : Cg a b) : a % p = b % p := Int.emod_eq_emod_iff_emod_sub_eq_zero.2 (Int.emod_eq_zero_of_dvd h)
theorem Cg.of {a b : Int} (h : a % p = b % p) : Cg a b := Int.dvd_of_emod_eq_zero (Int.emod_eq_emod_iff_emod_sub_eq_zero.1 h)
theorem cg_dX {X Z X' Z' : Int} (h : Cg X X') (k : Cg Z Z') : Cg (dX X Z) (dX X' Z') := ((h.add k).mul (h.add k)).mul ((h.sub k).mul (h.sub k))
theorem cg_dZ {X Z X' Z' : Int} (h : Cg X X') (k : Cg Z Z') : Cg (dZ X Z) (dZ X' Z') :=
  (((h.add k).mul (h.add k)).sub ((h.sub k).mul (h.sub k))).mul (((h.add k).mul (h.add k)).add ((Cg.refl 121665).mul (((h.add k).mul (h.add k)).sub ((h.sub k).mul (h.sub k)))))
theorem cg_sX {X Z Y W X' Z' Y' W' : Int} (a : Cg X X') (b : Cg Z Z') (c : Cg Y Y') (d : Cg W W') : Cg (sX X Z Y W) (sX X' Z' Y' W') :=
  have s := ((c.sub d).mul (a.add b)).add ((c.add d).mul (a.sub b))
  s.mul s
theorem cg_sZ {u u' X Z Y W X' Z' Y' W' : Int} (h : Cg u u') (a : Cg X X') (b : Cg Z Z') (c : Cg Y Y') (d : Cg W W') : Cg (sZ u X Z Y W) (sZ u' X' Z' Y' W') :=
  have s := ((c.sub d).mul (a.add b)).sub ((c.add d).mul (a.sub b))
  h.mul (s.mul s)
def CgS (s t : St) : Prop := Cg s.a t.a ∧ Cg s.b t.b ∧ Cg s.c t.c ∧ Cg s.d t.d
theorem cg_stp {u u' : Int} (h : Cg u u') {s s' : St} (k : CgS s s') (t : Bool) : CgS (stp u s t) (stp u' s' t) := by
  obtain ⟨a, b, c, d⟩ := k
  cases t
  · exact ⟨cg_dX a b, cg_dZ a b, cg_sX a b c d, cg_sZ h a b c d⟩
  · exact ⟨cg_sX a b c d, cg_sZ h a b c d, cg_dX c d, cg_dZ c d⟩
theorem cg_run {u u' : Int} (h : Cg u u') : ∀ (bs : List Bool) (s s' : St), CgS s s' → CgS (bs.foldl (stp u) s) (bs.foldl (stp u') s')
  | [], _, _, k => k
  | t :: bs, _, _, k => cg_run h bs _ _ (cg_stp h k t)
theorem cg_lad {u u' : Int} (h : Cg u u') (bs : List Bool) : CgS (lad u bs) (lad u' bs) := cg_run h bs _ _ ⟨Cg.refl _, Cg.refl _, h, Cg.refl _⟩
theorem cg_out {u u' : Int} (h : Cg u u') (M : Nat) : Cg (out u M) (out u' M) := by
  obtain ⟨a, b, _, _⟩ := cg_lad h (hi M 255)
  exact a.mul (pow_cong b _)

/-- the ladder with numbers below p -/
def stm (u : Int) (s : St) (t : Bool) : St := ⟨(stp u s t).a % p, (stp u s t).b % p, (stp u s t).c % p, (stp u s t).d % p⟩
theorem cg_stm {u : Int} {s s' : St} (k : CgS s s') (t : Bool) : CgS (stm u s t) (stp u s' t) := by
  obtain ⟨a, b, c, d⟩ := cg_stp (Cg.refl u) k t
  exact ⟨a.modL, b.modL, c.modL, d.modL⟩
theorem cg_mod (u : Int) : ∀ (bs : List Bool) (s s' : St), CgS s s' → CgS (bs.foldl (stm u) s) (bs.foldl (stp u) s')
  | [], _, _, k => k
  | t :: bs, _, _, k => cg_mod u bs _ _ (cg_stm k t)
def wA : Int := 53699084970092229620102095424564848774812783684786248634290088506478568078703
def wB : Nat := 20097946894889007705884408490665082385984383478950821997587487100163618290637
def wI : Nat := 4690349756041861591026396950088132225180594110443955054213429870794107548986
def wW : Int := 52573937849532372069814888178136277301931757964231753054399601207743438775599
theorem w_lad : ((hi (2 ^ 254) 255).foldl (stm 9) ⟨1, 0, 9, 1⟩).a = wA ∧ ((hi (2 ^ 254) 255).foldl (stm 9) ⟨1, 0, 9, 1⟩).b = (wB : Int) := by decide +kernel
theorem w_inv : mp PP 256 wB (PP - 2) = wI := by decide +kernel
theorem w_all : wA * (wI : Int) % p = wW := by decide +kernel
/-- the public key of the secret 0 -/
theorem wake : out 9 (2 ^ 254) % p = wW := by
  obtain ⟨a, b, _, _⟩ := cg_mod 9 (hi (2 ^ 254) 255) ⟨1, 0, 9, 1⟩ ⟨1, 0, 9, 1⟩ ⟨Cg.refl _, Cg.refl _, Cg.refl _, Cg.refl _⟩
  rw [w_lad.1] at a
  rw [w_lad.2] at b
  have h1 : Cg ((wB : Int) ^ (PP - 2)) (wI : Int) := by
    have e := w_inv
    rw [mp_eq PP 256 wB (PP - 2) (by decide +kernel)] at e
    have h2 := Int.mul_ediv_add_emod ((wB ^ (PP - 2) : Nat) : Int) (PP : Int)
    rw [← Int.natCast_emod, e, ← p_PP, Int.natCast_pow] at h2
    unfold Cg
    generalize (wB : Int) ^ (PP - 2) = x at *
    exact ⟨x / p, by omega⟩
  rw [← w_all]
  refine Cg.eq ?_
  unfold out
  exact a.symm.mul (Cg.trans (pow_cong b.symm _) h1)

end Go.Proofs.YtpmgmpihmpifgaaDoor.Ed
