/-
  Plain facts, of no program: the sum of two points of x x + y y = 1 + d x x y y, d no square, modulo 2^255 - 19: it is there for all points, and lies on the curve.
-/
import Derived.Test.YtebgmneffpeahaaPrime
import Derived.Test.YtebgmneffpeahaaEdw
namespace Go.Proofs.Ytebgmneffpeahaa.Ed
open Go.Proofs.Ytebgmneffpeahaa.Pr
set_option maxRecDepth 100000

/-- the prime -/
def p : Int := 57896044618658097711785492504343953926634992332820282019728792003956564819949
theorem p_PP : p = (PP : Int) := by decide +kernel
theorem dv_iff (a : Int) : p ∣ a ↔ a.natAbs % PP = 0 := by
  rw [p_PP, Int.ofNat_dvd_left, Nat.dvd_iff_mod_eq_zero]
theorem prime_int {a b : Int} (h : p ∣ a * b) : p ∣ a ∨ p ∣ b := by
  rw [dv_iff, Int.natAbs_mul] at h
  by_cases ha : a.natAbs % PP = 0
  · exact .inl ((dv_iff a).2 ha)
  · exact .inr ((dv_iff b).2 (no_zero h ha))
theorem not_mul {a b : Int} (ha : ¬ p ∣ a) (hb : ¬ p ∣ b) : ¬ p ∣ a * b := by
  intro h
  rcases prime_int h with h | h
  · exact ha h
  · exact hb h
theorem cancel {a b : Int} (ha : ¬ p ∣ a) (h : p ∣ a * b) : p ∣ b := by
  rcases prime_int h with h | h
  · exact absurd h ha
  · exact h

/-- the inverse -/
def inv (z : Int) : Int := (z % p) ^ (PP - 2)
theorem inv_ok (z : Int) (h : ¬ p ∣ z) : p ∣ z * inv z - 1 := by
  have h0 : 0 ≤ z % p := Int.emod_nonneg _ (by decide)
  obtain ⟨k, hk⟩ := Int.eq_ofNat_of_zero_le h0
  have hk2 : k % PP ≠ 0 := by
    intro e
    apply h
    have h1 : (z % p) % p = 0 := by
      rw [hk, p_PP, ← Int.natCast_emod, e]
      rfl
    rw [Int.emod_emod] at h1
    exact Int.dvd_of_emod_eq_zero h1
  have hf := fermat k hk2
  unfold inv
  rw [hk]
  have e1 : p ∣ (k : Int) * (k : Int) ^ (PP - 2) - 1 := by
    have e2 : (k : Int) * (k : Int) ^ (PP - 2) = ((k ^ (PP - 1) : Nat) : Int) := by
      rw [Int.natCast_pow, Int.mul_comm, ← Int.pow_succ]
      congr 1
    rw [e2, p_PP]
    have e3 : ((k ^ (PP - 1) : Nat) : Int) % (PP : Int) = 1 := by rw [← Int.natCast_emod, hf]; rfl
    have := Int.mul_ediv_add_emod ((k ^ (PP - 1) : Nat) : Int) (PP : Int)
    rw [e3] at this
    exact ⟨((k ^ (PP - 1) : Nat) : Int) / (PP : Int), by omega⟩
  have e4 : p ∣ z - (k : Int) := by
    rw [← hk]
    have := Int.mul_ediv_add_emod z p
    exact ⟨z / p, by omega⟩
  have e5 : z * (k : Int) ^ (PP - 2) - 1 = ((k : Int) * (k : Int) ^ (PP - 2) - 1) + (z - (k : Int)) * (k : Int) ^ (PP - 2) := by
    generalize (k : Int) ^ (PP - 2) = q
    grind
  rw [e5]
  exact Int.dvd_add e1 (Int.dvd_mul_of_dvd_left e4)

/-- no square -/
def NS (d : Int) : Prop := ∀ s : Int, ¬ p ∣ s * s - d

structure Pt where
  x : Int
  y : Int
def On (d : Int) (P : Pt) : Prop := p ∣ C d P.x P.y
def tt (d : Int) (P Q : Pt) : Int := d * P.x * Q.x * P.y * Q.y

theorem not_one : ¬ p ∣ (1 : Int) := by decide +kernel
theorem not_two : ¬ p ∣ (2 : Int) := by decide +kernel

theorem square_of {a b d : Int} (h : p ∣ a * a - d * (b * b)) (hb : ¬ p ∣ b) : ∃ s : Int, p ∣ s * s - d := by
  have hi := inv_ok b hb
  refine ⟨a * inv b, ?_⟩
  obtain ⟨k, hk⟩ := h
  obtain ⟨m, hm⟩ := hi
  refine ⟨k * (inv b * inv b) + d * (m * (b * inv b + 1)), ?_⟩
  have e : b * inv b = p * m + 1 := by omega
  generalize inv b = q at *
  grind

/-- what stands below is never 0 -/
theorem complete (d e x1 y1 x2 y2 : Int) (hd : NS d) (h1 : p ∣ C d x1 y1) (h2 : p ∣ C d x2 y2) (he : e * e = 1) (ht : p ∣ d * x1 * x2 * y1 * y2 - e) : False := by
  have hne : ¬ p ∣ e := by
    intro h
    apply not_one
    rw [← he]
    exact Int.dvd_mul_of_dvd_left h
  have hn : ¬ p ∣ d * x1 * x2 * y1 * y2 := by
    intro h
    apply hne
    have := Int.dvd_sub h ht
    rwa [show d * x1 * x2 * y1 * y2 - (d * x1 * x2 * y1 * y2 - e) = e from by omega] at this
  have hx1 : ¬ p ∣ x1 := fun h => hn (by rw [show d * x1 * x2 * y1 * y2 = x1 * (d * x2 * y1 * y2) from by grind]; exact Int.dvd_mul_of_dvd_left h)
  have hy1 : ¬ p ∣ y1 := fun h => hn (by rw [show d * x1 * x2 * y1 * y2 = y1 * (d * x1 * x2 * y2) from by grind]; exact Int.dvd_mul_of_dvd_left h)
  have hx2 : ¬ p ∣ x2 := fun h => hn (by rw [show d * x1 * x2 * y1 * y2 = x2 * (d * x1 * y1 * y2) from by grind]; exact Int.dvd_mul_of_dvd_left h)
  have key : ∀ f : Int, f * f = 1 → p ∣ (x1 + f * e * y1) * (x1 + f * e * y1) - d * ((x1 * y1 * (x2 + f * y2)) * (x1 * y1 * (x2 + f * y2))) := by
    intro f hf
    have e1 : (x1 + f * e * y1) * (x1 + f * e * y1) - d * ((x1 * y1 * (x2 + f * y2)) * (x1 * y1 * (x2 + f * y2))) = C d x1 y1 - d * x1 * x1 * y1 * y1 * C d x2 y2 + (d * x1 * x2 * y1 * y2 - e) * (- (e + d * x1 * x2 * y1 * y2) - 2 * f * x1 * y1) := by
      unfold C
      grind
    rw [e1]
    exact Int.dvd_add (Int.dvd_sub h1 (Int.dvd_mul_of_dvd_right h2)) (Int.dvd_mul_of_dvd_left ht)
  have hz : ∀ f : Int, f * f = 1 → p ∣ x2 + f * y2 := by
    intro f hf
    by_cases hq : p ∣ x1 * y1 * (x2 + f * y2)
    · exact cancel (not_mul hx1 hy1) hq
    · obtain ⟨s, hs⟩ := square_of (key f hf) hq
      exact absurd hs (hd s)
  have a1 := hz 1 (by omega)
  have a2 := hz (-1) (by omega)
  have := Int.dvd_add a1 a2
  rw [show x2 + 1 * y2 + (x2 + -1 * y2) = 2 * x2 from by omega] at this
  exact hx2 (cancel not_two this)
end Go.Proofs.Ytebgmneffpeahaa.Ed
