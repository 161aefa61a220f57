/-
  Plain facts, of no program: points of x x + y y = 1 + d x x y y, d no square, are a group but for the names.
-/
import Derived.Test.YtebgmneffpeahaaEdw2
namespace Go.Proofs.Ytebgmneffpeahaa.Ed
open Go.Proofs.Ytebgmneffpeahaa.Pr
set_option maxRecDepth 100000

set_option maxHeartbeats 4000000 in
theorem close_id (d x1 y1 x2 y2 : Int) : (x1*y2+x2*y1)^2*(1-d*x1*x2*y1*y2)^2 + (y1*y2-x1*x2)^2*(1+d*x1*x2*y1*y2)^2 - ((1+d*x1*x2*y1*y2)*(1-d*x1*x2*y1*y2))^2 - d*(x1*y2+x2*y1)^2*(y1*y2-x1*x2)^2 =
    (0 + x1^2*y1^2*x2^4*y2^4*d^3 + x1^2*x2^4*y2^4*d^2 - x1^2*x2^4*y2^2*d - x1^2*x2^2*y2^4*d + y1^2*x2^4*y2^4*d^2 - y1^2*x2^4*y2^2*d - y1^2*x2^2*y2^4*d - x2^4*y2^4*d^2 + 2*x2^4*y2^4*d - 2*x2^4*y2^2 + x2^4 - 2*x2^2*y2^4 - 2*x2^2*y2^2*d + 4*x2^2*y2^2 + y2^4) * C d x1 y1 + (0 + x1^4*x2^2*y2^2*d - 2*x1^2*x2^2*y2^2*d + 2*x1^2*x2^2*y2^2 - x1^2*x2^2 - x1^2*y2^2 + y1^4*x2^2*y2^2*d - 2*y1^2*x2^2*y2^2*d + 2*y1^2*x2^2*y2^2 - y1^2*x2^2 - y1^2*y2^2 + x2^2*y2^2*d - 2*x2^2*y2^2 + x2^2 + y2^2 + 1) * C d x2 y2 := by
  unfold C
  grind

/-- the sum -/
def add (d : Int) (P Q : Pt) : Pt := ⟨(P.x * Q.y + Q.x * P.y) * inv (1 + tt d P Q) % p, (P.y * Q.y - P.x * Q.x) * inv (1 - tt d P Q) % p⟩
/-- told by numbers below the prime -/
def Rd (P : Pt) : Prop := (0 ≤ P.x ∧ P.x < p) ∧ (0 ≤ P.y ∧ P.y < p)
theorem add_rd (d : Int) (P Q : Pt) : Rd (add d P Q) := ⟨⟨Int.emod_nonneg _ (by decide), Int.emod_lt_of_pos _ (by decide)⟩, ⟨Int.emod_nonneg _ (by decide), Int.emod_lt_of_pos _ (by decide)⟩⟩

theorem dens {d : Int} {P Q : Pt} (hd : NS d) (hP : On d P) (hQ : On d Q) : ¬ p ∣ 1 + tt d P Q ∧ ¬ p ∣ 1 - tt d P Q := by
  constructor
  · intro h
    exact complete d (-1) P.x P.y Q.x Q.y hd hP hQ (by omega) (by rw [show d * P.x * Q.x * P.y * Q.y - -1 = 1 + tt d P Q from by unfold tt; omega]; exact h)
  · intro h
    refine complete d 1 P.x P.y Q.x Q.y hd hP hQ (by omega) ?_
    rw [show d * P.x * Q.x * P.y * Q.y - 1 = -(1 - tt d P Q) from by unfold tt; omega]
    exact Int.dvd_neg.2 h
theorem div_spec (n z : Int) (hz : ¬ p ∣ z) : p ∣ (n * inv z % p) * z - n := by
  obtain ⟨k, hk⟩ := inv_ok z hz
  have h1 := Int.mul_ediv_add_emod (n * inv z) p
  refine ⟨n * k - (n * inv z / p) * z, ?_⟩
  have e : z * inv z = p * k + 1 := by omega
  generalize inv z = i at *
  generalize n * i / p = m at *
  generalize n * i % p = r at *
  grind
theorem add_x {d : Int} {P Q : Pt} (hd : NS d) (hP : On d P) (hQ : On d Q) : p ∣ (add d P Q).x * (1 + tt d P Q) - (P.x * Q.y + Q.x * P.y) := div_spec _ _ (dens hd hP hQ).1
theorem add_y {d : Int} {P Q : Pt} (hd : NS d) (hP : On d P) (hQ : On d Q) : p ∣ (add d P Q).y * (1 - tt d P Q) - (P.y * Q.y - P.x * Q.x) := div_spec _ _ (dens hd hP hQ).2

theorem sq_not {a : Int} (h : ¬ p ∣ a) : ¬ p ∣ a ^ 2 := by rw [Int.pow_succ, Int.pow_succ, Int.pow_zero, Int.one_mul]; exact not_mul h h

set_option maxHeartbeats 4000000 in
theorem add_on {d : Int} {P Q : Pt} (hd : NS d) (hP : On d P) (hQ : On d Q) : On d (add d P Q) := by
  obtain ⟨n1, n2⟩ := dens hd hP hQ
  have hx := add_x hd hP hQ
  have hy := add_y hd hP hQ
  unfold On at *
  generalize (add d P Q).x = X at *
  generalize (add d P Q).y = Y at *
  have hc := close_id d P.x P.y Q.x Q.y
  have hG : p ∣ (P.x*Q.y+Q.x*P.y)^2*(1-d*P.x*Q.x*P.y*Q.y)^2 + (P.y*Q.y-P.x*Q.x)^2*(1+d*P.x*Q.x*P.y*Q.y)^2 - ((1+d*P.x*Q.x*P.y*Q.y)*(1-d*P.x*Q.x*P.y*Q.y))^2 - d*(P.x*Q.y+Q.x*P.y)^2*(P.y*Q.y-P.x*Q.x)^2 := by
    rw [hc]
    exact Int.dvd_add (Int.dvd_mul_of_dvd_right hP) (Int.dvd_mul_of_dvd_right hQ)
  clear hc
  have et : d * P.x * Q.x * P.y * Q.y = tt d P Q := rfl
  rw [et] at hG
  generalize tt d P Q = t at *
  generalize P.x * Q.y + Q.x * P.y = N at *
  generalize P.y * Q.y - P.x * Q.x = M at *
  have e : ((1 + t) ^ 2 * (1 - t) ^ 2) * C d X Y = (N^2*(1-t)^2 + M^2*(1+t)^2 - ((1+t)*(1-t))^2 - d*N^2*M^2) + (X * (1 + t) - N) * ((X * (1 + t) + N) * ((1 - t)^2 - d * (Y * (1 - t))^2)) + (Y * (1 - t) - M) * ((Y * (1 - t) + M) * ((1 + t)^2 - d * N^2)) := by
    unfold C
    grind
  have h : p ∣ ((1 + t) ^ 2 * (1 - t) ^ 2) * C d X Y := by
    rw [e]
    exact Int.dvd_add (Int.dvd_add hG (Int.dvd_mul_of_dvd_left hx)) (Int.dvd_mul_of_dvd_left hy)
  exact cancel (not_mul (sq_not n1) (sq_not n2)) h

theorem eq_of {a b : Int} (ha : 0 ≤ a ∧ a < p) (hb : 0 ≤ b ∧ b < p) (h : p ∣ a - b) : a = b := by
  obtain ⟨k, hk⟩ := h
  have h1 : k = 0 := by
    rcases Int.lt_trichotomy k 0 with h | h | h
    · have := Int.mul_le_mul_of_nonneg_left (show k ≤ -1 by omega) (show 0 ≤ p by decide)
      omega
    · exact h
    · have := Int.mul_le_mul_of_nonneg_left (show 1 ≤ k by omega) (show 0 ≤ p by decide)
      omega
  rw [h1] at hk
  omega

theorem add_comm (d : Int) (P Q : Pt) : add d P Q = add d Q P := by
  unfold add
  have e : tt d P Q = tt d Q P := by unfold tt; grind
  rw [e, show P.x * Q.y + Q.x * P.y = Q.x * P.y + P.x * Q.y from by omega, show P.y * Q.y - P.x * Q.x = Q.y * P.y - Q.x * P.x from by grind]

/-- (P + Q) + R, cleared of what stands below -/
theorem left_x {d : Int} {P Q R : Pt} (hd : NS d) (hP : On d P) (hQ : On d Q) (hR : On d R) :
    p ∣ (add d (add d P Q) R).x * ((1 + tt d P Q) * (1 - tt d P Q) + d * (P.x*Q.y+Q.x*P.y) * (P.y*Q.y-P.x*Q.x) * R.x * R.y) - ((P.x*Q.y+Q.x*P.y) * (1 - tt d P Q) * R.y + R.x * (P.y*Q.y-P.x*Q.x) * (1 + tt d P Q)) ∧
    ¬ p ∣ (1 + tt d P Q) * (1 - tt d P Q) + d * (P.x*Q.y+Q.x*P.y) * (P.y*Q.y-P.x*Q.x) * R.x * R.y := by
  obtain ⟨n1, n2⟩ := dens hd hP hQ
  have hx := add_x hd hP hQ
  have hy := add_y hd hP hQ
  have hS := add_on hd hP hQ
  have h3 := add_x hd hS hR
  have m1 := (dens hd hS hR).1
  generalize (add d (add d P Q) R).x = X at *
  generalize add d P Q = S at *
  have et : tt d S R = d * S.x * R.x * S.y * R.y := rfl
  rw [et] at h3 m1
  generalize tt d P Q = t at *
  generalize P.x * Q.y + Q.x * P.y = N at *
  generalize P.y * Q.y - P.x * Q.x = M at *
  constructor
  · have e : X * ((1 + t) * (1 - t) + d * N * M * R.x * R.y) - (N * (1 - t) * R.y + R.x * M * (1 + t)) = (X * (1 + d * S.x * R.x * S.y * R.y) - (S.x * R.y + R.x * S.y)) * ((1 + t) * (1 - t)) + (S.x * (1 + t) - N) * ((1 - t) * R.y - X * d * R.x * R.y * (S.y * (1 - t))) + (S.y * (1 - t) - M) * (R.x * (1 + t) - X * d * R.x * R.y * N) := by grind
    rw [e]
    exact Int.dvd_add (Int.dvd_add (Int.dvd_mul_of_dvd_left h3) (Int.dvd_mul_of_dvd_left hx)) (Int.dvd_mul_of_dvd_left hy)
  · intro h
    have e : ((1 + t) * (1 - t)) * (1 + d * S.x * R.x * S.y * R.y) = ((1 + t) * (1 - t) + d * N * M * R.x * R.y) + (S.x * (1 + t) - N) * (d * R.x * R.y * (S.y * (1 - t))) + (S.y * (1 - t) - M) * (d * R.x * R.y * N) := by grind
    have h5 : p ∣ ((1 + t) * (1 - t)) * (1 + d * S.x * R.x * S.y * R.y) := by
      rw [e]
      exact Int.dvd_add (Int.dvd_add h (Int.dvd_mul_of_dvd_left hx)) (Int.dvd_mul_of_dvd_left hy)
    exact m1 (cancel (not_mul n1 n2) h5)
theorem left_y {d : Int} {P Q R : Pt} (hd : NS d) (hP : On d P) (hQ : On d Q) (hR : On d R) :
    p ∣ (add d (add d P Q) R).y * ((1 + tt d P Q) * (1 - tt d P Q) - d * (P.x*Q.y+Q.x*P.y) * (P.y*Q.y-P.x*Q.x) * R.x * R.y) - ((P.y*Q.y-P.x*Q.x) * (1 + tt d P Q) * R.y - (P.x*Q.y+Q.x*P.y) * (1 - tt d P Q) * R.x) ∧
    ¬ p ∣ (1 + tt d P Q) * (1 - tt d P Q) - d * (P.x*Q.y+Q.x*P.y) * (P.y*Q.y-P.x*Q.x) * R.x * R.y := by
  obtain ⟨n1, n2⟩ := dens hd hP hQ
  have hx := add_x hd hP hQ
  have hy := add_y hd hP hQ
  have hS := add_on hd hP hQ
  have h3 := add_y hd hS hR
  have m1 := (dens hd hS hR).2
  generalize (add d (add d P Q) R).y = X at *
  generalize add d P Q = S at *
  have et : tt d S R = d * S.x * R.x * S.y * R.y := rfl
  rw [et] at h3 m1
  generalize tt d P Q = t at *
  generalize P.x * Q.y + Q.x * P.y = N at *
  generalize P.y * Q.y - P.x * Q.x = M at *
  constructor
  · have e : X * ((1 + t) * (1 - t) - d * N * M * R.x * R.y) - (M * (1 + t) * R.y - N * (1 - t) * R.x) = (X * (1 - d * S.x * R.x * S.y * R.y) - (S.y * R.y - S.x * R.x)) * ((1 + t) * (1 - t)) + (S.x * (1 + t) - N) * (X * d * R.x * R.y * (S.y * (1 - t)) - (1 - t) * R.x) + (S.y * (1 - t) - M) * ((1 + t) * R.y + X * d * R.x * R.y * N) := by grind
    rw [e]
    exact Int.dvd_add (Int.dvd_add (Int.dvd_mul_of_dvd_left h3) (Int.dvd_mul_of_dvd_left hx)) (Int.dvd_mul_of_dvd_left hy)
  · intro h
    have e : ((1 + t) * (1 - t)) * (1 - d * S.x * R.x * S.y * R.y) = ((1 + t) * (1 - t) - d * N * M * R.x * R.y) - (S.x * (1 + t) - N) * (d * R.x * R.y * (S.y * (1 - t))) - (S.y * (1 - t) - M) * (d * R.x * R.y * N) := by grind
    have h5 : p ∣ ((1 + t) * (1 - t)) * (1 - d * S.x * R.x * S.y * R.y) := by
      rw [e]
      exact Int.dvd_sub (Int.dvd_sub h (Int.dvd_mul_of_dvd_left hx)) (Int.dvd_mul_of_dvd_left hy)
    exact m1 (cancel (not_mul n1 n2) h5)

theorem join (X Y A Ad B Bd : Int) (h1 : p ∣ X * Ad - A) (h2 : p ∣ Y * Bd - B) (n1 : ¬ p ∣ Ad) (n2 : ¬ p ∣ Bd) (h : p ∣ A * Bd - B * Ad) : p ∣ X - Y := by
  have e : (Ad * Bd) * (X - Y) = (X * Ad - A) * Bd - (Y * Bd - B) * Ad + (A * Bd - B * Ad) := by grind
  have h5 : p ∣ (Ad * Bd) * (X - Y) := by
    rw [e]
    exact Int.dvd_add (Int.dvd_sub (Int.dvd_mul_of_dvd_left h1) (Int.dvd_mul_of_dvd_left h2)) h
  exact cancel (not_mul n1 n2) h5

/-- sums can be grouped -/
theorem add_assoc {d : Int} {P Q R : Pt} (hd : NS d) (hP : On d P) (hQ : On d Q) (hR : On d R) : add d (add d P Q) R = add d P (add d Q R) := by
  have l1 := left_x hd hP hQ hR
  have l2 := left_y hd hP hQ hR
  have r1 := left_x hd hQ hR hP
  have r2 := left_y hd hQ hR hP
  rw [add_comm d (add d Q R) P] at r1 r2
  have ax := assoc_x d P.x P.y Q.x Q.y R.x R.y
  have ay := assoc_y d P.x P.y Q.x Q.y R.x R.y
  have bx : p ∣ ((P.x*Q.y+Q.x*P.y)*(1-d*P.x*Q.x*P.y*Q.y)*R.y + R.x*(P.y*Q.y-P.x*Q.x)*(1+d*P.x*Q.x*P.y*Q.y)) * ((1+d*Q.x*R.x*Q.y*R.y)*(1-d*Q.x*R.x*Q.y*R.y) + d*P.x*P.y*(Q.x*R.y+R.x*Q.y)*(Q.y*R.y-Q.x*R.x)) - (P.x*(Q.y*R.y-Q.x*R.x)*(1+d*Q.x*R.x*Q.y*R.y) + (Q.x*R.y+R.x*Q.y)*(1-d*Q.x*R.x*Q.y*R.y)*P.y) * ((1+d*P.x*Q.x*P.y*Q.y)*(1-d*P.x*Q.x*P.y*Q.y) + d*(P.x*Q.y+Q.x*P.y)*(P.y*Q.y-P.x*Q.x)*R.x*R.y) := by
    rw [ax]
    exact Int.dvd_add (Int.dvd_add (Int.dvd_mul_of_dvd_right hP) (Int.dvd_mul_of_dvd_right hQ)) (Int.dvd_mul_of_dvd_right hR)
  have byy : p ∣ ((P.y*Q.y-P.x*Q.x)*(1+d*P.x*Q.x*P.y*Q.y)*R.y - (P.x*Q.y+Q.x*P.y)*(1-d*P.x*Q.x*P.y*Q.y)*R.x) * ((1+d*Q.x*R.x*Q.y*R.y)*(1-d*Q.x*R.x*Q.y*R.y) - d*P.x*P.y*(Q.x*R.y+R.x*Q.y)*(Q.y*R.y-Q.x*R.x)) - (P.y*(Q.y*R.y-Q.x*R.x)*(1+d*Q.x*R.x*Q.y*R.y) - P.x*(Q.x*R.y+R.x*Q.y)*(1-d*Q.x*R.x*Q.y*R.y)) * ((1+d*P.x*Q.x*P.y*Q.y)*(1-d*P.x*Q.x*P.y*Q.y) - d*(P.x*Q.y+Q.x*P.y)*(P.y*Q.y-P.x*Q.x)*R.x*R.y) := by
    rw [ay]
    exact Int.dvd_add (Int.dvd_add (Int.dvd_mul_of_dvd_right hP) (Int.dvd_mul_of_dvd_right hQ)) (Int.dvd_mul_of_dvd_right hR)
  clear ax ay
  have eX : (add d (add d P Q) R).x = (add d P (add d Q R)).x := by
    refine eq_of (add_rd _ _ _).1 (add_rd _ _ _).1 (join _ _ _ _ _ _ l1.1 r1.1 l1.2 r1.2 ?_)
    unfold tt
    rw [show d * (Q.x * R.y + R.x * Q.y) * (Q.y * R.y - Q.x * R.x) * P.x * P.y = d*P.x*P.y*(Q.x*R.y+R.x*Q.y)*(Q.y*R.y-Q.x*R.x) from by grind, show (Q.x * R.y + R.x * Q.y) * (1 - d * Q.x * R.x * Q.y * R.y) * P.y + P.x * (Q.y * R.y - Q.x * R.x) * (1 + d * Q.x * R.x * Q.y * R.y) = P.x*(Q.y*R.y-Q.x*R.x)*(1+d*Q.x*R.x*Q.y*R.y) + (Q.x*R.y+R.x*Q.y)*(1-d*Q.x*R.x*Q.y*R.y)*P.y from by omega]
    exact bx
  have eY : (add d (add d P Q) R).y = (add d P (add d Q R)).y := by
    refine eq_of (add_rd _ _ _).2 (add_rd _ _ _).2 (join _ _ _ _ _ _ l2.1 r2.1 l2.2 r2.2 ?_)
    unfold tt
    rw [show d * (Q.x * R.y + R.x * Q.y) * (Q.y * R.y - Q.x * R.x) * P.x * P.y = d*P.x*P.y*(Q.x*R.y+R.x*Q.y)*(Q.y*R.y-Q.x*R.x) from by grind, show (Q.y * R.y - Q.x * R.x) * (1 + d * Q.x * R.x * Q.y * R.y) * P.y - (Q.x * R.y + R.x * Q.y) * (1 - d * Q.x * R.x * Q.y * R.y) * P.x = P.y*(Q.y*R.y-Q.x*R.x)*(1+d*Q.x*R.x*Q.y*R.y) - P.x*(Q.x*R.y+R.x*Q.y)*(1-d*Q.x*R.x*Q.y*R.y) from by grind]
    exact byy
  revert eX eY
  generalize add d (add d P Q) R = S1
  generalize add d P (add d Q R) = S2
  cases S1
  cases S2
  intro e1 e2
  simp only [Pt.mk.injEq]
  exact ⟨e1, e2⟩
end Go.Proofs.Ytebgmneffpeahaa.Ed
