/-
  Plain facts, of no program: the other half of the ladder's step: the sum of two points whose difference is known, told by y alone.
-/
import Derived.Test.YtebgmneffpeahaaEdw4
namespace Go.Proofs.Ytebgmneffpeahaa.Ed
open Go.Proofs.Ytebgmneffpeahaa.Pr
set_option maxRecDepth 100000

def neg (P : Pt) : Pt := ⟨-P.x, P.y⟩
theorem neg_on {d : Int} {P : Pt} (h : On d P) : On d (neg P) := by
  unfold On neg at *
  have : C d (-P.x) P.y = C d P.x P.y := by unfold C; grind
  simp only
  rw [this]
  exact h
theorem add_neg {d : Int} {P : Pt} (hd : NS d) (hP : On d P) : add d P (neg P) = zero := by
  have hn := neg_on hP
  have hx := add_x hd hP hn
  have hy := add_y hd hP hn
  obtain ⟨n1, n2⟩ := dens hd hP hn
  have r := add_rd d P (neg P)
  have e1 : (add d P (neg P)).x = zero.x := by
    refine eq_of r.1 zero_rd.1 ?_
    refine cancel n1 ?_
    have : (1 + tt d P (neg P)) * ((add d P (neg P)).x - zero.x) = (add d P (neg P)).x * (1 + tt d P (neg P)) - (P.x * (neg P).y + (neg P).x * P.y) := by unfold neg zero; simp only; grind
    rw [this]
    exact hx
  have e2 : (add d P (neg P)).y = zero.y := by
    refine eq_of r.2 zero_rd.2 ?_
    refine cancel n2 ?_
    have : (1 - tt d P (neg P)) * ((add d P (neg P)).y - zero.y) = ((add d P (neg P)).y * (1 - tt d P (neg P)) - (P.y * (neg P).y - P.x * (neg P).x)) + C d P.x P.y := by
      unfold neg zero tt C
      simp only
      grind
    rw [this]
    exact Int.dvd_add hy hP
  revert e1 e2
  generalize add d P (neg P) = S
  cases S
  intro e1 e2
  unfold zero at *
  simp only at e1 e2
  rw [e1, e2]
/-- the difference is what was added -/
theorem back {d : Int} {P Q : Pt} (hd : NS d) (hP : On d P) (hr : Rd P) (hQ : On d Q) : add d (add d Q P) (neg Q) = P := by
  rw [add_comm d Q P, add_assoc hd hP hQ (neg_on hQ), add_neg hd hQ, add_comm d P zero]
  exact zero_add hd hP hr

set_option maxHeartbeats 2000000 in
theorem diff_id (d x y x' y' : Int) : ((1 - d*x*x'*y*y') + (y*y' - x*x')) * ((1 + d*x*x'*y*y') + (y*y' + x*x')) * ((y' - y)*(y' - y)) - ((1 - d*x*x'*y*y') - (y*y' - x*x')) * ((1 + d*x*x'*y*y') - (y*y' + x*x')) * ((y' + y)*(y' + y)) =
    (4*x'*x'*y*y' - 4*d*x'*x'*y*y'*y'*y') * C d x y + (4*y*y' - 4*y*y*y*y') * C d x' y' := by
  unfold C
  grind

/-- the place u : 1 of a point -/
theorem place_ne {u y : Int} (h : Rp u 1 y) : ¬ p ∣ 1 - y := by
  intro h2
  obtain ⟨h1, _⟩ := h
  apply not_two
  have h3 : p ∣ (1 - y) * (u + 1) := Int.dvd_mul_of_dvd_left h2
  have := Int.dvd_sub h3 h1
  rwa [show (1 - y) * (u + 1) - (u - 1 - y * (u + 1)) = 2 from by grind] at this

set_option maxHeartbeats 4000000 in
/-- the sum of Q and Q + P, by the place of P -/
theorem diff {d : Int} {P Q : Pt} (hd : NS d) (hP : On d P) (hr : Rd P) (hQ : On d Q) (u X2 Z2 X3 Z3 : Int) (hu : Rp u 1 P.y) (hu0 : ¬ p ∣ u) (h2 : Rp X2 Z2 Q.y) (h3 : Rp X3 Z3 (add d Q P).y) :
    Rp (((X3 - Z3) * (X2 + Z2) + (X3 + Z3) * (X2 - Z2)) * ((X3 - Z3) * (X2 + Z2) + (X3 + Z3) * (X2 - Z2))) (u * (((X3 - Z3) * (X2 + Z2) - (X3 + Z3) * (X2 - Z2)) * ((X3 - Z3) * (X2 + Z2) - (X3 + Z3) * (X2 - Z2)))) (add d Q (add d Q P)).y := by
  have hR := add_on hd hQ hP
  have hS := add_y hd hQ hR
  have nS := (dens hd hQ hR).2
  have hB := back hd hP hr hQ
  have hD := add_y hd hR (neg_on hQ)
  have nD := (dens hd hR (neg_on hQ)).2
  rw [hB] at hD
  have hRP := add_y hd hQ hP
  have np := place_ne hu
  obtain ⟨hu1, _⟩ := hu
  generalize (add d Q (add d Q P)).y = Yp at *
  generalize add d Q P = R at *
  have et : tt d Q R = d * Q.x * R.x * Q.y * R.y := rfl
  have et2 : tt d R (neg Q) = -(d * Q.x * R.x * Q.y * R.y) := by unfold tt neg; simp only; grind
  have et3 : tt d Q P = d * Q.x * P.x * Q.y * P.y := rfl
  have en : R.y * (neg Q).y - R.x * (neg Q).x = Q.y * R.y + Q.x * R.x := by unfold neg; simp only; grind
  rw [et] at hS nS
  rw [et2, en] at hD
  rw [et2] at nD
  rw [et3] at hRP
  unfold On at hP hQ hR
  obtain ⟨b2, s2⟩ := h2
  obtain ⟨b3, s3⟩ := h3
  generalize X2 + Z2 = s at *
  generalize X2 - Z2 = b at *
  generalize X3 + Z3 = s' at *
  generalize X3 - Z3 = b' at *
  generalize Q.x = x at *
  generalize Q.y = y at *
  generalize R.x = x' at *
  generalize R.y = y' at *
  generalize hpx : P.x = px at *
  generalize hpy : P.y = ym at *
  clear hB hr hpx hpy
  have hid := diff_id d x y x' y'
  have hI : p ∣ ((1 - d*x*x'*y*y') + (y*y' - x*x')) * ((1 + d*x*x'*y*y') + (y*y' + x*x')) * ((y' - y)*(y' - y)) - ((1 - d*x*x'*y*y') - (y*y' - x*x')) * ((1 + d*x*x'*y*y') - (y*y' + x*x')) * ((y' + y)*(y' + y)) := by
    rw [hid]
    exact Int.dvd_add (Int.dvd_mul_of_dvd_right hQ) (Int.dvd_mul_of_dvd_right hR)
  clear hid
  -- in terms of Yp, ym
  have hJ : p ∣ (1 + Yp) * (1 + ym) * ((y' - y)*(y' - y)) - (1 - Yp) * (1 - ym) * ((y' + y)*(y' + y)) := by
    refine cancel (not_mul nS nD) ?_
    have e : ((1 - d*x*x'*y*y') * (1 - -(d*x*x'*y*y'))) * ((1 + Yp) * (1 + ym) * ((y' - y)*(y' - y)) - (1 - Yp) * (1 - ym) * ((y' + y)*(y' + y))) =
        (((1 - d*x*x'*y*y') + (y*y' - x*x')) * ((1 + d*x*x'*y*y') + (y*y' + x*x')) * ((y' - y)*(y' - y)) - ((1 - d*x*x'*y*y') - (y*y' - x*x')) * ((1 + d*x*x'*y*y') - (y*y' + x*x')) * ((y' + y)*(y' + y)))
        + (Yp * (1 - d*x*x'*y*y') - (y*y' - x*x')) * ((1 - -(d*x*x'*y*y')) * (1 + ym) * ((y' - y)*(y' - y)) + (1 - -(d*x*x'*y*y')) * (1 - ym) * ((y' + y)*(y' + y)))
        + (ym * (1 - -(d*x*x'*y*y')) - (y*y' + x*x')) * (((1 - d*x*x'*y*y') + (y*y' - x*x')) * ((y' - y)*(y' - y)) + ((1 - d*x*x'*y*y') - (y*y' - x*x')) * ((y' + y)*(y' + y))) := by grind
    rw [e]
    exact Int.dvd_add (Int.dvd_add hI (Int.dvd_mul_of_dvd_left hS)) (Int.dvd_mul_of_dvd_left hD)
  have hA : p ∣ (b' * s + s' * b) - s * s' * (y' + y) := by
    rw [show (b' * s + s' * b) - s * s' * (y' + y) = s * (b' - y' * s') + s' * (b - y * s) from by grind]
    exact Int.dvd_add (Int.dvd_mul_of_dvd_right b3) (Int.dvd_mul_of_dvd_right b2)
  have hB : p ∣ (b' * s - s' * b) - s * s' * (y' - y) := by
    rw [show (b' * s - s' * b) - s * s' * (y' - y) = s * (b' - y' * s') - s' * (b - y * s) from by grind]
    exact Int.dvd_sub (Int.dvd_mul_of_dvd_right b3) (Int.dvd_mul_of_dvd_right b2)
  have nσ := not_mul s2 s3
  generalize b' * s + s' * b = A at *
  generalize b' * s - s' * b = B at *
  generalize s * s' = σ at *
  have hG : p ∣ (A * A - u * (B * B)) - Yp * (A * A + u * (B * B)) := by
    refine cancel np ?_
    have e : (1 - ym) * ((A * A - u * (B * B)) - Yp * (A * A + u * (B * B))) =
        (((A - σ * (y' + y)) * ((1 - Yp) * (1 - ym) * (A + σ * (y' + y)))
        - (B - σ * (y' - y)) * ((1 + Yp) * (1 + ym) * (B + σ * (y' - y))))
        - (u - 1 - ym * (u + 1)) * ((1 + Yp) * (B * B)))
        - ((1 + Yp) * (1 + ym) * ((y' - y)*(y' - y)) - (1 - Yp) * (1 - ym) * ((y' + y)*(y' + y))) * (σ * σ) := by grind
    rw [e]
    exact Int.dvd_sub (Int.dvd_sub (Int.dvd_sub (Int.dvd_mul_of_dvd_left hA) (Int.dvd_mul_of_dvd_left hB)) (Int.dvd_mul_of_dvd_left hu1)) (Int.dvd_mul_of_dvd_left hJ)
  refine ⟨hG, fun hs => ?_⟩
  have hX : p ∣ A := by
    have h1 : p ∣ 2 * (A * A) := by
      rw [show 2 * (A * A) = ((A * A - u * (B * B)) - Yp * (A * A + u * (B * B))) + (A * A + u * (B * B)) * (1 + Yp) from by grind]
      exact Int.dvd_add hG (Int.dvd_mul_of_dvd_left hs)
    have h2 := cancel not_two h1
    exact Classical.byContradiction fun hn => hn (cancel hn h2)
  have hZ : p ∣ B := by
    have h1 : p ∣ u * (B * B) := by
      rw [show u * (B * B) = (A * A + u * (B * B)) - A * A from by grind]
      exact Int.dvd_sub hs (Int.dvd_mul_of_dvd_left hX)
    have h2 := cancel hu0 h1
    exact Classical.byContradiction fun hn => hn (cancel hn h2)
  have ha : p ∣ y' + y := by
    refine cancel nσ ?_
    rw [show σ * (y' + y) = A - (A - σ * (y' + y)) from by grind]
    exact Int.dvd_sub hX hA
  have hb : p ∣ y' - y := by
    refine cancel nσ ?_
    rw [show σ * (y' - y) = B - (B - σ * (y' - y)) from by grind]
    exact Int.dvd_sub hZ hB
  have hy : p ∣ y := by
    refine cancel not_two ?_
    rw [show 2 * y = (y' + y) - (y' - y) from by grind]
    exact Int.dvd_sub ha hb
  have hy' : p ∣ y' := by
    rw [show y' = (y' + y) - y from by grind]
    exact Int.dvd_sub ha hy
  have hx : ¬ p ∣ x := by
    intro hx
    apply not_one
    have : (1 : Int) = x * (x - d * x * y * y) + y * y - C d x y := by unfold C; grind
    rw [this]
    exact Int.dvd_sub (Int.dvd_add (Int.dvd_mul_of_dvd_left hx) (Int.dvd_mul_of_dvd_left hy)) hQ
  have hpx : p ∣ px := by
    refine cancel hx ?_
    rw [show x * px = (y' * (1 - d * x * px * y * ym) - (y * ym - x * px)) - y' * (1 - d * x * px * y * ym) + y * ym from by grind]
    exact Int.dvd_add (Int.dvd_sub hRP (Int.dvd_mul_of_dvd_left hy')) (Int.dvd_mul_of_dvd_left hy)
  have hm : p ∣ (1 - ym) * (1 + ym) := by
    rw [show (1 - ym) * (1 + ym) = px * (px - d * px * ym * ym) - C d px ym from by unfold C; grind]
    exact Int.dvd_sub (Int.dvd_mul_of_dvd_left hpx) hP
  have hm2 := cancel np hm
  apply hu0
  refine cancel np ?_
  rw [show (1 - ym) * u = (u - 1 - ym * (u + 1)) + (1 + ym) from by grind]
  exact Int.dvd_add hu1 hm2
end Go.Proofs.Ytebgmneffpeahaa.Ed
