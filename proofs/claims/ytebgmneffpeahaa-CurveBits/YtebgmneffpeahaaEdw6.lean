/-
  Plain facts, of no program: the ladder's two rows are the places of k P and (k + 1) P, and what it answers is the place of the multiple.
-/
import Derived.Test.YtebgmneffpeahaaEdw5
namespace Go.Proofs.Ytebgmneffpeahaa.Ed
open Go.Proofs.Ytebgmneffpeahaa.Pr
set_option maxRecDepth 100000

theorem rp_congr {X Z X' Z' y : Int} (hx : p ∣ X' - X) (hz : p ∣ Z' - Z) (h : Rp X Z y) : Rp X' Z' y := by
  obtain ⟨h1, h2⟩ := h
  refine ⟨?_, fun h3 => h2 ?_⟩
  · rw [show X' - Z' - y * (X' + Z') = (X - Z - y * (X + Z)) + (X' - X) * (1 - y) - (Z' - Z) * (1 + y) from by grind]
    exact Int.dvd_sub (Int.dvd_add h1 (Int.dvd_mul_of_dvd_left hx)) (Int.dvd_mul_of_dvd_left hz)
  · rw [show X + Z = (X' + Z') - (X' - X) - (Z' - Z) from by grind]
    exact Int.dvd_sub (Int.dvd_sub h3 hx) hz

theorem mul_one {d : Int} {P : Pt} (hd : NS d) (hP : On d P) (hr : Rd P) : mul d 1 P = P := by
  show add d (mul d 0 P) P = P
  exact zero_add hd hP hr
theorem mul_succ {d : Int} {P : Pt} (hd : NS d) (hP : On d P) (hr : Rd P) (k : Nat) : mul d (k + 1) P = add d (mul d k P) P := by
  rw [mul_add hd hP, mul_one hd hP hr]

/-- both rows of the ladder -/
def Rows (d : Int) (P : Pt) (k : Nat) (X2 Z2 X3 Z3 : Int) : Prop := Rp X2 Z2 (mul d k P).y ∧ Rp X3 Z3 (mul d (k + 1) P).y

theorem rows_start {d : Int} {P : Pt} (hd : NS d) (hP : On d P) (hr : Rd P) (u : Int) (hu : Rp u 1 P.y) : Rows d P 0 1 0 u 1 := by
  refine ⟨?_, ?_⟩
  · show Rp 1 0 1
    exact ⟨⟨0, by decide⟩, not_one⟩
  · rw [Nat.zero_add, mul_one hd hP hr]
    exact hu

theorem rows_sum {d : Int} {P : Pt} (hd : NS d) (hP : On d P) (hr : Rd P) (u : Int) (hu : Rp u 1 P.y) (hu0 : ¬ p ∣ u) {k : Nat} {X2 Z2 X3 Z3 : Int} (h : Rows d P k X2 Z2 X3 Z3) :
    Rp (((X3 - Z3) * (X2 + Z2) + (X3 + Z3) * (X2 - Z2)) * ((X3 - Z3) * (X2 + Z2) + (X3 + Z3) * (X2 - Z2))) (u * (((X3 - Z3) * (X2 + Z2) - (X3 + Z3) * (X2 - Z2)) * ((X3 - Z3) * (X2 + Z2) - (X3 + Z3) * (X2 - Z2)))) (mul d (2 * k + 1) P).y := by
  obtain ⟨h2, h3⟩ := h
  rw [mul_succ hd hP hr] at h3
  have := diff hd hP hr (mul_on hd hP k) u X2 Z2 X3 Z3 hu hu0 h2 h3
  rw [show 2 * k + 1 = k + (k + 1) from by omega, mul_add hd hP, mul_succ hd hP hr]
  exact this
theorem rows_low {c d : Int} {P : Pt} (hd : NS d) (hK : p ∣ d * (c + 1) - c) (hP : On d P) {k : Nat} {X Z : Int} (h : Rp X Z (mul d k P).y) :
    Rp (((X + Z) * (X + Z)) * ((X - Z) * (X - Z))) (((X + Z) * (X + Z) - (X - Z) * (X - Z)) * ((X + Z) * (X + Z) + c * ((X + Z) * (X + Z) - (X - Z) * (X - Z)))) (mul d (2 * k) P).y := by
  have := double hd hK (mul_on hd hP k) X Z h
  rw [show 2 * k = k + k from by omega, mul_add hd hP]
  exact this

/-- what is answered of a pair: X times the inverse of Z (none: 0) -/
theorem inv_zero {z : Int} (h : p ∣ z) : inv z = 0 := by
  unfold inv
  rw [Int.emod_eq_zero_of_dvd h]
  exact Int.zero_pow (by decide +kernel)
theorem place {X Z y : Int} (h : Rp X Z y) : p ∣ X * inv Z - (1 + y) * inv (1 - y) := by
  obtain ⟨h1, h2⟩ := h
  have h3 : p ∣ X * (1 - y) - Z * (1 + y) := by
    rw [show X * (1 - y) - Z * (1 + y) = X - Z - y * (X + Z) from by grind]
    exact h1
  by_cases hz : p ∣ Z
  · have hX : ¬ p ∣ X := fun hx => h2 (Int.dvd_add hx hz)
    have h4 : p ∣ X * (1 - y) := by
      rw [show X * (1 - y) = (X * (1 - y) - Z * (1 + y)) + Z * (1 + y) from by grind]
      exact Int.dvd_add h3 (Int.dvd_mul_of_dvd_left hz)
    rw [inv_zero hz, inv_zero (cancel hX h4)]
    simp
  · have ny : ¬ p ∣ 1 - y := by
      intro hy
      have h4 : p ∣ Z * (1 + y) := by
        rw [show Z * (1 + y) = (1 - y) * X - (X * (1 - y) - Z * (1 + y)) from by grind]
        exact Int.dvd_sub (Int.dvd_mul_of_dvd_left hy) h3
      have h5 := cancel hz h4
      apply not_two
      have := Int.dvd_add h5 hy
      rwa [show 1 + y + (1 - y) = 2 from by grind] at this
    have i1 := inv_ok Z hz
    have i2 := inv_ok (1 - y) ny
    refine cancel (not_mul hz ny) ?_
    generalize inv Z = a at *
    generalize inv (1 - y) = b at *
    rw [show Z * (1 - y) * (X * a - (1 + y) * b) = (Z * a - 1) * (X * (1 - y)) - ((1 - y) * b - 1) * (Z * (1 + y)) + (X * (1 - y) - Z * (1 + y)) from by grind]
    exact Int.dvd_add (Int.dvd_sub (Int.dvd_mul_of_dvd_left i1) (Int.dvd_mul_of_dvd_left i2)) h3
end Go.Proofs.Ytebgmneffpeahaa.Ed
