/-
  Plain facts, of no program: every place u lies on one of the two curves (on the second with its sign turned), and the ladder's step is one for both.
-/
import Derived.Test.YtebgmneffpeahaaEdw7
namespace Go.Proofs.Ytebgmneffpeahaa.Ed
open Go.Proofs.Ytebgmneffpeahaa.Pr
set_option maxRecDepth 100000

/-- which curve -/
def Cv (e d : Int) : Prop := (e = 1 ∧ d = D1) ∨ (e = -1 ∧ d = D2)
theorem Cv.ns {e d : Int} (h : Cv e d) : NS d := by
  rcases h with ⟨_, h⟩ | ⟨_, h⟩
  · rw [h]; exact ns1
  · rw [h]; exact ns2
/-- u is the place of P on it -/
def At (e d u : Int) (P : Pt) : Prop := Cv e d ∧ On d P ∧ Rd P ∧ Rp (e * u) 1 P.y

theorem rp_y {X Z y y' : Int} (hy : p ∣ y' - y) (h : Rp X Z y) : Rp X Z y' := by
  obtain ⟨h1, h2⟩ := h
  refine ⟨?_, h2⟩
  rw [show X - Z - y' * (X + Z) = (X - Z - y * (X + Z)) - (y' - y) * (X + Z) from by grind]
  exact Int.dvd_sub h1 (Int.dvd_mul_of_dvd_left hy)
theorem rp_neg {X Z y : Int} (h : Rp X Z y) : Rp (-X) (-Z) y := by
  obtain ⟨h1, h2⟩ := h
  refine ⟨?_, fun h3 => h2 ?_⟩
  · rw [show -X - -Z - y * (-X + -Z) = -(X - Z - y * (X + Z)) from by grind]
    exact Int.dvd_neg.2 h1
  · have := Int.dvd_neg.2 h3
    rwa [show -(-X + -Z) = X + Z from by omega] at this
theorem mod_sub (z : Int) : p ∣ z % p - z := by
  have := Int.mul_ediv_add_emod z p
  exact ⟨-(z / p), by rw [Int.mul_neg]; omega⟩
theorem mk {e d u x y : Int} (h : Cv e d) (hC : p ∣ C d x y) (hR : Rp (e * u) 1 y) : At e d u ⟨x % p, y % p⟩ := by
  have hx := mod_sub x
  have hy := mod_sub y
  refine ⟨h, ?_, ?_, rp_y hy hR⟩
  · unfold On
    simp only
    generalize x % p = x' at *
    generalize y % p = y' at *
    rw [show C d x' y' = C d x y + (x' - x) * ((x' + x) * (1 - d * (y' * y'))) + (y' - y) * ((y' + y) * (1 - d * (x * x))) from by unfold C; grind]
    exact Int.dvd_add (Int.dvd_add hC (Int.dvd_mul_of_dvd_left hx)) (Int.dvd_mul_of_dvd_left hy)
  · exact ⟨⟨Int.emod_nonneg _ (by decide), Int.emod_lt_of_pos _ (by decide)⟩, ⟨Int.emod_nonneg _ (by decide), Int.emod_lt_of_pos _ (by decide)⟩⟩

set_option maxHeartbeats 2000000 in
/-- every place is some point's -/
theorem choice (u : Int) : ∃ e d P, At e d u P := by
  by_cases h1 : p ∣ u + 1
  · refine ⟨-1, D2, _, mk (x := 1) (y := 0) (.inr ⟨rfl, rfl⟩) ⟨0, by unfold C; generalize D2 = d; grind⟩ ⟨?_, fun h => not_two ?_⟩⟩
    · rw [show -1 * u - 1 - 0 * (-1 * u + 1) = -(u + 1) from by grind]
      exact Int.dvd_neg.2 h1
    · have := Int.dvd_add h h1
      rwa [show -1 * u + 1 + (u + 1) = 2 from by omega] at this
  by_cases h2 : p ∣ u - 1
  · refine ⟨1, D1, _, mk (x := 1) (y := 0) (.inl ⟨rfl, rfl⟩) ⟨0, by unfold C; generalize D1 = d; grind⟩ ⟨?_, fun h => h1 ?_⟩⟩
    · rw [show 1 * u - 1 - 0 * (1 * u + 1) = u - 1 from by grind]
      exact h2
    · rwa [Int.one_mul] at h
  have i1 := inv_ok (u + 1) h1
  have i2 := inv_ok (u - 1) h2
  generalize inv (u + 1) = a at *
  generalize inv (u - 1) = z at *
  have n := ns_y ns1 ((u - 1) * a)
  have hR : Rp (1 * u) 1 ((u - 1) * a) := by
    refine ⟨?_, fun h => h1 (by rwa [Int.one_mul] at h)⟩
    rw [show 1 * u - 1 - (u - 1) * a * (1 * u + 1) = ((u + 1) * a - 1) * -(u - 1) from by grind]
    exact Int.dvd_mul_of_dvd_left i1
  have hR2 : Rp (-1 * u) 1 ((u + 1) * z) := by
    refine ⟨?_, fun h => h2 ?_⟩
    · rw [show -1 * u - 1 - (u + 1) * z * (-1 * u + 1) = ((u - 1) * z - 1) * (u + 1) from by grind]
      exact Int.dvd_mul_of_dvd_left i2
    · have := Int.dvd_neg.2 h
      rwa [show -(-1 * u + 1) = u - 1 from by omega] at this
  have hw : p ∣ ((u - 1) * a) * ((u + 1) * z) - 1 := by
    rw [show ((u - 1) * a) * ((u + 1) * z) - 1 = ((u + 1) * a - 1) * ((u - 1) * z) + ((u - 1) * z - 1) from by grind]
    exact Int.dvd_add (Int.dvd_mul_of_dvd_left i1) i2
  generalize (u - 1) * a = y at *
  generalize (u + 1) * z = y' at *
  have i3 := inv_ok _ n
  generalize inv (1 - D1 * y * y) = m at *
  obtain ⟨r, hr | hr⟩ := root_or ((1 - y * y) * m)
  · refine ⟨1, D1, _, mk (x := r) (y := y) (.inl ⟨rfl, rfl⟩) ?_ hR⟩
    generalize D1 = d at *
    rw [show C d r y = (r * r - (1 - y * y) * m) * (1 - d * y * y) + ((1 - d * y * y) * m - 1) * (1 - y * y) from by unfold C; grind]
    exact Int.dvd_add (Int.dvd_mul_of_dvd_left hr) (Int.dvd_mul_of_dvd_left i3)
  · refine ⟨-1, D2, _, mk (x := r) (y := y') (.inr ⟨rfl, rfl⟩) ?_ hR2⟩
    have hd := d12
    have hd0 := d1_ne
    have hy : ¬ p ∣ y := by
      intro h
      apply not_one
      rw [show (1 : Int) = y * y' - (y * y' - 1) from by omega]
      exact Int.dvd_sub (Int.dvd_mul_of_dvd_left h) hw
    refine cancel (not_mul hd0 (not_mul hy hy)) ?_
    generalize D1 = d at *
    generalize D2 = d' at *
    rw [show d * (y * y) * C d' r y' = ((y * y' - 1) * ((y * y' + 1) * (d - r * r)) - (d * d' - 1) * (r * r * (y * y') * (y * y')))
        - ((r * r - d * ((1 - y * y) * m)) * (1 - d * y * y) + ((1 - d * y * y) * m - 1) * (d * (1 - y * y))) from by unfold C; grind]
    exact Int.dvd_sub (Int.dvd_sub (Int.dvd_mul_of_dvd_left hw) (Int.dvd_mul_of_dvd_left hd)) (Int.dvd_add (Int.dvd_mul_of_dvd_left hr) (Int.dvd_mul_of_dvd_left i3))

/-- the ladder's double, one for both curves -/
theorem low_e {e d : Int} {P : Pt} (hc : Cv e d) (hP : On d P) {k : Nat} {X Z : Int} (h : Rp (e * X) Z (mul d k P).y) :
    Rp (e * (((X + Z) * (X + Z)) * ((X - Z) * (X - Z)))) (((X + Z) * (X + Z) - (X - Z) * (X - Z)) * ((X + Z) * (X + Z) + 121665 * ((X + Z) * (X + Z) - (X - Z) * (X - Z)))) (mul d (2 * k) P).y := by
  rcases hc with ⟨he, hd⟩ | ⟨he, hd⟩
  · subst he hd
    rw [Int.one_mul] at h ⊢
    exact rows_low ns1 k1 hP h
  · subst he hd
    have h2 := rp_neg (rows_low ns2 k2 hP h)
    generalize (mul D2 (2 * k) P).y = y at *
    clear h
    have e1 : -((-1 * X + Z) * (-1 * X + Z) * ((-1 * X - Z) * (-1 * X - Z))) = -1 * (((X + Z) * (X + Z)) * ((X - Z) * (X - Z))) := by grind
    have e2 : -(((-1 * X + Z) * (-1 * X + Z) - (-1 * X - Z) * (-1 * X - Z)) * ((-1 * X + Z) * (-1 * X + Z) + -121666 * ((-1 * X + Z) * (-1 * X + Z) - (-1 * X - Z) * (-1 * X - Z)))) =
        ((X + Z) * (X + Z) - (X - Z) * (X - Z)) * ((X + Z) * (X + Z) + 121665 * ((X + Z) * (X + Z) - (X - Z) * (X - Z))) := by grind
    rw [e1, e2] at h2
    exact h2
/-- the ladder's sum, one for both curves -/
theorem sum_e {e d u : Int} {P : Pt} (ha : At e d u P) (hu0 : ¬ p ∣ u) {k : Nat} {X2 Z2 X3 Z3 : Int} (h : Rows d P k (e * X2) Z2 (e * X3) Z3) :
    Rp (e * (((X3 - Z3) * (X2 + Z2) + (X3 + Z3) * (X2 - Z2)) * ((X3 - Z3) * (X2 + Z2) + (X3 + Z3) * (X2 - Z2)))) (u * (((X3 - Z3) * (X2 + Z2) - (X3 + Z3) * (X2 - Z2)) * ((X3 - Z3) * (X2 + Z2) - (X3 + Z3) * (X2 - Z2)))) (mul d (2 * k + 1) P).y := by
  obtain ⟨hc, hP, hr, hu⟩ := ha
  rcases hc with ⟨he, hd⟩ | ⟨he, hd⟩
  · subst he hd
    have h2 := rows_sum ns1 hP hr _ hu (by rw [Int.one_mul]; exact hu0) h
    simp only [Int.one_mul] at h2 ⊢
    exact h2
  · subst he hd
    have h2 := rp_neg (rows_sum ns2 hP hr _ hu (by intro h; apply hu0; have := Int.dvd_neg.2 h; rwa [show -(-1 * u) = u from by omega] at this) h)
    generalize (mul D2 (2 * k + 1) P).y = y at *
    clear h hu
    refine cast ?_ h2
    congr 1 <;> grind
end Go.Proofs.Ytebgmneffpeahaa.Ed
