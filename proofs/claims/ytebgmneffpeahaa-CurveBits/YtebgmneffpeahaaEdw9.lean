/-
  Plain facts, of no program: what the ladder answers, and what it answers of its own answer.
-/
import Derived.Test.YtebgmneffpeahaaEdw8
namespace Go.Proofs.Ytebgmneffpeahaa.Ed
open Go.Proofs.Ytebgmneffpeahaa.Pr
set_option maxRecDepth 100000

/-- the ladder's rows at k -/
def Fits (e d : Int) (P : Pt) (k : Nat) (X2 Z2 X3 Z3 : Int) : Prop := Rows d P k (e * X2) Z2 (e * X3) Z3
theorem fits_congr {e d : Int} {P : Pt} {k : Nat} {X2 Z2 X3 Z3 X2' Z2' X3' Z3' : Int} (a : p ∣ X2' - X2) (b : p ∣ Z2' - Z2) (a' : p ∣ X3' - X3) (b' : p ∣ Z3' - Z3) (h : Fits e d P k X2 Z2 X3 Z3) : Fits e d P k X2' Z2' X3' Z3' := by
  refine ⟨rp_congr ?_ b h.1, rp_congr ?_ b' h.2⟩
  · rw [← Int.mul_sub]; exact Int.dvd_mul_of_dvd_right a
  · rw [← Int.mul_sub]; exact Int.dvd_mul_of_dvd_right a'
theorem fits_start {e d u : Int} {P : Pt} (ha : At e d u P) : Fits e d P 0 1 0 u 1 := by
  obtain ⟨hc, hP, hr, hu⟩ := ha
  have h := rows_start hc.ns hP hr _ hu
  refine ⟨?_, h.2⟩
  rcases hc with ⟨he, _⟩ | ⟨he, _⟩
  · subst he
    exact h.1
  · subst he
    show Rp (-1 * 1) 0 1
    exact ⟨⟨0, by decide⟩, by decide +kernel⟩
theorem fits_zero {e d u : Int} {P : Pt} (ha : At e d u P) (hu0 : ¬ p ∣ u) {k : Nat} {X2 Z2 X3 Z3 : Int} (h : Fits e d P k X2 Z2 X3 Z3) :
    Fits e d P (2 * k) (((X2 + Z2) * (X2 + Z2)) * ((X2 - Z2) * (X2 - Z2))) (((X2 + Z2) * (X2 + Z2) - (X2 - Z2) * (X2 - Z2)) * ((X2 + Z2) * (X2 + Z2) + 121665 * ((X2 + Z2) * (X2 + Z2) - (X2 - Z2) * (X2 - Z2))))
      (((X3 - Z3) * (X2 + Z2) + (X3 + Z3) * (X2 - Z2)) * ((X3 - Z3) * (X2 + Z2) + (X3 + Z3) * (X2 - Z2))) (u * (((X3 - Z3) * (X2 + Z2) - (X3 + Z3) * (X2 - Z2)) * ((X3 - Z3) * (X2 + Z2) - (X3 + Z3) * (X2 - Z2)))) :=
  ⟨low_e ha.1 ha.2.1 h.1, sum_e ha hu0 h⟩
theorem fits_one {e d u : Int} {P : Pt} (ha : At e d u P) (hu0 : ¬ p ∣ u) {k : Nat} {X2 Z2 X3 Z3 : Int} (h : Fits e d P k X2 Z2 X3 Z3) :
    Fits e d P (2 * k + 1) (((X3 - Z3) * (X2 + Z2) + (X3 + Z3) * (X2 - Z2)) * ((X3 - Z3) * (X2 + Z2) + (X3 + Z3) * (X2 - Z2))) (u * (((X3 - Z3) * (X2 + Z2) - (X3 + Z3) * (X2 - Z2)) * ((X3 - Z3) * (X2 + Z2) - (X3 + Z3) * (X2 - Z2))))
      (((X3 + Z3) * (X3 + Z3)) * ((X3 - Z3) * (X3 - Z3))) (((X3 + Z3) * (X3 + Z3) - (X3 - Z3) * (X3 - Z3)) * ((X3 + Z3) * (X3 + Z3) + 121665 * ((X3 + Z3) * (X3 + Z3) - (X3 - Z3) * (X3 - Z3)))) :=
  ⟨sum_e ha hu0 h, low_e (k := k + 1) ha.1 ha.2.1 h.2⟩

/-- the place of a point with this y -/
def V (e y : Int) : Int := e * ((1 + y) * inv (1 - y))
theorem Cv.sq {e d : Int} (h : Cv e d) : e * e = 1 := by
  rcases h with ⟨h, _⟩ | ⟨h, _⟩ <;> subst h <;> rfl
theorem answer {e d : Int} {P : Pt} (hc : Cv e d) {k : Nat} {X2 Z2 X3 Z3 : Int} (h : Fits e d P k X2 Z2 X3 Z3) : p ∣ X2 * inv Z2 - V e (mul d k P).y := by
  have h1 := place h.1
  have he := hc.sq
  unfold V
  generalize (1 + (mul d k P).y) * inv (1 - (mul d k P).y) = v at *
  generalize inv Z2 = z at *
  rw [show X2 * z - e * v = e * e * X2 * z - e * v from by rw [he]; grind, show e * e * X2 * z - e * v = e * (e * X2 * z - v) from by grind]
  exact Int.dvd_mul_of_dvd_right h1

/-- the two points with x = 0 -/
def Tw (d : Int) (Q : Pt) : Prop := On d Q ∧ p ∣ (1 + Q.y) * (1 - Q.y)
theorem v_tw {e d : Int} {Q : Pt} (hc : Cv e d) (hQ : On d Q) : p ∣ V e Q.y ↔ Tw d Q := by
  have he := hc.sq
  have ne : ¬ p ∣ e := by
    intro h
    apply not_one
    rw [← he]
    exact Int.dvd_mul_of_dvd_left h
  unfold V Tw
  constructor
  · intro h
    refine ⟨hQ, ?_⟩
    rcases prime_int (cancel ne h) with h1 | h1
    · exact Int.dvd_mul_of_dvd_left h1
    · by_cases hy : p ∣ 1 - Q.y
      · exact Int.dvd_mul_of_dvd_right hy
      · exfalso
        have i := inv_ok _ hy
        apply not_one
        have h2 : p ∣ (1 - Q.y) * inv (1 - Q.y) := Int.dvd_mul_of_dvd_right h1
        have := Int.dvd_sub h2 i
        generalize (1 - Q.y) * inv (1 - Q.y) = w at this
        rwa [show w - (w - 1) = 1 from by omega] at this
  · rintro ⟨_, h⟩
    rcases prime_int h with h1 | h1
    · exact Int.dvd_mul_of_dvd_right (Int.dvd_mul_of_dvd_left h1)
    · rw [inv_zero h1]
      simp
theorem tw_x {d : Int} {Q : Pt} (hd : NS d) (h : Tw d Q) : p ∣ Q.x := by
  obtain ⟨h1, h2⟩ := h
  unfold On at h1
  have n := ns_y hd Q.y
  generalize Q.x = x at *
  generalize Q.y = y at *
  have h3 : p ∣ (1 - d * y * y) * (x * x) := by
    rw [show (1 - d * y * y) * (x * x) = C d x y + (1 + y) * (1 - y) from by unfold C; grind]
    exact Int.dvd_add h1 h2
  rcases prime_int (cancel n h3) with h | h <;> exact h
theorem tw_add {d : Int} {P Q : Pt} (hd : NS d) (hP : Tw d P) (hQ : Tw d Q) : Tw d (add d P Q) := by
  have hx := tw_x hd hP
  have hy := add_y hd hP.1 hQ.1
  refine ⟨add_on hd hP.1 hQ.1, ?_⟩
  have h1 := hP.2
  have h2 := hQ.2
  have et : tt d P Q = d * P.x * Q.x * P.y * Q.y := rfl
  rw [et] at hy
  generalize (add d P Q).y = Y at *
  generalize P.x = x at *
  generalize P.y = y at *
  generalize Q.x = x' at *
  generalize Q.y = y' at *
  have h3 : p ∣ Y - y * y' := by
    rw [show Y - y * y' = (Y * (1 - d * x * x' * y * y') - (y * y' - x * x')) + x * (Y * d * x' * y * y' - x') from by grind]
    exact Int.dvd_add hy (Int.dvd_mul_of_dvd_left hx)
  rw [show (1 + Y) * (1 - Y) = (1 + y) * (1 - y) * (y' * y') + (1 + y') * (1 - y') - (Y - y * y') * (Y + y * y') from by grind]
  exact Int.dvd_sub (Int.dvd_add (Int.dvd_mul_of_dvd_left h1) h2) (Int.dvd_mul_of_dvd_left h3)
theorem tw_mul {d : Int} {Q : Pt} (hd : NS d) (h : Tw d Q) : ∀ j, Tw d (mul d j Q)
  | 0 => ⟨zero_on d, by show p ∣ (1 + 1) * (1 - 1); exact ⟨0, by decide⟩⟩
  | j + 1 => tw_add hd (tw_mul hd h j) h
/-- the place 0 stays -/
theorem v_zero {e d : Int} {Q : Pt} (hc : Cv e d) (hQ : On d Q) (h : p ∣ V e Q.y) (j : Nat) : p ∣ V e (mul d j Q).y :=
  (v_tw hc (mul_on hc.ns hQ j)).2 (tw_mul hc.ns ((v_tw hc hQ).1 h) j)
/-- an answer that is not 0 is the place of the multiple -/
theorem at_of {e d w : Int} {Q : Pt} (hc : Cv e d) (hQ : On d Q) (hr : Rd Q) (hw : p ∣ w - V e Q.y) (hn : ¬ p ∣ w) : At e d w Q := by
  have he := hc.sq
  have ny : ¬ p ∣ 1 - Q.y := by
    intro h
    apply hn
    unfold V at hw
    rw [inv_zero h] at hw
    simpa using hw
  have i := inv_ok _ ny
  have key : p ∣ e * w * (1 - Q.y) - (1 + Q.y) := by
    unfold V at hw
    generalize inv (1 - Q.y) = z at *
    generalize Q.y = y at *
    rw [show e * w * (1 - y) - (1 + y) = (w - e * ((1 + y) * z)) * (e * (1 - y)) + ((1 - y) * z * (e * e) - 1) * (1 + y) from by grind, he, Int.mul_one]
    exact Int.dvd_add (Int.dvd_mul_of_dvd_left hw) (Int.dvd_mul_of_dvd_left i)
  refine ⟨hc, hQ, hr, ?_, fun h => not_two ?_⟩
  · rw [show e * w - 1 - Q.y * (e * w + 1) = e * w * (1 - Q.y) - (1 + Q.y) from by grind]
    exact key
  · have h1 : p ∣ (e * w + 1) * (1 - Q.y) := Int.dvd_mul_of_dvd_left h
    have := Int.dvd_sub h1 key
    rwa [show (e * w + 1) * (1 - Q.y) - (e * w * (1 - Q.y) - (1 + Q.y)) = 2 from by grind] at this
end Go.Proofs.Ytebgmneffpeahaa.Ed
