/-
  Plain facts, of no program: multiples of a point; the ladder's step, told by y alone.
-/
import Derived.Test.YtebgmneffpeahaaEdw3
namespace Go.Proofs.Ytebgmneffpeahaa.Ed
open Go.Proofs.Ytebgmneffpeahaa.Pr
set_option maxRecDepth 100000

/-- the sum of none -/
def zero : Pt := ⟨0, 1⟩
theorem zero_on (d : Int) : On d zero := by
  unfold On zero C
  exact ⟨0, by simp⟩
theorem zero_add {d : Int} {P : Pt} (hd : NS d) (hP : On d P) (hr : Rd P) : add d zero P = P := by
  have hx := add_x hd (zero_on d) hP
  have hy := add_y hd (zero_on d) hP
  have et : tt d zero P = 0 := by unfold tt zero; simp
  rw [et] at hx hy
  have r := add_rd d zero P
  have e1 : (add d zero P).x = P.x := by
    refine eq_of r.1 hr.1 ?_
    have : (add d zero P).x * (1 + 0) - (zero.x * P.y + P.x * zero.y) = (add d zero P).x - P.x := by unfold zero; simp
    rwa [this] at hx
  have e2 : (add d zero P).y = P.y := by
    refine eq_of r.2 hr.2 ?_
    have : (add d zero P).y * (1 - 0) - (zero.y * P.y - zero.x * P.x) = (add d zero P).y - P.y := by unfold zero; simp
    rwa [this] at hy
  revert e1 e2
  generalize add d zero P = S
  cases S
  cases P
  intro e1 e2
  simp only [Pt.mk.injEq]
  exact ⟨e1, e2⟩

/-- so many times a point -/
def mul (d : Int) : Nat → Pt → Pt
  | 0, _ => zero
  | n + 1, P => add d (mul d n P) P
theorem zero_rd : Rd zero := ⟨⟨by decide, by decide⟩, ⟨by decide, by decide⟩⟩
theorem mul_on {d : Int} {P : Pt} (hd : NS d) (hP : On d P) : ∀ n, On d (mul d n P)
  | 0 => zero_on d
  | n + 1 => add_on hd (mul_on hd hP n) hP
theorem mul_rd (d : Int) (P : Pt) : ∀ n, Rd (mul d n P)
  | 0 => zero_rd
  | _ + 1 => add_rd _ _ _
theorem mul_add {d : Int} {P : Pt} (hd : NS d) (hP : On d P) (m : Nat) : ∀ n, mul d (m + n) P = add d (mul d m P) (mul d n P)
  | 0 => by
    rw [add_comm]
    exact (zero_add hd (mul_on hd hP m) (mul_rd d P m)).symm
  | n + 1 => by
    show add d (mul d (m + n) P) P = add d (mul d m P) (add d (mul d n P) P)
    rw [mul_add hd hP m n, add_assoc hd (mul_on hd hP m) (mul_on hd hP n) hP]
theorem mul_mul {d : Int} {P : Pt} (hd : NS d) (hP : On d P) (m : Nat) : ∀ n, mul d n (mul d m P) = mul d (n * m) P
  | 0 => by rw [Nat.zero_mul]; rfl
  | n + 1 => by
    show add d (mul d n (mul d m P)) (mul d m P) = _
    rw [mul_mul hd hP m n, ← mul_add hd hP, Nat.succ_mul]
theorem mul_comm {d : Int} {P : Pt} (hd : NS d) (hP : On d P) (m n : Nat) : mul d n (mul d m P) = mul d m (mul d n P) := by
  rw [mul_mul hd hP, mul_mul hd hP, Nat.mul_comm]

/-- X over Z is the place of a point with this y -/
def Rp (X Z y : Int) : Prop := p ∣ (X - Z) - y * (X + Z) ∧ ¬ p ∣ X + Z

theorem dbl_id (c d x y : Int) : ((y*y - (1 - y*y)*(1 + c*(1 - y*y))) * (1 - d*x*x*y*y) - (y*y - x*x) * (y*y + (1 - y*y)*(1 + c*(1 - y*y)))) * (1 - d*y*y) =
    (c*d*y^6 - 2*c*d*y^4 + c*d*y^2 + c*y^4 - 2*c*y^2 + c - 2*d*y^4 + d*y^2 + 1) * C d x y + (2*y^6 - 4*y^4 + 2*y^2) * (d*(c+1) - c) := by
  unfold C
  grind
theorem ns_y {d : Int} (hd : NS d) (y : Int) : ¬ p ∣ 1 - d * y * y := by
  intro h
  have hy : ¬ p ∣ y := by
    intro h2
    apply not_one
    have h3 : p ∣ d * y * y := Int.dvd_mul_of_dvd_right h2
    have := Int.dvd_add h h3
    rwa [show 1 - d * y * y + d * y * y = 1 from by omega] at this
  have h4 : p ∣ 1 * 1 - d * (y * y) := by rw [show 1 * 1 - d * (y * y) = 1 - d * y * y from by grind]; exact h
  obtain ⟨s, hs⟩ := square_of h4 hy
  exact hd s hs
theorem c_one {c d : Int} (hK : p ∣ d * (c + 1) - c) : ¬ p ∣ c + 1 := by
  intro h
  apply not_one
  have h1 : p ∣ d * (c + 1) := Int.dvd_mul_of_dvd_right h
  have h2 := Int.dvd_sub h1 hK
  rw [show d * (c + 1) - (d * (c + 1) - c) = c from by omega] at h2
  have h3 := Int.dvd_sub h h2
  rwa [show c + 1 - c = 1 from by omega] at h3

set_option maxHeartbeats 2000000 in
/-- twice a point -/
theorem double {c d : Int} {P : Pt} (hd : NS d) (hK : p ∣ d * (c + 1) - c) (hP : On d P) (X Z : Int) (h : Rp X Z P.y) :
    Rp (((X + Z) * (X + Z)) * ((X - Z) * (X - Z))) (((X + Z) * (X + Z) - (X - Z) * (X - Z)) * ((X + Z) * (X + Z) + c * ((X + Z) * (X + Z) - (X - Z) * (X - Z)))) (add d P P).y := by
  obtain ⟨hb, hs⟩ := h
  have hy := add_y hd hP hP
  have n2 := (dens hd hP hP).2
  have n3 := ns_y hd P.y
  have n4 := c_one hK
  generalize (add d P P).y = Y at *
  unfold On at hP
  have et : tt d P P = d * P.x * P.x * P.y * P.y := rfl
  rw [et] at hy n2
  generalize X + Z = s at *
  generalize X - Z = b at *
  generalize P.x = x at *
  generalize P.y = y at *
  have hid := dbl_id c d x y
  have hZ0 : p ∣ ((y*y - (1 - y*y)*(1 + c*(1 - y*y))) * (1 - d*x*x*y*y) - (y*y - x*x) * (y*y + (1 - y*y)*(1 + c*(1 - y*y)))) * (1 - d*y*y) := by
    rw [hid]
    exact Int.dvd_add (Int.dvd_mul_of_dvd_right hP) (Int.dvd_mul_of_dvd_right hK)
  have hZ1 : p ∣ (y*y - (1 - y*y)*(1 + c*(1 - y*y))) * (1 - d*x*x*y*y) - (y*y - x*x) * (y*y + (1 - y*y)*(1 + c*(1 - y*y))) := cancel n3 (by rw [Int.mul_comm]; exact hZ0)
  clear hid hZ0
  have key : p ∣ (s * s * (b * b) - (s * s - b * b) * (s * s + c * (s * s - b * b))) - Y * (s * s * (b * b) + (s * s - b * b) * (s * s + c * (s * s - b * b))) := by
    refine cancel n2 ?_
    have e : (1 - d*x*x*y*y) * ((s * s * (b * b) - (s * s - b * b) * (s * s + c * (s * s - b * b))) - Y * (s * s * (b * b) + (s * s - b * b) * (s * s + c * (s * s - b * b)))) =
        (s*s*s*s) * ((y*y - (1 - y*y)*(1 + c*(1 - y*y))) * (1 - d*x*x*y*y) - (y*y - x*x) * (y*y + (1 - y*y)*(1 + c*(1 - y*y))))
        - (Y * (1 - d*x*x*y*y) - (y*y - x*x)) * (s * s * (b * b) + (s * s - b * b) * (s * s + c * (s * s - b * b)))
        + (b - y * s) * ((b + y * s) * (s * s * ((1 - d*x*x*y*y) - (y*y - x*x)) + ((1 - d*x*x*y*y) + (y*y - x*x)) * (s * s + c * (s * s - b * b) + c * (s * s - y * y * s * s)))) := by grind
    rw [e]
    exact Int.dvd_add (Int.dvd_sub (Int.dvd_mul_of_dvd_right hZ1) (Int.dvd_mul_of_dvd_left hy)) (Int.dvd_mul_of_dvd_left hb)
  refine ⟨key, ?_⟩
  intro h0
  have h1 : p ∣ Y * (s * s * (b * b) + (s * s - b * b) * (s * s + c * (s * s - b * b))) := Int.dvd_mul_of_dvd_right h0
  have h2 := Int.dvd_add key h1
  have h3 := Int.dvd_add h2 h0
  rw [show s * s * (b * b) - (s * s - b * b) * (s * s + c * (s * s - b * b)) - Y * (s * s * (b * b) + (s * s - b * b) * (s * s + c * (s * s - b * b))) + Y * (s * s * (b * b) + (s * s - b * b) * (s * s + c * (s * s - b * b))) + (s * s * (b * b) + (s * s - b * b) * (s * s + c * (s * s - b * b))) = 2 * (s * s * (b * b)) from by grind] at h3
  have h4 := cancel not_two h3
  have h5 : p ∣ b * b := cancel (not_mul hs hs) h4
  have h6 : p ∣ b := by
    rcases prime_int h5 with h | h
    · exact h
    · exact h
  have h7 : p ∣ (s * s * s * s) * (c + 1) := by
    have h8 : p ∣ b * (b * (s * s * (c + c + 1) - s * s - c * (b * b))) := Int.dvd_mul_of_dvd_left h6
    have h9 := Int.dvd_add h0 h8
    rwa [show s * s * (b * b) + (s * s - b * b) * (s * s + c * (s * s - b * b)) + b * (b * (s * s * (c + c + 1) - s * s - c * (b * b))) = (s * s * s * s) * (c + 1) from by grind] at h9
  exact n4 (cancel (not_mul (not_mul (not_mul hs hs) hs) hs) h7)
end Go.Proofs.Ytebgmneffpeahaa.Ed
