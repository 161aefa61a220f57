/-
  Plain facts, of no program: squares modulo 2^255 - 19; the two curves' constants are none; every place lies on one of both.
-/
import Derived.Test.YtebgmneffpeahaaEdw6
namespace Go.Proofs.Ytebgmneffpeahaa.Ed
open Go.Proofs.Ytebgmneffpeahaa.Pr
set_option maxRecDepth 100000

def D1n : Nat := 20800338683988658368647408995589388737092878452977063003340006470870624536394
def D1 : Int := 20800338683988658368647408995589388737092878452977063003340006470870624536394
def D2 : Int := 28692721048178265397853269683490922171210976843790175684556505508326675974058
def ii : Int := 19681161376707505956807079304988542015446066515923890162744021073123829784752
def HH : Nat := 28948022309329048855892746252171976963317496166410141009864396001978282409974
def QQ : Nat := 14474011154664524427946373126085988481658748083205070504932198000989141204987
def EE : Nat := 7237005577332262213973186563042994240829374041602535252466099000494570602494
theorem hh_eq : PP - 1 = HH + HH := by decide +kernel
theorem qq_eq : HH = QQ + QQ := by decide +kernel
theorem ee_eq : EE + EE = QQ + 1 := by decide +kernel
theorem ii_ok : p ∣ ii * ii + 1 := by decide +kernel
theorem d12 : p ∣ D1 * D2 - 1 := by decide +kernel
theorem d1_ne : ¬ p ∣ D1 := by decide +kernel
theorem k1 : p ∣ D1 * (121665 + 1) - 121665 := by decide +kernel
theorem k2 : p ∣ D2 * (-121666 + 1) - -121666 := by decide +kernel
theorem d1_cast : D1 = (D1n : Int) := by decide +kernel
theorem d1_half : p ∣ D1 ^ HH + 1 := by
  have h1 : mp PP 256 D1n HH = PP - 1 := by decide +kernel
  rw [mp_eq PP 256 D1n HH (by decide +kernel)] at h1
  have h2 := Int.mul_ediv_add_emod ((D1n ^ HH : Nat) : Int) (PP : Int)
  rw [← Int.natCast_emod, h1] at h2
  have h3 : ((PP - 1 : Nat) : Int) = p - 1 := by decide +kernel
  rw [h3, ← p_PP, Int.natCast_pow, ← d1_cast] at h2
  generalize D1 ^ HH = w at *
  generalize w / p = v at *
  exact ⟨v + 1, by rw [← h2]; grind⟩

theorem pow_cong {a b : Int} (h : p ∣ a - b) : ∀ n : Nat, p ∣ a ^ n - b ^ n
  | 0 => ⟨0, by rw [Int.pow_zero, Int.pow_zero]; omega⟩
  | n + 1 => by
    rw [Int.pow_succ, Int.pow_succ]
    have ih := pow_cong h n
    generalize a ^ n = x at *
    generalize b ^ n = y at *
    rw [show x * a - y * b = x * (a - b) + (x - y) * b from by grind]
    exact Int.dvd_add (Int.dvd_mul_of_dvd_right h) (Int.dvd_mul_of_dvd_left ih)
theorem as_nat (z : Int) : ∃ k : Nat, p ∣ z - (k : Int) := by
  obtain ⟨k, hk⟩ := Int.eq_ofNat_of_zero_le (Int.emod_nonneg z (show p ≠ 0 by decide))
  refine ⟨k, ?_⟩
  have := Int.mul_ediv_add_emod z p
  rw [hk] at this
  exact ⟨z / p, by omega⟩
theorem ferm_int (z : Int) (h : ¬ p ∣ z) : p ∣ z ^ HH * z ^ HH - 1 := by
  obtain ⟨k, hk⟩ := as_nat z
  have hk2 : k % PP ≠ 0 := by
    intro e
    apply h
    have : p ∣ (k : Int) := by rw [p_PP]; exact Int.ofNat_dvd.2 (Nat.dvd_of_mod_eq_zero e)
    have := Int.dvd_add hk this
    rwa [show z - (k : Int) + k = z from by omega] at this
  have hf := fermat k hk2
  rw [hh_eq] at hf
  have h2 := Int.mul_ediv_add_emod ((k ^ (HH + HH) : Nat) : Int) (PP : Int)
  rw [← Int.natCast_emod, hf, ← p_PP, Int.natCast_pow] at h2
  have h3 := pow_cong hk (HH + HH)
  rw [← Int.pow_add]
  generalize z ^ (HH + HH) = w at *
  generalize (k : Int) ^ (HH + HH) = v at *
  have h4 : p ∣ v - 1 := ⟨v / p, by rw [show ((1 : Nat) : Int) = 1 from rfl] at h2; generalize p * (v / p) = q at *; omega⟩
  rw [show w - 1 = (w - v) + (v - 1) from by omega]
  exact Int.dvd_add h3 h4
/-- a root -/
theorem root {t : Int} (h : p ∣ t ^ HH - 1) : ∃ r : Int, p ∣ r * r - t := by
  rw [qq_eq, Int.pow_add] at h
  have e := congrArg (fun n => t ^ n) ee_eq
  simp only [Int.pow_add, Int.pow_succ] at e
  generalize t ^ EE = r at *
  generalize t ^ QQ = q at *
  have h1 : p ∣ (q - 1) * (q + 1) := by rw [show (q - 1) * (q + 1) = q * q - 1 from by grind]; exact h
  rcases prime_int h1 with h2 | h2
  · refine ⟨r, ?_⟩
    rw [e, show q * t - t = (q - 1) * t from by grind]
    exact Int.dvd_mul_of_dvd_left h2
  · refine ⟨ii * r, ?_⟩
    rw [show ii * r * (ii * r) - t = (ii * ii) * (r * r) - t from by grind, e]
    have := ii_ok
    generalize ii * ii = j at *
    rw [show j * (q * t) - t = (j + 1) * (q * t) - (q + 1) * t from by grind]
    exact Int.dvd_sub (Int.dvd_mul_of_dvd_left this) (Int.dvd_mul_of_dvd_left h2)
theorem root_or (t : Int) : ∃ r : Int, p ∣ r * r - t ∨ p ∣ r * r - D1 * t := by
  by_cases h : p ∣ t
  · exact ⟨0, .inl (by rw [show 0 * 0 - t = -t from by omega]; exact Int.dvd_neg.2 h)⟩
  · have hf := ferm_int t h
    have h1 : p ∣ (t ^ HH - 1) * (t ^ HH + 1) := by
      generalize t ^ HH = w at *
      rw [show (w - 1) * (w + 1) = w * w - 1 from by grind]
      exact hf
    rcases prime_int h1 with h2 | h2
    · obtain ⟨r, hr⟩ := root h2
      exact ⟨r, .inl hr⟩
    · have h3 : p ∣ (D1 * t) ^ HH - 1 := by
        have hd := d1_half
        rw [Int.mul_pow]
        generalize D1 ^ HH = v at *
        generalize t ^ HH = w at *
        rw [show v * w - 1 = (v + 1) * w - (w + 1) from by grind]
        exact Int.dvd_sub (Int.dvd_mul_of_dvd_left hd) h2
      obtain ⟨r, hr⟩ := root h3
      exact ⟨r, .inr hr⟩
theorem ns1 : NS D1 := by
  intro s hs
  have hn : ¬ p ∣ s := by
    intro h
    apply d1_ne
    have hq : p ∣ s * s := Int.dvd_mul_of_dvd_left h
    have := Int.dvd_sub hq hs
    rwa [show s * s - (s * s - D1) = D1 from by omega] at this
  have h1 := ferm_int s hn
  have h2 := pow_cong hs HH
  have h3 := d1_half
  rw [Int.mul_pow] at h2
  generalize s ^ HH * s ^ HH = w at *
  generalize D1 ^ HH = v at *
  apply not_two
  have := Int.dvd_add (Int.dvd_sub h2 h1) h3
  rwa [show w - v - (w - 1) + (v + 1) = 2 from by omega] at this
theorem ns2 : NS D2 := by
  intro s hs
  apply ns1 (s * D1)
  have h := d12
  generalize D1 = a at *
  generalize D2 = b at *
  rw [show s * a * (s * a) - a = (s * s - b) * (a * a) + (a * b - 1) * a from by grind]
  exact Int.dvd_add (Int.dvd_mul_of_dvd_left hs) (Int.dvd_mul_of_dvd_left h)
end Go.Proofs.Ytebgmneffpeahaa.Ed
