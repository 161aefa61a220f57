/-
  Plain facts on powers modulo the prime.
-/
import Derived.Test.YtjncnmhigikdoaaInv
namespace Go.Proofs.Ytjncnmhigikdoaa
open Go.RowKit
set_option maxRecDepth 100000

theorem pp_PP : pp = (Pr.PP : Int) := by decide +kernel
theorem p2_PP : p2 + 1 = Pr.PP - 1 := by decide +kernel
theorem p2_sq : p2 * p2 = (Pr.PP - 1) * (Pr.PP - 3) + 1 := by decide +kernel

theorem pow_congr (a b : Int) (k : Nat) (h : a % pp = b % pp) : a ^ k % pp = b ^ k % pp := by
  induction k with
  | zero => simp
  | succ k ih => rw [Int.pow_succ, Int.pow_succ, Int.mul_emod, ih, h, ← Int.mul_emod]
theorem mul_congr (a b c d : Int) (h : a % pp = b % pp) (k : c % pp = d % pp) : a * c % pp = b * d % pp := by
  rw [Int.mul_emod, h, k, ← Int.mul_emod]

theorem ferm (n : Int) (h0 : 0 ≤ n) (h : n % pp ≠ 0) : n ^ (Pr.PP - 1) % pp = 1 % pp := by
  obtain ⟨k, rfl⟩ := Int.eq_ofNat_of_zero_le h0
  rw [pp_PP] at h ⊢
  have h1 : k % Pr.PP ≠ 0 := fun e => h (by rw [← Int.natCast_emod, e]; rfl)
  have h2 := Pr.fermat k h1
  have e1 : ((k : Int) ^ (Pr.PP - 1)) = ((k ^ (Pr.PP - 1) : Nat) : Int) := (Int.natCast_pow k (Pr.PP - 1)).symm
  rw [e1, ← Int.natCast_emod, h2]
  decide +kernel
theorem finv (n : Int) (h0 : 0 ≤ n) (h : n % pp ≠ 0) : n * n ^ p2 % pp = 1 % pp := by
  have := ferm n h0 h
  rw [← p2_PP, Int.pow_succ, Int.mul_comm] at this
  exact this
theorem finv2 (n : Int) (h0 : 0 ≤ n) (h : n % pp ≠ 0) : (n ^ p2) ^ p2 % pp = n % pp := by
  rw [← Int.pow_mul, p2_sq, Int.pow_succ, Int.pow_mul]
  have h1 := pow_congr _ _ (Pr.PP - 3) (ferm n h0 h)
  have h2 := mul_congr _ _ n n h1 rfl
  rw [h2, Int.one_pow, Int.one_mul]
theorem fdivides (n m : Int) (h0 : 0 ≤ n) (h : n % pp ≠ 0) : n * m * n ^ p2 % pp = m % pp := by
  have h1 := mul_congr _ _ m m (finv n h0 h) rfl
  rw [Int.one_mul] at h1
  rw [← h1]
  congr 1
  rw [Int.mul_assoc, Int.mul_comm m, ← Int.mul_assoc]
theorem fzero (n m : Int) (h0 : 0 ≤ n) (h : n % pp ≠ 0) : n * m % pp = 0 ↔ m % pp = 0 := by
  constructor
  · intro e
    have h1 := fdivides n m h0 h
    rw [Int.mul_emod, e, Int.zero_mul, Int.zero_emod] at h1
    exact h1.symm
  · intro e
    rw [Int.mul_emod, e, Int.mul_zero, Int.zero_emod]
theorem pow_zero_mod (n : Int) (h : n % pp = 0) : n ^ p2 % pp = 0 := by
  have h1 := pow_congr n 0 p2 (by rw [h]; rfl)
  rw [h1, show p2 = (p2 - 1) + 1 from by decide +kernel, Int.pow_succ, Int.mul_zero, Int.zero_emod]
theorem mul_pow_mod (n m : Int) : (n * m) ^ p2 % pp = n ^ p2 * m ^ p2 % pp := by rw [Int.mul_pow]
end Go.Proofs.Ytjncnmhigikdoaa
