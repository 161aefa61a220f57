/-
  What Swap answers, by the bit.
-/
import Derived.Test.YtpmgmpihmpifgaaDoorVSwap
namespace Go.Proofs.YtpmgmpihmpifgaaDoor.Cv
open Go.RowKit
set_option maxRecDepth 100000

theorem i64_and1 (n : Int) : bits .and .i64 n 1 = n % 2 := by
  show IntKind.i64.wrap ((BitVec.ofInt 64 n &&& BitVec.ofInt 64 1).toNat : Int) = _
  have e : (BitVec.ofInt 64 n &&& BitVec.ofInt 64 1).toNat = (n % 2).toNat := by
    rw [BitVec.toNat_and]
    have : (BitVec.ofInt 64 (1 : Int)).toNat = 2 ^ 1 - 1 := by decide
    rw [this, Nat.and_two_pow_sub_one_eq_mod, BitVec.toNat_ofInt]
    omega
  rw [e, IntKind.wrap_i64]
  omega

def U64 (x : Int) : Prop := 0 ≤ x ∧ x < 18446744073709551616
theorem xor_same (a b : Int) (ha : U64 a) (hb : U64 b) : U64 (bits .xor .u64 a b) ∧ bits .xor .u64 a (bits .xor .u64 a b) = b ∧ bits .xor .u64 b (bits .xor .u64 a b) = a := by
  obtain ⟨x, rfl⟩ := Int.eq_ofNat_of_zero_le ha.1
  obtain ⟨y, rfl⟩ := Int.eq_ofNat_of_zero_le hb.1
  have hx : x < 18446744073709551616 := by have := ha.2; omega
  have hy : y < 18446744073709551616 := by have := hb.2; omega
  have hz : x ^^^ y < 18446744073709551616 := Nat.xor_lt_two_pow (n := 64) hx hy
  rw [bits_xor_u64_nat x y hx hy, bits_xor_u64_nat x _ hx hz, bits_xor_u64_nat y _ hy hz]
  refine ⟨⟨by omega, by omega⟩, ?_, ?_⟩
  · rw [← Nat.xor_assoc, Nat.xor_self, Nat.zero_xor]
  · rw [Nat.xor_comm x y, ← Nat.xor_assoc, Nat.xor_self, Nat.zero_xor]
theorem xor_zero' (a : Int) (ha : U64 a) : bits .xor .u64 a 0 = a := by
  obtain ⟨x, rfl⟩ := Int.eq_ofNat_of_zero_le ha.1
  have := bits_xor_u64_nat x 0 (by have := ha.2; omega) (by omega)
  simpa using this
theorem and_zero' (a : Int) (ha : U64 a) : bits .and .u64 0 a = 0 := by
  obtain ⟨x, rfl⟩ := Int.eq_ofNat_of_zero_le ha.1
  have := bits_and_u64_nat 0 x (by omega) (by have := ha.2; omega)
  simpa using this
theorem and_full (a : Int) (ha : U64 a) : bits .and .u64 18446744073709551615 a = a := by
  obtain ⟨x, rfl⟩ := Int.eq_ofNat_of_zero_le ha.1
  have h := bits_and_u64_nat 18446744073709551615 x (by omega) (by have := ha.2; omega)
  rw [Nat.and_comm, show (18446744073709551615 : Nat) = 2 ^ 64 - 1 from by decide, Nat.and_two_pow_sub_one_eq_mod] at h
  have e : x % 2 ^ 64 = x := Nat.mod_eq_of_lt (by have := ha.2; omega)
  rw [e] at h
  exact h
theorem fit64 {a b c d e : Int} (h : Fit a b c d e) : U64 a ∧ U64 b ∧ U64 c ∧ U64 d ∧ U64 e := by
  unfold Fit at h
  unfold U64
  omega

theorem swap_ok (bit a0 a1 a2 a3 a4 b0 b1 b2 b3 b4 : Int) (ha : Fit a0 a1 a2 a3 a4) (hb : Fit b0 b1 b2 b3 b4) (w : World) :
    Calls Tryd.prog 78 #[.int .i64 bit, .agg #[.int .u64 a0, .int .u64 a1, .int .u64 a2, .int .u64 a3, .int .u64 a4], .agg #[.int .u64 b0, .int .u64 b1, .int .u64 b2, .int .u64 b3, .int .u64 b4]] w (fun r w' => r = .returned (if bit % 2 = 1 then .tuple #[.agg #[.int .u64 b0, .int .u64 b1, .int .u64 b2, .int .u64 b3, .int .u64 b4], .agg #[.int .u64 a0, .int .u64 a1, .int .u64 a2, .int .u64 a3, .int .u64 a4]] else .tuple #[.agg #[.int .u64 a0, .int .u64 a1, .int .u64 a2, .int .u64 a3, .int .u64 a4], .agg #[.int .u64 b0, .int .u64 b1, .int .u64 b2, .int .u64 b3, .int .u64 b4]]) ∧ Gr w w') := by
  obtain ⟨u0, u1, u2, u3, u4⟩ := fit64 ha
  obtain ⟨v0, v1, v2, v3, v4⟩ := fit64 hb
  by_cases h : bit % 2 = 1
  · rw [if_pos h]
    refine swap_core bit 18446744073709551615 a0 a1 a2 a3 a4 b0 b1 b2 b3 b4 _ _ _ _ _ _ _ _ _ _ _ _ _ _ _ _ _ _ _ _ (by rw [i64_and1, h]; decide +kernel)
      rfl (and_full _ (xor_same _ _ u0 v0).1) (xor_same _ _ u0 v0).2.1 (xor_same _ _ u0 v0).2.2
      rfl (and_full _ (xor_same _ _ u1 v1).1) (xor_same _ _ u1 v1).2.1 (xor_same _ _ u1 v1).2.2
      rfl (and_full _ (xor_same _ _ u2 v2).1) (xor_same _ _ u2 v2).2.1 (xor_same _ _ u2 v2).2.2
      rfl (and_full _ (xor_same _ _ u3 v3).1) (xor_same _ _ u3 v3).2.1 (xor_same _ _ u3 v3).2.2
      rfl (and_full _ (xor_same _ _ u4 v4).1) (xor_same _ _ u4 v4).2.1 (xor_same _ _ u4 v4).2.2 w
  · rw [if_neg h]
    have h0 : bit % 2 = 0 := by omega
    refine swap_core bit 0 a0 a1 a2 a3 a4 b0 b1 b2 b3 b4 _ _ _ _ _ _ _ _ _ _ _ _ _ _ _ _ _ _ _ _ (by rw [i64_and1, h0]; decide +kernel)
      rfl (and_zero' _ (xor_same _ _ u0 v0).1) (xor_zero' _ u0) (xor_zero' _ v0)
      rfl (and_zero' _ (xor_same _ _ u1 v1).1) (xor_zero' _ u1) (xor_zero' _ v1)
      rfl (and_zero' _ (xor_same _ _ u2 v2).1) (xor_zero' _ u2) (xor_zero' _ v2)
      rfl (and_zero' _ (xor_same _ _ u3 v3).1) (xor_zero' _ u3) (xor_zero' _ v3)
      rfl (and_zero' _ (xor_same _ _ u4 v4).1) (xor_zero' _ u4) (xor_zero' _ v4) w
end Go.Proofs.YtpmgmpihmpifgaaDoor.Cv
