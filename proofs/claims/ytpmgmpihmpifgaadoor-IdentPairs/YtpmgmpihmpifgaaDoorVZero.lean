/-
  What Zero, Neg and Same answer.
-/
import Derived.Test.YtpmgmpihmpifgaaDoorVSums
import Derived.Test.YtpmgmpihmpifgaaDoorVKit
namespace Go.Proofs.YtpmgmpihmpifgaaDoor.Cv
open Go.RowKit
set_option maxRecDepth 100000

theorem least_al (n a b c d e : Int) (hf : Rep n a b c d e) (w : World) :
    Calls Tryd.prog 85 #[.agg #[.int .u64 a, .int .u64 b, .int .u64 c, .int .u64 d, .int .u64 e]] w (fun r w' => ∃ y0 y1 y2 y3 y4, r = .returned (.agg #[.int .u64 y0, .int .u64 y1, .int .u64 y2, .int .u64 y3, .int .u64 y4]) ∧ Hid (((0 ≤ y0 ∧ y0 < 2251799813685248) ∧ (0 ≤ y1 ∧ y1 < 2251799813685248) ∧ (0 ≤ y2 ∧ y2 < 2251799813685248) ∧ (0 ≤ y3 ∧ y3 < 2251799813685248) ∧ (0 ≤ y4 ∧ y4 < 2251799813685248)) ∧ val y0 y1 y2 y3 y4 = n % pp) ∧ ∃ o o', w' = (w.alloc o).alloc o') := by
  refine (least_ok a b c d e hf.1 w).mono ?_
  rintro r w' ⟨y0, y1, y2, y3, y4, h1, b0, b1, b2, b3, b4, h2, h3⟩
  exact ⟨y0, y1, y2, y3, y4, h1, hide ⟨⟨b0, b1, b2, b3, b4⟩, h2.trans hf.2⟩, h3⟩

theorem least_at (n a b c d e : Int) (hf : Rep n a b c d e) (w : World) :
    Calls Tryd.prog 85 #[.agg #[.int .u64 a, .int .u64 b, .int .u64 c, .int .u64 d, .int .u64 e]] w (fun r w' => ∃ y0 y1 y2 y3 y4, r = .returned (.agg #[.int .u64 y0, .int .u64 y1, .int .u64 y2, .int .u64 y3, .int .u64 y4]) ∧ Hid (((0 ≤ y0 ∧ y0 < 2251799813685248) ∧ (0 ≤ y1 ∧ y1 < 2251799813685248) ∧ (0 ≤ y2 ∧ y2 < 2251799813685248) ∧ (0 ≤ y3 ∧ y3 < 2251799813685248) ∧ (0 ≤ y4 ∧ y4 < 2251799813685248)) ∧ val y0 y1 y2 y3 y4 = n % pp) ∧ Gr w w') := by
  refine (least_al n a b c d e hf w).mono ?_
  rintro r w' ⟨y0, y1, y2, y3, y4, h1, h2, o, o', rfl⟩
  exact ⟨y0, y1, y2, y3, y4, h1, h2, ((Gr.refl _).alloc _).alloc _⟩

theorem or_zero (x y : Int) (hx : 0 ≤ x ∧ x < 18446744073709551616) (hy : 0 ≤ y ∧ y < 18446744073709551616) : (0 ≤ bits .or .u64 x y ∧ bits .or .u64 x y < 18446744073709551616) ∧ (bits .or .u64 x y = 0 ↔ x = 0 ∧ y = 0) := by
  obtain ⟨a, rfl⟩ := Int.eq_ofNat_of_zero_le hx.1
  obtain ⟨b, rfl⟩ := Int.eq_ofNat_of_zero_le hy.1
  rw [bits_or_u64_nat _ _ (by omega) (by omega)]
  have h1 : a ||| b < 2 ^ 64 := Nat.or_lt_two_pow (by omega) (by omega)
  have h2 : a ||| b = 0 ↔ a = 0 ∧ b = 0 := Nat.or_eq_zero_iff
  omega

set_option maxHeartbeats 1000000 in
theorem neg_ok (n a b c d e : Int) (hf : Rep n a b c d e) (w : World) :
    Calls Tryd.prog 84 #[five a b c d e] w (Reck (0 - n) w) := by
  have hl := hide (sub_ok 0 n 0 0 0 0 0 a b c d e ⟨⟨by omega, by omega, by omega, by omega, by omega⟩, rfl⟩ hf)
  clear hf
  unfold five at *
  go_enter Tryd.func84, Tryd.ntmps84
  go_wp2_with (go_at_call 99; refine (unhide hl _).mono ?_; rintro r w9 ⟨y0, y1, y2, y3, y4, rfl, hR, hg⟩; unfold five; replace hR := hide hR; have hE := hide (res22 hg rfl); obtain ⟨q0, q1, q2, q3, q4, hq0, hq1, hq2, hq3, hq4, z0, z1, z2, z3, z4⟩ := (unhide hE).five)
  refine bodyPost_ret (v := five y0 y1 y2 y3 y4) ?_ rfl ?_
  · simp [results, Tryd.results84, go_sem, five, hq0, hq1, hq2, hq3, hq4]
  · exact ⟨_, _, _, _, _, rfl, unhide hR, ((unhide hE).set5 _ _ _ _ _).1⟩

end Go.Proofs.YtpmgmpihmpifgaaDoor.Cv
