/-
  What Zero, Neg and Same answer.
-/
import Derived.Test.YtjncnmhigikdoaaSums
import Derived.Test.YtjncnmhigikdoaaKit
namespace Go.Proofs.Ytjncnmhigikdoaa
open Go.RowKit
set_option maxRecDepth 100000

theorem least_al (n a b c d e : Int) (hf : Rep n a b c d e) (w : World) :
    Calls Try.prog 33 #[.agg #[.int .u64 a, .int .u64 b, .int .u64 c, .int .u64 d, .int .u64 e]] w (fun r w' => ∃ y0 y1 y2 y3 y4, r = .returned (.agg #[.int .u64 y0, .int .u64 y1, .int .u64 y2, .int .u64 y3, .int .u64 y4]) ∧ Hid (((0 ≤ y0 ∧ y0 < 2251799813685248) ∧ (0 ≤ y1 ∧ y1 < 2251799813685248) ∧ (0 ≤ y2 ∧ y2 < 2251799813685248) ∧ (0 ≤ y3 ∧ y3 < 2251799813685248) ∧ (0 ≤ y4 ∧ y4 < 2251799813685248)) ∧ val y0 y1 y2 y3 y4 = n % pp) ∧ ∃ o o', w' = (w.alloc o).alloc o') := by
  refine (least_ok a b c d e hf.1 w).mono ?_
  rintro r w' ⟨y0, y1, y2, y3, y4, h1, b0, b1, b2, b3, b4, h2, h3⟩
  exact ⟨y0, y1, y2, y3, y4, h1, hide ⟨⟨b0, b1, b2, b3, b4⟩, h2.trans hf.2⟩, h3⟩

theorem least_at (n a b c d e : Int) (hf : Rep n a b c d e) (w : World) :
    Calls Try.prog 33 #[.agg #[.int .u64 a, .int .u64 b, .int .u64 c, .int .u64 d, .int .u64 e]] w (fun r w' => ∃ y0 y1 y2 y3 y4, r = .returned (.agg #[.int .u64 y0, .int .u64 y1, .int .u64 y2, .int .u64 y3, .int .u64 y4]) ∧ Hid (((0 ≤ y0 ∧ y0 < 2251799813685248) ∧ (0 ≤ y1 ∧ y1 < 2251799813685248) ∧ (0 ≤ y2 ∧ y2 < 2251799813685248) ∧ (0 ≤ y3 ∧ y3 < 2251799813685248) ∧ (0 ≤ y4 ∧ y4 < 2251799813685248)) ∧ val y0 y1 y2 y3 y4 = n % pp) ∧ Gr w w') := by
  refine (least_al n a b c d e hf w).mono ?_
  rintro r w' ⟨y0, y1, y2, y3, y4, h1, h2, o, o', rfl⟩
  exact ⟨y0, y1, y2, y3, y4, h1, h2, ((Gr.refl _).alloc _).alloc _⟩

theorem or_zero (x y : Int) (hx : 0 ≤ x ∧ x < 18446744073709551616) (hy : 0 ≤ y ∧ y < 18446744073709551616) : (0 ≤ bits .or .u64 x y ∧ bits .or .u64 x y < 18446744073709551616) ∧ (bits .or .u64 x y = 0 ↔ x = 0 ∧ y = 0) := by
  obtain ⟨a, rfl⟩ := Int.eq_ofNat_of_zero_le hx.1
  obtain ⟨b, rfl⟩ := Int.eq_ofNat_of_zero_le hy.1
  rw [bits_or_u64_nat _ _ (by omega) (by omega)]
  have h1 : a ||| b < 2 ^ 64 := Nat.or_lt_two_pow (by omega) (by omega)
  have h2 : a ||| b = 0 ↔ a = 0 ∧ b = 0 := Nat.or_eq_zero_iff
  omega

set_option maxHeartbeats 1000000 in
theorem zero_ok (n a b c d e : Int) (hf : Rep n a b c d e) (w : World) :
    Calls Try.prog 15 #[five a b c d e] w (fun r w' => r = .returned (.bool (decide (n % pp = 0))) ∧ Gr w w') := by
  have hl := hide (least_at n a b c d e hf)
  clear hf
  unfold five
  go_enter Try.func15, Try.ntmps15
  go_wp2_with (go_at_call 33; refine (unhide hl _).mono ?_; rintro r w9 ⟨y0, y1, y2, y3, y4, rfl, hy, hg⟩)
  obtain ⟨⟨b0, b1, b2, b3, b4⟩, hv⟩ := unhide hy
  have i0 : ∀ w, (Instr.index 27 (.agg #[.int .u64 y0, .int .u64 y1, .int .u64 y2, .int .u64 y3, .int .u64 y4]) (.int .i64 0)).run Try.prog w = .ok (.int .u64 y0) w := fun _ => by kernel_rfl
  have i1 : ∀ w, (Instr.index 27 (.agg #[.int .u64 y0, .int .u64 y1, .int .u64 y2, .int .u64 y3, .int .u64 y4]) (.int .i64 1)).run Try.prog w = .ok (.int .u64 y1) w := fun _ => by kernel_rfl
  have i2 : ∀ w, (Instr.index 27 (.agg #[.int .u64 y0, .int .u64 y1, .int .u64 y2, .int .u64 y3, .int .u64 y4]) (.int .i64 2)).run Try.prog w = .ok (.int .u64 y2) w := fun _ => by kernel_rfl
  have i3 : ∀ w, (Instr.index 27 (.agg #[.int .u64 y0, .int .u64 y1, .int .u64 y2, .int .u64 y3, .int .u64 y4]) (.int .i64 3)).run Try.prog w = .ok (.int .u64 y3) w := fun _ => by kernel_rfl
  have i4 : ∀ w, (Instr.index 27 (.agg #[.int .u64 y0, .int .u64 y1, .int .u64 y2, .int .u64 y3, .int .u64 y4]) (.int .i64 4)).run Try.prog w = .ok (.int .u64 y4) w := fun _ => by kernel_rfl
  have q0 := or_zero 0 y0 (by omega) (by omega)
  generalize e0 : bits .or .u64 0 y0 = z0 at q0
  have q1 := or_zero z0 y1 (by omega) (by omega)
  generalize e1 : bits .or .u64 z0 y1 = z1 at q1
  have q2 := or_zero z1 y2 (by omega) (by omega)
  generalize e2 : bits .or .u64 z1 y2 = z2 at q2
  have q3 := or_zero z2 y3 (by omega) (by omega)
  generalize e3 : bits .or .u64 z2 y3 = z3 at q3
  have q4 := or_zero z3 y4 (by omega) (by omega)
  generalize e4 : bits .or .u64 z3 y4 = z4 at q4
  have hz : z4 = 0 ↔ n % pp = 0 := by
    rw [← hv]; unfold val; omega
  have hz2 : decide (z4 = 0) = decide (n % pp = 0) := by simp [hz]
  replace hz2 := hide hz2
  clear q0 q1 q2 q3 q4 hz b0 b1 b2 b3 b4 hv hy
  refine wp_loop_rounds 6 ?_
  rw [rounds_succ]
  go_wp2_with fail
  rw [rounds_succ]
  go_wp2_with fail
  rw [rounds_succ]
  go_wp2_with fail
  rw [rounds_succ]
  go_wp2_with fail
  rw [rounds_succ]
  go_wp2_with fail
  rw [rounds_succ]
  go_wp2_with fail
  refine bodyPost_ret (v := .bool (decide (n % pp = 0))) ?_ rfl ?_
  · rw [← unhide hz2]; simp [results, Try.results15, go_sem]; rfl
  · exact ⟨rfl, Gr.trans ((Gr.refl _).alloc _) hg⟩

set_option maxHeartbeats 1000000 in
theorem neg_ok (n a b c d e : Int) (hf : Rep n a b c d e) (w : World) :
    Calls Try.prog 21 #[five a b c d e] w (Reck (0 - n) w) := by
  have hl := hide (sub_ok 0 n 0 0 0 0 0 a b c d e ⟨⟨by omega, by omega, by omega, by omega, by omega⟩, rfl⟩ hf)
  clear hf
  unfold five at *
  go_enter Try.func21, Try.ntmps21
  go_wp2_with (go_at_call 19; refine (unhide hl _).mono ?_; rintro r w9 ⟨y0, y1, y2, y3, y4, rfl, hR, hg⟩; unfold five; replace hR := hide hR; have hE := hide (res22 hg rfl); obtain ⟨q0, q1, q2, q3, q4, hq0, hq1, hq2, hq3, hq4, z0, z1, z2, z3, z4⟩ := (unhide hE).five)
  refine bodyPost_ret (v := five y0 y1 y2 y3 y4) ?_ rfl ?_
  · simp [results, Try.results21, go_sem, five, hq0, hq1, hq2, hq3, hq4]
  · exact ⟨_, _, _, _, _, rfl, unhide hR, ((unhide hE).set5 _ _ _ _ _).1⟩

set_option maxHeartbeats 1000000 in
theorem same_ok (m n a b c d e a' b' c' d' e' : Int) (h : Rep m a b c d e) (h' : Rep n a' b' c' d' e') (w : World) :
    Calls Try.prog 16 #[five a b c d e, five a' b' c' d' e'] w (fun r w' => r = .returned (.bool (decide (m % pp = n % pp))) ∧ Gr w w') := by
  have hl := hide (sub_ok m n a b c d e a' b' c' d' e' h h')
  have hs : decide ((m - n) % pp = 0) = decide (m % pp = n % pp) := by
    have : (m - n) % pp = 0 ↔ m % pp = n % pp := by unfold pp; omega
    simp [this]
  replace hs := hide hs
  clear h h'
  unfold five at *
  go_enter Try.func16, Try.ntmps16
  go_wp2_with (first | (go_at_call 19; refine (unhide hl _).mono ?_; rintro r w9 ⟨y0, y1, y2, y3, y4, rfl, hR, hg⟩; unfold five; replace hR := hide hR) | (go_at_call 15; refine (zero_ok (m - n) y0 y1 y2 y3 y4 (unhide hR) _).mono ?_; rintro r w8 ⟨rfl, hg8⟩))
  refine bodyPost_ret (v := .bool (decide (m % pp = n % pp))) ?_ rfl ?_
  · rw [← unhide hs]; simp [results, Try.results16, go_sem]
  · exact ⟨rfl, (Gr.trans (((Gr.refl _).alloc _).alloc _) hg).trans hg8⟩
end Go.Proofs.Ytjncnmhigikdoaa
