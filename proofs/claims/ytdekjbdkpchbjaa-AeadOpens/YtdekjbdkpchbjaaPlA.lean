/-
  Numbers of five digits to the base 2^26: what passed and plus answer.
-/
import Derived.Test.YtdekjbdkpchbjaaPolyI
namespace Go.Proofs.Ytdekjbdkpchbjaa
open Go.RowKit
set_option maxRecDepth 100000
set_option linter.unusedSimpArgs false
set_option linter.unusedVariables false
/-- the number of five digits -/
def v5 (a b c d e : Int) : Int := a + b * 67108864 + c * 4503599627370496 + d * 302231454903657293676544 + e * 20282409603651670423947251286016
/-- a digit -/
def Dg (x : Int) : Prop := 0 ≤ x ∧ x < 67108864
theorem mask26 (a : Int) (h : 0 ≤ a) (h2 : a < 18446744073709551616) : bits .and .u64 a 67108863 = a % 67108864 := by
  obtain ⟨n, rfl⟩ := Int.eq_ofNat_of_zero_le h
  have h3 := bits_and_u64_nat n 67108863 (by omega) (by omega)
  have e : n &&& 67108863 = n % 67108864 := Nat.and_two_pow_sub_one_eq_mod n 26
  rw [e] at h3
  simpa using h3
theorem passed_val (a b c d e o o1 o2 o3 o4 o5 : Int) (e1 : (o + a) / 67108864 = o1) (e2 : (o1 + b) / 67108864 = o2) (e3 : (o2 + c) / 67108864 = o3) (e4 : (o3 + d) / 67108864 = o4) (e5 : (o4 + e) / 67108864 = o5) :
    v5 ((o + a) % 67108864) ((o1 + b) % 67108864) ((o2 + c) % 67108864) ((o3 + d) % 67108864) ((o4 + e) % 67108864) + 1361129467683753853853498429727072845824 * o5 = v5 a b c d e + o := by
  unfold v5
  omega
/-- passed, by definition -/
def Psd (a b c d e o : Int) (w : World) (r : Ending) (w' : World) : Prop := ∃ y0 y1 y2 y3 y4 q, r = .returned (.tuple #[five y0 y1 y2 y3 y4, .int .u64 q]) ∧ Dg y0 ∧ Dg y1 ∧ Dg y2 ∧ Dg y3 ∧ Dg y4 ∧ 0 ≤ q ∧ v5 y0 y1 y2 y3 y4 + 1361129467683753853853498429727072845824 * q = v5 a b c d e + o ∧ Gr w w'
def Sm (x : Int) : Prop := 0 ≤ x ∧ x < 4611686018427387904
set_option maxHeartbeats 4000000 in
theorem passed_ok (a b c d e o : Int) (ha : Sm a) (hb : Sm b) (hc : Sm c) (hd : Sm d) (he : Sm e) (ho : Sm o) (w : World) : Calls Try.prog 60 #[five a b c d e, .int .u64 o] w (Psd a b c d e o w) := by
  unfold Sm at ha hb hc hd he ho
  have w1 := wrap_id (o + a) (by omega) (by omega)
  have m1 := mask26 (o + a) (by omega) (by omega)
  generalize e1 : (o + a) / 67108864 = o1 at *
  have w2 := wrap_id (o1 + b) (by omega) (by omega)
  have m2 := mask26 (o1 + b) (by omega) (by omega)
  generalize e2 : (o1 + b) / 67108864 = o2 at *
  have w3 := wrap_id (o2 + c) (by omega) (by omega)
  have m3 := mask26 (o2 + c) (by omega) (by omega)
  generalize e3 : (o2 + c) / 67108864 = o3 at *
  have w4 := wrap_id (o3 + d) (by omega) (by omega)
  have m4 := mask26 (o3 + d) (by omega) (by omega)
  generalize e4 : (o3 + d) / 67108864 = o4 at *
  have w5 := wrap_id (o4 + e) (by omega) (by omega)
  have m5 := mask26 (o4 + e) (by omega) (by omega)
  generalize e5 : (o4 + e) / 67108864 = o5 at *
  have fin := passed_val a b c d e o o1 o2 o3 o4 o5 e1 e2 e3 e4 e5
  have hq : 0 ≤ o5 := by omega
  replace fin := hide fin
  replace hq := hide hq
  replace ha := hide ha; replace hb := hide hb; replace hc := hide hc; replace hd := hide hd; replace he := hide he; replace ho := hide ho
  obtain ⟨T, hT⟩ : ∃ T, T = Psd a b c d e o w := ⟨_, rfl⟩
  rw [← hT]
  replace hT := hide hT
  unfold five at *
  go_enter Try.func60, Try.ntmps60
  go_wp2_with fail
  refine wp_loop_rounds 6 ?_
  rw [rounds_succ]
  go_wp2_with fail
  rw [rounds_succ]
  go_wp2_with fail
  rw [rounds_succ]
  go_wp2_with fail
  rw [rounds_succ]
  go_wp2_with fail
  rw [rounds_succ]
  go_wp2_with fail
  rw [rounds_succ]
  go_wp2_with fail
  rw [unhide hT]
  exact bodyPost_ret (v := .tuple #[five ((o + a) % 67108864) ((o1 + b) % 67108864) ((o2 + c) % 67108864) ((o3 + d) % 67108864) ((o4 + e) % 67108864), .int .u64 o5]) (by simp [results, Try.results60, go_sem, five]) rfl
    ⟨_, _, _, _, _, _, rfl, by unfold Dg; omega, by unfold Dg; omega, by unfold Dg; omega, by unfold Dg; omega, by unfold Dg; omega, unhide hq, unhide fin, ((Gr.refl w).alloc _).alloc _⟩
/-- sums of digits -/
def Pls (a b c d e f g h i j : Int) (w : World) (r : Ending) (w' : World) : Prop := r = .returned (five (a + f) (b + g) (c + h) (d + i) (e + j)) ∧ Gr w w'
set_option maxHeartbeats 4000000 in
theorem plus_ok (a b c d e f g h i j : Int) (ha : Sm a) (hb : Sm b) (hc : Sm c) (hd : Sm d) (he : Sm e) (hf : Sm f) (hg : Sm g) (hh : Sm h) (hi : Sm i) (hj : Sm j) (w : World) : Calls Try.prog 44 #[five a b c d e, five f g h i j] w (Pls a b c d e f g h i j w) := by
  unfold Sm at *
  have w1 := wrap_id (a + f) (by omega) (by omega)
  have w2 := wrap_id (b + g) (by omega) (by omega)
  have w3 := wrap_id (c + h) (by omega) (by omega)
  have w4 := wrap_id (d + i) (by omega) (by omega)
  have w5 := wrap_id (e + j) (by omega) (by omega)
  clear ha hb hc hd he hf hg hh hi hj
  have i0 : ∀ w, (Instr.index 66 (five f g h i j) (.int .i64 0)).run Try.prog w = .ok (.int .u64 f) w := fun _ => by kernel_rfl
  have i1 : ∀ w, (Instr.index 66 (five f g h i j) (.int .i64 1)).run Try.prog w = .ok (.int .u64 g) w := fun _ => by kernel_rfl
  have i2 : ∀ w, (Instr.index 66 (five f g h i j) (.int .i64 2)).run Try.prog w = .ok (.int .u64 h) w := fun _ => by kernel_rfl
  have i3 : ∀ w, (Instr.index 66 (five f g h i j) (.int .i64 3)).run Try.prog w = .ok (.int .u64 i) w := fun _ => by kernel_rfl
  have i4 : ∀ w, (Instr.index 66 (five f g h i j) (.int .i64 4)).run Try.prog w = .ok (.int .u64 j) w := fun _ => by kernel_rfl
  obtain ⟨T, hT⟩ : ∃ T, T = Pls a b c d e f g h i j w := ⟨_, rfl⟩
  rw [← hT]
  replace hT := hide hT
  unfold five at *
  go_enter Try.func44, Try.ntmps44
  go_wp2_with fail
  refine wp_loop_rounds 6 ?_
  rw [rounds_succ]
  go_wp2_with fail
  rw [rounds_succ]
  go_wp2_with fail
  rw [rounds_succ]
  go_wp2_with fail
  rw [rounds_succ]
  go_wp2_with fail
  rw [rounds_succ]
  go_wp2_with fail
  rw [rounds_succ]
  go_wp2_with fail
  rw [unhide hT]
  exact bodyPost_ret (v := five (a + f) (b + g) (c + h) (d + i) (e + j)) (by simp [results, Try.results44, go_sem, five]) rfl ⟨rfl, (((Gr.refl w).alloc _).alloc _).alloc _⟩
end Go.Proofs.Ytdekjbdkpchbjaa
