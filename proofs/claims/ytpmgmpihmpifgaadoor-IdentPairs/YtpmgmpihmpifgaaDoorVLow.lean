/-
  What carried answers.
-/
import Derived.Test.YtpmgmpihmpifgaaDoorXK1
namespace Go.Proofs.YtpmgmpihmpifgaaDoor.Cv
open Go.RowKit
set_option maxRecDepth 100000

theorem carried_al (a b c d e : Int) (ha : 0 ≤ a ∧ a < 2305843009213693952) (hb : 0 ≤ b ∧ b < 2305843009213693952) (hc : 0 ≤ c ∧ c < 2305843009213693952) (hd : 0 ≤ d ∧ d < 2305843009213693952) (he : 0 ≤ e ∧ e < 2305843009213693952) (w : World) :
    Calls Tryd.prog 80 #[.int .u64 a, .int .u64 b, .int .u64 c, .int .u64 d, .int .u64 e] w (Reck1 (val a b c d e) w) := by
  have hv := hide (carries a b c d e)
  have h1 : 0 ≤ b + a / 2251799813685248 ∧ b + a / 2251799813685248 < 2305843009213694976 := by omega
  have w1 := wrap_id (b + a / 2251799813685248) (by omega) (by omega)
  have m0 := mask51 a (by omega) (by omega)
  have m1 := mask51 _ h1.1 (by omega)
  generalize eb : b + a / 2251799813685248 = b' at *
  have h2 : 0 ≤ c + b' / 2251799813685248 ∧ c + b' / 2251799813685248 < 2305843009213694977 := by omega
  have w2 := wrap_id (c + b' / 2251799813685248) (by omega) (by omega)
  have m2 := mask51 _ h2.1 (by omega)
  generalize ec : c + b' / 2251799813685248 = c' at *
  have h3 : 0 ≤ d + c' / 2251799813685248 ∧ d + c' / 2251799813685248 < 2305843009213694977 := by omega
  have w3 := wrap_id (d + c' / 2251799813685248) (by omega) (by omega)
  have m3 := mask51 _ h3.1 (by omega)
  generalize ed : d + c' / 2251799813685248 = d' at *
  have h4 : 0 ≤ e + d' / 2251799813685248 ∧ e + d' / 2251799813685248 < 2305843009213694977 := by omega
  have w4 := wrap_id (e + d' / 2251799813685248) (by omega) (by omega)
  have m4 := mask51 _ h4.1 (by omega)
  generalize ee : e + d' / 2251799813685248 = e' at *
  have w5 := wrap_id (e' / 2251799813685248 * 19) (by omega) (by omega)
  have w6 := wrap_id (a % 2251799813685248 + e' / 2251799813685248 * 19) (by omega) (by omega)
  go_enter Tryd.func80, Tryd.ntmps80
  go_wp2_with fail
  exact bodyPost_ret (v := five (a % 2251799813685248 + e' / 2251799813685248 * 19) (b' % 2251799813685248) (c' % 2251799813685248) (d' % 2251799813685248) (e' % 2251799813685248)) (by simp [results, Tryd.results80, go_sem, five]) rfl
    ⟨_, _, _, _, _, _, rfl, ⟨⟨by omega, by omega, by omega, by omega, by omega⟩, unhide hv⟩, rfl⟩

theorem carried_ok (a b c d e : Int) (ha : 0 ≤ a ∧ a < 2305843009213693952) (hb : 0 ≤ b ∧ b < 2305843009213693952) (hc : 0 ≤ c ∧ c < 2305843009213693952) (hd : 0 ≤ d ∧ d < 2305843009213693952) (he : 0 ≤ e ∧ e < 2305843009213693952) (w : World) :
    Calls Tryd.prog 80 #[.int .u64 a, .int .u64 b, .int .u64 c, .int .u64 d, .int .u64 e] w (Reck (val a b c d e) w) :=
  (carried_al a b c d e ha hb hc hd he w).mono fun _ _ h => h.all

/-- the number of two words -/
def num2 (h l : Int) : Int := h * 18446744073709551616 + l
/-- two words -/
def W2 (h l : Int) : Prop := (0 ≤ h ∧ h < 18446744073709551616) ∧ (0 ≤ l ∧ l < 18446744073709551616)

theorem over_num (h l : Int) (hw : W2 h l) (hn : num2 h l < 41538374868278621028243970633760768) :
    (h * 8192 + l / 2251799813685248) = num2 h l / 2251799813685248 ∧ h < 2251799813685248 := by
  unfold num2 W2 at *
  omega

theorem or_join (h r : Int) (h0 : 0 ≤ h) (h1 : h < 2251799813685248) (r0 : 0 ≤ r) (r1 : r < 8192) : bits .or .u64 (h * 8192) r = h * 8192 + r := by
  obtain ⟨a, rfl⟩ := Int.eq_ofNat_of_zero_le h0
  obtain ⟨b, rfl⟩ := Int.eq_ofNat_of_zero_le r0
  have e : ((a : Int) * 8192) = ((a * 8192 : Nat) : Int) := by simp
  rw [e, bits_or_u64_nat _ _ (by omega) (by omega)]
  have := Nat.shiftLeft_add_eq_or_of_lt (show b < 2 ^ 13 by omega) a
  rw [Nat.shiftLeft_eq] at this
  rw [← this]
  simp

theorem over_ok (h l : Int) (hw : W2 h l) (hn : num2 h l < 41538374868278621028243970633760768) (w : World) :
    Calls Tryd.prog 100 #[two h l] w (fun r w' => r = .returned (.int .u64 (num2 h l / 2251799813685248)) ∧ Gr w w') := by
  obtain ⟨e, hb⟩ := over_num h l hw hn
  have hh := hw.1
  have hl := hw.2
  have w1 : IntKind.u64.wrap (h * 8192) = h * 8192 := wrap_id _ (by omega) (by omega)
  have o1 : bits .or .u64 (h * 8192) (l / 2251799813685248) = num2 h l / 2251799813685248 := by
    rw [← e]
    exact or_join h (l / 2251799813685248) (by omega) (by omega) (by omega) (by omega)
  unfold two
  go_enter Tryd.func100, Tryd.ntmps100
  go_wp2_with fail
  exact bodyPost_ret (v := .int .u64 (num2 h l / 2251799813685248)) (by simp [results, Tryd.results100, go_sem]) rfl ⟨rfl, (Gr.refl _).alloc _⟩

theorem maskN (a : Nat) (ha : a < 18446744073709551616) : bits .and .u64 (a : Int) 4294967295 = ((a % 4294967296 : Nat) : Int) := by
  have h := bits_and_u64_nat a 4294967295 ha (by omega)
  have e : a &&& 4294967295 = a % 4294967296 := Nat.and_two_pow_sub_one_eq_mod a 32
  rw [e] at h
  exact h
theorem divN (a : Nat) : (a : Int) / 4294967296 = ((a / 4294967296 : Nat) : Int) := by omega
theorem mulN (a b : Nat) : (a : Int) * (b : Int) = ((a * b : Nat) : Int) := (Int.natCast_mul a b).symm
theorem addN (a b : Nat) : (a : Int) + (b : Int) = ((a + b : Nat) : Int) := (Int.natCast_add a b).symm
theorem wrapN (a : Nat) (ha : a < 18446744073709551616) : IntKind.u64.wrap (a : Int) = (a : Int) := by rw [IntKind.wrap_u64]; omega
theorem wrapM (a : Nat) : IntKind.u64.wrap (a : Int) = ((a % 18446744073709551616 : Nat) : Int) := by rw [IntKind.wrap_u64]; omega

set_option maxHeartbeats 1000000 in
theorem mul64_ok (x y : Int) (hx : 0 ≤ x ∧ x < 18446744073709551616) (hy : 0 ≤ y ∧ y < 18446744073709551616) (w : World) :
    Calls Tryd.prog 101 #[.int .u64 x, .int .u64 y] w (fun r w' => r = .returned (.tuple #[.int .u64 (x * y / 18446744073709551616), .int .u64 (x * y % 18446744073709551616)]) ∧ w' = w) := by
  obtain ⟨x, rfl⟩ := Int.eq_ofNat_of_zero_le hx.1
  obtain ⟨y, rfl⟩ := Int.eq_ofNat_of_zero_le hy.1
  have hx : x < 18446744073709551616 := by omega
  have hy : y < 18446744073709551616 := by omega
  obtain ⟨bd, bt, bw, hhi⟩ := Lib.mul64_hi x y hx hy
  have ba := Lib.half_mul_le (a := x / 4294967296) (b := y / 4294967296) (by omega) (by omega)
  have bb := Lib.half_mul_le (a := x / 4294967296) (b := y % 4294967296) (by omega) (by omega)
  have bc := Lib.half_mul_le (a := x % 4294967296) (b := y / 4294967296) (by omega) (by omega)
  have ba' : x / 4294967296 * (y / 4294967296) < 18446744073709551616 := by omega
  have bb' : x / 4294967296 * (y % 4294967296) < 18446744073709551616 := by omega
  have bc' : x % 4294967296 * (y / 4294967296) < 18446744073709551616 := by omega
  have bh1 : x / 4294967296 * (y / 4294967296) + (x / 4294967296 * (y % 4294967296) + x % 4294967296 * (y % 4294967296) / 4294967296) / 4294967296 < 18446744073709551616 := by omega
  have bh : x / 4294967296 * (y / 4294967296) + (x / 4294967296 * (y % 4294967296) + x % 4294967296 * (y % 4294967296) / 4294967296) / 4294967296 + ((x / 4294967296 * (y % 4294967296) + x % 4294967296 * (y % 4294967296) / 4294967296) % 4294967296 + x % 4294967296 * (y / 4294967296)) / 4294967296 < 18446744073709551616 := by omega
  go_enter Tryd.func101, Tryd.ntmps101
  go_wp2
  simp only [maskN x hx, maskN y hy, divN, mulN, addN, wrapN _ bd, wrapN _ bb', wrapN _ bt, maskN _ bt, wrapN _ bc', wrapN _ bw, wrapN _ ba', wrapN _ bh1, wrapN _ bh, wrapM (x * y)]
  rw [hhi]
  go_ret2
  exact ⟨rfl, rfl⟩

theorem add64_ok (x y : Int) (hx : 0 ≤ x) (hy : 0 ≤ y) (w : World) :
    (callFunc 102 #[.int .u64 x, .int .u64 y, .int .u64 0]).run Tryd.prog w = .ok (.value (.tuple #[.int .u64 ((x + y) % 18446744073709551616), .int .u64 ((x + y) / 18446744073709551616)])) w := by
  rw [run_callFunc_extern Tryd.func102 (by kernel_rfl) (by kernel_rfl) (by kernel_rfl) (e := add64Entry) (by kernel_rfl), run_add64 x y 0 hx hy (by omega) (by omega)]
  simp only [Result.andThen, Int.add_zero]

/-- what a sum answers -/
def Sums (n : Int) (w : World) (r : Ending) (w' : World) : Prop := ∃ h l, r = .returned (two h l) ∧ W2 h l ∧ num2 h l = n ∧ Gr w w'

theorem and_ok (h l x y : Int) (hw : W2 h l) (hx : 0 ≤ x ∧ x < 18446744073709551616) (hy : 0 ≤ y ∧ y < 18446744073709551616) (hn : num2 h l + x * y < 340282366920938463463374607431768211456) (w : World) :
    Calls Tryd.prog 82 #[two h l, .int .u64 x, .int .u64 y] w (Sums (num2 h l + x * y) w) := by
  have hh := hw.1
  have hl := hw.2
  have hp : 0 ≤ x * y := Int.mul_nonneg hx.1 hy.1
  have m := mul64_ok x y hx hy
  generalize x * y = q at *
  have hq : q / 18446744073709551616 < 18446744073709551616 := by unfold num2 at hn; omega
  have w1 : IntKind.u64.wrap (h + q / 18446744073709551616) = h + q / 18446744073709551616 := wrap_id _ (by omega) (by unfold num2 at hn; omega)
  have w2 : IntKind.u64.wrap (h + q / 18446744073709551616 + (q % 18446744073709551616 + l) / 18446744073709551616) = h + q / 18446744073709551616 + (q % 18446744073709551616 + l) / 18446744073709551616 := wrap_id _ (by omega) (by unfold num2 at hn; omega)
  have ad := add64_ok (q % 18446744073709551616) l (by omega) hl.1
  have fin : num2 (h + q / 18446744073709551616 + (q % 18446744073709551616 + l) / 18446744073709551616) ((q % 18446744073709551616 + l) % 18446744073709551616) = num2 h l + q := by unfold num2; omega
  have fin := hide fin
  have bw : W2 (h + q / 18446744073709551616 + (q % 18446744073709551616 + l) / 18446744073709551616) ((q % 18446744073709551616 + l) % 18446744073709551616) := by unfold num2 at hn; unfold W2; omega
  have bw := hide bw
  have hn := hide hn
  unfold two
  go_enter Tryd.func82, Tryd.ntmps82
  go_wp2_with (go_at_call 101; refine (m _).mono ?_; rintro r1 w1 ⟨rfl, rfl⟩)
  exact bodyPost_ret (v := two (h + q / 18446744073709551616 + (q % 18446744073709551616 + l) / 18446744073709551616) ((q % 18446744073709551616 + l) % 18446744073709551616)) (by simp [results, Tryd.results82, go_sem, two]) rfl ⟨_, _, rfl, unhide bw, unhide fin, ((Gr.refl _).alloc _).alloc _⟩
end Go.Proofs.YtpmgmpihmpifgaaDoor.Cv
