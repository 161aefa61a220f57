/-
  What least answers.
-/
import Derived.Test.YtpmgmpihmpifgaaDoorVLow
namespace Go.Proofs.YtpmgmpihmpifgaaDoor.Cv
open Go.RowKit
set_option maxRecDepth 100000

theorem least_val (a b c d e o1 o2 o3 o4 o5 u1 u2 u3 u4 : Int) (ha : 0 ≤ a ∧ a < 4503599627370496) (hb : 0 ≤ b ∧ b < 2251799813685248) (hc : 0 ≤ c ∧ c < 2251799813685248) (hd : 0 ≤ d ∧ d < 2251799813685248) (he : 0 ≤ e ∧ e < 2251799813685248)
    (e1 : (19 + a) / 2251799813685248 = o1) (e2 : (o1 + b) / 2251799813685248 = o2) (e3 : (o2 + c) / 2251799813685248 = o3) (e4 : (o3 + d) / 2251799813685248 = o4) (e5 : (o4 + e) / 2251799813685248 = o5)
    (f1 : (o5 * 19 + a) / 2251799813685248 = u1) (f2 : (u1 + b) / 2251799813685248 = u2) (f3 : (u2 + c) / 2251799813685248 = u3) (f4 : (u3 + d) / 2251799813685248 = u4) :
    val ((o5 * 19 + a) % 2251799813685248) ((u1 + b) % 2251799813685248) ((u2 + c) % 2251799813685248) ((u3 + d) % 2251799813685248) ((u4 + e) % 2251799813685248) = val a b c d e % pp := by
  have h5 : o5 = 0 ∨ o5 = 1 := by omega
  have hv : val a b c d e + 19 - 57896044618658097711785492504343953926634992332820282019728792003956564819968 * o5 ≥ 0 ∧ val a b c d e + 19 - 57896044618658097711785492504343953926634992332820282019728792003956564819968 * o5 < 57896044618658097711785492504343953926634992332820282019728792003956564819968 := by
    unfold val; omega
  have h0 : 0 ≤ val a b c d e ∧ val a b c d e < 57896044618658097711785492504343953926634992332820282019728796507556192190464 := by unfold val; omega
  have hr : val ((o5 * 19 + a) % 2251799813685248) ((u1 + b) % 2251799813685248) ((u2 + c) % 2251799813685248) ((u3 + d) % 2251799813685248) ((u4 + e) % 2251799813685248) = val a b c d e + 19 * o5 - 57896044618658097711785492504343953926634992332820282019728792003956564819968 * ((u4 + e) / 2251799813685248) := by
    unfold val; omega
  have hb : 0 ≤ val ((o5 * 19 + a) % 2251799813685248) ((u1 + b) % 2251799813685248) ((u2 + c) % 2251799813685248) ((u3 + d) % 2251799813685248) ((u4 + e) % 2251799813685248) ∧ val ((o5 * 19 + a) % 2251799813685248) ((u1 + b) % 2251799813685248) ((u2 + c) % 2251799813685248) ((u3 + d) % 2251799813685248) ((u4 + e) % 2251799813685248) < 57896044618658097711785492504343953926634992332820282019728792003956564819968 := by
    unfold val; omega
  rw [hr] at hb ⊢
  generalize val a b c d e = v at *
  generalize (u4 + e) / 2251799813685248 = t at *
  unfold pp
  clear e1 e2 e3 e4 e5 f1 f2 f3 f4 hr
  rcases h5 with rfl | rfl
  · have : t = 0 := by omega
    subst this
    omega
  · have : t = 1 := by omega
    subst this
    omega

/-- least, by definition -/
def Lst (a b c d e : Int) (r : Ending) (w w' : World) : Prop := ∃ y0 y1 y2 y3 y4, r = .returned (five y0 y1 y2 y3 y4) ∧ (0 ≤ y0 ∧ y0 < 2251799813685248) ∧ (0 ≤ y1 ∧ y1 < 2251799813685248) ∧ (0 ≤ y2 ∧ y2 < 2251799813685248) ∧ (0 ≤ y3 ∧ y3 < 2251799813685248) ∧ (0 ≤ y4 ∧ y4 < 2251799813685248) ∧ val y0 y1 y2 y3 y4 = val a b c d e % pp ∧ ∃ o o', w' = (w.alloc o).alloc o'

set_option maxHeartbeats 2000000 in
theorem least_ok (a b c d e : Int) (hf : Fit a b c d e) (w : World) :
    Calls Tryd.prog 85 #[five a b c d e] w (fun r w' => Lst a b c d e r w w') := by
  obtain ⟨ha, hb, hc, hd, he⟩ := hf
  have w1 := wrap_id (19 + a) (by omega) (by omega)
  generalize e1 : (19 + a) / 2251799813685248 = o1 at *
  have w2 := wrap_id (o1 + b) (by omega) (by omega)
  generalize e2 : (o1 + b) / 2251799813685248 = o2 at *
  have w3 := wrap_id (o2 + c) (by omega) (by omega)
  generalize e3 : (o2 + c) / 2251799813685248 = o3 at *
  have w4 := wrap_id (o3 + d) (by omega) (by omega)
  generalize e4 : (o3 + d) / 2251799813685248 = o4 at *
  have w5 := wrap_id (o4 + e) (by omega) (by omega)
  generalize e5 : (o4 + e) / 2251799813685248 = o5 at *
  have w6 := wrap_id (o5 * 19) (by omega) (by omega)
  have v1 := wrap_id (o5 * 19 + a) (by omega) (by omega)
  have m1 := mask51 (o5 * 19 + a) (by omega) (by omega)
  generalize f1 : (o5 * 19 + a) / 2251799813685248 = u1 at *
  have v2 := wrap_id (u1 + b) (by omega) (by omega)
  have m2 := mask51 (u1 + b) (by omega) (by omega)
  generalize f2 : (u1 + b) / 2251799813685248 = u2 at *
  have v3 := wrap_id (u2 + c) (by omega) (by omega)
  have m3 := mask51 (u2 + c) (by omega) (by omega)
  generalize f3 : (u2 + c) / 2251799813685248 = u3 at *
  have v4 := wrap_id (u3 + d) (by omega) (by omega)
  have m4 := mask51 (u3 + d) (by omega) (by omega)
  generalize f4 : (u3 + d) / 2251799813685248 = u4 at *
  have v5 := wrap_id (u4 + e) (by omega) (by omega)
  have m5 := mask51 (u4 + e) (by omega) (by omega)
  have fin := least_val a b c d e o1 o2 o3 o4 o5 u1 u2 u3 u4 ha hb hc hd he e1 e2 e3 e4 e5 f1 f2 f3 f4
  replace fin := hide fin
  replace ha := hide ha; replace hb := hide hb; replace hc := hide hc; replace hd := hide hd; replace he := hide he
  have i0 : ∀ w, (Instr.index 89 (five a b c d e) (.int .i64 0)).run Tryd.prog w = .ok (.int .u64 a) w := fun _ => by kernel_rfl
  have i1 : ∀ w, (Instr.index 89 (five a b c d e) (.int .i64 1)).run Tryd.prog w = .ok (.int .u64 b) w := fun _ => by kernel_rfl
  have i2 : ∀ w, (Instr.index 89 (five a b c d e) (.int .i64 2)).run Tryd.prog w = .ok (.int .u64 c) w := fun _ => by kernel_rfl
  have i3 : ∀ w, (Instr.index 89 (five a b c d e) (.int .i64 3)).run Tryd.prog w = .ok (.int .u64 d) w := fun _ => by kernel_rfl
  have i4 : ∀ w, (Instr.index 89 (five a b c d e) (.int .i64 4)).run Tryd.prog w = .ok (.int .u64 e) w := fun _ => by kernel_rfl
  unfold five at *
  go_enter Tryd.func85, Tryd.ntmps85
  go_wp2_with fail
  refine wp_loop_rounds 6 ?_
  rw [rounds_succ]
  go_wp2_with fail
  rw [rounds_succ]
  go_wp2_with fail
  rw [rounds_succ]
  go_wp2_with fail
  rw [rounds_succ]
  go_wp2_with fail
  rw [rounds_succ]
  go_wp2_with fail
  rw [rounds_succ]
  go_wp2_with fail
  refine wp_loop_rounds 6 ?_
  rw [rounds_succ]
  go_wp2_with fail
  rw [rounds_succ]
  go_wp2_with fail
  rw [rounds_succ]
  go_wp2_with fail
  rw [rounds_succ]
  go_wp2_with fail
  rw [rounds_succ]
  go_wp2_with fail
  rw [rounds_succ]
  go_wp2_with fail
  exact bodyPost_ret (v := five ((o5 * 19 + a) % 2251799813685248) ((u1 + b) % 2251799813685248) ((u2 + c) % 2251799813685248) ((u3 + d) % 2251799813685248) ((u4 + e) % 2251799813685248)) (by simp [results, Tryd.results85, go_sem, five]) rfl
    ⟨_, _, _, _, _, rfl, by omega, by omega, by omega, by omega, by omega, unhide fin, _, _, rfl⟩
end Go.Proofs.YtpmgmpihmpifgaaDoor.Cv
