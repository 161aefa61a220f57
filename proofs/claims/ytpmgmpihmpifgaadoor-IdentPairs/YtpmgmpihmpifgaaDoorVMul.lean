/-
  What Mul answers.
-/
import Derived.Test.YtpmgmpihmpifgaaDoorVNarrow
import Derived.Test.YtpmgmpihmpifgaaDoorVMulMath
import Derived.Test.YtpmgmpihmpifgaaDoorVKit
import Derived.BigQuiet
import Derived.Deep.RegionHeld3
import Derived.Deep.DrawnRows
namespace Go.Proofs.YtpmgmpihmpifgaaDoor.Cv
open Go.RowKit
set_option maxRecDepth 100000
attribute [local go_sem ↓] Go.wp_at_zero Go.wp_at_succ

/-- a sum of the number n -/
def Sm (h l n : Int) : Prop := W2 h l ∧ num2 h l = n
/-- a word -/
def Wd (x : Int) : Prop := 0 ≤ x ∧ x < 18446744073709551616
/-- no sum that is too great -/
def Lo (n : Int) : Prop := n < 340282366920938463463374607431768211456

/-- the next sum -/
def Nx (n x y n' : Int) : Prop := Wd x ∧ Wd y ∧ n' = n + x * y ∧ Lo n'
theorem and_at (h l x y n n' : Int) (hs : Hid (Sm h l n)) (hx : Hid (Nx n x y n')) (w : World) :
    Calls Tryd.prog 82 #[.agg #[.int .u64 h, .int .u64 l], .int .u64 x, .int .u64 y] w (fun r w' => ∃ h' l', r = .returned (.agg #[.int .u64 h', .int .u64 l']) ∧ Hid (Sm h' l' n') ∧ Gr w w') := by
  obtain ⟨vx, vy, e2, hn⟩ := unhide hx
  clear hx
  have e := (unhide hs).2
  subst e
  subst e2
  refine (and_ok h l x y (unhide hs).1 vx vy hn w).mono ?_
  rintro r w' ⟨h', l', h1, h2, h3, h4⟩
  exact ⟨h', l', h1, hide ⟨h2, h3⟩, h4⟩

/-- bounds for narrowed -/
def Nb (a b c d e : Int) : Prop := a < 2596148429267413814265248164610048 ∧ b < 2596148429267413814265248164610048 ∧ c < 2596148429267413814265248164610048 ∧ d < 2596148429267413814265248164610048 ∧ e < 162259276829213363391578010288128

theorem narrow_at (ah al bh bl ch cl dh dl eh el a b c d e : Int) (ha : Hid (Sm ah al a)) (hb : Hid (Sm bh bl b)) (hc : Hid (Sm ch cl c)) (hd : Hid (Sm dh dl d)) (he : Hid (Sm eh el e)) (hn : Hid (Nb a b c d e)) (w : World) :
    Calls Tryd.prog 81 #[.agg #[.int .u64 ah, .int .u64 al], .agg #[.int .u64 bh, .int .u64 bl], .agg #[.int .u64 ch, .int .u64 cl], .agg #[.int .u64 dh, .int .u64 dl], .agg #[.int .u64 eh, .int .u64 el]] w (Reck (val a b c d e) w) :=
  narrowed_ok ah al bh bl ch cl dh dl eh el a b c d e (unhide ha).1 (unhide hb).1 (unhide hc).1 (unhide hd).1 (unhide he).1 (unhide ha).2 (unhide hb).2 (unhide hc).2 (unhide hd).2 (unhide he).2 (unhide hn).1 (unhide hn).2.1 (unhide hn).2.2.1 (unhide hn).2.2.2.1 (unhide hn).2.2.2.2 w

theorem four (w : World) (o0 o1 o2 o3 : Obj) (k : Nat) (u : World) (h : ((((w.alloc o0).alloc o1).alloc o2).drewN k).alloc o3 = u) :
    Gr w u ∧ u.heap[w.heap.size + 1 + 1]? = some o2 ∧ u.heap[w.heap.size + 1 + 1 + 1]? = some o3 := by
  have e : ∀ v : World, (v.drewN k).heap = v.heap := fun _ => rfl
  rw [← h]
  refine ⟨((((Gr.refl _).alloc _).alloc _).alloc _).drewN k |>.alloc _, ?_, ?_⟩ <;> (simp only [blk_alloc, size_alloc, e]; repeat (first | rw [if_pos trivial] | rw [if_pos (by omega)] | rw [if_neg (by omega)]))

set_option maxHeartbeats 16000000 in
theorem mul_ok (m n a0 a1 a2 a3 a4 b0 b1 b2 b3 b4 : Int) (h : Rep m a0 a1 a2 a3 a4) (h' : Rep n b0 b1 b2 b3 b4) (w : World) :
    Calls Tryd.prog 64 #[five a0 a1 a2 a3 a4, five b0 b1 b2 b3 b4] w (Reck (m * n) w) := by
  obtain ⟨⟨ha0, ha1, ha2, ha3, ha4⟩, hv⟩ := h
  obtain ⟨⟨hb0, hb1, hb2, hb3, hb4⟩, hv'⟩ := h'
  have hm := mul_mod m n _ _ hv hv'
  rw [← mul_val, Int.add_mul_emod_self_left] at hm
  clear hv hv'
  have ww1 := wrap_id (b1 * 19) (by omega) (by omega)
  have hw1 : 0 ≤ b1 * 19 ∧ b1 * 19 < 42784196460019712 := by omega
  generalize ew1 : b1 * 19 = w1 at *
  have ww2 := wrap_id (b2 * 19) (by omega) (by omega)
  have hw2 : 0 ≤ b2 * 19 ∧ b2 * 19 < 42784196460019712 := by omega
  generalize ew2 : b2 * 19 = w2 at *
  have ww3 := wrap_id (b3 * 19) (by omega) (by omega)
  have hw3 : 0 ≤ b3 * 19 ∧ b3 * 19 < 42784196460019712 := by omega
  generalize ew3 : b3 * 19 = w3 at *
  have ww4 := wrap_id (b4 * 19) (by omega) (by omega)
  have hw4 : 0 ≤ b4 * 19 ∧ b4 * 19 < 42784196460019712 := by omega
  generalize ew4 : b4 * 19 = w4 at *
  have p0b0 := prod_lt ha0 hb0
  have p1w4 := prod_lt ha1 hw4
  have p2w3 := prod_lt ha2 hw3
  have p3w2 := prod_lt ha3 hw2
  have p4w1 := prod_lt ha4 hw1
  have p0b1 := prod_lt ha0 hb1
  have p1b0 := prod_lt ha1 hb0
  have p2w4 := prod_lt ha2 hw4
  have p3w3 := prod_lt ha3 hw3
  have p4w2 := prod_lt ha4 hw2
  have p0b2 := prod_lt ha0 hb2
  have p1b1 := prod_lt ha1 hb1
  have p2b0 := prod_lt ha2 hb0
  have p3w4 := prod_lt ha3 hw4
  have p4w3 := prod_lt ha4 hw3
  have p0b3 := prod_lt ha0 hb3
  have p1b2 := prod_lt ha1 hb2
  have p2b1 := prod_lt ha2 hb1
  have p3b0 := prod_lt ha3 hb0
  have p4w4 := prod_lt ha4 hw4
  have p0b4 := prod_lt ha0 hb4
  have p1b3 := prod_lt ha1 hb3
  have p2b2 := prod_lt ha2 hb2
  have p3b1 := prod_lt ha3 hb1
  have p4b0 := prod_lt ha4 hb0
  have s00e : ∃ s, s = (0 : Int) + a0 * b0 := ⟨_, rfl⟩
  obtain ⟨s00, s00e⟩ := s00e
  have s01e : ∃ s, s = s00 + a1 * w4 := ⟨_, rfl⟩
  obtain ⟨s01, s01e⟩ := s01e
  have s02e : ∃ s, s = s01 + a2 * w3 := ⟨_, rfl⟩
  obtain ⟨s02, s02e⟩ := s02e
  have s03e : ∃ s, s = s02 + a3 * w2 := ⟨_, rfl⟩
  obtain ⟨s03, s03e⟩ := s03e
  have s04e : ∃ s, s = s03 + a4 * w1 := ⟨_, rfl⟩
  obtain ⟨s04, s04e⟩ := s04e
  have s10e : ∃ s, s = (0 : Int) + a0 * b1 := ⟨_, rfl⟩
  obtain ⟨s10, s10e⟩ := s10e
  have s11e : ∃ s, s = s10 + a1 * b0 := ⟨_, rfl⟩
  obtain ⟨s11, s11e⟩ := s11e
  have s12e : ∃ s, s = s11 + a2 * w4 := ⟨_, rfl⟩
  obtain ⟨s12, s12e⟩ := s12e
  have s13e : ∃ s, s = s12 + a3 * w3 := ⟨_, rfl⟩
  obtain ⟨s13, s13e⟩ := s13e
  have s14e : ∃ s, s = s13 + a4 * w2 := ⟨_, rfl⟩
  obtain ⟨s14, s14e⟩ := s14e
  have s20e : ∃ s, s = (0 : Int) + a0 * b2 := ⟨_, rfl⟩
  obtain ⟨s20, s20e⟩ := s20e
  have s21e : ∃ s, s = s20 + a1 * b1 := ⟨_, rfl⟩
  obtain ⟨s21, s21e⟩ := s21e
  have s22e : ∃ s, s = s21 + a2 * b0 := ⟨_, rfl⟩
  obtain ⟨s22, s22e⟩ := s22e
  have s23e : ∃ s, s = s22 + a3 * w4 := ⟨_, rfl⟩
  obtain ⟨s23, s23e⟩ := s23e
  have s24e : ∃ s, s = s23 + a4 * w3 := ⟨_, rfl⟩
  obtain ⟨s24, s24e⟩ := s24e
  have s30e : ∃ s, s = (0 : Int) + a0 * b3 := ⟨_, rfl⟩
  obtain ⟨s30, s30e⟩ := s30e
  have s31e : ∃ s, s = s30 + a1 * b2 := ⟨_, rfl⟩
  obtain ⟨s31, s31e⟩ := s31e
  have s32e : ∃ s, s = s31 + a2 * b1 := ⟨_, rfl⟩
  obtain ⟨s32, s32e⟩ := s32e
  have s33e : ∃ s, s = s32 + a3 * b0 := ⟨_, rfl⟩
  obtain ⟨s33, s33e⟩ := s33e
  have s34e : ∃ s, s = s33 + a4 * w4 := ⟨_, rfl⟩
  obtain ⟨s34, s34e⟩ := s34e
  have s40e : ∃ s, s = (0 : Int) + a0 * b4 := ⟨_, rfl⟩
  obtain ⟨s40, s40e⟩ := s40e
  have s41e : ∃ s, s = s40 + a1 * b3 := ⟨_, rfl⟩
  obtain ⟨s41, s41e⟩ := s41e
  have s42e : ∃ s, s = s41 + a2 * b2 := ⟨_, rfl⟩
  obtain ⟨s42, s42e⟩ := s42e
  have s43e : ∃ s, s = s42 + a3 * b1 := ⟨_, rfl⟩
  obtain ⟨s43, s43e⟩ := s43e
  have s44e : ∃ s, s = s43 + a4 * b0 := ⟨_, rfl⟩
  obtain ⟨s44, s44e⟩ := s44e
  replace hm : val s04 s14 s24 s34 s44 % pp = m * n % pp := by
    rw [s04e, s03e, s02e, s01e, s00e, s14e, s13e, s12e, s11e, s10e, s24e, s23e, s22e, s21e, s20e, s34e, s33e, s32e, s31e, s30e, s44e, s43e, s42e, s41e, s40e]
    exact hm
  replace hm := hide hm
  have n00 : Hid (Nx 0 a0 b0 s00) := hide ⟨⟨by omega, by omega⟩, ⟨by omega, by omega⟩, s00e, by unfold Lo; omega⟩
  have n01 : Hid (Nx s00 a1 w4 s01) := hide ⟨⟨by omega, by omega⟩, ⟨by omega, by omega⟩, s01e, by unfold Lo; omega⟩
  have n02 : Hid (Nx s01 a2 w3 s02) := hide ⟨⟨by omega, by omega⟩, ⟨by omega, by omega⟩, s02e, by unfold Lo; omega⟩
  have n03 : Hid (Nx s02 a3 w2 s03) := hide ⟨⟨by omega, by omega⟩, ⟨by omega, by omega⟩, s03e, by unfold Lo; omega⟩
  have n04 : Hid (Nx s03 a4 w1 s04) := hide ⟨⟨by omega, by omega⟩, ⟨by omega, by omega⟩, s04e, by unfold Lo; omega⟩
  have n10 : Hid (Nx 0 a0 b1 s10) := hide ⟨⟨by omega, by omega⟩, ⟨by omega, by omega⟩, s10e, by unfold Lo; omega⟩
  have n11 : Hid (Nx s10 a1 b0 s11) := hide ⟨⟨by omega, by omega⟩, ⟨by omega, by omega⟩, s11e, by unfold Lo; omega⟩
  have n12 : Hid (Nx s11 a2 w4 s12) := hide ⟨⟨by omega, by omega⟩, ⟨by omega, by omega⟩, s12e, by unfold Lo; omega⟩
  have n13 : Hid (Nx s12 a3 w3 s13) := hide ⟨⟨by omega, by omega⟩, ⟨by omega, by omega⟩, s13e, by unfold Lo; omega⟩
  have n14 : Hid (Nx s13 a4 w2 s14) := hide ⟨⟨by omega, by omega⟩, ⟨by omega, by omega⟩, s14e, by unfold Lo; omega⟩
  have n20 : Hid (Nx 0 a0 b2 s20) := hide ⟨⟨by omega, by omega⟩, ⟨by omega, by omega⟩, s20e, by unfold Lo; omega⟩
  have n21 : Hid (Nx s20 a1 b1 s21) := hide ⟨⟨by omega, by omega⟩, ⟨by omega, by omega⟩, s21e, by unfold Lo; omega⟩
  have n22 : Hid (Nx s21 a2 b0 s22) := hide ⟨⟨by omega, by omega⟩, ⟨by omega, by omega⟩, s22e, by unfold Lo; omega⟩
  have n23 : Hid (Nx s22 a3 w4 s23) := hide ⟨⟨by omega, by omega⟩, ⟨by omega, by omega⟩, s23e, by unfold Lo; omega⟩
  have n24 : Hid (Nx s23 a4 w3 s24) := hide ⟨⟨by omega, by omega⟩, ⟨by omega, by omega⟩, s24e, by unfold Lo; omega⟩
  have n30 : Hid (Nx 0 a0 b3 s30) := hide ⟨⟨by omega, by omega⟩, ⟨by omega, by omega⟩, s30e, by unfold Lo; omega⟩
  have n31 : Hid (Nx s30 a1 b2 s31) := hide ⟨⟨by omega, by omega⟩, ⟨by omega, by omega⟩, s31e, by unfold Lo; omega⟩
  have n32 : Hid (Nx s31 a2 b1 s32) := hide ⟨⟨by omega, by omega⟩, ⟨by omega, by omega⟩, s32e, by unfold Lo; omega⟩
  have n33 : Hid (Nx s32 a3 b0 s33) := hide ⟨⟨by omega, by omega⟩, ⟨by omega, by omega⟩, s33e, by unfold Lo; omega⟩
  have n34 : Hid (Nx s33 a4 w4 s34) := hide ⟨⟨by omega, by omega⟩, ⟨by omega, by omega⟩, s34e, by unfold Lo; omega⟩
  have n40 : Hid (Nx 0 a0 b4 s40) := hide ⟨⟨by omega, by omega⟩, ⟨by omega, by omega⟩, s40e, by unfold Lo; omega⟩
  have n41 : Hid (Nx s40 a1 b3 s41) := hide ⟨⟨by omega, by omega⟩, ⟨by omega, by omega⟩, s41e, by unfold Lo; omega⟩
  have n42 : Hid (Nx s41 a2 b2 s42) := hide ⟨⟨by omega, by omega⟩, ⟨by omega, by omega⟩, s42e, by unfold Lo; omega⟩
  have n43 : Hid (Nx s42 a3 b1 s43) := hide ⟨⟨by omega, by omega⟩, ⟨by omega, by omega⟩, s43e, by unfold Lo; omega⟩
  have n44 : Hid (Nx s43 a4 b0 s44) := hide ⟨⟨by omega, by omega⟩, ⟨by omega, by omega⟩, s44e, by unfold Lo; omega⟩
  have nb : Hid (Nb s04 s14 s24 s34 s44) := hide ⟨by omega, by omega, by omega, by omega, by omega⟩
  clear p0b0 p1w4 p2w3 p3w2 p4w1 p0b1 p1b0 p2w4 p3w3 p4w2 p0b2 p1b1 p2b0 p3w4 p4w3 p0b3 p1b2 p2b1 p3b0 p4w4 p0b4 p1b3 p2b2 p3b1 p4b0 s04e s03e s02e s01e s00e s14e s13e s12e s11e s10e s24e s23e s22e s21e s20e s34e s33e s32e s31e s30e s44e s43e s42e s41e s40e ha0 hb0 ha1 hb1 ha2 hb2 ha3 hb3 ha4 hb4 hw1 hw2 hw3 hw4
  have s0 : Hid (Sm 0 0 0) := hide ⟨⟨by omega, by omega⟩, rfl⟩
  unfold five
  go_enter Tryd.func64, Tryd.ntmps64
  go_wp2_with fail
  go_quiet (fail)
  all_goals go_wp2_with fail
  go_quiet (fail)
  all_goals go_wp2_with fail
  simp only [List.append_eq, List.cons_append, List.nil_append]
  generalize hW : World.alloc _ _ = u
  obtain ⟨hg0, B2, B3⟩ := four w _ _ _ _ _ u hW
  have hS0 : u.cell? ⟨w.heap.size + 1 + 1 + 1, 0, none⟩ = some (.int .u64 0) ∧ u.cell? ⟨w.heap.size + 1 + 1 + 1, 1, none⟩ = some (.int .u64 0) ∧ Hid (Res w (w.heap.size + 1 + 1) 5 91 u) :=
    ⟨cell_of B3 rfl, cell_of B3 rfl, hide ⟨hg0, by omega, _, rfl, B2⟩⟩
  have keepS : ∀ u v : World, Gr u v → (u.cell? ⟨w.heap.size + 1 + 1 + 1, 0, none⟩ = some (.int .u64 0) ∧ u.cell? ⟨w.heap.size + 1 + 1 + 1, 1, none⟩ = some (.int .u64 0) ∧ Hid (Res w (w.heap.size + 1 + 1) 5 91 u)) → (v.cell? ⟨w.heap.size + 1 + 1 + 1, 0, none⟩ = some (.int .u64 0) ∧ v.cell? ⟨w.heap.size + 1 + 1 + 1, 1, none⟩ = some (.int .u64 0) ∧ Hid (Res w (w.heap.size + 1 + 1) 5 91 v)) :=
    fun u v g h => ⟨g.cell h.1, g.cell h.2.1, hide ((unhide h.2.2).gr g)⟩
  replace keepS := hide keepS
  have keepT : ∀ (v : World) (x0 x1 x2 x3 x4 : Value), (v.cell? ⟨w.heap.size + 1 + 1 + 1, 0, none⟩ = some (.int .u64 0) ∧ v.cell? ⟨w.heap.size + 1 + 1 + 1, 1, none⟩ = some (.int .u64 0) ∧ Hid (Res w (w.heap.size + 1 + 1) 5 91 v)) → ((((((v.setCell ⟨w.heap.size + 1 + 1, 0, none⟩ x0).setCell ⟨w.heap.size + 1 + 1, 1, none⟩ x1).setCell ⟨w.heap.size + 1 + 1, 2, none⟩ x2).setCell ⟨w.heap.size + 1 + 1, 3, none⟩ x3).setCell ⟨w.heap.size + 1 + 1, 4, none⟩ x4).cell? ⟨w.heap.size + 1 + 1 + 1, 0, none⟩ = some (.int .u64 0) ∧ (((((v.setCell ⟨w.heap.size + 1 + 1, 0, none⟩ x0).setCell ⟨w.heap.size + 1 + 1, 1, none⟩ x1).setCell ⟨w.heap.size + 1 + 1, 2, none⟩ x2).setCell ⟨w.heap.size + 1 + 1, 3, none⟩ x3).setCell ⟨w.heap.size + 1 + 1, 4, none⟩ x4).cell? ⟨w.heap.size + 1 + 1 + 1, 1, none⟩ = some (.int .u64 0) ∧ Hid (Res w (w.heap.size + 1 + 1) 5 91 (((((v.setCell ⟨w.heap.size + 1 + 1, 0, none⟩ x0).setCell ⟨w.heap.size + 1 + 1, 1, none⟩ x1).setCell ⟨w.heap.size + 1 + 1, 2, none⟩ x2).setCell ⟨w.heap.size + 1 + 1, 3, none⟩ x3).setCell ⟨w.heap.size + 1 + 1, 4, none⟩ x4))) := fun v x0 x1 x2 x3 x4 h => ⟨set5c (by omega) h.1, set5c (by omega) h.2.1, hide ((unhide h.2.2).set5 x0 x1 x2 x3 x4)⟩
  replace keepT := hide keepT
  clear hW B2 B3 hg0
  go_region_held3 (fun v => v.cell? ⟨w.heap.size + 1 + 1 + 1, 0, none⟩ = some (.int .u64 0) ∧ v.cell? ⟨w.heap.size + 1 + 1 + 1, 1, none⟩ = some (.int .u64 0) ∧ Hid (Res w (w.heap.size + 1 + 1) 5 91 v))
    (first | with_reducible exact unhide keepS _ _ (by assumption) (by assumption) | with_reducible exact unhide keepS _ _ (Gr.refl _).drew (by assumption) | with_reducible exact unhide keepT _ _ _ _ _ _ (by assumption))
    (first
      | (go_at_call 81; refine (narrow_at _ _ _ _ _ _ _ _ _ _ _ _ _ _ _ (by assumption) (by assumption) (by assumption) (by assumption) (by assumption) (by assumption) _).mono ?_; rintro r w' ⟨y0, y1, y2, y3, y4, rfl, hR, hg⟩; have hS := unhide keepS _ _ hg (by assumption); clear n00 n01 n02 n03 n04 n10 n11 n12 n13 n14 n20 n21 n22 n23 n24 n30 n31 n32 n33 n34 n40 n41 n42 n43 n44 nb s0 ww1 ww2 ww3 ww4 ew1 ew2 ew3 ew4; replace hR := hide hR; have hE := unhide hS.2.2; obtain ⟨q0, q1, q2, q3, q4, hq0, hq1, hq2, hq3, hq4, z0, z1, z2, z3, z4⟩ := hE.five; have hF := hide (hE.set5 (.int .u64 y0) (.int .u64 y1) (.int .u64 y2) (.int .u64 y3) (.int .u64 y4)); unfold five)
      | (go_at_call 82; (try clear hg); refine (and_at _ _ _ _ _ _ (by assumption) (by assumption) _).mono ?_; rintro r w' ⟨h1, l1, rfl, hs, hg⟩))
  all_goals go_wp2_with fail
  all_goals refine bodyPost_ret (v := five y0 y1 y2 y3 y4) ?_ rfl ?_
  · simp [results, Tryd.results64, go_sem, five, hq0, hq1, hq2, hq3, hq4]
  · exact ⟨_, _, _, _, _, rfl, ⟨(unhide hR).1, (unhide hR).2.trans (unhide hm)⟩, (unhide hF).1⟩
end Go.Proofs.YtpmgmpihmpifgaaDoor.Cv
