/-
  wakes returns true.
-/
import Derived.Test.YtcbdjijkliknoaaEqual
namespace Go.Proofs.Ytcbdjijkliknoaa
open Go.RowKit

theorem bs_one (w : World) (x : Int) (hx : 0 ≤ x ∧ x < 256) : Bs (w.alloc (.cells #[.int .u8 x] 5)) (some ⟨w.heap.size, 0, none⟩) 1 [x] := by
  refine ⟨rfl, by simpa using hx, fun _ => ⟨_, _, rfl, fun i hi => ?_⟩⟩
  obtain rfl : i = 0 := by omega
  simp
theorem bs_three (w : World) (x y z : Int) (hx : 0 ≤ x ∧ x < 256) (hy : 0 ≤ y ∧ y < 256) (hz : 0 ≤ z ∧ z < 256) : Bs (w.alloc (.cells #[.int .u8 x, .int .u8 y, .int .u8 z] 5)) (some ⟨w.heap.size, 0, none⟩) 3 [x, y, z] := by
  refine ⟨rfl, by simpa using ⟨hx, hy, hz⟩, fun _ => ⟨_, _, rfl, fun i hi => ?_⟩⟩
  match i, hi with
  | 0, _ => simp
  | 1, _ => simp
  | 2, _ => simp
theorem Below.new (w : World) (o : Obj) : Below w.heap.size w (w.alloc o) := (Below.refl _ _).alloc (Nat.le_refl _) _

theorem size_new (w : World) (o : Obj) : (w.alloc o).heap.size = w.heap.size + 1 := by simp

theorem equal_lits (w : World) (x y : Int) (hx : 0 ≤ x ∧ x < 256) (hy : 0 ≤ y ∧ y < 256) :
    Calls Try.prog 16 #[.slice (some ⟨w.heap.size, 0, none⟩) 1 1, .slice (some ⟨w.heap.size + 1, 0, none⟩) 1 1] ((w.alloc (.cells #[.int .u8 x] 5)).alloc (.cells #[.int .u8 y] 5)) fun e w' => e = .returned (.bool (decide ([x] = [y]))) ∧ Below w.heap.size w w' := by
  have h := bs_one (w.alloc (.cells #[.int .u8 x] 5)) y hy
  rw [size_new] at h
  refine (equal_any _ _ 1 1 1 1 [x] [y] _ ((bs_one w x hx).below (Below.new _ _)) h (by omega)).mono ?_
  rintro e w' ⟨he, hw⟩
  subst hw
  exact ⟨he, (Below.new w _).alloc (by simp) _⟩

set_option maxHeartbeats 400000 in
theorem wakes_any (w : World) : Calls Try.prog 9 #[] w fun e w' => e = .returned (.bool true) ∧ Below w.heap.size w w' := by
  go_enter Try.func9, Try.ntmps9
  go_wp2_with fail
  refine (read_any _ _ _ [2, 1, 5] _ (bs_three w 2 1 5 (by omega) (by omega) (by omega)) (by omega)).mono ?_
  rintro e w1 ⟨p, v, rfl, hp, hrd, hsl, hb⟩
  have hR1 : Rdr w1 p v [2, 1, 5] 0 0 := ⟨by simp, by simp, hrd, hsl⟩
  have hb1 : Below w.heap.size w w1 := (Below.new w _).trans (hb.mono (by simp))
  have hp1 : w.heap.size ≤ p := by simp at hp; omega
  clear hrd hsl hb hp
  go_wp2_with fail
  refine (u16_any p v [2, 1, 5] 0 0 w1 hR1 (by simp)).mono ?_
  rintro e w2 ⟨rfl, hR2, hbut⟩
  have e2 : (takeM [2, 1, 5] 0 0 2) = ([2, 1], 2, 0) := by decide
  rw [e2] at hR2 ⊢
  have e3 : lowN [2, 1] = 258 := by decide
  simp only [e3]
  have hb2 : Below w.heap.size w w2 := hb1.trans (hbut.below hp1)
  clear hb1 hbut hR1 e2 e3
  go_wp2_with fail
  refine (left_rdr p v [2, 1, 5] 2 0 w2 hR2).mono ?_
  rintro e w3 ⟨rfl, hs⟩
  have e4 : ((([2, 1, 5] : List Int).length : Int) - (2 : Nat)) = 1 := by decide
  rw [e4]
  have hb3 : Below w.heap.size w w3 := hb2.trans (hs.below _)
  clear hb2 hs hR2 e4
  have hz3 := hb3.size
  go_wp2_with fail
  refine (equal_lits w3 7 7 (by omega) (by omega)).mono ?_
  rintro e w4 ⟨rfl, hb4⟩
  have e5 : decide (([7] : List Int) = [7]) = true := by decide
  rw [e5]
  have hb5 : Below w.heap.size w w4 := hb3.trans (hb4.mono hz3)
  clear hb3 hb4 hz3 e5
  have hz5 := hb5.size
  go_wp2_with fail
  refine (equal_lits w4 7 8 (by omega) (by omega)).mono ?_
  rintro e w5 ⟨rfl, hb6⟩
  have e6 : decide (([7] : List Int) = [8]) = false := by decide
  rw [e6]
  have hb7 : Below w.heap.size w w5 := hb5.trans (hb6.mono hz5)
  clear hb5 hb6 hz5 e6
  go_wp2
  go_ret
  exact ⟨rfl, hb7⟩
end Go.Proofs.Ytcbdjijkliknoaa
