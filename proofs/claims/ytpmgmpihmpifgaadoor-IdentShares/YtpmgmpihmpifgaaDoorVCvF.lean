/-
  Two secrets' common key is not 0; the highest bit of a key does not count.
-/
import Derived.Test.YtpmgmpihmpifgaaDoorVAgree
import Derived.Test.YtpmgmpihmpifgaaDoorVComm
import Derived.Test.YtpmgmpihmpifgaaDoorVEdwB
namespace Go.Proofs.YtpmgmpihmpifgaaDoor.Cv
open Go.RowKit
set_option maxRecDepth 100000

theorem cl_eight (M : Nat) : cl M = 8 * (cl M / 8) ∧ 0 < cl M / 8 ∧ cl M / 8 < 7237005577332262213973186563042994240829374041602535252466099000494570602496 := by unfold cl; omega
theorem l1_big : 7237005577332262213973186563042994240829374041602535252466099000494570602496 ≤ Ed.l1 := by decide +kernel
theorem l2_big : 7237005577332262213973186563042994240829374041602535252466099000494570602496 ≤ Ed.l2 := by decide +kernel
theorem cl_255 (M : Nat) : cl M < 2 ^ 255 := by
  have : (2 : Nat) ^ 255 = 57896044618658097711785492504343953926634992332820282019728792003956564819968 := by decide +kernel
  rw [this]
  unfold cl
  omega
theorem not_dvd {l m : Nat} (h0 : 0 < m) (h : m < l) : ¬ l ∣ m := fun hd => absurd (Nat.le_of_dvd h0 hd) (by omega)
theorem nine_low : ¬ Ed.LowP 9 := by
  unfold Ed.LowP Ed.p Ed.c8 Ed.c9
  omega
theorem cl_num (M : Nat) : Ed.num (Ed.hi (cl M) 255) = 8 * (cl M / 8) ∧ ¬ Ed.l1 ∣ cl M / 8 ∧ ¬ Ed.l2 ∣ cl M / 8 := by
  obtain ⟨e1, e2, e3⟩ := cl_eight M
  exact ⟨by rw [Ed.num_all (cl_255 M)]; exact e1, not_dvd e2 (Nat.lt_of_lt_of_le e3 l1_big), not_dvd e2 (Nat.lt_of_lt_of_le e3 l2_big)⟩
/-- two secrets' common key is not 0 -/
theorem both_ne (a b : Nat) : xN a (xN b 9) ≠ 0 := by
  intro h
  have h1 := xN_ans b 9 nine
  have h2 := xN_ans a (xN b 9) (xN_lt b 9)
  rw [h] at h2
  obtain ⟨a1, a2, a3⟩ := cl_num a
  obtain ⟨b1, b2, b3⟩ := cl_num b
  refine nine_low (Ed.low_of2 b1 a1 b2 b3 a2 a3 h1 ?_)
  generalize Ed.ans (xN b 9 : Int) (Ed.hi (cl a) 255) = r at *
  have := Int.dvd_neg.2 h2
  rwa [show -(((0 : Nat) : Int) - r) = r from by omega] at this
theorem xN_top (M U V : Nat) (h : (U : Int) % 57896044618658097711785492504343953926634992332820282019728792003956564819968 = (V : Int) % 57896044618658097711785492504343953926634992332820282019728792003956564819968) : xN M U = xN M V := by
  unfold xN
  rw [xn_out, xn_out, h]
end Go.Proofs.YtpmgmpihmpifgaaDoor.Cv
