/-
  Plain facts on X: in whatever order; which bits count.
-/
import Derived.Test.YtpmgmpihmpifgaaDoorVPublic
namespace Go.Proofs.YtpmgmpihmpifgaaDoor.Cv
open Go.RowKit
set_option maxRecDepth 100000

theorem xN_lt (M U : Nat) : (xN M U : Int) < Ed.p := by
  rw [xN_cast, pp_p]
  exact Int.emod_lt_of_pos _ (by decide)
theorem small {U : Nat} (h : (U : Int) < Ed.p) : (U : Int) % 57896044618658097711785492504343953926634992332820282019728792003956564819968 = U :=
  Int.emod_eq_of_lt (by omega) (by unfold Ed.p at h; omega)
theorem xN_ans (M U : Nat) (h : (U : Int) < Ed.p) : Ed.p ∣ (xN M U : Int) - Ed.ans (U : Int) (Ed.hi (cl M) 255) := by
  have h1 := Ed.out_ans (U : Int) (cl M)
  have h2 := Ed.mod_sub (Ed.out (U : Int) (cl M))
  rw [xN_cast, xn_out, small h, pp_p]
  generalize Ed.out (U : Int) (cl M) = o at *
  generalize Ed.ans (U : Int) (Ed.hi (cl M) 255) = a at *
  have := Int.dvd_add h2 h1
  generalize o % Ed.p = r at *
  rwa [show r - o + (o - a) = r - a from by omega] at this
theorem nat_eq {a b : Nat} (ha : (a : Int) < Ed.p) (hb : (b : Int) < Ed.p) (h : Ed.p ∣ (a : Int) - b) : a = b :=
  Int.ofNat_inj.1 (Ed.eq_of ⟨by omega, ha⟩ ⟨by omega, hb⟩ h)
/-- two secrets, in either order -/
theorem x_comm (a b U : Nat) (h : (U : Int) < Ed.p) : xN a (xN b U) = xN b (xN a U) := by
  have h1 := xN_ans b U h
  have h2 := xN_ans a U h
  have h3 := Ed.ans_comm (U : Int) (xN b U : Int) (xN a U : Int) _ _ h1 h2
  have h4 := xN_ans a (xN b U) (xN_lt b U)
  have h5 := xN_ans b (xN a U) (xN_lt a U)
  refine nat_eq (xN_lt _ _) (xN_lt _ _) ?_
  generalize Ed.ans (xN b U : Int) (Ed.hi (cl a) 255) = r at *
  generalize Ed.ans (xN a U : Int) (Ed.hi (cl b) 255) = s at *
  generalize (xN a (xN b U) : Int) = x at *
  generalize (xN b (xN a U) : Int) = y at *
  have := Int.dvd_sub (Int.dvd_add h4 h3) h5
  rwa [show x - r + (r - s) - (y - s) = x - y from by omega] at this
theorem nine : ((9 : Nat) : Int) < Ed.p := by decide
/-- three secrets -/
theorem three1 (a b c : Nat) : xN c (xN a (xN b 9)) = xN a (xN b (xN c 9)) := by
  rw [x_comm b c 9 nine, x_comm a c (xN b 9) (xN_lt _ _)]
theorem three2 (a b c : Nat) : xN b (xN c (xN a 9)) = xN a (xN b (xN c 9)) := by
  rw [x_comm a b (xN c 9) (xN_lt _ _), x_comm a c 9 nine]

/-- the contracts, with answers that are letters -/
theorem x_n (M U : Nat) (w : World) : Calls Tryd.prog 40 #[.agg (kc (digs (M : Int) 32)), .agg (kc (digs (U : Int) 32))] w (fun r w' => ∃ n : Nat, r = .returned (.agg (kc (digs (n : Int) 32))) ∧ Hid (n = xN M U) ∧ Gr w w') :=
  (x_at M U w).mono fun _ _ h => ⟨_, h.1, rfl, h.2⟩
theorem public_n (M : Nat) (w : World) : Calls Tryd.prog 26 #[.agg (kc (digs (M : Int) 32))] w (fun r w' => ∃ n : Nat, r = .returned (.agg (kc (digs (n : Int) 32))) ∧ Hid (n = xN M 9) ∧ Gr w w') :=
  (public_at M w).mono fun _ _ h => ⟨_, h.1, rfl, h.2⟩
theorem clamp_n (M : Nat) (w : World) : Calls Tryd.prog 62 #[.agg (kc (digs (M : Int) 32))] w (fun r w' => ∃ n : Nat, r = .returned (.agg (kc (digs (n : Int) 32))) ∧ Hid (n = cl M) ∧ Gr w w') :=
  (clamp_ok M w).mono fun _ _ h => ⟨_, h.1, rfl, h.2⟩

/-- bits that do not count -/
theorem cl_same {M M' : Nat} (h : M % 28948022309329048855892746252171976963317496166410141009864396001978282409984 / 8 = M' % 28948022309329048855892746252171976963317496166410141009864396001978282409984 / 8) : cl M = cl M' := by
  unfold cl
  rw [h]
theorem cl_cl (M : Nat) : cl (cl M) = cl M := by
  unfold cl
  omega
theorem x_same {M M' U U' : Nat} (h : cl M = cl M') (h' : U % 57896044618658097711785492504343953926634992332820282019728792003956564819968 = U' % 57896044618658097711785492504343953926634992332820282019728792003956564819968) : xN M U = xN M' U' := by
  have e : (U : Int) % 57896044618658097711785492504343953926634992332820282019728792003956564819968 = (U' : Int) % 57896044618658097711785492504343953926634992332820282019728792003956564819968 := by omega
  unfold xN
  rw [xn_out, xn_out, h, e]
end Go.Proofs.YtpmgmpihmpifgaaDoor.Cv
