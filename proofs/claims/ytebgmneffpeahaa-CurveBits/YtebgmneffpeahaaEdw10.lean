/-
  Plain facts, of no program: the ladder as a plain function of the bits, highest first; two ladders in either order answer the same.
-/
import Derived.Test.YtebgmneffpeahaaEdw9
namespace Go.Proofs.Ytebgmneffpeahaa.Ed
open Go.Proofs.Ytebgmneffpeahaa.Pr
set_option maxRecDepth 100000

structure St where
  a : Int
  b : Int
  c : Int
  d : Int
def dX (X Z : Int) : Int := ((X + Z) * (X + Z)) * ((X - Z) * (X - Z))
def dZ (X Z : Int) : Int := ((X + Z) * (X + Z) - (X - Z) * (X - Z)) * ((X + Z) * (X + Z) + 121665 * ((X + Z) * (X + Z) - (X - Z) * (X - Z)))
def sX (X2 Z2 X3 Z3 : Int) : Int := ((X3 - Z3) * (X2 + Z2) + (X3 + Z3) * (X2 - Z2)) * ((X3 - Z3) * (X2 + Z2) + (X3 + Z3) * (X2 - Z2))
def sZ (u X2 Z2 X3 Z3 : Int) : Int := u * (((X3 - Z3) * (X2 + Z2) - (X3 + Z3) * (X2 - Z2)) * ((X3 - Z3) * (X2 + Z2) - (X3 + Z3) * (X2 - Z2)))
def stp (u : Int) (s : St) (t : Bool) : St :=
  match t with
  | false => ⟨dX s.a s.b, dZ s.a s.b, sX s.a s.b s.c s.d, sZ u s.a s.b s.c s.d⟩
  | true => ⟨sX s.a s.b s.c s.d, sZ u s.a s.b s.c s.d, dX s.c s.d, dZ s.c s.d⟩
def up (k : Nat) (t : Bool) : Nat :=
  match t with
  | false => 2 * k
  | true => 2 * k + 1
def num (bs : List Bool) : Nat := bs.foldl up 0
def lad (u : Int) (bs : List Bool) : St := bs.foldl (stp u) ⟨1, 0, u, 1⟩
/-- what the ladder answers -/
def ans (u : Int) (bs : List Bool) : Int := (lad u bs).a * inv (lad u bs).b

theorem run_fits {e d u : Int} {P : Pt} (ha : At e d u P) (hu0 : ¬ p ∣ u) : ∀ (bs : List Bool) (k : Nat) (s : St), Fits e d P k s.a s.b s.c s.d →
    Fits e d P (bs.foldl up k) (bs.foldl (stp u) s).a (bs.foldl (stp u) s).b (bs.foldl (stp u) s).c (bs.foldl (stp u) s).d
  | [], _, _, h => h
  | false :: bs, k, _, h => run_fits ha hu0 bs (2 * k) _ (fits_zero ha hu0 h)
  | true :: bs, k, _, h => run_fits ha hu0 bs (2 * k + 1) _ (fits_one ha hu0 h)
theorem ans_v {e d u : Int} {P : Pt} (ha : At e d u P) (hu0 : ¬ p ∣ u) (bs : List Bool) : p ∣ ans u bs - V e (mul d (num bs) P).y :=
  answer ha.1 (run_fits ha hu0 bs 0 _ (fits_start ha))

/-- the place 0 -/
def Nil (s : St) : Prop := p ∣ s.b ∧ p ∣ s.d ∧ p ∣ s.a * s.c
theorem nil_d (X Z : Int) (h : p ∣ Z) : p ∣ dZ X Z := by
  unfold dZ
  rw [show (X + Z) * (X + Z) - (X - Z) * (X - Z) = Z * (4 * X) from by grind]
  exact Int.dvd_mul_of_dvd_left (Int.dvd_mul_of_dvd_left h)
theorem nil_s {X2 Z2 X3 Z3 : Int} (h2 : p ∣ Z2) (h : p ∣ X2 * X3) : p ∣ sX X2 Z2 X3 Z3 := by
  unfold sX
  refine Int.dvd_mul_of_dvd_left ?_
  rw [show (X3 - Z3) * (X2 + Z2) + (X3 + Z3) * (X2 - Z2) = X2 * X3 * 2 - Z2 * (2 * Z3) from by grind]
  exact Int.dvd_sub (Int.dvd_mul_of_dvd_left h) (Int.dvd_mul_of_dvd_left h2)
theorem nil_stp {u : Int} (hu : p ∣ u) {s : St} (h : Nil s) (t : Bool) : Nil (stp u s t) := by
  obtain ⟨h1, h2, h3⟩ := h
  have hs := nil_s (Z3 := s.d) h1 h3
  have hz : p ∣ sZ u s.a s.b s.c s.d := Int.dvd_mul_of_dvd_left hu
  cases t
  · exact ⟨nil_d _ _ h1, hz, Int.dvd_mul_of_dvd_right hs⟩
  · exact ⟨hz, nil_d _ _ h2, Int.dvd_mul_of_dvd_left hs⟩
theorem nil_first {u : Int} (hu : p ∣ u) (t : Bool) : Nil (stp u ⟨1, 0, u, 1⟩ t) := by
  have hz : p ∣ sZ u 1 0 u 1 := Int.dvd_mul_of_dvd_left hu
  have hs : p ∣ sX 1 0 u 1 := by
    unfold sX
    rw [show (u - 1) * (1 + 0) + (u + 1) * (1 - 0) = u * 2 from by grind]
    exact Int.dvd_mul_of_dvd_left (Int.dvd_mul_of_dvd_left hu)
  cases t
  · exact ⟨nil_d _ _ ⟨0, rfl⟩, hz, Int.dvd_mul_of_dvd_right hs⟩
  · refine ⟨hz, ?_, Int.dvd_mul_of_dvd_left hs⟩
    show p ∣ dZ u 1
    unfold dZ
    rw [show (u + 1) * (u + 1) - (u - 1) * (u - 1) = u * 4 from by grind]
    exact Int.dvd_mul_of_dvd_left (Int.dvd_mul_of_dvd_left hu)
theorem nil_run {u : Int} (hu : p ∣ u) : ∀ (bs : List Bool) (s : St), Nil s → Nil (bs.foldl (stp u) s)
  | [], _, h => h
  | t :: bs, _, h => nil_run hu bs _ (nil_stp hu h t)
theorem ans_nil {u : Int} (hu : p ∣ u) : ∀ (bs : List Bool), p ∣ ans u bs
  | [] => by
    show p ∣ 1 * inv 0
    rw [inv_zero (z := 0) ⟨0, rfl⟩]
    exact ⟨0, rfl⟩
  | t :: bs => by
    have h := (nil_run hu bs _ (nil_first hu t)).1
    have h2 : inv (lad u (t :: bs)).b = 0 := inv_zero h
    unfold ans
    rw [h2]
    exact ⟨0, by omega⟩

/-- the ladder of an answer -/
theorem ans_again {e d u w : Int} {P : Pt} (ha : At e d u P) (hu0 : ¬ p ∣ u) (bs cs : List Bool) (hw : p ∣ w - ans u bs) : p ∣ ans w cs - V e (mul d (num cs * num bs) P).y := by
  have hv := ans_v ha hu0 bs
  have hwv : p ∣ w - V e (mul d (num bs) P).y := by
    have := Int.dvd_add hw hv
    rwa [show w - ans u bs + (ans u bs - V e (mul d (num bs) P).y) = w - V e (mul d (num bs) P).y from by omega] at this
  have hon := mul_on ha.1.ns ha.2.1 (num bs)
  rw [← mul_mul ha.1.ns ha.2.1]
  by_cases hn : p ∣ w
  · have h0 : p ∣ V e (mul d (num bs) P).y := by
      have := Int.dvd_sub hn hwv
      rwa [show w - (w - V e (mul d (num bs) P).y) = V e (mul d (num bs) P).y from by omega] at this
    exact Int.dvd_sub (ans_nil hn cs) (v_zero ha.1 hon h0 _)
  · exact ans_v (at_of ha.1 hon (mul_rd d P _) hwv hn) hn cs
/-- in either order -/
theorem ans_comm (u w w' : Int) (bs cs : List Bool) (hw : p ∣ w - ans u bs) (hw' : p ∣ w' - ans u cs) : p ∣ ans w cs - ans w' bs := by
  by_cases hu0 : p ∣ u
  · have h1 := Int.dvd_add hw (ans_nil hu0 bs)
    have h2 := Int.dvd_add hw' (ans_nil hu0 cs)
    rw [show w - ans u bs + ans u bs = w from by omega] at h1
    rw [show w' - ans u cs + ans u cs = w' from by omega] at h2
    exact Int.dvd_sub (ans_nil h1 cs) (ans_nil h2 bs)
  · obtain ⟨e, d, P, ha⟩ := choice u
    have h1 := ans_again ha hu0 bs cs hw
    have h2 := ans_again ha hu0 cs bs hw'
    rw [Nat.mul_comm] at h2
    have := Int.dvd_sub h1 h2
    generalize V e (mul d (num cs * num bs) P).y = v at this
    rwa [show ans w cs - v - (ans w' bs - v) = ans w cs - ans w' bs from by omega] at this
end Go.Proofs.Ytebgmneffpeahaa.Ed
