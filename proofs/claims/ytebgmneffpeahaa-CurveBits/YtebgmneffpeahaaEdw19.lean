/-
  Plain facts, of no program: the ladder of a key's number, bit by bit from 254 down; what it answers, reckoned for the secret 0.
-/
import Derived.Test.YtebgmneffpeahaaEdw10
namespace Go.Proofs.Ytebgmneffpeahaa.Ed
open Go.Proofs.Ytebgmneffpeahaa.Pr
set_option maxRecDepth 100000

/-- the bit t -/
def bt (M t : Nat) : Bool := M / 2 ^ t % 2 == 1
/-- the n highest bits of 255 -/
def hi (M : Nat) : Nat → List Bool
  | 0 => []
  | n + 1 => hi M n ++ [bt M (254 - n)]
theorem num_app (bs : List Bool) (t : Bool) : num (bs ++ [t]) = up (num bs) t := by
  unfold num
  rw [List.foldl_append]
  rfl
theorem lad_app (u : Int) (bs : List Bool) (t : Bool) : lad u (bs ++ [t]) = stp u (lad u bs) t := by
  unfold lad
  rw [List.foldl_append]
  rfl
theorem num_hi {M : Nat} (hM : M < 2 ^ 255) : ∀ n, n ≤ 255 → num (hi M n) = M / 2 ^ (255 - n)
  | 0, _ => by
    rw [Nat.sub_zero, Nat.div_eq_of_lt hM]
    rfl
  | n + 1, h => by
    show num (hi M n ++ [bt M (254 - n)]) = _
    rw [num_app, num_hi hM n (by omega), show 255 - n = (254 - n) + 1 from by omega, show 255 - (n + 1) = 254 - n from by omega, Nat.pow_succ, ← Nat.div_div_eq_div_mul]
    unfold bt
    generalize M / 2 ^ (254 - n) = x
    rcases (show x % 2 = 0 ∨ x % 2 = 1 by omega) with e | e
    · rw [e]
      show 2 * (x / 2) = x
      omega
    · rw [e]
      show 2 * (x / 2) + 1 = x
      omega
theorem num_all {M : Nat} (hM : M < 2 ^ 255) : num (hi M 255) = M := by
  rw [num_hi hM 255 (Nat.le_refl _), Nat.sub_self, Nat.pow_zero, Nat.div_one]

/-- what X reckons -/
def out (u : Int) (M : Nat) : Int := (lad u (hi M 255)).a * (lad u (hi M 255)).b ^ (PP - 2)
theorem inv_pow (z : Int) : p ∣ z ^ (PP - 2) - inv z := by
  have h : p ∣ z - z % p := by
    have := mod_sub z
    have := Int.dvd_neg.2 this
    generalize z % p = r at *
    rwa [show -(r - z) = z - r from by omega] at this
  unfold inv
  exact pow_cong h _
theorem out_ans (u : Int) (M : Nat) : p ∣ out u M - ans u (hi M 255) := by
  unfold out ans
  have := inv_pow (lad u (hi M 255)).b
  generalize (lad u (hi M 255)).b ^ (PP - 2) = x at *
  generalize inv (lad u (hi M 255)).b = y at *
  generalize (lad u (hi M 255)).a = z at *
  rw [show z * x - z * y = z * (x - y) from by grind]
  exact Int.dvd_mul_of_dvd_right this

/-- alike modulo p -/
def Cg (a b : Int) : Prop := p ∣ a - b
theorem Cg.refl (a : Int) : Cg a a := ⟨0, by omega⟩
theorem Cg.add {a b c d : Int} (h : Cg a b) (k : Cg c d) : Cg (a + c) (b + d) := by
  unfold Cg at *
  rw [show a + c - (b + d) = (a - b) + (c - d) from by omega]
  exact Int.dvd_add h k
theorem Cg.sub {a b c d : Int} (h : Cg a b) (k : Cg c d) : Cg (a - c) (b - d) := by
  unfold Cg at *
  rw [show a - c - (b - d) = (a - b) - (c - d) from by omega]
  exact Int.dvd_sub h k
theorem Cg.mul {a b c d : Int} (h : Cg a b) (k : Cg c d) : Cg (a * c) (b * d) := by
  unfold Cg at *
  rw [show a * c - b * d = (a - b) * c + b * (c - d) from by grind]
  exact Int.dvd_add (Int.dvd_mul_of_dvd_left h) (Int.dvd_mul_of_dvd_right k)
theorem Cg.symm {a b : Int} (h : Cg a b) : Cg b a := by
  unfold Cg at *
  have := Int.dvd_neg.2 h
  rwa [show -(a - b) = b - a from by omega] at this
theorem Cg.trans {a b c : Int} (h : Cg a b) (k : Cg b c) : Cg a c := by
  unfold Cg at *
  have := Int.dvd_add h k
  rwa [show a - b + (b - c) = a - c from by omega] at this
theorem Cg.modL {a b : Int} (h : Cg a b) : Cg (a % p) b := Cg.trans (mod_sub a) h
theorem Cg.eq {a b : Int} (h : Cg a b) : a % p = b % p := Int.emod_eq_emod_iff_emod_sub_eq_zero.2 (Int.emod_eq_zero_of_dvd h)
theorem Cg.of {a b : Int} (h : a % p = b % p) : Cg a b := Int.dvd_of_emod_eq_zero (Int.emod_eq_emod_iff_emod_sub_eq_zero.1 h)
theorem cg_dX {X Z X' Z' : Int} (h : Cg X X') (k : Cg Z Z') : Cg (dX X Z) (dX X' Z') := ((h.add k).mul (h.add k)).mul ((h.sub k).mul (h.sub k))
theorem cg_dZ {X Z X' Z' : Int} (h : Cg X X') (k : Cg Z Z') : Cg (dZ X Z) (dZ X' Z') :=
  (((h.add k).mul (h.add k)).sub ((h.sub k).mul (h.sub k))).mul (((h.add k).mul (h.add k)).add ((Cg.refl 121665).mul (((h.add k).mul (h.add k)).sub ((h.sub k).mul (h.sub k)))))
theorem cg_sX {X Z Y W X' Z' Y' W' : Int} (a : Cg X X') (b : Cg Z Z') (c : Cg Y Y') (d : Cg W W') : Cg (sX X Z Y W) (sX X' Z' Y' W') :=
  have s := ((c.sub d).mul (a.add b)).add ((c.add d).mul (a.sub b))
  s.mul s
theorem cg_sZ {u u' X Z Y W X' Z' Y' W' : Int} (h : Cg u u') (a : Cg X X') (b : Cg Z Z') (c : Cg Y Y') (d : Cg W W') : Cg (sZ u X Z Y W) (sZ u' X' Z' Y' W') :=
  have s := ((c.sub d).mul (a.add b)).sub ((c.add d).mul (a.sub b))
  h.mul (s.mul s)
def CgS (s t : St) : Prop := Cg s.a t.a ∧ Cg s.b t.b ∧ Cg s.c t.c ∧ Cg s.d t.d
theorem cg_stp {u u' : Int} (h : Cg u u') {s s' : St} (k : CgS s s') (t : Bool) : CgS (stp u s t) (stp u' s' t) := by
  obtain ⟨a, b, c, d⟩ := k
  cases t
  · exact ⟨cg_dX a b, cg_dZ a b, cg_sX a b c d, cg_sZ h a b c d⟩
  · exact ⟨cg_sX a b c d, cg_sZ h a b c d, cg_dX c d, cg_dZ c d⟩
theorem cg_run {u u' : Int} (h : Cg u u') : ∀ (bs : List Bool) (s s' : St), CgS s s' → CgS (bs.foldl (stp u) s) (bs.foldl (stp u') s')
  | [], _, _, k => k
  | t :: bs, _, _, k => cg_run h bs _ _ (cg_stp h k t)
theorem cg_lad {u u' : Int} (h : Cg u u') (bs : List Bool) : CgS (lad u bs) (lad u' bs) := cg_run h bs _ _ ⟨Cg.refl _, Cg.refl _, h, Cg.refl _⟩
theorem cg_out {u u' : Int} (h : Cg u u') (M : Nat) : Cg (out u M) (out u' M) := by
  obtain ⟨a, b, _, _⟩ := cg_lad h (hi M 255)
  exact a.mul (pow_cong b _)

/-- the ladder with numbers below p -/
def stm (u : Int) (s : St) (t : Bool) : St := ⟨(stp u s t).a % p, (stp u s t).b % p, (stp u s t).c % p, (stp u s t).d % p⟩
theorem cg_stm {u : Int} {s s' : St} (k : CgS s s') (t : Bool) : CgS (stm u s t) (stp u s' t) := by
  obtain ⟨a, b, c, d⟩ := cg_stp (Cg.refl u) k t
  exact ⟨a.modL, b.modL, c.modL, d.modL⟩
theorem cg_mod (u : Int) : ∀ (bs : List Bool) (s s' : St), CgS s s' → CgS (bs.foldl (stm u) s) (bs.foldl (stp u) s')
  | [], _, _, k => k
  | t :: bs, _, _, k => cg_mod u bs _ _ (cg_stm k t)
def wA : Int := 53699084970092229620102095424564848774812783684786248634290088506478568078703
def wB : Nat := 20097946894889007705884408490665082385984383478950821997587487100163618290637
def wI : Nat := 4690349756041861591026396950088132225180594110443955054213429870794107548986
def wW : Int := 52573937849532372069814888178136277301931757964231753054399601207743438775599
theorem w_lad : ((hi (2 ^ 254) 255).foldl (stm 9) ⟨1, 0, 9, 1⟩).a = wA ∧ ((hi (2 ^ 254) 255).foldl (stm 9) ⟨1, 0, 9, 1⟩).b = (wB : Int) := by decide +kernel
theorem w_inv : mp PP 256 wB (PP - 2) = wI := by decide +kernel
theorem w_all : wA * (wI : Int) % p = wW := by decide +kernel
/-- the public key of the secret 0 -/
theorem wake : out 9 (2 ^ 254) % p = wW := by
  obtain ⟨a, b, _, _⟩ := cg_mod 9 (hi (2 ^ 254) 255) ⟨1, 0, 9, 1⟩ ⟨1, 0, 9, 1⟩ ⟨Cg.refl _, Cg.refl _, Cg.refl _, Cg.refl _⟩
  rw [w_lad.1] at a
  rw [w_lad.2] at b
  have h1 : Cg ((wB : Int) ^ (PP - 2)) (wI : Int) := by
    have e := w_inv
    rw [mp_eq PP 256 wB (PP - 2) (by decide +kernel)] at e
    have h2 := Int.mul_ediv_add_emod ((wB ^ (PP - 2) : Nat) : Int) (PP : Int)
    rw [← Int.natCast_emod, e, ← p_PP, Int.natCast_pow] at h2
    unfold Cg
    generalize (wB : Int) ^ (PP - 2) = x at *
    exact ⟨x / p, by omega⟩
  rw [← w_all]
  refine Cg.eq ?_
  unfold out
  exact a.symm.mul (Cg.trans (pow_cong b.symm _) h1)

end Go.Proofs.Ytebgmneffpeahaa.Ed
