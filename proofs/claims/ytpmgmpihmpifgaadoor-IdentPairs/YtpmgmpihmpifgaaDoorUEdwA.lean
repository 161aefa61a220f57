/-
  Plain facts, of no program: the ladder as a function of bits.
-/
import Derived.Test.YtpmgmpihmpifgaaDoorVPrime
namespace Go.Proofs.YtpmgmpihmpifgaaDoor.Ed
/-- the prime -/
def p : Int := 57896044618658097711785492504343953926634992332820282019728792003956564819949
structure St where
  a : Int
  b : Int
  c : Int
  d : Int
def dX (X Z : Int) : Int := ((X + Z) * (X + Z)) * ((X - Z) * (X - Z))
def dZ (X Z : Int) : Int := ((X + Z) * (X + Z) - (X - Z) * (X - Z)) * ((X + Z) * (X + Z) + 121665 * ((X + Z) * (X + Z) - (X - Z) * (X - Z)))
def sX (X2 Z2 X3 Z3 : Int) : Int := ((X3 - Z3) * (X2 + Z2) + (X3 + Z3) * (X2 - Z2)) * ((X3 - Z3) * (X2 + Z2) + (X3 + Z3) * (X2 - Z2))
def sZ (u X2 Z2 X3 Z3 : Int) : Int := u * (((X3 - Z3) * (X2 + Z2) - (X3 + Z3) * (X2 - Z2)) * ((X3 - Z3) * (X2 + Z2) - (X3 + Z3) * (X2 - Z2)))
def stp (u : Int) (s : St) (t : Bool) : St :=
  match t with
  | false => ⟨dX s.a s.b, dZ s.a s.b, sX s.a s.b s.c s.d, sZ u s.a s.b s.c s.d⟩
  | true => ⟨sX s.a s.b s.c s.d, sZ u s.a s.b s.c s.d, dX s.c s.d, dZ s.c s.d⟩
def lad (u : Int) (bs : List Bool) : St := bs.foldl (stp u) ⟨1, 0, u, 1⟩
/-- the bit t -/
def bt (M t : Nat) : Bool := M / 2 ^ t % 2 == 1
/-- the n highest bits of 255 -/
def hi (M : Nat) : Nat → List Bool
  | 0 => []
  | n + 1 => hi M n ++ [bt M (254 - n)]
theorem lad_app (u : Int) (bs : List Bool) (t : Bool) : lad u (bs ++ [t]) = stp u (lad u bs) t := by
  unfold lad
  rw [List.foldl_append]
  rfl
end Go.Proofs.YtpmgmpihmpifgaaDoor.Ed
