/-
  The reference: the bytes of the multiplier.
-/
import Derived.Test.YtdekjbdkpchbjabPolyG
namespace Go.Proofs.Ytdekjbdkpchbjab
open Go.RowKit
set_option maxRecDepth 100000
set_option linter.unusedSimpArgs false
set_option linter.unusedVariables false
theorem Try.infoT : (Try.prog.info? 40).map (·.size) = some 16 := by kernel_rfl
/-- a byte of the multiplier -/
def cl (i : Nat) (x : Int) : Int := if i = 3 ∨ i = 7 ∨ i = 11 ∨ i = 15 then x % 16 else if i = 4 ∨ i = 8 ∨ i = 12 then x / 4 * 4 else x
def clf (K : List Int) (i : Nat) : Int := cl i (K.getD i 0)
def clL (K : List Int) : List Int := (List.range 16).map (clf K)
def ZT : List Int := List.replicate 16 0
theorem clL_len (K : List Int) : (clL K).length = 16 := by simp [clL]
theorem cl_rng (i : Nat) (x : Int) (h : 0 ≤ x ∧ x < 256) : 0 ≤ cl i x ∧ cl i x < 256 := by
  unfold cl
  split
  · omega
  · split <;> omega
theorem clL_isB (K : List Int) (h : IsB K) : IsB (clL K) := fun x hx => by
  unfold clL at hx
  obtain ⟨i, _, rfl⟩ := List.mem_map.1 hx
  exact cl_rng _ _ (h.at_ i)
def Tg (L : List Int) (w : World) (r : Ending) (w' : World) : Prop := r = .returned (.agg (kc L)) ∧ Gr w w'
end Go.Proofs.Ytdekjbdkpchbjab
