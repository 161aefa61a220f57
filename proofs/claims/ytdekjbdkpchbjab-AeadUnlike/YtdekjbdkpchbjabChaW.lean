/-
  Bytes in memory: lists that lie somewhere, lists of one's own, append, make.
-/
import Derived.Test.YtdekjbdkpchbjabChaU
import Derived.OwnWalk
import Derived.Deep.DeepAppendWide
namespace Go.Proofs.Ytdekjbdkpchbjab
open Go.RowKit
set_option maxRecDepth 100000
set_option linter.unusedSimpArgs false
set_option linter.unusedVariables false
/-- the stream's byte at a place, the counter's word so far on -/
def cn (c : Int) (n : Nat) : Int := (c + n) % 4294967296
theorem cn_zero (c : Int) (hc : W32 c) : cn c 0 = c := by
  have := hc.1
  have := hc.2
  unfold cn
  omega
theorem cn_succ (c : Int) (n : Nat) : (cn c n + 1) % 4294967296 = cn c (n + 1) := by unfold cn; omega
def sf (K N : List Int) (c : Int) (i : Nat) : Int := (bk K N (cn c (i / 64))).getD (i % 64) 0
def xf (K N : List Int) (c : Int) (B : List Int) (i : Nat) : Int := xb (B.getD i 0) (sf K N c i)
/-- bytes xored with the stream -/
def xl (K N : List Int) (c : Int) (B : List Int) : List Int := (List.range B.length).map (xf K N c B)
theorem xl_len (K N : List Int) (c : Int) (B : List Int) : (xl K N c B).length = B.length := by simp [xl]
theorem xl_isB (K N : List Int) (c : Int) (B : List Int) : IsB (xl K N c B) := by
  intro x hx
  unfold xl at hx
  obtain ⟨i, _, rfl⟩ := List.mem_map.1 hx
  exact xb_rng _ _
end Go.Proofs.Ytdekjbdkpchbjab
