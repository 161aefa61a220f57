/-
  The words added; their bytes. The first words of a block; the block. Bytes in memory: lists that lie somewhere, lists of one's own, append, make. Bytes xored with the stream, by the program. Rows of four words.
-/
import Derived.Test.YtpmgmpihmpifgaaDoorCaA
import Derived.OwnWalk
import Derived.Deep.DeepAppendWide
namespace Go.Proofs.YtpmgmpihmpifgaaDoor
open Go.RowKit
set_option maxRecDepth 100000
set_option linter.unusedSimpArgs false
set_option linter.unusedVariables false
theorem index_K (SB : Array Value) (n : Nat) (x : Int) (hn : n < 32) (h : SB[n]? = some (.int .u8 x)) (w : World) : (Instr.index 25 (.agg SB) (.int .i64 n)).run Tryd.prog w = .ok (.int .u8 x) w := by
  simp [Instr.index, run_underlying Tryd.underlying25, asIntOf, go_sem]
  rw [if_pos hn, h]
  rfl
/-- the words added -/
def smf (A B : List Int) (i : Nat) : Int := ad (A.getD i 0) (B.getD i 0)
def sm (A B : List Int) : List Int := (List.range 16).map (smf A B)
theorem sm_len (A B : List Int) : (sm A B).length = 16 := by simp [sm]
/-- the words' bytes -/
def btf (W : List Int) (i : Nat) : Int := W.getD (i / 4) 0 / 2 ^ (i % 4 * 8) % 256
def bts (W : List Int) : List Int := (List.range 64).map (btf W)
theorem bts_len (W : List Int) : (bts W).length = 64 := by simp [bts]
def Bts (W : List Int) (w : World) (r : Ending) (w' : World) : Prop := r = .returned (.agg (kc W)) ∧ Gr w w'
/-- the words at first, a byte put to its word -/
def W0 : List Int := [1634760805, 857760878, 2036477234, 1797285236, 0, 0, 0, 0, 0, 0, 0, 0, 0, 0, 0, 0]
def kst (p n : Nat) (c : Int) (W : List Int) : List Int := W.set (p + n / 4) (bits .or .u32 (W.getD (p + n / 4) 0) (c * 2 ^ (n % 4 * 8) % 4294967296))
def kw (p : Nat) (K W : List Int) : Nat → List Int
  | 0 => W
  | n + 1 => kst p n (K.getD n 0) (kw p K W n)
theorem kw_len (p : Nat) (K W : List Int) : ∀ n, (kw p K W n).length = W.length
  | 0 => rfl
  | n + 1 => by rw [kw, kst, List.length_set, kw_len p K W n]
def bg (K N : List Int) : List Int := kw 13 N (kw 4 K W0 32) 12
theorem bg_len (K N : List Int) : (bg K N).length = 16 := by unfold bg; rw [kw_len, kw_len]; rfl
/-- the block of first words -/
def wb (A : List Int) (c : Int) : List Int := bts (sm (rn (A.set 12 c) 10) (A.set 12 c))
theorem wb_len (A : List Int) (c : Int) : (wb A c).length = 64 := bts_len _
/-- the block -/
def bk (K N : List Int) (c : Int) : List Int := wb (bg K N) c
theorem bk_len (K N : List Int) (c : Int) : (bk K N c).length = 64 := wb_len _ _
theorem kc_at {w : World} {g : Nat} {l : List Int} {t : TypeId} (h : w.heap[g]? = some (.cells (kc l) t (0, 0))) : At w g 0 l := fun j hj => by rw [Nat.zero_add]; exact kc_cell h j hj
/-- a list of bytes somewhere -/
structure Lb (w : World) (a : Option Addr) (n c : Nat) (P : List Int) : Prop where
  len : P.length = n
  isB : IsB P
  sl : Sl w a P
  cap : n ≤ c
  max : c < 9223372036854775808
theorem Lb.gr {w v : World} {a : Option Addr} {n c : Nat} {P : List Int} (h : Lb w a n c P) (k : Gr w v) : Lb v a n c P := ⟨h.len, h.isB, h.sl.gr k, h.cap, h.max⟩
/-- the stream's byte at a place, the counter's word so far on -/
def cn (c : Int) (n : Nat) : Int := (c + n) % 4294967296
theorem cn_zero (c : Int) (hc : W32 c) : cn c 0 = c := by
  have := hc.1
  have := hc.2
  unfold cn
  omega
theorem cn_succ (c : Int) (n : Nat) : (cn c n + 1) % 4294967296 = cn c (n + 1) := by unfold cn; omega
def sf (K N : List Int) (c : Int) (i : Nat) : Int := (bk K N (cn c (i / 64))).getD (i % 64) 0
def xf (K N : List Int) (c : Int) (B : List Int) (i : Nat) : Int := xb (B.getD i 0) (sf K N c i)
/-- bytes xored with the stream -/
def xl (K N : List Int) (c : Int) (B : List Int) : List Int := (List.range B.length).map (xf K N c B)
theorem xl_len (K N : List Int) (c : Int) (B : List Int) : (xl K N c B).length = B.length := by simp [xl]
theorem xl_isB (K N : List Int) (c : Int) (B : List Int) : IsB (xl K N c B) := by
  intro x hx
  unfold xl at hx
  obtain ⟨i, _, rfl⟩ := List.mem_map.1 hx
  exact xb_rng _ _

/-- what Xor answers: new memory -/
def Xd (K N : List Int) (c : Int) (B : List Int) (w : World) (r : Ending) (w' : World) : Prop := ∃ g, r = .returned (.slice (some ⟨g, 0, none⟩) B.length B.length) ∧ w.heap.size ≤ g ∧ w'.heap[g]? = some (.cells (kc (xl K N c B)) 5 (0, 0)) ∧ Gr w w'
/-- four words in a row -/
def ql (q : Q4) : List Int := [q.a, q.b, q.c, q.d]
end Go.Proofs.YtpmgmpihmpifgaaDoor
