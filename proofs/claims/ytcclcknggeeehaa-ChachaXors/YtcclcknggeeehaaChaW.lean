/-
  Bytes in memory: lists that lie somewhere, lists of one's own, append, make.
-/
import Derived.Test.YtcclcknggeeehaaChaU
import Derived.OwnWalk
import Derived.Deep.DeepAppendWide
namespace Go.Proofs.Ytcclcknggeeehaa
open Go.RowKit
set_option maxRecDepth 100000
set_option linter.unusedSimpArgs false
set_option linter.unusedVariables false
theorem Bl.left {w v : World} {L M : List Blk} (h : Bl w (L ++ M) v) : Bl w L v := ⟨h.gr, fun x hx => h.at_ x (List.mem_append_left _ hx), (List.pairwise_append.1 h.ne).1⟩
/-- bytes that lie somewhere -/
def At (w : World) (p o : Nat) (B : List Int) : Prop := ∀ j, j < B.length → w.cell? ⟨p, o + j, none⟩ = some (.int .u8 (B.getD j 0))
theorem At.gr {w v : World} {p o : Nat} {B : List Int} (h : At w p o B) (g : Gr w v) : At v p o B := fun j hj => g.cell (h j hj)
theorem kc_at {w : World} {g : Nat} {l : List Int} {t : TypeId} (h : w.heap[g]? = some (.cells (kc l) t (0, 0))) : At w g 0 l := fun j hj => by rw [Nat.zero_add]; exact kc_cell h j hj
theorem cell_heap {w v : World} {p o : Nat} (h : v.heap[p]? = w.heap[p]?) : v.cell? ⟨p, o, none⟩ = w.cell? ⟨p, o, none⟩ := by simp [World.cell?, h]
theorem lt_of_cell {w : World} {p o : Nat} {x : Value} (h : w.cell? ⟨p, o, none⟩ = some x) : p < w.heap.size := by
  rcases Nat.lt_or_ge p w.heap.size with hp | hp
  · exact hp
  · simp [World.cell?, Array.getElem?_eq_none hp] at h
/-- bytes behind a slice -/
def Sl (w : World) (a : Option Addr) (B : List Int) : Prop := B = [] ∨ ∃ p o, a = some ⟨p, o, none⟩ ∧ At w p o B
theorem Sl.gr {w v : World} {a : Option Addr} {B : List Int} (h : Sl w a B) (k : Gr w v) : Sl v a B := by
  rcases h with h | ⟨p, o, h1, h2⟩
  · exact .inl h
  · exact .inr ⟨p, o, h1, h2.gr k⟩
/-- a list of bytes somewhere -/
structure Lb (w : World) (a : Option Addr) (n c : Nat) (P : List Int) : Prop where
  len : P.length = n
  isB : IsB P
  sl : Sl w a P
  cap : n ≤ c
  max : c < 9223372036854775808
theorem Lb.gr {w v : World} {a : Option Addr} {n c : Nat} {P : List Int} (h : Lb w a n c P) (k : Gr w v) : Lb v a n c P := ⟨h.len, h.isB, h.sl.gr k, h.cap, h.max⟩
theorem list_valw {P : Program} {ops : Array Oper} {Q : Exit → Act → World → Prop} {a : Act} {w : World} {o : Oper} {rest : List Oper} (v : Value) (w' : World) (hw : Region.wanted o (yielded ops a.tmps) = true) (hx : (execOp a.eval o).run P w = .ok (.value v) w') (h : wpList P ops Q rest (a.put o.dst v) w') : wpList P ops Q (o :: rest) a w := by
  refine wpList_step fun K hK => ?_
  rw [if_pos hw]
  unfold Oper.wp
  rw [hx]
  exact hK _ _ h
theorem Try.info5 : (Try.prog.info? 5).map (fun i => (i.zero, i.size, i.bytes)) = some (some (.int .u8 0), 1, 1) := by kernel_rfl
/-- a slice is made, with room behind it -/
theorem wpList_make_room (w : World) {ops : Array Oper} {rest : List Oper} {o : Oper} {a : Act} {Q : Exit → Act → World → Prop}
    (hg : o.guard = none) (l c : Operand) (hop : o.op = Op.makeSlice 33 l c) (L C : Int) (n m : Nat) (hl : a.eval l = .int .i64 L) (hc : a.eval c = .int .i64 C) (hL : L = (n : Int)) (hC : C = (m : Int)) (hnm : n ≤ m) (hn : m ≤ 281474976710656)
    (hK : wpList Try.prog ops Q rest (a.put o.dst (.slice (some ⟨w.heap.size, 0, none⟩) n m)) (w.alloc (.cells (kc (List.replicate m 0)) 5 (0, 0)))) :
    wpList Try.prog ops Q (o :: rest) a w := by
  obtain ⟨i, h2, h3, h4, h5⟩ := info_parts Try.info5
  subst hL hC
  refine wpList_plain hg fun K hK' => ?_
  have hrun := run_make (P := Try.prog) w 33 5 i (.int .u8 0) Try.underlying33 h2 h3 .i64 .i64 (n : Int) (m : Int) (by omega) (by omega) (by rw [h5]; omega) (by omega)
  rw [h4] at hrun
  have e : madeCells (Value.int .u8 0).cells m = kc (List.replicate m 0) := by
    apply Array.ext
    · simp [size_madeCells, kc]
    · intro i h1 h2
      have : i % 1 = 0 := Nat.mod_one i
      simp [madeCells, Value.cells, this, kc]
  simp only [Int.toNat_natCast, Nat.mul_one, e] at hrun
  unfold Oper.wp
  simp [execOp, hop, hl, hc, hrun, Result.andThen]
  exact hK' _ _ hK
theorem own_gr {B m : Nat} {v : Value} {xs : List Value} {w u : World} (h : w.ownsRow B 5 1 v m xs) (k : Gr w u) : u.ownsRow B 5 1 v m xs := by
  obtain ⟨h1, h2 | ⟨g, cap, cur, h2, h3, h4, h5⟩⟩ := h
  · exact ⟨h1, .inl h2⟩
  · exact ⟨h1, .inr ⟨g, cap, cur, h2, h3, k.blk h4, h5⟩⟩
/-- the stream's byte at a place, the counter's word so far on -/
def cn (c : Int) (n : Nat) : Int := (c + n) % 4294967296
theorem cn_zero (c : Int) (hc : W32 c) : cn c 0 = c := by
  have := hc.1
  have := hc.2
  unfold cn
  omega
theorem cn_succ (c : Int) (n : Nat) : (cn c n + 1) % 4294967296 = cn c (n + 1) := by unfold cn; omega
def sf (K N : List Int) (c : Int) (i : Nat) : Int := (bk K N (cn c (i / 64))).getD (i % 64) 0
def xf (K N : List Int) (c : Int) (B : List Int) (i : Nat) : Int := xb (B.getD i 0) (sf K N c i)
/-- bytes xored with the stream -/
def xl (K N : List Int) (c : Int) (B : List Int) : List Int := (List.range B.length).map (xf K N c B)
theorem xl_len (K N : List Int) (c : Int) (B : List Int) : (xl K N c B).length = B.length := by simp [xl]
theorem xl_isB (K N : List Int) (c : Int) (B : List Int) : IsB (xl K N c B) := by
  intro x hx
  unfold xl at hx
  obtain ⟨i, _, rfl⟩ := List.mem_map.1 hx
  exact xb_rng _ _
end Go.Proofs.Ytcclcknggeeehaa
