/-
  The law's spoil and whole.
-/
import Derived.Test.YtcefkkoombmndabUO
namespace Go.Proofs.Ytcefkkoombmndab
open Go.RowKit
set_option maxRecDepth 100000
set_option linter.unusedSimpArgs false
set_option linter.unusedVariables false
theorem sp_len : ∀ (vs : List Value) (C : List Value) (o : Nat), (sp C o vs).length = C.length
  | [], C, o => rfl
  | v :: r, C, o => by rw [sp, sp_len r, List.length_set]
theorem Ow.st {k : Nat} {e : TypeId} {b g o : Nat} {w : World} {a : Option Addr} {n : Nat} (h : Ow k e b w a n) {C vs : List Value} {t : TypeId} (hg : w.heap[g]? = some (.cells C.toArray t (0, 0))) : Ow k e b (w.setCells g o vs) a n := by
  rcases h with h | ⟨q, o2, C2, h1, h2, h3, h4⟩
  · exact .inl h
  · by_cases hq : q = g
    · subst hq
      rw [hg] at h3
      injection h3 with h3
      injection h3 with h5 h6 _
      have h5 : C = C2 := by simpa using h5
      subst h5 h6
      exact .inr ⟨q, o2, _, h1, h2, setCells_heap vs w q o C t hg, by rw [sp_len]; exact h4⟩
    · exact .inr ⟨q, o2, C2, h1, h2, by rw [setCells_other vs w g o q hq]; exact h3, h4⟩
theorem below_st {b g o : Nat} {w v : World} {vs : List Value} (h : Below b w v) (hb : b ≤ g) (hw : b ≤ w.heap.size) : Below b w (v.setCells g o vs) := by
  have m := setCells_bt vs v g o
  exact ⟨m.os.trans h.os, m.tape.trans h.tape, m.output.trans h.output, Nat.le_trans h.size m.size, fun i hi => (m.block i (Nat.lt_of_lt_of_le hi (Nat.le_trans hw h.size)) (by omega)).trans (h.block i hi)⟩
theorem lz_bk {k g : Nat} {w v : World} {a : Option Addr} {n c : Nat} {R : List (List Value)} (h : Lz k w a n c R) (m : Bt g w v) (hn : n = 0 ∨ blkOf a ≠ some g) : Lz k v a n c R := by
  refine ⟨h.len, h.row, ?_, h.cap, h.max⟩
  rcases h.sl with h1 | ⟨p, o, rfl, h2⟩
  · exact .inl h1
  · rcases hn with hn | hn
    · exact .inl (List.eq_nil_of_length_eq_zero (by rw [h.len, hn]))
    · exact .inr ⟨p, o, rfl, range_bt h2 m (fun e => hn (by rw [← e]; rfl))⟩
theorem Ow.bk {k : Nat} {e : TypeId} {b g : Nat} {w v : World} {a : Option Addr} {n : Nat} (h : Ow k e b w a n) (m : Bt g w v) (hn : n = 0 ∨ blkOf a ≠ some g) : Ow k e b v a n := by
  rcases h with h | ⟨q, o, C, rfl, h2, h3, h4⟩
  · exact .inl h
  · rcases hn with hn | hn
    · exact .inl hn
    · exact .inr ⟨q, o, C, rfl, h2, m.blk h3 (fun e => hn (by rw [← e]; rfl)), h4⟩
theorem ow_new {k : Nat} {e : TypeId} {b : Nat} {w : World} {a : Option Addr} {n : Nat} (h : Ow k e b w a n) : n = 0 ∨ blkOf a ≠ some w.heap.size := by
  rcases h with h | ⟨q, o, C, rfl, h2, h3, h4⟩
  · exact .inl h
  · refine .inr fun e => ?_
    have h5 := lt_of_block h3
    have h6 : q = w.heap.size := Option.some.inj e
    omega
theorem Co.newO {b : Nat} {w : World} {c : Cm} {x : Lc} (h : Co b w c x) : x.no = 0 ∨ blkOf x.ao ≠ some w.heap.size := ow_new h.o.o
theorem Co.newI {b : Nat} {w : World} {c : Cm} {x : Lc} (h : Co b w c x) : x.nh = 0 ∨ blkOf x.ah ≠ some w.heap.size := ow_new h.o.h
theorem Co.bkO {b g : Nat} {w v : World} {c : Cm} {x : Lc} (h : Co b w c x) {C : Array Value} (hg : w.heap[g]? = some (.cells C 33 (0, 0))) (m : Bt g w v) (hn : x.no = 0 ∨ blkOf x.ao ≠ some g) : Co b v c x :=
  ⟨⟨⟨h.i.o.1, lz_bk h.i.o.2 m hn⟩, ⟨h.i.h.1, lz_bz h.i.h.2 h.o.h hg m (by decide)⟩, h.i.nx, h.i.tn, h.i.dl⟩, ⟨h.o.o.bk m hn, h.o.h.bz hg m (by decide)⟩⟩
theorem Co.bkI {b g : Nat} {w v : World} {c : Cm} {x : Lc} (h : Co b w c x) {C : Array Value} (hg : w.heap[g]? = some (.cells C 59 (0, 0))) (m : Bt g w v) (hn : x.nh = 0 ∨ blkOf x.ah ≠ some g) : Co b v c x :=
  ⟨⟨⟨h.i.o.1, lz_bz h.i.o.2 h.o.o hg m (by decide)⟩, ⟨h.i.h.1, lz_bk h.i.h.2 m hn⟩, h.i.nx, h.i.tn, h.i.dl⟩, ⟨h.o.o.bz hg m (by decide), h.o.h.bk m hn⟩⟩
theorem Sh.newO {b : Nat} {w : World} {c : Cm} {x : Lc} (h : Sh b w c x) : blkOf x.ao ≠ some w.heap.size := by
  obtain ⟨g, h1, h2⟩ := h.o
  rw [h1]
  exact or_new h2
theorem Sh.newI {b : Nat} {w : World} {c : Cm} {x : Lc} (h : Sh b w c x) : blkOf x.ah ≠ some w.heap.size := by
  obtain ⟨g, h1, h2⟩ := h.h
  rw [h1]
  exact or_new h2
theorem Rm.bk {k : Nat} {e : TypeId} {b g : Nat} {w v : World} {a : Option Addr} {n c : Nat} {R : List (List Value)} {r : List Value} (h : Rm k e b w a n c R r) (m : Bt g w v) (hn : blkOf a ≠ some g) : Rm k e b v a n c R r := by
  obtain ⟨q, rfl, h2⟩ := h
  exact ⟨q, rfl, or_bk h2 m hn⟩
theorem Sh.bkO {b g : Nat} {w v : World} {c : Cm} {x : Lc} (h : Sh b w c x) {C : Array Value} (hg : w.heap[g]? = some (.cells C 33 (0, 0))) (m : Bt g w v) (hn : blkOf x.ao ≠ some g) : Sh b v c x := ⟨h.o.bk m hn, h.h.bz hg m (by decide)⟩
theorem Sh.bkI {b g : Nat} {w v : World} {c : Cm} {x : Lc} (h : Sh b w c x) {C : Array Value} (hg : w.heap[g]? = some (.cells C 59 (0, 0))) (m : Bt g w v) (hn : blkOf x.ah ≠ some g) : Sh b v c x := ⟨h.o.bz hg m (by decide), h.h.bk m hn⟩
theorem Sh.co {b : Nat} {w : World} {c : Cm} {x : Lc} (h : Sh b w c x) (n : Nums c) : Co b w c x := by
  refine ⟨h.cin n, ?_, ?_⟩
  · obtain ⟨g, h1, h2⟩ := h.o
    rw [h1]
    rcases h2.ow with h3 | ⟨q, o, C, h3, h4, h5, h6⟩
    · omega
    · exact .inr ⟨q, o, C, h3, h4, h5, by omega⟩
  · obtain ⟨g, h1, h2⟩ := h.h
    rw [h1]
    rcases h2.ow with h3 | ⟨q, o, C, h3, h4, h5, h6⟩
    · omega
    · exact .inr ⟨q, o, C, h3, h4, h5, by omega⟩
theorem Rm.base {k : Nat} {e : TypeId} {b d : Nat} {w : World} {a : Option Addr} {n c : Nat} {R : List (List Value)} {r : List Value} (h : Rm k e b w a n c R r) (hd : d ≤ b) : Rm k e d w a n c R r := by
  obtain ⟨q, h1, h2⟩ := h
  exact ⟨q, h1, or_base h2 hd⟩
theorem Sh.base {b d : Nat} {w : World} {c : Cm} {x : Lc} (h : Sh b w c x) (hd : d ≤ b) : Sh d w c x := ⟨h.o.base hd, h.h.base hd⟩
theorem Sh.bz {b g : Nat} {w v : World} {c : Cm} {x : Lc} (h : Sh b w c x) {C : Array Value} {t : TypeId} (hg : w.heap[g]? = some (.cells C t (0, 0))) (m : Bt g w v) (h1 : t ≠ 33 := by decide) (h2 : t ≠ 59 := by decide) : Sh b v c x := ⟨h.o.bz hg m h1, h.h.bz hg m h2⟩
theorem ct_o (c : Cm) : (ct c).O.length ≤ 8 := by unfold ct; dsimp only; rw [List.length_take]; omega
theorem ct_h (c : Cm) : (ct c).H.length ≤ 8 := by unfold ct; dsimp only; rw [List.length_take]; omega
end Go.Proofs.Ytcefkkoombmndab
