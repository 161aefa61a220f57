/-
  A disk does as the document says: the walk.
-/
import Derived.Test.YthgchjdjacbcgaaDkP
namespace Go.Proofs.Ythgchjdjacbcgaa
open Go.RowKit
set_option maxRecDepth 100000
set_option linter.unusedSimpArgs false
set_option linter.unusedVariables false
theorem Ls.chg {k : Nat} {F F' : List Nat} {w v : World} {a : Option Addr} {n c : Nat} {R : List (List Value)} (h : Ls k w a n c R) (b : Chg F F' w v) (hg : ∀ i ∈ F, blkOf a ≠ some i) : Ls k v a n c R := by
  refine ⟨h.len, h.row, ?_, h.cap, h.max, fun p e => Nat.lt_of_lt_of_le (h.low p e) b.size⟩
  rcases h.sl with h0 | ⟨p, o, rfl, h2⟩
  · exact .inl h0
  · refine .inr ⟨p, o, rfl, fun j x hj => ?_⟩
    have h3 := h2 j x hj
    rw [cell_heap (b.block p (lt_of_cell h3) (fun hm => hg p hm rfl))]
    exact h3
/-- a disk and the reference's, in a variable at gx -/
structure Tw (w : World) (F : List Nat) (g : Nat) (D : Dk) (gx : Nat) (sa : Option Addr) (sc : Nat) (pa : Option Addr) (pc : Nat) (E : Dk) (v : World) : Prop where
  gr : Gr w v
  ls : Lies F g D v
  own : ∀ i ∈ F, w.heap.size ≤ i
  xb : v.heap[gx]? = some (.cells (E.v sa sc pa pc) 31 (0, 0))
  xo : w.heap.size ≤ gx
  xf : gx ∉ F
  rd : Rd v sa sc pa pc E
  sx : blkOf sa ≠ some gx
  px : blkOf pa ≠ some gx
  sF : ∀ i ∈ F, blkOf sa ≠ some i
  pF : ∀ i ∈ F, blkOf pa ≠ some i
theorem Tw.more {w : World} {F : List Nat} {g : Nat} {D : Dk} {gx : Nat} {sa : Option Addr} {sc : Nat} {pa : Option Addr} {pc : Nat} {E : Dk} {v u : World} (h : Tw w F g D gx sa sc pa pc E v) (k : Gr v u) : Tw w F g D gx sa sc pa pc E u :=
  ⟨h.gr.trans k, h.ls.gr k, h.own, k.blk h.xb, h.xo, h.xf, h.rd.gr k, h.sx, h.px, h.sF, h.pF⟩
theorem Tw.chg {w : World} {F F' : List Nat} {g : Nat} {D D' : Dk} {gx : Nat} {sa : Option Addr} {sc : Nat} {pa : Option Addr} {pc : Nat} {E : Dk} {v u : World} (h : Tw w F g D gx sa sc pa pc E v) (k : Chg F F' v u) (hL : Lies F' g D' u) : Tw w F' g D' gx sa sc pa pc E u := by
  refine ⟨Chg.own h.gr k h.own, hL, k.newF h.gr.size h.own, k.blk h.xb h.xf, h.xo, ?_, ⟨h.rd.sf.chg k h.sF, h.rd.pn.chg k h.pF⟩, h.sx, h.px, ?_, ?_⟩
  · intro hm
    rcases k.new _ hm with h1 | h1
    · exact h.xf h1
    · have := lt_of_block h.xb
      omega
  · intro i hi e
    rcases k.new i hi with h1 | h1
    · exact h.sF i h1 e
    · have := h.rd.sf.low i e
      omega
  · intro i hi e
    rcases k.new i hi with h1 | h1
    · exact h.pF i h1 e
    · have := h.rd.pn.low i e
      omega
theorem Tw.put {w : World} {F : List Nat} {g : Nat} {D : Dk} {gx : Nat} {sa : Option Addr} {sc : Nat} {pa : Option Addr} {pc : Nat} {E : Dk} {v u : World} (h : Tw w F g D gx sa sc pa pc E v) (k : Gr v u) {sb : Option Addr} {sd : Nat} {pb : Option Addr} {pd : Nat} {E' : Dk} (hR : Rd u sb sd pb pd E') (f1 : Fr2 v sa sb) (f2 : Fr2 v pa pb) : Tw w F g D gx sb sd pb pd E' (u.setRow gx (E'.v sb sd pb pd)) := by
  have hlt := lt_of_block h.xb
  have hbt : Bt gx u (u.setRow gx (E'.v sb sd pb pd)) := (Bt.refl gx u).row_self _
  have n1 : blkOf sb ≠ some gx := fun e => by
    rcases f1 gx e with h1 | h1
    · exact h.sx h1
    · omega
  have n2 : blkOf pb ≠ some gx := fun e => by
    rcases f2 gx e with h1 | h1
    · exact h.px h1
    · omega
  refine ⟨Bt.gr (h.gr.trans k) hbt h.xo, (h.ls.gr k).bt hbt h.xf, h.own, setRow_heap u gx _ _ _ _ (k.blk h.xb), h.xo, h.xf, hR.bt hbt n1 n2, n1, n2, ?_, ?_⟩
  · intro i hi e
    rcases f1 i e with h1 | h1
    · exact h.sF i hi h1
    · have := h.ls.lt i hi
      omega
  · intro i hi e
    rcases f2 i e with h1 | h1
    · exact h.pF i hi h1
    · have := h.ls.lt i hi
      omega
/-- a disk to which the first j ops were done -/
def alD (D : Dk) (l : List Opl) : Nat → Dk
  | 0 => D
  | j + 1 => (alD D l j).opD (l.getD j op0)
theorem alD_ok {D : Dk} {m : Nat} (hD : D.Ok m) {l : List Opl} (h : ∀ o ∈ l, o.Ok) : ∀ j, (alD D l j).Ok (m + j)
  | 0 => hD
  | j + 1 => (alD_ok hD h j).op _ (getD_ok h j)
theorem Tw.st {w : World} {F : List Nat} {g : Nat} {D : Dk} {gx : Nat} {sa : Option Addr} {sc : Nat} {pa : Option Addr} {pc : Nat} {E : Dk} {v u : World} {b : Nat} (h : Tw w F g D gx sa sc pa pc E v) (k : Bt b v u) (hw : w.heap.size ≤ b) (h1 : b ≠ gx) (h2 : b ∉ F) (h3 : blkOf sa ≠ some b) (h4 : blkOf pa ≠ some b) : Tw w F g D gx sa sc pa pc E u :=
  ⟨Bt.gr h.gr k hw, h.ls.bt k h2, h.own, k.blk h.xb (Ne.symm h1), h.xo, h.xf, h.rd.bt k h3 h4, h.sx, h.px, h.sF, h.pF⟩
end Go.Proofs.Ythgchjdjacbcgaa
