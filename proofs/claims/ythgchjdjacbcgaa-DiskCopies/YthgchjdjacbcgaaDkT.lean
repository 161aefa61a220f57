/-
  Two disks, each with the reference's of its own.
-/
import Derived.Test.YthgchjdjacbcgaaDoesWalk
namespace Go.Proofs.Ythgchjdjacbcgaa
open Go.RowKit
set_option maxRecDepth 100000
set_option linter.unusedSimpArgs false
set_option linter.unusedVariables false
theorem Tw.fresh {w : World} {F : List Nat} {g : Nat} {D : Dk} {gx : Nat} {sa : Option Addr} {sc : Nat} {pa : Option Addr} {pc : Nat} {E : Dk} {v : World} (h : Tw w F g D gx sa sc pa pc E v) {b : Nat} (hb : v.heap.size ≤ b) : b ≠ gx ∧ b ∉ F ∧ blkOf sa ≠ some b ∧ blkOf pa ≠ some b := by
  refine ⟨fun e => ?_, fun hm => ?_, fun e => ?_, fun e => ?_⟩
  · have := lt_of_block h.xb
    omega
  · have := h.ls.lt b hm
    omega
  · have := h.rd.sf.low b e
    omega
  · have := h.rd.pn.low b e
    omega
/-- what another disk does leaves this one as it is -/
theorem Tw.off {w : World} {F G G' : List Nat} {g : Nat} {D : Dk} {gx : Nat} {sa : Option Addr} {sc : Nat} {pa : Option Addr} {pc : Nat} {E : Dk} {v u : World} (h : Tw w F g D gx sa sc pa pc E v) (k : Chg G G' v u) (hG : ∀ i ∈ G, w.heap.size ≤ i) (h1 : ∀ i ∈ F, i ∉ G) (h2 : gx ∉ G) (h3 : ∀ i ∈ G, blkOf sa ≠ some i) (h4 : ∀ i ∈ G, blkOf pa ≠ some i) : Tw w F g D gx sa sc pa pc E u :=
  ⟨Chg.own h.gr k hG, h.ls.chg k h1, h.own, k.blk h.xb h2, h.xo, h.xf, ⟨h.rd.sf.chg k h3, h.rd.pn.chg k h4⟩, h.sx, h.px, h.sF, h.pF⟩
structure Two (w : World) (F : List Nat) (g : Nat) (D : Dk) (gx : Nat) (sa : Option Addr) (sc : Nat) (pa : Option Addr) (pc : Nat) (E : Dk) (G : List Nat) (h : Nat) (A : Dk) (gy : Nat) (ta : Option Addr) (tc : Nat) (qa : Option Addr) (qc : Nat) (B : Dk) (v : World) : Prop where
  a : Tw w F g D gx sa sc pa pc E v
  b : Tw w G h A gy ta tc qa qc B v
  fg : ∀ i ∈ F, i ∉ G
  xg : gx ∉ G
  yf : gy ∉ F
  xy : gx ≠ gy
  sy : blkOf sa ≠ some gy
  py : blkOf pa ≠ some gy
  tx : blkOf ta ≠ some gx
  qx : blkOf qa ≠ some gx
  sG : ∀ i ∈ G, blkOf sa ≠ some i
  pG : ∀ i ∈ G, blkOf pa ≠ some i
  tF : ∀ i ∈ F, blkOf ta ≠ some i
  qF : ∀ i ∈ F, blkOf qa ≠ some i
section
variable {w : World} {F : List Nat} {g : Nat} {D : Dk} {gx : Nat} {sa : Option Addr} {sc : Nat} {pa : Option Addr} {pc : Nat} {E : Dk} {G : List Nat} {h : Nat} {A : Dk} {gy : Nat} {ta : Option Addr} {tc : Nat} {qa : Option Addr} {qc : Nat} {B : Dk} {v u : World}
theorem Two.symm (k : Two w F g D gx sa sc pa pc E G h A gy ta tc qa qc B v) : Two w G h A gy ta tc qa qc B F g D gx sa sc pa pc E v :=
  ⟨k.b, k.a, fun i hi hj => k.fg i hj hi, k.yf, k.xg, Ne.symm k.xy, k.tx, k.qx, k.sy, k.py, k.tF, k.qF, k.sG, k.pG⟩
theorem Two.more (k : Two w F g D gx sa sc pa pc E G h A gy ta tc qa qc B v) (e : Gr v u) : Two w F g D gx sa sc pa pc E G h A gy ta tc qa qc B u :=
  ⟨k.a.more e, k.b.more e, k.fg, k.xg, k.yf, k.xy, k.sy, k.py, k.tx, k.qx, k.sG, k.pG, k.tF, k.qF⟩
theorem Two.chg {F' : List Nat} {D' : Dk} (k : Two w F g D gx sa sc pa pc E G h A gy ta tc qa qc B v) (c : Chg F F' v u) (hL : Lies F' g D' u) : Two w F' g D' gx sa sc pa pc E G h A gy ta tc qa qc B u := by
  refine ⟨k.a.chg c hL, k.b.off c k.a.own (fun i hi hj => k.fg i hj hi) k.yf k.tF k.qF, fun i hi hj => ?_, k.xg, fun hm => ?_, k.xy, k.sy, k.py, k.tx, k.qx, k.sG, k.pG, fun i hi e => ?_, fun i hi e => ?_⟩
  · rcases c.new i hi with h1 | h1
    · exact k.fg i h1 hj
    · have := k.b.ls.lt i hj
      omega
  · rcases c.new _ hm with h1 | h1
    · exact k.yf h1
    · have := lt_of_block k.b.xb
      omega
  · rcases c.new i hi with h1 | h1
    · exact k.tF i h1 e
    · have := k.b.rd.sf.low i e
      omega
  · rcases c.new i hi with h1 | h1
    · exact k.qF i h1 e
    · have := k.b.rd.pn.low i e
      omega
theorem Two.put (k : Two w F g D gx sa sc pa pc E G h A gy ta tc qa qc B v) (c : Gr v u) {sb : Option Addr} {sd : Nat} {pb : Option Addr} {pd : Nat} {E' : Dk} (hR : Rd u sb sd pb pd E') (f1 : Fr2 v sa sb) (f2 : Fr2 v pa pb) : Two w F g D gx sb sd pb pd E' G h A gy ta tc qa qc B (u.setRow gx (E'.v sb sd pb pd)) := by
  have hbt : Bt gx u (u.setRow gx (E'.v sb sd pb pd)) := (Bt.refl gx u).row_self _
  have hy := lt_of_block k.b.xb
  refine ⟨k.a.put c hR f1 f2, (k.b.more c).st hbt k.a.xo k.xy k.xg k.tx k.qx, k.fg, k.xg, k.yf, k.xy, fun e => ?_, fun e => ?_, k.tx, k.qx, fun i hi e => ?_, fun i hi e => ?_, k.tF, k.qF⟩
  · rcases f1 gy e with h1 | h1
    · exact k.sy h1
    · omega
  · rcases f2 gy e with h1 | h1
    · exact k.py h1
    · omega
  · rcases f1 i e with h1 | h1
    · exact k.sG i hi h1
    · have := k.b.ls.lt i hi
      omega
  · rcases f2 i e with h1 | h1
    · exact k.pG i hi h1
    · have := k.b.ls.lt i hi
      omega
theorem Two.st {b : Nat} (k : Two w F g D gx sa sc pa pc E G h A gy ta tc qa qc B v) (c : Bt b v u) (hw : w.heap.size ≤ b) (h1 : b ≠ gx) (h2 : b ∉ F) (h3 : blkOf sa ≠ some b) (h4 : blkOf pa ≠ some b) (f : b ≠ gy ∧ b ∉ G ∧ blkOf ta ≠ some b ∧ blkOf qa ≠ some b) : Two w F g D gx sa sc pa pc E G h A gy ta tc qa qc B u :=
  ⟨k.a.st c hw h1 h2 h3 h4, k.b.st c hw f.1 f.2.1 f.2.2.1 f.2.2.2, k.fg, k.xg, k.yf, k.xy, k.sy, k.py, k.tx, k.qx, k.sG, k.pG, k.tF, k.qF⟩
end
/-- a block of the reference's disk that floats -/
def NR (L : List Nat) (v0 : World) (q : Value) (u : World) : Prop := ∃ g, q = .pointer (some ⟨g, 0, none⟩) ∧ v0.heap.size ≤ g ∧ g ∉ L ∧ u.heap[g]? = some (.cells ZD 31 (0, 0))
theorem NR.gr {L : List Nat} {v0 u v : World} {q : Value} (h : NR L v0 q u) (k : Gr u v) : NR L v0 q v := by
  obtain ⟨g, h1, h2, h3, h4⟩ := h
  exact ⟨g, h1, h2, h3, k.blk h4⟩
/-- a disk and its copy, just made -/
theorem Tw.two {w : World} {F : List Nat} {g : Nat} {D : Dk} {gx : Nat} {sa : Option Addr} {sc : Nat} {pa : Option Addr} {pc : Nat} {v u : World} (k : Tw w F g D gx sa sc pa pc D v) (hg : Gr v u) {G : List Nat} {h gy : Nat} (hL : Lies G h D u) (hG : ∀ i ∈ G, v.heap.size ≤ i) (hy : v.heap.size ≤ gy) (hyG : gy ∉ G) (hB : u.heap[gy]? = some (.cells ZD 31 (0, 0))) : Two w F g D gx sa sc pa pc D G h D gy sa sc pa pc D (u.setRow gy (D.v sa sc pa pc)) := by
  obtain ⟨y1, y2, y3, y4⟩ := k.fresh hy
  have hbt : Bt gy u (u.setRow gy (D.v sa sc pa pc)) := (Bt.refl gy u).row_self _
  have hw : w.heap.size ≤ gy := Nat.le_trans k.gr.size hy
  have a := (k.more hg).st hbt hw y1 y2 y3 y4
  have sG : ∀ i ∈ G, blkOf sa ≠ some i := fun i hi e => by
    have h1 := k.rd.sf.low i e
    have h2 := hG i hi
    omega
  have pG : ∀ i ∈ G, blkOf pa ≠ some i := fun i hi e => by
    have h1 := k.rd.pn.low i e
    have h2 := hG i hi
    omega
  refine ⟨a, ⟨a.gr, hL.bt hbt hyG, fun i hi => Nat.le_trans k.gr.size (hG i hi), setRow_heap u gy _ _ _ _ hB, hw, hyG, a.rd, y3, y4, sG, pG⟩, fun i hi hj => ?_, fun hm => ?_, y2, Ne.symm y1, y3, y4, k.sx, k.px, sG, pG, k.sF, k.pF⟩
  · have h1 := k.ls.lt i hi
    have h2 := hG i hj
    omega
  · have h1 := lt_of_block k.xb
    have h2 := hG _ hm
    omega
end Go.Proofs.Ythgchjdjacbcgaa
