/-
  Where a disk of the program lies, and what of a world stays as it was.
-/
import Derived.Test.YthgchjdjacbcgaaDkK
namespace Go.Proofs.Ythgchjdjacbcgaa
open Go.RowKit
set_option maxRecDepth 100000
set_option linter.unusedSimpArgs false
set_option linter.unusedVariables false
/-- but for the blocks F nothing that was there has turned; F' are theirs, or new -/
structure Chg (F F' : List Nat) (w v : World) : Prop where
  os : v.os = w.os
  tape : v.tape = w.tape
  output : v.output = w.output
  size : w.heap.size ≤ v.heap.size
  block : ∀ i, i < w.heap.size → i ∉ F → v.heap[i]? = w.heap[i]?
  new : ∀ i ∈ F', i ∈ F ∨ w.heap.size ≤ i
theorem Gr.chg0 {w v : World} (h : Gr w v) (F : List Nat) : Chg F F w v := ⟨h.os, h.tape, h.output, h.size, fun i hi _ => h.block i hi, fun i hi => .inl hi⟩
theorem Gr.chg {F F' : List Nat} {w u v : World} (h : Gr w u) (k : Chg F F' u v) : Chg F F' w v :=
  ⟨k.os.trans h.os, k.tape.trans h.tape, k.output.trans h.output, Nat.le_trans h.size k.size, fun i hi hn => (k.block i (Nat.lt_of_lt_of_le hi h.size) hn).trans (h.block i hi), fun i hi => (k.new i hi).imp id (Nat.le_trans h.size)⟩
theorem Chg.gr {F F' : List Nat} {w u v : World} (h : Chg F F' w u) (k : Gr u v) : Chg F F' w v :=
  ⟨k.os.trans h.os, k.tape.trans h.tape, k.output.trans h.output, Nat.le_trans h.size k.size, fun i hi hn => (k.block i (Nat.lt_of_lt_of_le hi h.size)).trans (h.block i hi hn), h.new⟩
theorem Chg.bt {F F' : List Nat} {w u v : World} {b : Nat} (h : Chg F F' w u) (k : Bt b u v) (hb : w.heap.size ≤ b) : Chg F F' w v :=
  ⟨k.os.trans h.os, k.tape.trans h.tape, k.output.trans h.output, Nat.le_trans h.size k.size, fun i hi hn => (k.block i (Nat.lt_of_lt_of_le hi h.size) (by omega)).trans (h.block i hi hn), h.new⟩
theorem Chg.blk {F F' : List Nat} {w v : World} (h : Chg F F' w v) {b : Nat} {o : Obj} (hp : w.heap[b]? = some o) (hb : b ∉ F) : v.heap[b]? = some o := by rw [h.block b (lt_of_block hp) hb]; exact hp
theorem Chg.own {F F' : List Nat} {w u v : World} (h : Gr w u) (k : Chg F F' u v) (hF : ∀ i ∈ F, w.heap.size ≤ i) : Gr w v :=
  ⟨k.os.trans h.os, k.tape.trans h.tape, k.output.trans h.output, Nat.le_trans h.size k.size, fun i hi => (k.block i (Nat.lt_of_lt_of_le hi h.size) (fun hm => by have := hF i hm; omega)).trans (h.block i hi)⟩
theorem Chg.bt2 {F : List Nat} {w u v : World} {b : Nat} (h : Chg F F w u) (k : Bt b u v) (hb : b ∈ F ∨ w.heap.size ≤ b) : Chg F F w v :=
  ⟨k.os.trans h.os, k.tape.trans h.tape, k.output.trans h.output, Nat.le_trans h.size k.size, fun i hi hn => (k.block i (Nat.lt_of_lt_of_le hi h.size) (by
    rintro rfl
    rcases hb with hb | hb
    · exact hn hb
    · omega)).trans (h.block i hi hn), fun i hi => .inl hi⟩
theorem Chg.trans {F : List Nat} {w u v : World} (h : Chg F F w u) (k : Chg F F u v) : Chg F F w v :=
  ⟨k.os.trans h.os, k.tape.trans h.tape, k.output.trans h.output, Nat.le_trans h.size k.size, fun i hi hn => (k.block i (Nat.lt_of_lt_of_le hi h.size) hn).trans (h.block i hi hn), fun i hi => .inl hi⟩
theorem Chg.wide {F G F' : List Nat} {w v : World} (h : Chg F F w v) (hs : ∀ i ∈ F, i ∈ G) (hn : ∀ i ∈ F', i ∈ G ∨ w.heap.size ≤ i) : Chg G F' w v :=
  ⟨h.os, h.tape, h.output, h.size, fun i hi hm => h.block i hi (fun e => hm (hs i e)), hn⟩
theorem Chg.cell {F F' : List Nat} {w v : World} (h : Chg F F' w v) {p o : Nat} {x : Value} (hp : w.cell? ⟨p, o, none⟩ = some x) (hb : p ∉ F) : v.cell? ⟨p, o, none⟩ = some x := by
  rw [cell_heap (h.block p (lt_of_cell hp) hb)]; exact hp
/-- a world without blocks -/
def bare (w : World) : World := { w with heap := #[] }
/-- blocks of the call's own, or of F, which may be turned -/
structure Bc (F : List Nat) (w : World) (L : List Blk) (v : World) : Prop where
  bl : Bl (bare w) L v
  chg : Chg F F w v
  fo : ∀ x ∈ L, x.g ∈ F ∨ w.heap.size ≤ x.g
theorem fo_set {P : Nat → Prop} {L : List Blk} (h : ∀ x ∈ L, P x.g) (i : Nat) {x : Blk} (hi : L[i]? = some x) (c : Array Value) (t : TypeId) : ∀ y ∈ L.set i ⟨x.g, c, t⟩, P y.g := fun y hy =>
  (List.mem_or_eq_of_mem_set hy).elim (h y) (fun e => by rw [e]; exact h x (List.mem_of_getElem? hi))
theorem Bc.get {F : List Nat} {w v : World} {L : List Blk} (h : Bc F w L v) (i : Nat) {x : Blk} (hi : L[i]? = some x) : v.heap[x.g]? = some (.cells x.c x.t (0, 0)) := h.bl.get i hi
theorem Bc.own {F : List Nat} {w v : World} {L : List Blk} (h : Bc F w L v) (i : Nat) {x : Blk} (hi : L[i]? = some x) : x.g ∈ F ∨ w.heap.size ≤ x.g := h.fo x (List.mem_of_getElem? hi)
theorem Bc.more {F : List Nat} {w u v : World} {L : List Blk} (h : Bc F w L u) (k : Gr u v) : Bc F w L v := ⟨h.bl.more k, h.chg.gr k, h.fo⟩
theorem Bc.drew {F : List Nat} {w v : World} {L : List Blk} (h : Bc F w L v) : Bc F w L v.drew := h.more (Gr.refl v).drew
theorem Bc.cell {F : List Nat} {w v : World} {L : List Blk} (h : Bc F w L v) (k : Nat) {x : Blk} (hk : L[k]? = some x) (i : Nat) (y : Value) : Bc F w (L.set k ⟨x.g, x.c.setIfInBounds i y, x.t⟩) (v.setCell ⟨x.g, i, none⟩ y) :=
  ⟨h.bl.cell k hk i y, h.chg.bt2 (Bt.setCell v i y) (h.own k hk), fo_set (P := fun g => g ∈ F ∨ w.heap.size ≤ g) h.fo k hk _ _⟩
theorem Bc.set {F : List Nat} {w v : World} {L : List Blk} (h : Bc F w L v) (k : Nat) {x : Blk} (hk : L[k]? = some x) (c : Array Value) : Bc F w (L.set k ⟨x.g, c, x.t⟩) (v.setRow x.g c) :=
  ⟨h.bl.set k hk c, h.chg.bt2 ((Bt.refl x.g v).row_self c) (h.own k hk), fo_set (P := fun g => g ∈ F ∨ w.heap.size ≤ g) h.fo k hk _ _⟩
theorem Bc.but {F : List Nat} {w u v : World} {L : List Blk} (h : Bc F w L u) {g : Nat} (k : Bt g u v) (i : Nat) {x : Blk} (hi : L[i]? = some x) (hx : x.g = g) {c : Array Value} (hc : v.heap[g]? = some (.cells c x.t (0, 0))) : Bc F w (L.set i ⟨g, c, x.t⟩) v := by
  subst hx
  exact ⟨h.bl.but k i hi rfl hc, h.chg.bt2 k (h.own i hi), fo_set (P := fun g => g ∈ F ∨ w.heap.size ≤ g) h.fo i hi _ _⟩
theorem Bc.new {F : List Nat} {w v : World} {L : List Blk} (h : Bc F w L v) (c : Array Value) (t : TypeId) : Bc F w (L ++ [⟨v.heap.size, c, t⟩]) (v.alloc (.cells c t (0, 0))) :=
  ⟨h.bl.new c t, h.chg.gr ((Gr.refl v).alloc _), fun x hx => (List.mem_append.1 hx).elim (h.fo x) (fun e => by rw [List.mem_singleton] at e; rw [e]; exact .inr h.chg.size)⟩
theorem Bc.left {F : List Nat} {w v : World} {L M : List Blk} (h : Bc F w (L ++ M) v) : Bc F w L v := ⟨h.bl.left, h.chg, fun x hx => h.fo x (List.mem_append_left _ hx)⟩
theorem Bc.nil (F : List Nat) (w : World) : Bc F w [] w := ⟨⟨⟨rfl, rfl, rfl, Nat.zero_le _, fun i hi => absurd hi (Nat.not_lt_zero i)⟩, (fun _ h => by cases h), List.Pairwise.nil⟩, (Gr.refl w).chg0 F, fun _ h => by cases h⟩
theorem Bc.add {F : List Nat} {w v : World} {L : List Blk} (h : Bc F w L v) (x : Blk) (hx : v.heap[x.g]? = some x.obj) (hw : x.g ∈ F ∨ w.heap.size ≤ x.g) (hn : ∀ y ∈ L, y.g ≠ x.g) : Bc F w (L ++ [x]) v :=
  ⟨h.bl.add x hx (Nat.zero_le _) hn, h.chg, fun y hy => (List.mem_append.1 hy).elim (h.fo y) (fun e => by rw [List.mem_singleton] at e; rw [e]; exact hw)⟩
/-- blocks of unlike types are two -/
theorem ty_ne {v : World} {a b : Nat} {c d : Array Value} {s t : TypeId} (ha : v.heap[a]? = some (.cells c s (0, 0))) (hb : v.heap[b]? = some (.cells d t (0, 0))) (hn : s ≠ t) : a ≠ b := by
  rintro rfl
  rw [ha] at hb
  have := Option.some.inj hb
  injection this with _ h6 _
  exact hn h6
/-- the cells of the program's disk -/
def pdv (sa : Option Addr) (sn sc : Nat) (pa : Option Addr) (pn pc : Nat) (l : Int) (o : Nat) (d : Bool) : Array Value := #[.slice sa sn sc, .slice pa pn pc, .int .i64 l, .int .i64 (o : Int), .bool d]
theorem pdv_one (sa : Option Addr) (sn sc : Nat) (pa : Option Addr) (pn pc : Nat) (l : Int) (o : Nat) (d : Bool) : (pdv sa sn sc pa pn pc l o d).all (·.oneCell') = true := by unfold pdv; simp [Value.oneCell']
/-- how many more are done, as the program keeps it -/
def Lf (x l : Int) : Prop := (x < 0 → l < 0 ∧ -9223372036854775808 ≤ l) ∧ (0 ≤ x → l = x)
theorem Lf.refl (x : Int) (h : -9223372036854775808 ≤ x) : Lf x x := ⟨fun e => ⟨e, h⟩, fun _ => rfl⟩
/-- a disk of the program: its parts -/
structure Pd (g : Nat) (D : Dk) (v : World) (sg sc : Nat) (C : List Value) (pa : Option Addr) (pc : Nat) (l : Int) : Prop where
  cel : v.heap[g]? = some (.cells (pdv (some ⟨sg, 0, none⟩) D.safe.length sc pa D.pend.length pc l D.ops D.dead) 67 (0, 0))
  saf : v.heap[sg]? = some (.cells C.toArray 39 (0, 0))
  cov : Cov C (D.safe.map bv).flatten
  len : C.length = sc * 64
  cap : D.safe.length ≤ sc
  max : sc ≤ maxLen
  pnd : Or_ 65 75 0 v (.slice pa D.pend.length pc) (D.pend.map wv)
  lf : Lf D.left l
/-- the blocks of a disk -/
def pdF (g sg : Nat) (pa : Option Addr) : List Nat := g :: sg :: (blkOf pa).toList
/-- a disk lies at g, in the blocks F -/
def Lies (F : List Nat) (g : Nat) (D : Dk) (v : World) : Prop := ∃ sg sc C pa pc l, Pd g D v sg sc C pa pc l ∧ F = pdF g sg pa
theorem mem_pdF {g sg i : Nat} {pa : Option Addr} : i ∈ pdF g sg pa ↔ i = g ∨ i = sg ∨ blkOf pa = some i := by
  unfold pdF
  simp [Option.mem_toList]
theorem or_blk_lt {k : Nat} {e : TypeId} {b : Nat} {w : World} {a : Option Addr} {n c : Nat} {R : List (List Value)} (h : Or_ k e b w (.slice a n c) R) {i : Nat} (hi : blkOf a = some i) : ∃ cur, w.heap[i]? = some (.cells cur e (0, 0)) := by
  rcases h.2.2 with ⟨h1, _⟩ | ⟨g, cap, cur, h1, _, h3, _⟩
  · injection h1 with h1 _ _
    rw [h1] at hi
    cases hi
  · injection h1 with h1 _ _
    rw [h1] at hi
    have : g = i := by simpa [blkOf] using hi
    subst this
    exact ⟨cur, h3⟩
theorem or_keep {k : Nat} {e : TypeId} {b : Nat} {w u : World} {a : Option Addr} {n c : Nat} {R : List (List Value)} (h : Or_ k e b w (.slice a n c) R) (hk : ∀ i, blkOf a = some i → u.heap[i]? = w.heap[i]?) : Or_ k e b u (.slice a n c) R := by
  refine ⟨h.1, h.2.1, ?_⟩
  rcases h.2.2 with ⟨h1, h2⟩ | ⟨g, cap, cur, h1, h2, h3, h4⟩
  · exact .inl ⟨h1, h2⟩
  · refine .inr ⟨g, cap, cur, h1, h2, ?_, h4⟩
    injection h1 with h1 _ _
    rw [hk g (by rw [h1]; rfl)]
    exact h3
/-- where the blocks stay, the disk stays -/
theorem Pd.keep {g : Nat} {D : Dk} {v u : World} {sg sc : Nat} {C : List Value} {pa : Option Addr} {pc : Nat} {l : Int} (h : Pd g D v sg sc C pa pc l) (k : ∀ i ∈ pdF g sg pa, u.heap[i]? = v.heap[i]?) : Pd g D u sg sc C pa pc l :=
  ⟨(k g (mem_pdF.2 (.inl rfl))).trans h.cel, (k sg (mem_pdF.2 (.inr (.inl rfl)))).trans h.saf, h.cov, h.len, h.cap, h.max, or_keep h.pnd (fun i hi => k i (mem_pdF.2 (.inr (.inr hi)))), h.lf⟩
theorem Pd.lt {g : Nat} {D : Dk} {v : World} {sg sc : Nat} {C : List Value} {pa : Option Addr} {pc : Nat} {l : Int} (h : Pd g D v sg sc C pa pc l) : ∀ i ∈ pdF g sg pa, i < v.heap.size := by
  intro i hi
  rcases mem_pdF.1 hi with rfl | rfl | hi
  · exact lt_of_block h.cel
  · exact lt_of_block h.saf
  · obtain ⟨cur, hc⟩ := or_blk_lt h.pnd hi
    exact lt_of_block hc
theorem Pd.gr {g : Nat} {D : Dk} {v u : World} {sg sc : Nat} {C : List Value} {pa : Option Addr} {pc : Nat} {l : Int} (h : Pd g D v sg sc C pa pc l) (k : Gr v u) : Pd g D u sg sc C pa pc l :=
  h.keep (fun i hi => k.block i (h.lt i hi))
theorem Lies.lt {F : List Nat} {g : Nat} {D : Dk} {v : World} (h : Lies F g D v) : ∀ i ∈ F, i < v.heap.size := by
  obtain ⟨sg, sc, C, pa, pc, l, h, rfl⟩ := h
  exact h.lt
theorem Lies.keep {F : List Nat} {g : Nat} {D : Dk} {v u : World} (h : Lies F g D v) (hs : v.heap.size ≤ u.heap.size) (k : ∀ i ∈ F, u.heap[i]? = v.heap[i]?) : Lies F g D u := by
  obtain ⟨sg, sc, C, pa, pc, l, h, rfl⟩ := h
  exact ⟨sg, sc, C, pa, pc, l, h.keep k, rfl⟩
theorem Pd.sg_ne {g : Nat} {D : Dk} {v : World} {sg sc : Nat} {C : List Value} {pa : Option Addr} {pc : Nat} {l : Int} (h : Pd g D v sg sc C pa pc l) : g ≠ sg := ty_ne h.cel h.saf (by decide)
theorem Pd.pg_ne {g : Nat} {D : Dk} {v : World} {sg sc : Nat} {C : List Value} {pa : Option Addr} {pc : Nat} {l : Int} (h : Pd g D v sg sc C pa pc l) {i : Nat} (hi : blkOf pa = some i) : i ≠ g ∧ i ≠ sg := by
  obtain ⟨cur, hc⟩ := or_blk_lt h.pnd hi
  exact ⟨ty_ne hc h.cel (by decide), ty_ne hc h.saf (by decide)⟩
/-- the sectors as rows, the pending writes as rows -/
theorem Pd.sls {g : Nat} {D : Dk} {v : World} {sg sc : Nat} {C : List Value} {pa : Option Addr} {pc : Nat} {l : Int} (h : Pd g D v sg sc C pa pc l) {m : Nat} (hD : D.Ok m) : Ls 64 v (some ⟨sg, 0, none⟩) D.safe.length sc (D.safe.map bv) :=
  ⟨List.length_map .., bv_rows hD.blk, .inr ⟨sg, 0, rfl, cov_range h.saf h.cov⟩, h.cap, by have := h.max; unfold maxLen at this; omega, fun p e => by have e3 := Option.some.inj e; rw [← e3]; exact lt_of_block h.saf⟩
theorem Pd.pls {g : Nat} {D : Dk} {v : World} {sg sc : Nat} {C : List Value} {pa : Option Addr} {pc : Nat} {l : Int} (h : Pd g D v sg sc C pa pc l) : Ls 65 v pa D.pend.length pc (D.pend.map wv) := by
  obtain ⟨a, c, e, hl⟩ := h.pnd.ls
  rw [List.length_map] at e hl
  injection e with e1 _ e3
  rw [e1, e3]
  exact hl
/-- the two blocks that are turned -/
theorem Pd.two {g : Nat} {D : Dk} {v : World} {sg sc : Nat} {C : List Value} {pa : Option Addr} {pc : Nat} {l : Int} (h : Pd g D v sg sc C pa pc l) {F : List Nat} (hg : g ∈ F) (hs : sg ∈ F) :
    Bc F v [⟨g, pdv (some ⟨sg, 0, none⟩) D.safe.length sc pa D.pend.length pc l D.ops D.dead, 67⟩, ⟨sg, C.toArray, 39⟩] v := by
  have h1 := (Bc.nil F v).add ⟨g, pdv (some ⟨sg, 0, none⟩) D.safe.length sc pa D.pend.length pc l D.ops D.dead, 67⟩ h.cel (.inl hg) (fun y hy => by cases hy)
  exact h1.add ⟨sg, C.toArray, 39⟩ h.saf (.inl hs) (fun y hy => by
    simp only [List.nil_append, List.mem_singleton] at hy
    rw [hy]
    exact h.sg_ne)
theorem Kp.keep {w v : World} {a : Option Addr} {n c : Nat} {l : List Bool} (h : Kp w a n c l) (hk : ∀ i, blkOf a = some i → i < w.heap.size → v.heap[i]? = w.heap[i]?) : Kp v a n c l := by
  refine ⟨h.len, ?_, h.cap, h.max⟩
  rcases h.sl with h | ⟨p, o, rfl, h2⟩
  · exact .inl h
  · refine .inr ⟨p, o, rfl, fun j x hj => ?_⟩
    have h3 := h2 j x hj
    rw [cell_heap (hk p rfl (lt_of_cell h3))]
    exact h3
theorem Kp.chg {F F' : List Nat} {w v : World} {a : Option Addr} {n c : Nat} {l : List Bool} (h : Kp w a n c l) (k : Chg F F' w v) (hn : ∀ i ∈ F, blkOf a ≠ some i) : Kp v a n c l :=
  h.keep (fun i hi hl => k.block i hl (fun hm => hn i hm hi))
abbrev P0 (g : Nat) : Value := .pointer (some ⟨g, 0, none⟩)
def Vl (v : Value) (w : World) (r : Ending) (w' : World) : Prop := r = .returned v ∧ Gr w w'
def Ch (F : List Nat) (g : Nat) (D : Dk) (e : Int) (w : World) (r : Ending) (w' : World) : Prop := ∃ F', r = .returned (.int .i64 e) ∧ Lies F' g D w' ∧ Chg F F' w w'
theorem Try.infoPD : (Try.prog.info? 67).map (·.size) = some 5 := by kernel_rfl
theorem Try.infoPW : (Try.prog.info? 75).map (·.size) = some 65 := by kernel_rfl
theorem Try.infoPWz : (Try.prog.info? 75).map (fun i => (i.zero, i.size, i.bytes)) = some (some (.agg (wv (0, ZB)).toArray), 65, 72) := by kernel_rfl
theorem lt_pw : Lt 65 75 65 72 := by
  obtain ⟨i, h1, h2, h3, h4⟩ := info_parts Try.infoPWz
  exact ⟨Try.underlying65, ⟨i, _, h1, h2, h3, h4, rfl⟩, by decide, by decide⟩
theorem exec_spw {op : Oper} {a : Act} (w : World) (x : Operand) (ho : op.op = .load 65 x) (g i : Nat) (hx : a.eval x = .pointer (some ⟨g, i, none⟩)) (s : Option Addr) (n c : Nat) (hc : w.cell? ⟨g, i, none⟩ = some (.slice s n c)) : (execOp a.eval op).run Try.prog w = .ok (.value (.slice s n c)) w := by
  unfold execOp
  simp only [ho, hx, Instr.loadAt, Instr.sureAddr, Sem.run_bind, Sem.run_pure, Result.andThen_ok]
  go_simp
theorem exec_ipw {a : Act} {o : Oper} (w : World) (x y : Operand) (ho : o.op = .indexAddr 65 x y) (g q len cap i : Nat) (hx : a.eval x = .slice (some ⟨g, q, none⟩) len cap) (hy : a.eval y = .int .i64 i) (hi : i < len) :
    (execOp a.eval o).run Try.prog w = .ok (.value (.pointer (some ⟨g, q + 65 * i, none⟩))) w := by
  have h1 : (i : Int) < (len : Int) := by omega
  unfold execOp
  simp only [ho, hx, hy]
  go_simp
end Go.Proofs.Ythgchjdjacbcgaa
