/-
  Layer 14: the cells of records; blocks of one's own beside a Reader; what is equal to itself.
-/
import Derived.Test.YtcefkkoombmndaaFA
import Derived.Laws.StructEq
namespace Go.Proofs.Ytcefkkoombmndaa
open Go.RowKit
set_option maxRecDepth 100000
set_option linter.unusedSimpArgs false
set_option linter.unusedVariables false
theorem exec_u32 {op : Oper} {a : Act} (w : World) (x : Operand) (ho : op.op = .load 22 x) (g i : Nat) (hx : a.eval x = .pointer (some ⟨g, i, none⟩)) (v : Int) (hc : w.cell? ⟨g, i, none⟩ = some (.int .u32 v)) : (execOp a.eval op).run Try.prog w = .ok (.value (.int .u32 v)) w := by
  unfold execOp
  simp only [ho, hx, Instr.loadAt, Instr.sureAddr, Sem.run_bind, Sem.run_pure, Result.andThen_ok]
  go_simp
/-- the cells of a Header, a Message, an Exchange, an Envelope -/
def hdl (K : List Int) (p q : Int) : List Value := bv K ++ [.int .u32 p, .int .u32 q]
def msl (K : List Int) (p q : Int) (B : List Int) : List Value := bv K ++ (.int .u32 p :: .int .u32 q :: bv B)
def xcl (D B : List Int) : List Value := bv D ++ bv B
def evl (k a s : Int) (B : List Int) : List Value := .int .i64 k :: .int .u32 a :: .int .u32 s :: bv B
theorem hdl_len {K : List Int} (h : K.length = 32) (p q : Int) : (hdl K p q).length = 34 := by unfold hdl; simp [bv_len, h]
theorem msl_len {K B : List Int} (h : K.length = 32) (p q : Int) (hB : B.length = 65) : (msl K p q B).length = 99 := by unfold msl; simp [bv_len, h, hB]
theorem xcl_len {D B : List Int} (h : D.length = 16) (hB : B.length = 130) : (xcl D B).length = 146 := by unfold xcl; simp [bv_len, h, hB]
theorem evl_len (k a s : Int) {B : List Int} (hB : B.length = 105) : (evl k a s B).length = 108 := by unfold evl; simp [bv_len, hB]
theorem hdl_one (K : List Int) (p q : Int) : (hdl K p q).toArray.all (·.oneCell') = true := by unfold hdl bv; simp [Value.oneCell']
theorem msl_one (K : List Int) (p q : Int) (B : List Int) : (msl K p q B).toArray.all (·.oneCell') = true := by unfold msl bv; simp [Value.oneCell']
theorem xcl_one (D B : List Int) : (xcl D B).toArray.all (·.oneCell') = true := by unfold xcl bv; simp [Value.oneCell']
theorem evl_one (k a s : Int) (B : List Int) : (evl k a s B).toArray.all (·.oneCell') = true := by unfold evl bv; simp [Value.oneCell']
theorem bv_get (K : List Int) (i : Nat) (h : i < K.length) : (bv K)[i]? = some (.int .u8 (K.getD i 0)) := by unfold bv; simp [h]
theorem mid_get {A D : List Value} {K : List Int} {o : Nat} (hA : A.length = o) (j : Nat) (hj : j < K.length) : (A ++ (bv K ++ D))[o + j]? = some (.int .u8 (K.getD j 0)) := by
  subst hA
  rw [List.getElem?_append_right (by omega), Nat.add_sub_cancel_left, List.getElem?_append_left (by rw [bv_len]; exact hj)]
  exact bv_get K j hj
theorem beh_get {A D : List Value} {x : Value} {o : Nat} (hA : A.length = o) : (A ++ (x :: D))[o]? = some x := by
  subst hA
  simp
/-- bytes within a block -/
theorem at_mid {w : World} {g o : Nat} {C A D : List Value} {K : List Int} {t : TypeId} (h : w.heap[g]? = some (.cells C.toArray t (0, 0))) (hC : C = A ++ (bv K ++ D)) (hA : A.length = o) : At w g o K := fun j hj => by
  refine cell_of h ?_
  rw [List.getElem?_toArray, hC]
  exact mid_get hA j hj
theorem lb_mid {w : World} {g o n c : Nat} {C A D : List Value} {K : List Int} {t : TypeId} (h : w.heap[g]? = some (.cells C.toArray t (0, 0))) (hC : C = A ++ (bv K ++ D)) (hA : A.length = o) (hK : IsB K) (hn : K.length = n) (hc : n ≤ c) (hm : c < 9223372036854775808) : Lb w (some ⟨g, o, none⟩) n c K := ⟨hn, hK, .inr ⟨g, o, rfl, at_mid h hC hA⟩, hc, hm⟩
/-- a row of cells within a block -/
theorem range_mid {w : World} {g o : Nat} {C A M D : List Value} {t : TypeId} (h : w.heap[g]? = some (.cells C.toArray t (0, 0))) (hC : C = A ++ (M ++ D)) (hA : A.length = o) : w.rangeAt g o M := fun j x hj => by
  refine cell_of h ?_
  have hlt := (List.getElem?_eq_some_iff.1 hj).1
  rw [List.getElem?_toArray, hC, ← hA, List.getElem?_append_right (by omega), Nat.add_sub_cancel_left, List.getElem?_append_left hlt]
  exact hj
theorem hd_prev {K : List Int} (h : K.length = 32) (p q : Int) : (hdl K p q).toArray[32]? = some (.int .u32 p) := by
  rw [List.getElem?_toArray]; exact beh_get (by rw [bv_len, h])
theorem hd_num {K : List Int} (h : K.length = 32) (p q : Int) : (hdl K p q).toArray[33]? = some (.int .u32 q) := by
  rw [List.getElem?_toArray]
  have e : hdl K p q = (bv K ++ [.int .u32 p]) ++ [.int .u32 q] := by unfold hdl; simp
  rw [e]; exact beh_get (by simp [bv_len, h])
theorem msl_hdl (K : List Int) (p q : Int) (B : List Int) : msl K p q B = hdl K p q ++ (bv B ++ []) := by unfold msl hdl; simp
theorem msl_hd0 (K : List Int) (p q : Int) (B : List Int) : msl K p q B = [] ++ (hdl K p q ++ bv B) := by unfold msl hdl; simp
theorem xcl_drop (D B : List Int) : xcl D B = [] ++ (bv D ++ bv B) := rfl
theorem xcl_body (D B : List Int) : xcl D B = bv D ++ (bv B ++ []) := by unfold xcl; simp
theorem hdl_key (K : List Int) (p q : Int) : hdl K p q = [] ++ (bv K ++ [.int .u32 p, .int .u32 q]) := rfl
theorem evl_body (k a s : Int) (B : List Int) : evl k a s B = [.int .i64 k, .int .u32 a, .int .u32 s] ++ (bv B ++ []) := by unfold evl; simp

/-- a part is laid over cells -/
theorem fold_mid (off : Nat) : ∀ (vs A M D : List Value) (k : Nat), A.length = off + k → vs.length = M.length → (vs.zipIdx k).foldl (fun cs x => cs.setIfInBounds (off + x.2) x.1) (A ++ (M ++ D)).toArray = (A ++ (vs ++ D)).toArray
  | [], A, [], D, _, _, _ => by simp
  | [], _, _ :: _, _, _, _, h => by simp at h
  | _ :: _, _, [], _, _, _, h => by simp at h
  | v :: vs, A, m :: M, D, k, hA, h => by
    rw [List.zipIdx_cons, List.foldl_cons]
    have e : (A ++ (m :: M ++ D)).toArray.setIfInBounds (off + k) v = ((A ++ [v]) ++ (M ++ D)).toArray := by
      rw [List.setIfInBounds_toArray, ← hA]
      simp
    show List.foldl _ ((A ++ (m :: M ++ D)).toArray.setIfInBounds (off + k) v) _ = _
    rw [e, fold_mid off vs (A ++ [v]) M D (k + 1) (by simp [hA]; omega) (by simpa using h)]
    simp

/-- a Reader, and blocks of one's own of other types -/
structure Gt (g : Nat) (w : World) (L : List Blk) (p n c k : Nat) (B : List Int) (v : World) : Prop where
  bc : Bc [g] w L v
  rd : Rdr g p n c k B v
  ty : ∃ cur, v.heap[p]? = some (.cells cur 5 (0, 0))
  ts : ∀ y ∈ L, y.t ≠ 100 ∧ y.t ≠ 5
theorem Gt.more {g : Nat} {w u v : World} {L : List Blk} {p n c k : Nat} {B : List Int} (h : Gt g w L p n c k B u) (e : Gr u v) : Gt g w L p n c k B v :=
  ⟨h.bc.more e, h.rd.gr e, by obtain ⟨cur, hc⟩ := h.ty; exact ⟨cur, e.blk hc⟩, h.ts⟩
theorem Gt.get {g : Nat} {w v : World} {L : List Blk} {p n c k : Nat} {B : List Int} (h : Gt g w L p n c k B v) (i : Nat) {x : Blk} (hi : L[i]? = some x) : v.heap[x.g]? = some (.cells x.c x.t (0, 0)) := h.bc.get i hi
theorem Bc.keep {F : List Nat} {w u v : World} {L : List Blk} (h : Bc F w L u) {g : Nat} (k : Bt g u v) (hg : g ∈ F ∨ w.heap.size ≤ g) (hn : ∀ x ∈ L, x.g ≠ g) : Bc F w L v :=
  ⟨⟨⟨k.os.trans h.bl.gr.os, k.tape.trans h.bl.gr.tape, k.output.trans h.bl.gr.output, Nat.zero_le _, fun i hi => absurd hi (Nat.not_lt_zero i)⟩, fun x hx => ⟨k.blk (h.bl.at_ x hx).1 (hn x hx), Nat.zero_le _⟩, h.bl.ne⟩, h.chg.bt2 k hg, h.fo⟩
theorem Gt.read {g : Nat} {w u v : World} {L : List Blk} {p n c k m : Nat} {B : List Int} (h : Gt g w L p n c k B u) (r : Rdr g p n c m B v) (e : Bt g u v) : Gt g w L p n c m B v :=
  ⟨h.bc.keep e (.inl (by simp)) (h.bc.bl.apart h.rd.cel (fun y hy => (h.ts y hy).1)), r, by obtain ⟨cur, hc⟩ := h.ty; exact ⟨cur, e.blk hc h.rd.ne⟩, h.ts⟩
theorem Gt.rdr_bt {g : Nat} {w u v : World} {L : List Blk} {p n c k : Nat} {B : List Int} (h : Gt g w L p n c k B u) (i : Nat) {x : Blk} (hi : L[i]? = some x) (e : Bt x.g u v) : Rdr g p n c k B v ∧ ∃ cur, v.heap[p]? = some (.cells cur 5 (0, 0)) := by
  obtain ⟨cur, hc⟩ := h.ty
  have h1 := h.bc.get i hi
  have ht := h.ts x (List.mem_of_getElem? hi)
  have n1 : g ≠ x.g := ty_ne h.rd.cel h1 (fun e => ht.1 e.symm)
  have n2 : p ≠ x.g := ty_ne hc h1 (fun e => ht.2 e.symm)
  exact ⟨h.rd.bt e n1 n2, cur, e.blk hc n2⟩
theorem ts_set {L : List Blk} {P : TypeId → Prop} (h : ∀ y ∈ L, P y.t) (i : Nat) {x : Blk} (hi : L[i]? = some x) (c : Array Value) : ∀ y ∈ L.set i ⟨x.g, c, x.t⟩, P y.t := fun y hy =>
  (List.mem_or_eq_of_mem_set hy).elim (h y) (fun e => by rw [e]; exact h x (List.mem_of_getElem? hi))
theorem Gt.turn {g : Nat} {w u v : World} {L : List Blk} {p n c k : Nat} {B : List Int} (h : Gt g w L p n c k B u) (i : Nat) {x : Blk} (hi : L[i]? = some x) (e : Bt x.g u v) {cs : Array Value} (hc : v.heap[x.g]? = some (.cells cs x.t (0, 0))) : Gt g w (L.set i ⟨x.g, cs, x.t⟩) p n c k B v :=
  ⟨h.bc.but e i hi rfl hc, (h.rdr_bt i hi e).1, (h.rdr_bt i hi e).2, ts_set (P := fun t => t ≠ 100 ∧ t ≠ 5) h.ts i hi cs⟩
theorem Gt.cells {g : Nat} {w v : World} {L : List Blk} {p n c k : Nat} {B : List Int} (h : Gt g w L p n c k B v) (i : Nat) {q : Nat} {C : List Value} {t : TypeId} (hi : L[i]? = some ⟨q, C.toArray, t⟩) (o : Nat) (vs : List Value) : Gt g w (L.set i ⟨q, (sp C o vs).toArray, t⟩) p n c k B (v.setCells q o vs) :=
  h.turn i hi (setCells_bt vs v q o) (setCells_heap vs v q o C t (h.get i hi))
theorem setRow_bt (w : World) (g : Nat) (c : Array Value) : Bt g w (w.setRow g c) := ⟨rfl, rfl, rfl, by rw [setRow_size]; exact Nat.le_refl _, fun i _ hn => setRow_other w g i c hn⟩
theorem Gt.set {g : Nat} {w v : World} {L : List Blk} {p n c k : Nat} {B : List Int} (h : Gt g w L p n c k B v) (i : Nat) {x : Blk} (hi : L[i]? = some x) (cs : Array Value) : Gt g w (L.set i ⟨x.g, cs, x.t⟩) p n c k B (v.setRow x.g cs) :=
  h.turn i hi (setRow_bt v x.g cs) (setRow_heap v x.g _ cs x.t (0, 0) (h.get i hi))
theorem setCell_bt (w : World) (g i : Nat) (y : Value) : Bt g w (w.setCell ⟨g, i, none⟩ y) := by
  refine ⟨rfl, rfl, rfl, ?_, fun j hj hn => ?_⟩
  · simp [World.setCell]
  · simp [World.setCell, Array.getElem?_modify, Ne.symm hn]
theorem Gt.cell {g : Nat} {w v : World} {L : List Blk} {p n c k : Nat} {B : List Int} (h : Gt g w L p n c k B v) (i : Nat) {x : Blk} (hi : L[i]? = some x) (j : Nat) (y : Value) : Gt g w (L.set i ⟨x.g, x.c.setIfInBounds j y, x.t⟩) p n c k B (v.setCell ⟨x.g, j, none⟩ y) :=
  h.turn i hi (setCell_bt v x.g j y) ((h.bc.cell i hi j y).get i (x := ⟨x.g, x.c.setIfInBounds j y, x.t⟩) (by rw [List.getElem?_set_self (List.getElem?_eq_some_iff.1 hi).1]))
theorem Gt.new {g : Nat} {w v : World} {L : List Blk} {p n c k : Nat} {B : List Int} (h : Gt g w L p n c k B v) (cs : Array Value) (t : TypeId) (ht : t ≠ 100 ∧ t ≠ 5) : Gt g w (L ++ [⟨v.heap.size, cs, t⟩]) p n c k B (v.alloc (.cells cs t (0, 0))) :=
  ⟨h.bc.new cs t, h.rd.gr ((Gr.refl v).alloc _), by obtain ⟨cur, hc⟩ := h.ty; exact ⟨cur, ((Gr.refl v).alloc _).blk hc⟩, fun y hy => (List.mem_append.1 hy).elim (h.ts y) (fun e => by rw [List.mem_singleton.1 e]; exact ht)⟩
theorem Gt.gr {g : Nat} {w v : World} {L : List Blk} {p n c k : Nat} {B : List Int} (h : Gt g w L p n c k B v) (hg : w.heap.size ≤ g) : Gr w v := Chg.own (Gr.refl w) h.bc.chg (by simpa using hg)
theorem Gt.bt {g : Nat} {w v : World} {L : List Blk} {p n c k : Nat} {B : List Int} (h : Gt g w L p n c k B v) : Bt g w v := h.bc.chg.bt1
/-- blocks of one's own, and a Reader that was made behind them -/
theorem Bl.gt {w u v : World} {L : List Blk} {g p n c k : Nat} {B : List Int} (h : Bl w L u) (e : Gr u v) (hg : u.heap.size ≤ g) (hp : u.heap.size ≤ p) (r : Rdr g p n c k B v) (ty : ∃ cur, v.heap[p]? = some (.cells cur 5 (0, 0))) (ts : ∀ y ∈ L, y.t ≠ 100 ∧ y.t ≠ 5) : Gt g w L p n c k B v :=
  have h1 := h.more e
  ⟨⟨⟨⟨h1.gr.os, h1.gr.tape, h1.gr.output, Nat.zero_le _, fun i hi => absurd hi (Nat.not_lt_zero i)⟩, fun x hx => ⟨(h1.at_ x hx).1, Nat.zero_le _⟩, h1.ne⟩, h1.gr.chg0 [g], fun x hx => .inr (h1.at_ x hx).2⟩, r, ty, ts⟩
/-- a Reader of the caller's -/
theorem Gt.of {w : World} {g p n c k : Nat} {B : List Int} (r : Rdr g p n c k B w) (ty : ∃ cur, w.heap[p]? = some (.cells cur 5 (0, 0))) : Gt g w [] p n c k B w := ⟨Bc.nil [g] w, r, ty, fun _ h => by cases h⟩

/-- what is equal to itself -/
theorem eqItems_self (d : Nat) (e : TypeId) (c : Nat) (xs : Array Value) (w : World) : ∀ (is : List Nat), (∀ i ∈ is, ∃ v, (part e xs (i * c)).run Try.prog w = .ok v w ∧ (Op.equalIn d e v v).run Try.prog w = .ok true w) → (Op.eqItems d e c xs xs is).run Try.prog w = .ok true w
  | [], _ => by simp [Op.eqItems]
  | i :: is, h => by
    obtain ⟨v, h1, h2⟩ := h i (by simp)
    have h3 := eqItems_self d e c xs w is (fun j hj => h j (by simp [hj]))
    simp only [Op.eqItems, Sem.run_bind, h1, h2, Result.andThen_ok]
    simpa using h3
theorem eqFields_self (d : Nat) (xs : Array Value) (w : World) : ∀ (fs : List Field), (∀ f ∈ fs, f.name ≠ "_" ∧ ∃ v, (part f.type xs f.offset).run Try.prog w = .ok v w ∧ (Op.equalIn d f.type v v).run Try.prog w = .ok true w) → (Op.eqFields d xs xs fs).run Try.prog w = .ok true w
  | [], _ => by simp [Op.eqFields]
  | f :: fs, h => by
    obtain ⟨hn, v, h1, h2⟩ := h f (by simp)
    have h3 := eqFields_self d xs w fs (fun j hj => h j (by simp [hj]))
    simp only [Op.eqFields, hn, ne_eq, not_false_eq_true, if_true, Sem.run_bind, h1, h2, Result.andThen_ok]
    simpa using h3
theorem eq_int {t : TypeId} {q : IntKind} (hu : Try.prog.underlying t = some (.int q)) (d : Nat) (k : IntKind) (x : Int) (w : World) : (Op.equalIn (d + 1) t (.int k x) (.int k x)).run Try.prog w = .ok true w := by
  simp [Op.equalIn, Sem.run_bind, run_underlying hu]
theorem part_cell {t : TypeId} {q : IntKind} (hu : Try.prog.underlying t = some (.int q)) {xs : Array Value} {o : Nat} {v : Value} (h : xs[o]? = some v) (w : World) : (part t xs o).run Try.prog w = .ok v w := by
  simp [part, isAgg, Sem.run_bind, run_underlying hu, h]
/-- rows of bytes -/
theorem eq_bytes {t : TypeId} {n : Nat} (hu : Try.prog.underlying t = some (.array n 5)) (d : Nat) (xs : Array Value) (h : ∀ i, i < n → ∃ x, xs[i]? = some (.int .u8 x)) (w : World) : (Op.equalIn (d + 2) t (.agg xs) (.agg xs)).run Try.prog w = .ok true w := by
  obtain ⟨i5, hi5⟩ := info_of_underlying Try.underlying5
  rw [run_equalIn_array w (d + 1) xs xs hu hi5]
  refine eqItems_self _ _ _ _ _ _ (fun i hi => ?_)
  obtain ⟨x, hx⟩ := h i (List.mem_range.1 hi)
  have hc : Try.prog.cellsOf 5 = 1 := Try.cells_b
  rw [hc, Nat.mul_one]
  exact ⟨_, part_cell Try.underlying5 hx w, eq_int Try.underlying5 d _ _ w⟩
theorem part_row {t : TypeId} {n : Nat} {e : TypeId} (hu : Try.prog.underlying t = some (.array n e)) {m : Nat} (hi : (Try.prog.info? t).map (·.size) = some m) (xs : Array Value) (o : Nat) (w : World) : (part t xs o).run Try.prog w = .ok (.agg (xs.extract o (o + m))) w := by
  obtain ⟨i, h1, h2⟩ := Option.map_eq_some_iff.1 hi
  simp [part, isAgg, Sem.run_bind, run_underlying hu, sizeOf, typeInfo, h1, h2]
theorem part_str {t : TypeId} {fs : Array Field} (hu : Try.prog.underlying t = some (.struct fs)) {m : Nat} (hi : (Try.prog.info? t).map (·.size) = some m) (xs : Array Value) (o : Nat) (w : World) : (part t xs o).run Try.prog w = .ok (.agg (xs.extract o (o + m))) w := by
  obtain ⟨i, h1, h2⟩ := Option.map_eq_some_iff.1 hi
  simp [part, isAgg, Sem.run_bind, run_underlying hu, sizeOf, typeInfo, h1, h2]
theorem ext_get {C A D : List Value} {K : List Int} {o n : Nat} (hC : C = A ++ (bv K ++ D)) (hA : A.length = o) (hK : K.length = n) : ∀ i, i < n → ∃ x, (C.toArray.extract o (o + n))[i]? = some (.int .u8 x) := fun i hi => by
  have h := mid_get (A := A) (D := D) (K := K) hA i (by omega)
  rw [← hC] at h
  refine ⟨K.getD i 0, ?_⟩
  rw [Array.getElem?_extract]
  have hs : o + i < C.toArray.size := by have := (List.getElem?_eq_some_iff.1 h).1; simpa using this
  rw [if_pos (by omega), List.getElem?_toArray]
  exact h
end Go.Proofs.Ytcefkkoombmndaa
