/-
  Layer 18: blocks of parts, rows, conversations.
-/
import Derived.Test.YtcefkkoombmndaaFB
import Derived.Laws.StructEq
import Derived.Great.BuildSlice
namespace Go.Proofs.Ytcefkkoombmndaa
open Go.RowKit
set_option maxRecDepth 100000
set_option linter.unusedSimpArgs false
set_option linter.unusedVariables false
/-- bytes as cells -/
def bw (b : List Int) : List Value := b.map (Value.int .u8)
theorem bw_len (b : List Int) : (bw b).length = b.length := by unfold bw; simp
theorem bw_one (b : List Int) : (bw b).toArray.all (·.oneCell') = true := by unfold bw; simp [Value.oneCell']
theorem kc_bw (b : List Int) : kc b = (bw b).toArray := rfl
/-- parts, one behind the other -/
def fl (S : List (List Value)) : Array Value := S.flatten.toArray
theorem fl_split {S : List (List Value)} {i : Nat} {s : List Value} (h : S[i]? = some s) : S.flatten = (S.take i).flatten ++ (s ++ (S.drop (i + 1)).flatten) := by
  have e : S = S.take i ++ (s :: S.drop (i + 1)) := by
    have h1 : i < S.length := (List.getElem?_eq_some_iff.1 h).1
    have h2 := (List.getElem?_eq_some_iff.1 h).2
    rw [← h2, ← List.drop_eq_getElem_cons h1, List.take_append_drop]
  conv => lhs; rw [e]
  simp
theorem plen : ∀ (S : List (List Value)) (N : List Nat), S.map List.length = N → ∀ i, (S.take i).flatten.length = (N.take i).sum
  | [], N, h, i => by subst h; simp
  | s :: S, N, h, 0 => by simp
  | s :: S, N, h, i + 1 => by
    subst h
    simp only [List.take_succ_cons, List.flatten_cons, List.length_append, List.map_cons, List.sum_cons]
    rw [plen S _ rfl i]
theorem fl_size {S : List (List Value)} {N : List Nat} (h : S.map List.length = N) : (fl S).size = N.sum := by
  have h1 := plen S N h S.length
  rw [List.take_length] at h1
  have : N.take S.length = N := List.take_of_length_le (by rw [← h]; simp)
  rw [this] at h1
  unfold fl
  simpa using h1
/-- the part i begins at o -/
theorem seg_range {S : List (List Value)} {N : List Nat} (hN : S.map List.length = N) {w : World} {g : Nat} {t : TypeId} (h : w.heap[g]? = some (.cells (fl S) t (0, 0))) (i : Nat) {s : List Value} (hi : S[i]? = some s) {o : Nat} (ho : (N.take i).sum = o) : w.rangeAt g o s := fun j x hj => by
  refine cell_of h ?_
  have hlt := (List.getElem?_eq_some_iff.1 hj).1
  have hp := plen S N hN i
  unfold fl
  rw [List.getElem?_toArray, fl_split hi, List.getElem?_append_right (by omega), List.getElem?_append_left (by omega), ← hj]
  congr 1
  omega
theorem seg_cell {S : List (List Value)} {N : List Nat} (hN : S.map List.length = N) {w : World} {g : Nat} {t : TypeId} (h : w.heap[g]? = some (.cells (fl S) t (0, 0))) (i : Nat) {v : Value} (hi : S[i]? = some [v]) {o : Nat} (ho : (N.take i).sum = o) : w.cell? ⟨g, o, none⟩ = some v :=
  seg_range hN h i hi ho 0 v rfl
/-- all of a block of parts -/
theorem exec_sw {op : Oper} {a : Act} (w : World) (ty : TypeId) (x : Operand) (ho : op.op = .load ty x) (g : Nat) (hx : a.eval x = .pointer (some ⟨g, 0, none⟩)) {S : List (List Value)} {t : TypeId} (h : w.heap[g]? = some (.cells (fl S) t (0, 0))) (N : List Nat) (hN : S.map List.length = N) {d : TypeDesc} (hu : Try.prog.underlying ty = some d) (hd : d.isRow = true) (hi : (Try.prog.info? ty).map (·.size) = some N.sum) :
    (execOp a.eval op).run Try.prog w = .ok (.value (.agg (fl S))) w :=
  exec_arr w ty x ho g hx (fl S) t d h hu hd (by rw [hi, fl_size hN])
theorem exec_cb {op : Oper} {a : Act} (w : World) (x : Operand) (ho : op.op = .load 4 x) (g i : Nat) (hx : a.eval x = .pointer (some ⟨g, i, none⟩)) (v : Bool) (hc : w.cell? ⟨g, i, none⟩ = some (.bool v)) : (execOp a.eval op).run Try.prog w = .ok (.value (.bool v)) w := by
  unfold execOp
  simp only [ho, hx, Instr.loadAt, Instr.sureAddr, Sem.run_bind, Sem.run_pure, Result.andThen_ok]
  go_simp
/-- a part is stored -/
theorem seg_set {S : List (List Value)} {N : List Nat} (hN : S.map List.length = N) (i : Nat) (vs : List Value) (hi : N[i]? = some vs.length) : sp S.flatten (N.take i).sum vs = (S.set i vs).flatten := by
  have hl : i < S.length := by
    have := (List.getElem?_eq_some_iff.1 hi).1
    rw [← hN] at this
    simpa using this
  have hs : S[i]? = some S[i] := List.getElem?_eq_getElem hl
  have hvl : vs.length = (S[i]).length := by
    have h1 := congrArg (·[i]?) hN
    simp only [List.getElem?_map, hs, hi, Option.map_some, Option.some.injEq] at h1
    exact h1.symm
  have hp := plen S N hN i
  rw [fl_split hs, ← hp, sp_mid _ _ _ _ hvl]
  have h2 : (S.set i vs)[i]? = some vs := by rw [List.getElem?_set_self hl]
  rw [fl_split h2, List.take_set_of_le (Nat.le_refl _), List.drop_set_of_lt (Nat.lt_succ_self _)]
theorem Bl.cells {w v : World} {L : List Blk} (h : Bl w L v) (b : Nat) {g : Nat} {C : List Value} {t : TypeId} (hb : L[b]? = some ⟨g, C.toArray, t⟩) (o : Nat) (vs : List Value) : Bl w (L.set b ⟨g, (sp C o vs).toArray, t⟩) (v.setCells g o vs) :=
  h.but (setCells_bt vs v g o) b hb rfl (setCells_heap vs v g o C t (h.get b hb))
theorem exec_c32 {op : Oper} {a : Act} (w : World) (x : Operand) (ho : op.op = .load 22 x) (g i : Nat) (hx : a.eval x = .pointer (some ⟨g, i, none⟩)) (v : Int) (hc : w.cell? ⟨g, i, none⟩ = some (.int .u32 v)) : (execOp a.eval op).run Try.prog w = .ok (.value (.int .u32 v)) w := by
  unfold execOp
  simp only [ho, hx, Instr.loadAt, Instr.sureAddr, Sem.run_bind, Sem.run_pure, Result.andThen_ok]
  go_simp
theorem exec_ci {op : Oper} {a : Act} (w : World) (x : Operand) (ho : op.op = .load 3 x) (g i : Nat) (hx : a.eval x = .pointer (some ⟨g, i, none⟩)) (v : Int) (hc : w.cell? ⟨g, i, none⟩ = some (.int .i64 v)) : (execOp a.eval op).run Try.prog w = .ok (.value (.int .i64 v)) w := by
  unfold execOp
  simp only [ho, hx, Instr.loadAt, Instr.sureAddr, Sem.run_bind, Sem.run_pure, Result.andThen_ok]
  go_simp
theorem exec_csO {op : Oper} {a : Act} (w : World) (x : Operand) (ho : op.op = .load 23 x) (g i : Nat) (hx : a.eval x = .pointer (some ⟨g, i, none⟩)) (p : Option Addr) (n c : Nat) (hc : w.cell? ⟨g, i, none⟩ = some (.slice p n c)) : (execOp a.eval op).run Try.prog w = .ok (.value (.slice p n c)) w := by
  unfold execOp
  simp only [ho, hx, Instr.loadAt, Instr.sureAddr, Sem.run_bind, Sem.run_pure, Result.andThen_ok]
  go_simp
theorem exec_csI {op : Oper} {a : Act} (w : World) (x : Operand) (ho : op.op = .load 24 x) (g i : Nat) (hx : a.eval x = .pointer (some ⟨g, i, none⟩)) (p : Option Addr) (n c : Nat) (hc : w.cell? ⟨g, i, none⟩ = some (.slice p n c)) : (execOp a.eval op).run Try.prog w = .ok (.value (.slice p n c)) w := by
  unfold execOp
  simp only [ho, hx, Instr.loadAt, Instr.sureAddr, Sem.run_bind, Sem.run_pure, Result.andThen_ok]
  go_simp
theorem exec_cst {op : Oper} {a : Act} (w : World) (x : Operand) (ho : op.op = .load 9 x) (g i : Nat) (hx : a.eval x = .pointer (some ⟨g, i, none⟩)) (v : ByteArray) (hc : w.cell? ⟨g, i, none⟩ = some (.string v)) : (execOp a.eval op).run Try.prog w = .ok (.value (.string v)) w := by
  unfold execOp
  simp only [ho, hx, Instr.loadAt, Instr.sureAddr, Sem.run_bind, Sem.run_pure, Result.andThen_ok]
  go_simp
theorem exec_cu8 {op : Oper} {a : Act} (w : World) (x : Operand) (ho : op.op = .load 5 x) (g i : Nat) (hx : a.eval x = .pointer (some ⟨g, i, none⟩)) (v : Int) (hc : w.cell? ⟨g, i, none⟩ = some (.int .u8 v)) : (execOp a.eval op).run Try.prog w = .ok (.value (.int .u8 v)) w := by
  unfold execOp
  simp only [ho, hx, Instr.loadAt, Instr.sureAddr, Sem.run_bind, Sem.run_pure, Result.andThen_ok]
  go_simp
section
variable {N : List Nat} {ops : Array Oper} {Q : Exit → Act → World → Prop} {a : Act} {w w0 : World} {o : Oper} {rest : List Oper} {L : List Blk} {S : List (List Value)} {t : TypeId} {K : Act → World → Prop}
/-- a row of cells is stored as the part i -/
theorem step_seg (ty : TypeId) (x y : Operand) (g off : Nat) (vs : List Value) (hw : Region.wanted o (yielded ops a.tmps) = true) (ho : o.op = .store ty x y)
    (hx : a.eval x = .pointer (some ⟨g, off, none⟩)) (hy : a.eval y = .agg vs.toArray) (hB : Bl w0 L w) (b : Nat) (hb : L[b]? = some ⟨g, fl S, t⟩) (N : List Nat) (hN : S.map List.length = N) (i : Nat) (hi : N[i]? = some vs.length) (hof : (N.take i).sum = off)
    (hn : (Try.prog.info? ty).map (·.size) = some vs.length) (h1 : vs.toArray.all (·.oneCell') = true)
    (h : ∀ v, Bl w0 (L.set b ⟨g, fl (S.set i vs), t⟩) v → Bt g w v → K (a.put o.dst undef) v) : if Region.wanted o (yielded ops a.tmps) = true then Oper.wp Try.prog o a w K Q else K (a.put o.dst undef) w := by
  have hB2 := hB.cells b (C := S.flatten) hb off vs
  rw [← hof, seg_set hN i vs hi] at hB2
  have hl : i < N.length := (List.getElem?_eq_some_iff.1 hi).1
  have hle : off + vs.length ≤ S.flatten.length := by
    have e1 := fl_size hN
    have e2 : (N.take (i + 1)).sum = (N.take i).sum + vs.length := by
      rw [List.take_add_one, hi]; simp
    have e3 : (N.take (i + 1)).sum ≤ N.sum := by
      conv => rhs; rw [← List.take_append_drop (i + 1) N, List.sum_append]
      omega
    have e4 : (fl S).size = S.flatten.length := by unfold fl; simp
    omega
  refine list_store_mid ty x y g off vs.toArray hw ho hx hy (there_of (hB.get b hb) (by simpa using hle)) (by rw [hn]; simp) h1 ?_
  exact (h _ (by rw [← hof]; exact hB2) (setCells_bt _ _ _ _))
theorem list_seg (ty : TypeId) (x y : Operand) (g off : Nat) (vs : List Value) (hw : Region.wanted o (yielded ops a.tmps) = true) (ho : o.op = .store ty x y)
    (hx : a.eval x = .pointer (some ⟨g, off, none⟩)) (hy : a.eval y = .agg vs.toArray) (hB : Bl w0 L w) (b : Nat) (hb : L[b]? = some ⟨g, fl S, t⟩) (N : List Nat) (hN : S.map List.length = N) (i : Nat) (hi : N[i]? = some vs.length) (hof : (N.take i).sum = off)
    (hn : (Try.prog.info? ty).map (·.size) = some vs.length) (h1 : vs.toArray.all (·.oneCell') = true)
    (h : ∀ v, Bl w0 (L.set b ⟨g, fl (S.set i vs), t⟩) v → Bt g w v → wpList Try.prog ops Q rest (a.put o.dst undef) v) : wpList Try.prog ops Q (o :: rest) a w :=
  wpList_step fun K hK => step_seg ty x y g off vs hw ho hx hy hB b hb N hN i hi hof hn h1 fun v hv hb => hK _ _ (h v hv hb)
theorem seg_left (hN : S.map List.length = N) (i : Nat) {v : Value} (hi : S[i]? = some [v]) {off : Nat} (hof : (N.take i).sum = off) (hB : Bl w0 L w) (b : Nat) {g : Nat} (hb : L[b]? = some ⟨g, fl S, t⟩) (y : Value) : Bl w0 (L.set b ⟨g, fl (S.set i [y]), t⟩) (w.setCell ⟨g, off, none⟩ y) := by
  have hB2 := hB.cells b (C := S.flatten) hb off [y]
  have hl : N[i]? = some [y].length := by
    rw [← hN, List.getElem?_map, hi]; rfl
  rw [← hof, seg_set hN i [y] hl, hof] at hB2
  exact hB2
theorem step_c32 (x y : Operand) (g off : Nat) (v : Int) (hw : Region.wanted o (yielded ops a.tmps) = true) (ho : o.op = .store 22 x y)
    (hx : a.eval x = .pointer (some ⟨g, off, none⟩)) (hy : a.eval y = .int .u32 v) (hB : Bl w0 L w) (b : Nat) (hb : L[b]? = some ⟨g, fl S, t⟩) (N : List Nat) (hN : S.map List.length = N) (i : Nat) (q : Value) (hi : S[i]? = some [q]) (hof : (N.take i).sum = off)
    (h : ∀ v_, Bl w0 (L.set b ⟨g, fl (S.set i [.int .u32 v]), t⟩) v_ → Bt g w v_ → K (a.put o.dst undef) v_) : if Region.wanted o (yielded ops a.tmps) = true then Oper.wp Try.prog o a w K Q else K (a.put o.dst undef) w := by
  have h2 := h _ (seg_left hN i hi hof hB b hb (.int .u32 v)) (setCells_bt [.int .u32 v] w g off)
  have c4 := seg_cell hN (hB.get b hb) i hi hof
  have fz := froz_of (i := off) (hB.get b hb)
  dsimp only at c4 fz
  rw [if_pos hw]
  unfold Oper.wp execOp
  simp only [ho, hx, hy]
  go_simp
  exact h2
theorem list_c32 (x y : Operand) (g off : Nat) (v : Int) (hw : Region.wanted o (yielded ops a.tmps) = true) (ho : o.op = .store 22 x y)
    (hx : a.eval x = .pointer (some ⟨g, off, none⟩)) (hy : a.eval y = .int .u32 v) (hB : Bl w0 L w) (b : Nat) (hb : L[b]? = some ⟨g, fl S, t⟩) (N : List Nat) (hN : S.map List.length = N) (i : Nat) (q : Value) (hi : S[i]? = some [q]) (hof : (N.take i).sum = off)
    (h : ∀ v_, Bl w0 (L.set b ⟨g, fl (S.set i [.int .u32 v]), t⟩) v_ → Bt g w v_ → wpList Try.prog ops Q rest (a.put o.dst undef) v_) : wpList Try.prog ops Q (o :: rest) a w :=
  wpList_step fun K hK => step_c32 x y g off v hw ho hx hy hB b hb N hN i q hi hof fun v_ hv hb => hK _ _ (h v_ hv hb)
theorem step_ci (x y : Operand) (g off : Nat) (v : Int) (hw : Region.wanted o (yielded ops a.tmps) = true) (ho : o.op = .store 3 x y)
    (hx : a.eval x = .pointer (some ⟨g, off, none⟩)) (hy : a.eval y = .int .i64 v) (hB : Bl w0 L w) (b : Nat) (hb : L[b]? = some ⟨g, fl S, t⟩) (N : List Nat) (hN : S.map List.length = N) (i : Nat) (q : Value) (hi : S[i]? = some [q]) (hof : (N.take i).sum = off)
    (h : ∀ v_, Bl w0 (L.set b ⟨g, fl (S.set i [.int .i64 v]), t⟩) v_ → Bt g w v_ → K (a.put o.dst undef) v_) : if Region.wanted o (yielded ops a.tmps) = true then Oper.wp Try.prog o a w K Q else K (a.put o.dst undef) w := by
  have h2 := h _ (seg_left hN i hi hof hB b hb (.int .i64 v)) (setCells_bt [.int .i64 v] w g off)
  have c4 := seg_cell hN (hB.get b hb) i hi hof
  have fz := froz_of (i := off) (hB.get b hb)
  dsimp only at c4 fz
  rw [if_pos hw]
  unfold Oper.wp execOp
  simp only [ho, hx, hy]
  go_simp
  exact h2
theorem list_ci (x y : Operand) (g off : Nat) (v : Int) (hw : Region.wanted o (yielded ops a.tmps) = true) (ho : o.op = .store 3 x y)
    (hx : a.eval x = .pointer (some ⟨g, off, none⟩)) (hy : a.eval y = .int .i64 v) (hB : Bl w0 L w) (b : Nat) (hb : L[b]? = some ⟨g, fl S, t⟩) (N : List Nat) (hN : S.map List.length = N) (i : Nat) (q : Value) (hi : S[i]? = some [q]) (hof : (N.take i).sum = off)
    (h : ∀ v_, Bl w0 (L.set b ⟨g, fl (S.set i [.int .i64 v]), t⟩) v_ → Bt g w v_ → wpList Try.prog ops Q rest (a.put o.dst undef) v_) : wpList Try.prog ops Q (o :: rest) a w :=
  wpList_step fun K hK => step_ci x y g off v hw ho hx hy hB b hb N hN i q hi hof fun v_ hv hb => hK _ _ (h v_ hv hb)
theorem step_csO (x y : Operand) (g off : Nat) (p : Option Addr) (n c : Nat) (hw : Region.wanted o (yielded ops a.tmps) = true) (ho : o.op = .store 23 x y)
    (hx : a.eval x = .pointer (some ⟨g, off, none⟩)) (hy : a.eval y = .slice p n c) (hB : Bl w0 L w) (b : Nat) (hb : L[b]? = some ⟨g, fl S, t⟩) (N : List Nat) (hN : S.map List.length = N) (i : Nat) (q : Value) (hi : S[i]? = some [q]) (hof : (N.take i).sum = off)
    (h : ∀ v_, Bl w0 (L.set b ⟨g, fl (S.set i [.slice p n c]), t⟩) v_ → Bt g w v_ → K (a.put o.dst undef) v_) : if Region.wanted o (yielded ops a.tmps) = true then Oper.wp Try.prog o a w K Q else K (a.put o.dst undef) w := by
  have h2 := h _ (seg_left hN i hi hof hB b hb (.slice p n c)) (setCells_bt [.slice p n c] w g off)
  have c4 := seg_cell hN (hB.get b hb) i hi hof
  have fz := froz_of (i := off) (hB.get b hb)
  dsimp only at c4 fz
  rw [if_pos hw]
  unfold Oper.wp execOp
  simp only [ho, hx, hy]
  go_simp
  exact h2
theorem list_csO (x y : Operand) (g off : Nat) (p : Option Addr) (n c : Nat) (hw : Region.wanted o (yielded ops a.tmps) = true) (ho : o.op = .store 23 x y)
    (hx : a.eval x = .pointer (some ⟨g, off, none⟩)) (hy : a.eval y = .slice p n c) (hB : Bl w0 L w) (b : Nat) (hb : L[b]? = some ⟨g, fl S, t⟩) (N : List Nat) (hN : S.map List.length = N) (i : Nat) (q : Value) (hi : S[i]? = some [q]) (hof : (N.take i).sum = off)
    (h : ∀ v_, Bl w0 (L.set b ⟨g, fl (S.set i [.slice p n c]), t⟩) v_ → Bt g w v_ → wpList Try.prog ops Q rest (a.put o.dst undef) v_) : wpList Try.prog ops Q (o :: rest) a w :=
  wpList_step fun K hK => step_csO x y g off p n c hw ho hx hy hB b hb N hN i q hi hof fun v_ hv hb => hK _ _ (h v_ hv hb)
theorem step_csI (x y : Operand) (g off : Nat) (p : Option Addr) (n c : Nat) (hw : Region.wanted o (yielded ops a.tmps) = true) (ho : o.op = .store 24 x y)
    (hx : a.eval x = .pointer (some ⟨g, off, none⟩)) (hy : a.eval y = .slice p n c) (hB : Bl w0 L w) (b : Nat) (hb : L[b]? = some ⟨g, fl S, t⟩) (N : List Nat) (hN : S.map List.length = N) (i : Nat) (q : Value) (hi : S[i]? = some [q]) (hof : (N.take i).sum = off)
    (h : ∀ v_, Bl w0 (L.set b ⟨g, fl (S.set i [.slice p n c]), t⟩) v_ → Bt g w v_ → K (a.put o.dst undef) v_) : if Region.wanted o (yielded ops a.tmps) = true then Oper.wp Try.prog o a w K Q else K (a.put o.dst undef) w := by
  have h2 := h _ (seg_left hN i hi hof hB b hb (.slice p n c)) (setCells_bt [.slice p n c] w g off)
  have c4 := seg_cell hN (hB.get b hb) i hi hof
  have fz := froz_of (i := off) (hB.get b hb)
  dsimp only at c4 fz
  rw [if_pos hw]
  unfold Oper.wp execOp
  simp only [ho, hx, hy]
  go_simp
  exact h2
theorem list_csI (x y : Operand) (g off : Nat) (p : Option Addr) (n c : Nat) (hw : Region.wanted o (yielded ops a.tmps) = true) (ho : o.op = .store 24 x y)
    (hx : a.eval x = .pointer (some ⟨g, off, none⟩)) (hy : a.eval y = .slice p n c) (hB : Bl w0 L w) (b : Nat) (hb : L[b]? = some ⟨g, fl S, t⟩) (N : List Nat) (hN : S.map List.length = N) (i : Nat) (q : Value) (hi : S[i]? = some [q]) (hof : (N.take i).sum = off)
    (h : ∀ v_, Bl w0 (L.set b ⟨g, fl (S.set i [.slice p n c]), t⟩) v_ → Bt g w v_ → wpList Try.prog ops Q rest (a.put o.dst undef) v_) : wpList Try.prog ops Q (o :: rest) a w :=
  wpList_step fun K hK => step_csI x y g off p n c hw ho hx hy hB b hb N hN i q hi hof fun v_ hv hb => hK _ _ (h v_ hv hb)
theorem step_cst (x y : Operand) (g off : Nat) (v : ByteArray) (hw : Region.wanted o (yielded ops a.tmps) = true) (ho : o.op = .store 9 x y)
    (hx : a.eval x = .pointer (some ⟨g, off, none⟩)) (hy : a.eval y = .string v) (hB : Bl w0 L w) (b : Nat) (hb : L[b]? = some ⟨g, fl S, t⟩) (N : List Nat) (hN : S.map List.length = N) (i : Nat) (q : Value) (hi : S[i]? = some [q]) (hof : (N.take i).sum = off)
    (h : ∀ v_, Bl w0 (L.set b ⟨g, fl (S.set i [.string v]), t⟩) v_ → Bt g w v_ → K (a.put o.dst undef) v_) : if Region.wanted o (yielded ops a.tmps) = true then Oper.wp Try.prog o a w K Q else K (a.put o.dst undef) w := by
  have h2 := h _ (seg_left hN i hi hof hB b hb (.string v)) (setCells_bt [.string v] w g off)
  have c4 := seg_cell hN (hB.get b hb) i hi hof
  have fz := froz_of (i := off) (hB.get b hb)
  dsimp only at c4 fz
  rw [if_pos hw]
  unfold Oper.wp execOp
  simp only [ho, hx, hy]
  go_simp
  exact h2
theorem list_cst (x y : Operand) (g off : Nat) (v : ByteArray) (hw : Region.wanted o (yielded ops a.tmps) = true) (ho : o.op = .store 9 x y)
    (hx : a.eval x = .pointer (some ⟨g, off, none⟩)) (hy : a.eval y = .string v) (hB : Bl w0 L w) (b : Nat) (hb : L[b]? = some ⟨g, fl S, t⟩) (N : List Nat) (hN : S.map List.length = N) (i : Nat) (q : Value) (hi : S[i]? = some [q]) (hof : (N.take i).sum = off)
    (h : ∀ v_, Bl w0 (L.set b ⟨g, fl (S.set i [.string v]), t⟩) v_ → Bt g w v_ → wpList Try.prog ops Q rest (a.put o.dst undef) v_) : wpList Try.prog ops Q (o :: rest) a w :=
  wpList_step fun K hK => step_cst x y g off v hw ho hx hy hB b hb N hN i q hi hof fun v_ hv hb => hK _ _ (h v_ hv hb)
end
theorem wpList_gen {P : Program} {ops : Array Oper} {Q : Exit → Act → World → Prop} {l : List Oper} {a : Act} {w : World} (h : ∀ ops', ops' = ops → wpList P ops' Q l a w) : wpList P ops Q l a w := h ops rfl
/-- an operation that is not wanted -/
theorem list_off {P : Program} {ops : Array Oper} {Q : Exit → Act → World → Prop} {a : Act} {w : World} {o : Oper} {rest : List Oper} (hw : Region.wanted o (yielded ops a.tmps) = false) (h : wpList P ops Q rest (a.put o.dst undef) w) : wpList P ops Q (o :: rest) a w := by
  refine wpList_step fun K hK => ?_
  rw [if_neg (ne_true_of_eq_false hw)]
  exact hK _ _ h
/-- a struct is built of its parts -/
theorem fill_seg {place : Nat → Option (Nat × Nat)} {S : List (List Value)} {N : List Nat} (hN : S.map List.length = N) {v : Value} {vs : List Value} (hv : v.cells = vs.toArray) (k i : Nat) (hp : place k = some ((N.take i).sum, vs.length)) (hi : N[i]? = some vs.length) (rest : List (Nat × Value)) :
    Instr.fill place (fl S) ((k, v) :: rest) = Instr.fill place (fl (S.set i vs)) rest := by
  have hl : i < S.length := by
    have := (List.getElem?_eq_some_iff.1 hi).1
    rw [← hN] at this
    simpa using this
  have hs : S[i]? = some S[i] := List.getElem?_eq_getElem hl
  have hvl : vs.length = (S[i]).length := by
    have h1 := congrArg (·[i]?) hN
    simp only [List.getElem?_map, hs, hi, Option.map_some, Option.some.injEq] at h1
    exact h1.symm
  have hp2 := plen S N hN i
  have e := fold_mid ((N.take i).sum) vs (S.take i).flatten S[i] (S.drop (i + 1)).flatten 0 (by omega) hvl
  have h2 : (S.set i vs)[i]? = some vs := by rw [List.getElem?_set_self hl]
  have e2 := fl_split h2
  rw [List.take_set_of_le (Nat.le_refl _), List.drop_set_of_lt (Nat.lt_succ_self _)] at e2
  rw [Instr.fill, hp, hv]
  simp only
  rw [if_neg]
  · rw [show fl S = ((S.take i).flatten ++ (S[i] ++ (S.drop (i + 1)).flatten)).toArray from by unfold fl; rw [← fl_split hs]]
    have e3 : (vs.toArray.zipIdx.foldl (fun cs (x : Value × Nat) => cs.setIfInBounds ((N.take i).sum + x.2) x.1) ((S.take i).flatten ++ (S[i] ++ (S.drop (i + 1)).flatten)).toArray) = (fl (S.set i vs)) := by
      unfold fl
      rw [e2, ← e]
      simp
    rw [← e3]
  · have e1 := fl_size hN
    have e4 : (N.take (i + 1)).sum = (N.take i).sum + vs.length := by
      rw [List.take_add_one, hi]; simp
    have e5 : (N.take (i + 1)).sum ≤ N.sum := by
      conv => rhs; rw [← List.take_append_drop (i + 1) N, List.sum_append]
      omega
    simp
    omega
/-- all of a block is stored -/
theorem step_all {ops : Array Oper} {Q : Exit → Act → World → Prop} {a : Act} {w w0 : World} {o : Oper} {L : List Blk} {S S2 : List (List Value)} {t : TypeId} {K : Act → World → Prop} (ty : TypeId) (x y : Operand) (g : Nat) (hw : Region.wanted o (yielded ops a.tmps) = true) (ho : o.op = .store ty x y)
    (hx : a.eval x = .pointer (some ⟨g, 0, none⟩)) (hy : a.eval y = .agg (fl S2)) (hB : Bl w0 L w) (b : Nat) (hb : L[b]? = some ⟨g, fl S, t⟩) (N : List Nat) (hN : S.map List.length = N) (hN2 : S2.map List.length = N)
    (hn : (Try.prog.info? ty).map (·.size) = some N.sum) (h1 : (fl S2).all (·.oneCell') = true)
    (h : ∀ v, Bl w0 (L.set b ⟨g, fl S2, t⟩) v → Bt g w v → K (a.put o.dst undef) v) : if Region.wanted o (yielded ops a.tmps) = true then Oper.wp Try.prog o a w K Q else K (a.put o.dst undef) w := by
  have hg := hB.get b hb
  rw [if_pos hw]
  refine wp_store_row ty x y ho g (fl S2) hx hy t (fl S) hg (by rw [hn, fl_size hN2]) (by rw [fl_size hN, fl_size hN2]) h1 ?_
  exact h _ (hB.set b hb (fl S2)) ⟨setRow_os _ _ _, rfl, rfl, by simp [World.setRow], fun i _ hi => setRow_other _ _ _ _ hi⟩
theorem list_all {ops : Array Oper} {Q : Exit → Act → World → Prop} {a : Act} {w w0 : World} {o : Oper} {rest : List Oper} {L : List Blk} {S S2 : List (List Value)} {t : TypeId} (ty : TypeId) (x y : Operand) (g : Nat) (hw : Region.wanted o (yielded ops a.tmps) = true) (ho : o.op = .store ty x y)
    (hx : a.eval x = .pointer (some ⟨g, 0, none⟩)) (hy : a.eval y = .agg (fl S2)) (hB : Bl w0 L w) (b : Nat) (hb : L[b]? = some ⟨g, fl S, t⟩) (N : List Nat) (hN : S.map List.length = N) (hN2 : S2.map List.length = N)
    (hn : (Try.prog.info? ty).map (·.size) = some N.sum) (h1 : (fl S2).all (·.oneCell') = true)
    (h : ∀ v, Bl w0 (L.set b ⟨g, fl S2, t⟩) v → Bt g w v → wpList Try.prog ops Q rest (a.put o.dst undef) v) : wpList Try.prog ops Q (o :: rest) a w :=
  wpList_step fun K hK => step_all ty x y g hw ho hx hy hB b hb N hN hN2 hn h1 fun v hv hb => hK _ _ (h v hv hb)
def RvOk (P : Program) (tmps : Array Value) (w : World) : ResultVar → Value → Prop
  | .cell p ty, v => ∃ a : Addr, tmps[p]?.getD undef = .pointer (some a) ∧ (loadVar ty a).run P w = .ok v w
  | .tmp q, v => tmps[q]?.getD undef = v
theorem rv_cell {P : Program} {tmps : Array Value} {w : World} {p : Tmp} {ty t : TypeId} {g : Nat} {cs : Array Value} {d : TypeDesc} (hp : tmps.getD p undef = .pointer (some ⟨g, 0, none⟩)) (hg : w.heap[g]? = some (.cells cs t (0, 0))) (hu : P.underlying ty = some d) (hd : d.isRow = true) (hi : (P.info? ty).map (·.size) = some cs.size) : RvOk P tmps w (.cell p ty) (.agg cs) :=
  ⟨_, by simpa using hp, run_loadVar_row w g t ty cs (0, 0) d hg hu (by cases d <;> first | rfl | cases hd) hi⟩
theorem rv_tmp {P : Program} {tmps : Array Value} {w : World} {q : Tmp} {v : Value} (h : tmps.getD q undef = v) : RvOk P tmps w (.tmp q) v := by
  show tmps[q]?.getD undef = v
  simpa using h
theorem res1 {P : Program} {fn : Func} {p : Tmp} {ty : TypeId} {v : Value} {tmps : Array Value} {w : World} (h : fn.results = #[.cell p ty]) (h1 : RvOk P tmps w (.cell p ty) v) : (results fn tmps).run P w = .ok v w := by
  obtain ⟨a, hp', hl⟩ := h1
  simp [results, h, hp', asAddr, hl]
theorem res2 {P : Program} {fn : Func} {r1 r2 : ResultVar} {v1 v2 : Value} {tmps : Array Value} {w : World} (h : fn.results = #[r1, r2]) (h1 : RvOk P tmps w r1 v1) (h2 : RvOk P tmps w r2 v2) : (results fn tmps).run P w = .ok (.tuple #[v1, v2]) w := by
  cases r1 <;> cases r2 <;> dsimp only [RvOk] at h1 h2 <;> (try obtain ⟨x1, e1, f1⟩ := h1) <;> (try obtain ⟨x2, e2, f2⟩ := h2) <;> simp [results, h, asAddr, *]
theorem res3 {P : Program} {fn : Func} {r1 r2 r3 : ResultVar} {v1 v2 v3 : Value} {tmps : Array Value} {w : World} (h : fn.results = #[r1, r2, r3]) (h1 : RvOk P tmps w r1 v1) (h2 : RvOk P tmps w r2 v2) (h3 : RvOk P tmps w r3 v3) : (results fn tmps).run P w = .ok (.tuple #[v1, v2, v3]) w := by
  cases r1 <;> cases r2 <;> cases r3 <;> dsimp only [RvOk] at h1 h2 h3 <;> (try obtain ⟨x1, e1, f1⟩ := h1) <;> (try obtain ⟨x2, e2, f2⟩ := h2) <;> (try obtain ⟨x3, e3, f3⟩ := h3) <;> simp [results, h, asAddr, *]
theorem part_rw {t : TypeId} {n : Nat} {e : TypeId} (hu : Try.prog.underlying t = some (.array n e)) {m : Nat} (hi : (Try.prog.info? t).map (·.size) = some m) (xs : Array Value) (o : Nat) (w : World) : (part t xs o).run Try.prog w = .ok (.agg (xs.extract o (o + m))) w := by
  obtain ⟨i, h1, h2⟩ := Option.map_eq_some_iff.1 hi
  simp [part, isAgg, Sem.run_bind, run_underlying hu, sizeOf, typeInfo, h1, h2]
theorem part_c {t : TypeId} {q : IntKind} (hu : Try.prog.underlying t = some (.int q)) {S : List (List Value)} {N : List Nat} (hN : S.map List.length = N) (i : Nat) {v : Value} (hi : S[i]? = some [v]) {o : Nat} (ho : (N.take i).sum = o) (w : World) : (part t (fl S) o).run Try.prog w = .ok v w := by
  have hp := plen S N hN i
  have h : (fl S)[o]? = some v := by
    unfold fl
    rw [List.getElem?_toArray, fl_split hi, ← ho, ← hp]
    simp
  simp [part, isAgg, Sem.run_bind, run_underlying hu, h]
theorem eq_U (d : Nat) (m n : Int) (w : World) : Sem.run Try.prog (Op.equalIn (d + 1) 22 (.int .u32 m) (.int .u32 n)) w = .ok (decide (m = n)) w := by
  rw [run_equalIn_int w d _ .u32 .u32 m n Try.underlying22]
  have e : (m == n) = decide (m = n) := by by_cases h : m = n <;> simp [h]
  rw [e]
theorem eqf_cons (d : Nat) (xs ys : Array Value) (f : Field) (fs : List Field) (w : World) (t : TypeId) (o : Nat) (hf : (f.type, f.offset, decide (f.name = "_")) = (t, o, false)) (v u : Value) (b : Bool) (h1 : (part t xs o).run Try.prog w = .ok v w) (h2 : (part t ys o).run Try.prog w = .ok u w) (h3 : (Op.equalIn d t v u).run Try.prog w = .ok b w) (c : Bool) (h4 : (Op.eqFields d xs ys fs).run Try.prog w = .ok c w) :
    (Op.eqFields d xs ys (f :: fs)).run Try.prog w = .ok (b && c) w := by
  simp only [Prod.mk.injEq] at hf
  obtain ⟨e1, e2, e3⟩ := hf
  have hn : f.name ≠ "_" := by simpa using e3
  rw [← e1, ← e2] at h1 h2
  rw [← e1] at h3
  simp only [Op.eqFields, hn, ne_eq, not_false_eq_true, if_true, Sem.run_bind, h1, h2, h3, Result.andThen_ok]
  cases b
  · simp
  · simpa using h4
/-- rows one behind the other; where they lie is not said if there are none -/
structure Lz (k : Nat) (w : World) (a : Option Addr) (n c : Nat) (R : List (List Value)) : Prop where
  len : R.length = n
  row : ∀ r ∈ R, r.length = k
  sl : R = [] ∨ ∃ p o, a = some ⟨p, o, none⟩ ∧ w.rangeAt p o R.flatten
  cap : n ≤ c
  max : c < 9223372036854775808
theorem Ls.lz {k : Nat} {w : World} {a : Option Addr} {n c : Nat} {R : List (List Value)} (h : Ls k w a n c R) : Lz k w a n c R := ⟨h.len, h.row, h.sl, h.cap, h.max⟩
theorem Lz.gr {k : Nat} {w v : World} {a : Option Addr} {n c : Nat} {R : List (List Value)} (h : Lz k w a n c R) (g : Gr w v) : Lz k v a n c R := by
  refine ⟨h.len, h.row, ?_, h.cap, h.max⟩
  rcases h.sl with h | ⟨p, o, h1, h2⟩
  · exact .inl h
  · exact .inr ⟨p, o, h1, range_gr h2 g⟩
theorem Lz.at_ {k : Nat} {w : World} {a : Option Addr} {n c : Nat} {R : List (List Value)} (h : Lz k w a n c R) (i : Nat) (hi : i < n) : ∃ p o, a = some ⟨p, o, none⟩ ∧ w.rangeAt p (o + k * i) (R.getD i []) := by
  have hl := h.len
  rcases h.sl with h0 | ⟨p, o, h1, h2⟩
  · rw [h0] at hl
    simp at hl
    omega
  · refine ⟨p, o, h1, fun j x hj => ?_⟩
    have hrl : (R.getD i []).length = k := h.row _ (by
      have e : R.getD i [] = R[i]'(by omega) := by simp [List.getD, show i < R.length by omega]
      rw [e]
      exact List.getElem_mem _)
    have hjk : j < k := by
      have := (List.getElem?_eq_some_iff.1 hj).1
      omega
    have h3 := flat_row R k h.row i j (by omega) hjk
    rw [hj] at h3
    have h4 := h2 (k * i + j) x h3
    rwa [← Nat.add_assoc] at h4
theorem Or_.lz {k : Nat} {e : TypeId} {b : Nat} {w : World} {v : Value} {R : List (List Value)} (h : Or_ k e b w v R) : ∃ a c, v = .slice a R.length c ∧ Lz k w a R.length c R := by
  obtain ⟨a, c, h1, h2⟩ := h.ls
  exact ⟨a, c, h1, h2.lz⟩
/-- what is asked of a list's type; of any size -/
structure Lw (t e : TypeId) (k n : Nat) : Prop where
  ht : Try.prog.underlying t = some (.slice e)
  hi : ∃ i z, Try.prog.info? e = some i ∧ i.zero = some z ∧ i.size = k ∧ i.bytes = n ∧ z.cells.size = k
  hk : 0 < k
theorem app_rows0W {t e : TypeId} {k nb : Nat} (L : Lw t e k nb) {w : World} {o : Oper} {a : Act} {K : Act → World → Prop} {Q : Exit → Act → World → Prop} (s x : Operand)
    (ho : o.op = .call { callee := .builtin .append, args := #[s, x], argTypes := #[t, t] }) (b : Nat) (v : Value) (R : List (List Value)) (hs : a.eval s = v) (hown : Or_ k e b w v R)
    (sp : Option Addr) (n sc : Nat) (l : List (List Value)) (hx : a.eval x = .slice sp n sc) (hn : l.length = n) (hrow : ∀ r ∈ l, r.length = k) (hsl : l = [] ∨ ∃ p o, sp = some ⟨p, o, none⟩ ∧ w.rangeAt p o l.flatten) (h1 : ∀ r ∈ l, ∀ u ∈ r, u.oneCell' = true) (hbig : ((R.length + n) + (R.length + n) / 4 + 192) * nb ≤ 281474976710656 ∧ R.length + n ≤ 4611686018427387904) (hB : b ≤ w.heap.size)
    (h : ∀ v' w', Or_ k e b w' v' (R ++ l) → w.grownBy w' v.ownBlock → K (a.put o.dst v') w') : o.wp Try.prog a w K Q := by
  obtain ⟨i0, z0, hi, hz0, hz1, hz2, hz3⟩ := L.hi
  rcases hsl with rfl | ⟨p, q, rfl, hat⟩
  · obtain rfl : 0 = n := hn
    obtain ⟨a', c', rfl, hls⟩ := hown.ls
    have hc := hls.cap
    have hrun : (Builtin.append_ #[t, t] o.type #[.slice a' R.length c', .slice sp 0 sc]).run Try.prog w = .ok (.slice a' R.length c') w := by
      cases a' <;> cases sp <;> simp [Builtin.append_, run_underlying L.ht, sizeOf, typeInfo, hi, Builtin.lenOf, Builtin.firstCells, loadCells, loadCellsFrom, storeCells, hc]
    unfold Oper.wp
    simp [execOp, ho, resolve, invoke, builtin, hs, hx, hrun, Result.andThen]
    exact h _ _ (by rw [List.append_nil]; exact hown) (World.grownBy.refl _ _)
  · have hfl := flat_len l k hrow
    refine wp_append_own_wide w s x t ho b e i0 z0 k nb L.ht hi hz0 hz1 hz2 hz3 L.hk v R.length _ hs hown.2 ⟨p, q, none⟩ n sc l.flatten hx (by rw [hfl, hn]) ?_ ?_ (by unfold maxLen; omega) hbig.1 hB ?_
    · intro j u hj
      rw [Addr.add_mid]
      exact hat j u hj
    · intro u hu
      obtain ⟨r, hr, hu⟩ := List.mem_flatten.1 hu
      exact h1 r hr u hu
    · intro v' w' h1 h2 _
      refine h v' w' ⟨?_, ?_⟩ h2
      · intro r hr
        rcases List.mem_append.1 hr with hr | hr
        · exact hown.1 r hr
        · exact hrow r hr
      · rw [List.length_append, List.flatten_append, hn]
        exact h1
theorem app_rowsW {t e : TypeId} {k nb : Nat} (L : Lw t e k nb) {w : World} {o : Oper} {a : Act} {K : Act → World → Prop} {Q : Exit → Act → World → Prop} (s x : Operand)
    (ho : o.op = .call { callee := .builtin .append, args := #[s, x], argTypes := #[t, t] }) (b : Nat) (v : Value) (R : List (List Value)) (hs : a.eval s = v) (hown : Or_ k e b w v R)
    (sp : Option Addr) (n sc : Nat) (l : List (List Value)) (hx : a.eval x = .slice sp n sc) (hl : Lz k w sp n sc l) (h1 : ∀ r ∈ l, ∀ u ∈ r, u.oneCell' = true) (hbig : ((R.length + n) + (R.length + n) / 4 + 192) * nb ≤ 281474976710656 ∧ R.length + n ≤ 4611686018427387904) (hB : b ≤ w.heap.size)
    (h : ∀ v' w', Or_ k e b w' v' (R ++ l) → w.grownBy w' v.ownBlock → K (a.put o.dst v') w') : o.wp Try.prog a w K Q :=
  app_rows0W L s x ho b v R hs hown sp n sc l hx hl.len hl.row hl.sl h1 hbig hB h
theorem app_row1W {t e : TypeId} {k nb : Nat} (L : Lw t e k nb) {w : World} {o : Oper} {a : Act} {K : Act → World → Prop} {Q : Exit → Act → World → Prop} (s x : Operand)
    (ho : o.op = .call { callee := .builtin .append, args := #[s, x], argTypes := #[t, t] }) (v : Value) (R : List (List Value)) (hs : a.eval s = v) (hown : Or_ k e 0 w v R)
    (p q sc : Nat) (r : List Value) (hx : a.eval x = .slice (some ⟨p, q, none⟩) 1 sc) (hrow : r.length = k) (hat : w.rangeAt p q r) (h1 : ∀ u ∈ r, u.oneCell' = true) (hbig : ((R.length + 1) + (R.length + 1) / 4 + 192) * nb ≤ 281474976710656 ∧ R.length + 1 ≤ 4611686018427387904)
    (h : ∀ v' w', Or_ k e 0 w' v' (R ++ [r]) → w.grownBy w' v.ownBlock → (v'.ownBlock = v.ownBlock ∨ v'.ownBlock = some w.heap.size) → K (a.put o.dst v') w') : o.wp Try.prog a w K Q := by
  obtain ⟨i0, z0, hi, hz0, hz1, hz2, hz3⟩ := L.hi
  have hat2 : ∀ j u, r[j]? = some u → w.cell? ((⟨p, q, none⟩ : Addr).add j) = some u := fun j u hj => by rw [Addr.add_mid]; exact hat j u hj
  have hrl : r.length = 1 * k := by omega
  obtain ⟨v', w', hr, h2, h3, -⟩ := run_append_own_wide (P := Try.prog) w 0 t o.type e i0 z0 k nb L.ht hi hz0 hz1 hz2 hz3 L.hk v R.length _ hown.2 ⟨p, q, none⟩ 1 sc r hrl hat2 h1 (by unfold maxLen; omega) hbig.1 (Nat.zero_le _)
  have hwh : v'.ownBlock = v.ownBlock ∨ v'.ownBlock = some w.heap.size := by
    subst hz1 hz2
    rcases hown.2.2 with ⟨e1, e2⟩ | ⟨g, cap, cur, e1, hbg, hg, hnc, hcm, hcs, htake⟩
    · subst e1
      have hr2 := run_append_nil (P := Try.prog) w t o.type e i0 z0 L.ht hi hz0 ⟨p, q, none⟩ 1 sc r hrl hat2 (by omega) (by omega) (Nat.le_trans (Nat.mul_le_mul_right _ (by omega)) hbig.1)
      rw [hr2] at hr
      injection hr with hr _
      rw [← hr]
      exact .inr rfl
    · subst e1
      by_cases hroom : R.length + 1 ≤ cap
      · have hfit : R.length * i0.size + r.length ≤ cur.size := by rw [hrl, hcs, ← Nat.add_mul]; exact Nat.mul_le_mul_right _ hroom
        have hr2 := run_append_room (P := Try.prog) w t o.type e i0 L.ht hi g R.length cap cur hg ⟨p, q, none⟩ 1 sc r hrl hat2 h1 hroom hfit
        rw [hr2] at hr
        injection hr with hr _
        rw [← hr]
        exact .inl rfl
      · have hr2 := run_append_grow (P := Try.prog) w t o.type e i0 z0 L.ht hi hz0 ⟨g, 0, none⟩ R.length cap _ hown.2.1 (hown.2.cells (g := g) rfl) ⟨p, q, none⟩ 1 sc r hrl hat2 (by omega) (by omega) (growslice_fits_wide (by omega) hbig.1)
        rw [hr2] at hr
        injection hr with hr _
        rw [← hr]
        exact .inr rfl
  unfold Oper.wp execOp
  simp only [ho, resolve, invoke, builtin, Sem.run_bind, Sem.run_pure, Result.andThen_ok, List.map_toArray, List.map_cons, List.map_nil, hs, hx, hr]
  refine h v' w' ⟨?_, ?_⟩ h3 hwh
  · intro x hx
    rcases List.mem_append.1 hx with hx | hx
    · exact hown.1 x hx
    · rw [List.mem_singleton] at hx
      rw [hx]
      exact hrow
  · rw [List.length_append, List.flatten_append]
    simpa using h2
/-! ### conversations -/
def Z105 : List Int := List.replicate 105 0
theorem Z105_len : Z105.length = 105 := rfl
def NC : List Nat := [1, 1, 1, 1, 1]
def NO : List Nat := [1, 105]
def NI : List Nat := [1, 1]
def NY : List Nat := [105]
theorem nC (a b c d e : Value) : [[a], [b], [c], [d], [e]].map List.length = NC := rfl
theorem nO {B : List Int} (h : B.length = 105) (a : Value) : [[a], bw B].map List.length = NO := by simp [bw_len, NO, h]
theorem nI (a b : Value) : [[a], [b]].map List.length = NI := rfl
theorem nY {B : List Int} (h : B.length = 105) : [bw B].map List.length = NY := by simp [bw_len, NY, h]
theorem u8_one (x : Int) : (Value.int .u8 x).oneCell' = true := rfl
theorem oC {a b c d e : Value} (h1 : a.oneCell' = true) (h2 : b.oneCell' = true) (h3 : c.oneCell' = true) (h4 : d.oneCell' = true) (h5 : e.oneCell' = true) : (fl [[a], [b], [c], [d], [e]]).all (·.oneCell') = true := by simp [fl, h1, h2, h3, h4, h5]
theorem oO (B : List Int) {a : Value} (h1 : a.oneCell' = true) : (fl [[a], bw B]).all (·.oneCell') = true := by simp [fl, bw, u8_one, h1]
theorem oI {a b : Value} (h1 : a.oneCell' = true) (h2 : b.oneCell' = true) : (fl [[a], [b]]).all (·.oneCell') = true := by simp [fl, h1, h2]
theorem oY (B : List Int) : (fl [bw B]).all (·.oneCell') = true := by simp [fl, bw, u8_one]
/-- what was said: its number, its bytes -/
structure Ot where
  n : Int
  B : List Int
  deriving DecidableEq
/-- what came ahead: its number, its text -/
structure It where
  n : Int
  s : ByteArray
  deriving DecidableEq
def Ot.Ok (o : Ot) : Prop := (0 ≤ o.n ∧ o.n < 4294967296) ∧ o.B.length = 105 ∧ IsB o.B
def It.Ok (i : It) : Prop := (0 ≤ i.n ∧ i.n < 4294967296) ∧ i.s.size < 9223372036854775808
def otr (o : Ot) : List Value := [[.int .u32 o.n], bw o.B].flatten
def itr (i : It) : List Value := [[.int .u32 i.n], [.string i.s]].flatten
theorem otr_len {o : Ot} (h : o.Ok) : (otr o).length = 106 := by unfold otr; simp [bw_len, h.2.1]
theorem itr_len (i : It) : (itr i).length = 2 := rfl
theorem otr_one (o : Ot) : ∀ u ∈ otr o, u.oneCell' = true := by
  intro u hu
  simp only [otr, bw, List.flatten_cons, List.flatten_nil, List.append_nil, List.cons_append, List.nil_append, List.mem_cons, List.mem_map] at hu
  rcases hu with rfl | ⟨x, _, rfl⟩ <;> rfl
theorem itr_one (i : It) : ∀ u ∈ itr i, u.oneCell' = true := by
  intro u hu
  simp only [itr, List.flatten_cons, List.flatten_nil, List.append_nil, List.cons_append, List.nil_append, List.mem_cons, List.not_mem_nil, or_false] at hu
  rcases hu with rfl | rfl <;> rfl
/-- the lists of a conversation, as they lie -/
def OL (w : World) (a : Option Addr) (n c : Nat) (L : List Ot) : Prop := (∀ s ∈ L, s.Ok) ∧ Lz 106 w a n c (L.map otr)
def IL (w : World) (a : Option Addr) (n c : Nat) (L : List It) : Prop := (∀ s ∈ L, s.Ok) ∧ Lz 2 w a n c (L.map itr)
theorem OL.len {w : World} {a : Option Addr} {n c : Nat} {L : List Ot} (h : OL w a n c L) : L.length = n := by have := h.2.len; simpa using this
theorem IL.len {w : World} {a : Option Addr} {n c : Nat} {L : List It} (h : IL w a n c L) : L.length = n := by have := h.2.len; simpa using this
theorem OL.at_ {w : World} {a : Option Addr} {n c : Nat} {L : List Ot} (h : OL w a n c L) (i : Nat) (s : Ot) (hi : L[i]? = some s) : ∃ p o, a = some ⟨p, o, none⟩ ∧ w.rangeAt p (o + 106 * i) (otr s) := by
  have hl := (List.getElem?_eq_some_iff.1 hi).1
  obtain ⟨p, o, h1, h2⟩ := h.2.at_ i (by rw [← h.len]; exact hl)
  refine ⟨p, o, h1, ?_⟩
  have e : (L.map otr).getD i [] = otr s := by simp [List.getD, hi]
  rwa [e] at h2
theorem IL.at_ {w : World} {a : Option Addr} {n c : Nat} {L : List It} (h : IL w a n c L) (i : Nat) (s : It) (hi : L[i]? = some s) : ∃ p o, a = some ⟨p, o, none⟩ ∧ w.rangeAt p (o + 2 * i) (itr s) := by
  have hl := (List.getElem?_eq_some_iff.1 hi).1
  obtain ⟨p, o, h1, h2⟩ := h.2.at_ i (by rw [← h.len]; exact hl)
  refine ⟨p, o, h1, ?_⟩
  have e : (L.map itr).getD i [] = itr s := by simp [List.getD, hi]
  rwa [e] at h2
theorem OL.ok {w : World} {a : Option Addr} {n c : Nat} {L : List Ot} (h : OL w a n c L) (i : Nat) (s : Ot) (hi : L[i]? = some s) : s.Ok := h.1 s (List.mem_of_getElem? hi)
theorem IL.ok {w : World} {a : Option Addr} {n c : Nat} {L : List It} (h : IL w a n c L) (i : Nat) (s : It) (hi : L[i]? = some s) : s.Ok := h.1 s (List.mem_of_getElem? hi)
/-- a conversation -/
structure Cm where
  nx : Int
  O : List Ot
  tn : Int
  dl : Int
  H : List It
  deriving DecidableEq
/-- where its lists lie -/
structure Lc where
  ao : Option Addr
  no : Nat
  co : Nat
  ah : Option Addr
  nh : Nat
  ch : Nat
def cvs (c : Cm) (x : Lc) : List (List Value) := [[.int .u32 c.nx], [.slice x.ao x.no x.co], [.int .i64 c.tn], [.int .u32 c.dl], [.slice x.ah x.nh x.ch]]
structure Cin (w : World) (c : Cm) (x : Lc) : Prop where
  o : OL w x.ao x.no x.co c.O
  h : IL w x.ah x.nh x.ch c.H
  nx : 0 ≤ c.nx ∧ c.nx < 4294967296
  tn : -9223372036854775808 ≤ c.tn ∧ c.tn < 9223372036854775808
  dl : 0 ≤ c.dl ∧ c.dl < 4294967296
theorem OL.gr {w v : World} {a : Option Addr} {n c : Nat} {L : List Ot} (h : OL w a n c L) (g : Gr w v) : OL v a n c L := ⟨h.1, h.2.gr g⟩
theorem IL.gr {w v : World} {a : Option Addr} {n c : Nat} {L : List It} (h : IL w a n c L) (g : Gr w v) : IL v a n c L := ⟨h.1, h.2.gr g⟩
theorem Cin.gr {w v : World} {c : Cm} {x : Lc} (h : Cin w c x) (g : Gr w v) : Cin v c x := ⟨h.o.gr g, h.h.gr g, h.nx, h.tn, h.dl⟩
theorem exec_iso {a : Act} {o : Oper} (w : World) (x y : Operand) (ho : o.op = .indexAddr 23 x y) (g q len cap i : Nat) (hx : a.eval x = .slice (some ⟨g, q, none⟩) len cap) (hy : a.eval y = .int .i64 i) (hi : i < len) :
    (execOp a.eval o).run Try.prog w = .ok (.value (.pointer (some ⟨g, q + 106 * i, none⟩))) w := by
  have h1 : (i : Int) < (len : Int) := by omega
  have hs : (Try.prog.info? 39).map (·.size) = some 106 := by kernel_rfl
  obtain ⟨i0, h2, h3⟩ := Option.map_eq_some_iff.1 hs
  have hu := Try.underlying23
  have hc : i * 106 = 106 * i := Nat.mul_comm _ _
  unfold execOp
  simp only [ho, hx, hy]
  go_simp
theorem exec_isi {a : Act} {o : Oper} (w : World) (x y : Operand) (ho : o.op = .indexAddr 24 x y) (g q len cap i : Nat) (hx : a.eval x = .slice (some ⟨g, q, none⟩) len cap) (hy : a.eval y = .int .i64 i) (hi : i < len) :
    (execOp a.eval o).run Try.prog w = .ok (.value (.pointer (some ⟨g, q + 2 * i, none⟩))) w := by
  have h1 : (i : Int) < (len : Int) := by omega
  have hs : (Try.prog.info? 47).map (·.size) = some 2 := by kernel_rfl
  obtain ⟨i0, h2, h3⟩ := Option.map_eq_some_iff.1 hs
  have hu := Try.underlying24
  have hc : i * 2 = 2 * i := Nat.mul_comm _ _
  unfold execOp
  simp only [ho, hx, hy]
  go_simp
theorem exec_lo {op : Oper} {a : Act} (w : World) (x : Operand) (ho : op.op = .load 39 x) (g o : Nat) (hx : a.eval x = .pointer (some ⟨g, o, none⟩)) (s : Ot) (hs : s.Ok) (h : w.rangeAt g o (otr s)) :
    (execOp a.eval op).run Try.prog w = .ok (.value (.agg (fl [[.int .u32 s.n], bw s.B]))) w :=
  exec_row (P := Try.prog) w 39 x ho g o hx (otr s) _ h Try.underlying39 rfl (by rw [otr_len hs]; kernel_rfl)
theorem exec_li {op : Oper} {a : Act} (w : World) (x : Operand) (ho : op.op = .load 47 x) (g o : Nat) (hx : a.eval x = .pointer (some ⟨g, o, none⟩)) (s : It) (h : w.rangeAt g o (itr s)) :
    (execOp a.eval op).run Try.prog w = .ok (.value (.agg (fl [[.int .u32 s.n], [.string s.s]]))) w :=
  exec_row (P := Try.prog) w 47 x ho g o hx (itr s) _ h Try.underlying47 rfl (by rw [itr_len]; kernel_rfl)
theorem exec_lb {op : Oper} {a : Act} (w : World) (x : Operand) (ho : op.op = .load 27 x) (g o : Nat) (hx : a.eval x = .pointer (some ⟨g, o, none⟩)) {S : List (List Value)} {t : TypeId} (h : w.heap[g]? = some (.cells (fl S) t (0, 0))) (N : List Nat) (hN : S.map List.length = N) (i : Nat) (K : List Int) (hi : S[i]? = some (bw K)) (hof : (N.take i).sum = o) (hl : N[i]? = some 105) :
    (execOp a.eval op).run Try.prog w = .ok (.value (.agg (fl [bw K]))) w := by
  have hK : (bw K).length = 105 := by
    have := congrArg (·[i]?) hN
    simp only [List.getElem?_map, hi, hl, Option.map_some, Option.some.injEq] at this
    exact this
  have e : fl [bw K] = (bw K).toArray := by unfold fl; simp
  rw [e]
  exact exec_row (P := Try.prog) w 27 x ho g o hx (bw K) _ (seg_range hN h i hi hof) Try.underlying27 rfl (by rw [hK]; kernel_rfl)
theorem ltO : Lw 23 39 106 112 := ⟨Try.underlying23, by
  have h : (Try.prog.info? 39).map (fun i => (i.size, i.bytes, i.zero.map (·.cells.size))) = some (106, 112, some 106) := by kernel_rfl
  cases hi : Try.prog.info? 39 with
  | none => rw [hi] at h; cases h
  | some i =>
    rw [hi] at h
    simp only [Option.map_some, Option.some.injEq, Prod.mk.injEq] at h
    obtain ⟨h1, h2, h3⟩ := h
    cases hz : i.zero with
    | none => rw [hz] at h3; cases h3
    | some z =>
      rw [hz] at h3
      simp only [Option.map_some, Option.some.injEq] at h3
      exact ⟨i, z, rfl, hz, h1, h2, h3⟩, by omega⟩
theorem ltI : Lw 24 47 2 24 := ⟨Try.underlying24, by
  have h : (Try.prog.info? 47).map (fun i => (i.size, i.bytes, i.zero.map (·.cells.size))) = some (2, 24, some 2) := by kernel_rfl
  cases hi : Try.prog.info? 47 with
  | none => rw [hi] at h; cases h
  | some i =>
    rw [hi] at h
    simp only [Option.map_some, Option.some.injEq, Prod.mk.injEq] at h
    obtain ⟨h1, h2, h3⟩ := h
    cases hz : i.zero with
    | none => rw [hz] at h3; cases h3
    | some z =>
      rw [hz] at h3
      simp only [Option.map_some, Option.some.injEq] at h3
      exact ⟨i, z, rfl, hz, h1, h2, h3⟩, by omega⟩
/-! ### numbers that are held against each other -/
section
variable {a : Act} {o : Oper} (w : World) (x y : Operand) (m n : Int) (b : Bool)
theorem eql_32 (ho : o.op = .binOp .eql 22 x y 22) (hx : a.eval x = .int .u32 m) (hy : a.eval y = .int .u32 n) (hb : decide (m = n) = b) : (execOp a.eval o).run Try.prog w = .ok (.value (.bool b)) w := by
  subst hb
  unfold execOp
  simp only [ho, hx, hy]
  go_simp
  by_cases h_ : m = n <;> simp [h_]
theorem eql_i (ho : o.op = .binOp .eql 3 x y 3) (hx : a.eval x = .int .i64 m) (hy : a.eval y = .int .i64 n) (hb : decide (m = n) = b) : (execOp a.eval o).run Try.prog w = .ok (.value (.bool b)) w := by
  subst hb
  unfold execOp
  simp only [ho, hx, hy]
  go_simp
  by_cases h_ : m = n <;> simp [h_]
theorem eql_e (ho : o.op = .binOp .eql 31 x y 31) (hx : a.eval x = .int .i64 m) (hy : a.eval y = .int .i64 n) (hb : decide (m = n) = b) : (execOp a.eval o).run Try.prog w = .ok (.value (.bool b)) w := by
  subst hb
  unfold execOp
  simp only [ho, hx, hy]
  go_simp
  by_cases h_ : m = n <;> simp [h_]
theorem eql_8 (ho : o.op = .binOp .eql 5 x y 5) (hx : a.eval x = .int .u8 m) (hy : a.eval y = .int .u8 n) (hb : decide (m = n) = b) : (execOp a.eval o).run Try.prog w = .ok (.value (.bool b)) w := by
  subst hb
  unfold execOp
  simp only [ho, hx, hy]
  go_simp
  by_cases h_ : m = n <;> simp [h_]
theorem neq_32 (ho : o.op = .binOp .neq 22 x y 22) (hx : a.eval x = .int .u32 m) (hy : a.eval y = .int .u32 n) (hb : decide (m ≠ n) = b) : (execOp a.eval o).run Try.prog w = .ok (.value (.bool b)) w := by
  subst hb
  unfold execOp
  simp only [ho, hx, hy]
  go_simp
  by_cases h_ : m = n <;> simp [h_]
theorem neq_i (ho : o.op = .binOp .neq 3 x y 3) (hx : a.eval x = .int .i64 m) (hy : a.eval y = .int .i64 n) (hb : decide (m ≠ n) = b) : (execOp a.eval o).run Try.prog w = .ok (.value (.bool b)) w := by
  subst hb
  unfold execOp
  simp only [ho, hx, hy]
  go_simp
  by_cases h_ : m = n <;> simp [h_]
theorem neq_e (ho : o.op = .binOp .neq 31 x y 31) (hx : a.eval x = .int .i64 m) (hy : a.eval y = .int .i64 n) (hb : decide (m ≠ n) = b) : (execOp a.eval o).run Try.prog w = .ok (.value (.bool b)) w := by
  subst hb
  unfold execOp
  simp only [ho, hx, hy]
  go_simp
  by_cases h_ : m = n <;> simp [h_]
theorem neq_8 (ho : o.op = .binOp .neq 5 x y 5) (hx : a.eval x = .int .u8 m) (hy : a.eval y = .int .u8 n) (hb : decide (m ≠ n) = b) : (execOp a.eval o).run Try.prog w = .ok (.value (.bool b)) w := by
  subst hb
  unfold execOp
  simp only [ho, hx, hy]
  go_simp
  by_cases h_ : m = n <;> simp [h_]
theorem lss_32 (ho : o.op = .binOp .lss 22 x y 22) (hx : a.eval x = .int .u32 m) (hy : a.eval y = .int .u32 n) (hb : decide (m < n) = b) : (execOp a.eval o).run Try.prog w = .ok (.value (.bool b)) w := by
  subst hb
  unfold execOp
  simp only [ho, hx, hy]
  go_simp
theorem lss_i (ho : o.op = .binOp .lss 3 x y 3) (hx : a.eval x = .int .i64 m) (hy : a.eval y = .int .i64 n) (hb : decide (m < n) = b) : (execOp a.eval o).run Try.prog w = .ok (.value (.bool b)) w := by
  subst hb
  unfold execOp
  simp only [ho, hx, hy]
  go_simp
theorem lss_e (ho : o.op = .binOp .lss 31 x y 31) (hx : a.eval x = .int .i64 m) (hy : a.eval y = .int .i64 n) (hb : decide (m < n) = b) : (execOp a.eval o).run Try.prog w = .ok (.value (.bool b)) w := by
  subst hb
  unfold execOp
  simp only [ho, hx, hy]
  go_simp
theorem lss_8 (ho : o.op = .binOp .lss 5 x y 5) (hx : a.eval x = .int .u8 m) (hy : a.eval y = .int .u8 n) (hb : decide (m < n) = b) : (execOp a.eval o).run Try.prog w = .ok (.value (.bool b)) w := by
  subst hb
  unfold execOp
  simp only [ho, hx, hy]
  go_simp
theorem gtr_32 (ho : o.op = .binOp .gtr 22 x y 22) (hx : a.eval x = .int .u32 m) (hy : a.eval y = .int .u32 n) (hb : decide (n < m) = b) : (execOp a.eval o).run Try.prog w = .ok (.value (.bool b)) w := by
  subst hb
  unfold execOp
  simp only [ho, hx, hy]
  go_simp
theorem gtr_i (ho : o.op = .binOp .gtr 3 x y 3) (hx : a.eval x = .int .i64 m) (hy : a.eval y = .int .i64 n) (hb : decide (n < m) = b) : (execOp a.eval o).run Try.prog w = .ok (.value (.bool b)) w := by
  subst hb
  unfold execOp
  simp only [ho, hx, hy]
  go_simp
theorem gtr_e (ho : o.op = .binOp .gtr 31 x y 31) (hx : a.eval x = .int .i64 m) (hy : a.eval y = .int .i64 n) (hb : decide (n < m) = b) : (execOp a.eval o).run Try.prog w = .ok (.value (.bool b)) w := by
  subst hb
  unfold execOp
  simp only [ho, hx, hy]
  go_simp
theorem gtr_8 (ho : o.op = .binOp .gtr 5 x y 5) (hx : a.eval x = .int .u8 m) (hy : a.eval y = .int .u8 n) (hb : decide (n < m) = b) : (execOp a.eval o).run Try.prog w = .ok (.value (.bool b)) w := by
  subst hb
  unfold execOp
  simp only [ho, hx, hy]
  go_simp
theorem geq_32 (ho : o.op = .binOp .geq 22 x y 22) (hx : a.eval x = .int .u32 m) (hy : a.eval y = .int .u32 n) (hb : decide (n ≤ m) = b) : (execOp a.eval o).run Try.prog w = .ok (.value (.bool b)) w := by
  subst hb
  unfold execOp
  simp only [ho, hx, hy]
  go_simp
theorem geq_i (ho : o.op = .binOp .geq 3 x y 3) (hx : a.eval x = .int .i64 m) (hy : a.eval y = .int .i64 n) (hb : decide (n ≤ m) = b) : (execOp a.eval o).run Try.prog w = .ok (.value (.bool b)) w := by
  subst hb
  unfold execOp
  simp only [ho, hx, hy]
  go_simp
theorem geq_e (ho : o.op = .binOp .geq 31 x y 31) (hx : a.eval x = .int .i64 m) (hy : a.eval y = .int .i64 n) (hb : decide (n ≤ m) = b) : (execOp a.eval o).run Try.prog w = .ok (.value (.bool b)) w := by
  subst hb
  unfold execOp
  simp only [ho, hx, hy]
  go_simp
theorem geq_8 (ho : o.op = .binOp .geq 5 x y 5) (hx : a.eval x = .int .u8 m) (hy : a.eval y = .int .u8 n) (hb : decide (n ≤ m) = b) : (execOp a.eval o).run Try.prog w = .ok (.value (.bool b)) w := by
  subst hb
  unfold execOp
  simp only [ho, hx, hy]
  go_simp
theorem leq_32 (ho : o.op = .binOp .leq 22 x y 22) (hx : a.eval x = .int .u32 m) (hy : a.eval y = .int .u32 n) (hb : decide (m ≤ n) = b) : (execOp a.eval o).run Try.prog w = .ok (.value (.bool b)) w := by
  subst hb
  unfold execOp
  simp only [ho, hx, hy]
  go_simp
theorem leq_i (ho : o.op = .binOp .leq 3 x y 3) (hx : a.eval x = .int .i64 m) (hy : a.eval y = .int .i64 n) (hb : decide (m ≤ n) = b) : (execOp a.eval o).run Try.prog w = .ok (.value (.bool b)) w := by
  subst hb
  unfold execOp
  simp only [ho, hx, hy]
  go_simp
theorem leq_e (ho : o.op = .binOp .leq 31 x y 31) (hx : a.eval x = .int .i64 m) (hy : a.eval y = .int .i64 n) (hb : decide (m ≤ n) = b) : (execOp a.eval o).run Try.prog w = .ok (.value (.bool b)) w := by
  subst hb
  unfold execOp
  simp only [ho, hx, hy]
  go_simp
theorem leq_8 (ho : o.op = .binOp .leq 5 x y 5) (hx : a.eval x = .int .u8 m) (hy : a.eval y = .int .u8 n) (hb : decide (m ≤ n) = b) : (execOp a.eval o).run Try.prog w = .ok (.value (.bool b)) w := by
  subst hb
  unfold execOp
  simp only [ho, hx, hy]
  go_simp
end
theorem nrm : (∀ (a : Act) (i : Nat) (v : Value), Act.put a (some i) v = ⟨a.tmps.setIfInBounds i v, a.defers⟩) ∧ (∀ (a : Act) (v : Value), Act.put a none v = a) ∧ (∀ {α : Type} (l : List α) (i : Nat) (v : α), l.toArray.setIfInBounds i v = (l.set i v).toArray) ∧ (∀ {α : Type} (l : List α) (x v : α), (x :: l).set 0 v = v :: l) ∧ (∀ {α : Type} (l : List α) (x v : α) (i : Nat), (x :: l).set (i + 1) v = x :: l.set i v) ∧ (∀ {α : Type} (l : List α) (i : Nat) (h : i < l.toArray.size), l.toArray[i] = l[i]'(by simpa using h)) ∧ (∀ {α : Type} (l : List α) (x : α) (h : 0 < (x :: l).length), (x :: l)[0] = x) ∧ (∀ {α : Type} (l : List α) (x : α) (i : Nat) (h : i + 1 < (x :: l).length), (x :: l)[i + 1] = l[i]'(by simpa using h)) := by
  refine ⟨?_, ?_, ?_, ?_, ?_, ?_, ?_, ?_⟩ <;> intros <;> simp [Act.put]
/-- the first k are done -/
def tf (n k : Nat) : Array Bool := ((List.range n).map fun i => decide (i < k)).toArray
section
variable {P : Program} {md : Region.Mode} {ops : Array Oper} {Q : Exit → Act → World → Prop} {S : World → Prop}
theorem any_tk (i : Nat) (v : Value) {oi : Oper} {l : Array Bool} {a : Act} {w : World} (l0 : Array Bool) (hi : ops[i]? = some oi) (hy : ∀ x_, S x_ → (execOp a.eval oi).run P x_ = .ok (.value v) x_) (hS : S w)
    (h : Any P md ops Q S (l.setIfInBounds i true) (a.put oi.dst v) w) (hs : Region.noSelect ops = true := by kernel_rfl) (hle : leB ops.size l0 l = true := by kernel_rfl) (hf : Region.free md ops l0 i = true := by kernel_rfl) (hr : rdB md ops l i = true := by kernel_rfl) (hQ : ∀ c a w, Q (.panic c) (a.put oi.dst v) w → Q (.panic c) a w := by exact fun _ _ _ h => h) (hw : Region.wanted oi (yielded ops a.tmps) = true := by kernel_rfl) : Any P md ops Q S l a w :=
  any_take l0 hi hs hle hf hr hQ (.inl ⟨hw, hy⟩) hS h
theorem any_to (i : Nat) {oi : Oper} {l : Array Bool} {a : Act} {w : World} (l0 : Array Bool) (hi : ops[i]? = some oi) (hS : S w)
    (h : Any P md ops Q S (l.setIfInBounds i true) (a.put oi.dst undef) w) (hs : Region.noSelect ops = true := by kernel_rfl) (hle : leB ops.size l0 l = true := by kernel_rfl) (hf : Region.free md ops l0 i = true := by kernel_rfl) (hr : rdB md ops l i = true := by kernel_rfl) (hQ : ∀ c a w, Q (.panic c) (a.put oi.dst undef) w → Q (.panic c) a w := by exact fun _ _ _ h => h) (hw : Region.wanted oi (yielded ops a.tmps) = false := by kernel_rfl) : Any P md ops Q S l a w :=
  any_take l0 hi hs hle hf hr hQ (.inr ⟨hw, rfl⟩) hS h
end
section
variable {P : Program} {ops : Array Oper} {Q : Exit → Act → World → Prop} {a : Act} {w : World} {o : Oper} {rest : List Oper}
theorem lvk (v : Value) (h : wpList P ops Q rest (a.put o.dst v) w) (hw : Region.wanted o (yielded ops a.tmps) = true := by kernel_rfl) (hx : (execOp a.eval o).run P w = .ok (.value v) w := by kernel_rfl) : wpList P ops Q (o :: rest) a w := list_val v hw hx h
end
end Go.Proofs.Ytcefkkoombmndaa
