/-
  Structs and lists that are built.
-/
import Derived.Test.YtcefkkoombmndaaUA
namespace Go.Proofs.Ytcefkkoombmndaa
open Go.RowKit
set_option maxRecDepth 100000
set_option linter.unusedSimpArgs false
set_option linter.unusedVariables false
theorem list_ext {A B : List Int} (hl : A.length = B.length) (h : ∀ i, i < A.length → A.getD i 0 = B.getD i 0) : A = B := by
  apply List.ext_getElem hl
  intro i h1 h2
  have := h i h1
  simpa [List.getD_eq_getElem?_getD, List.getElem?_eq_getElem h1, List.getElem?_eq_getElem h2] using this
theorem exec_bld {a : Act} {o : Oper} (w : World) (t : TypeId) (ps : Array (Nat × Operand)) (vs : List (Nat × Value)) (ho : o.op = .build t ps) (hv : (ps.map fun p => (p.1, a.eval p.2)) = vs.toArray) (cs : Array Value) (h : Try.prog.built t vs = some cs) : (execOp a.eval o).run Try.prog w = .ok (.value (.agg cs)) w := by
  have h2 := run_build (P := Try.prog) w t vs.toArray cs h
  rw [← hv] at h2
  unfold execOp
  simp only [ho, Sem.run_bind, h2, Result.andThen_ok, Sem.run_pure]
theorem bltC (vs : List (Nat × Value)) : Try.prog.built 26 vs = Instr.fill (#[(0, 1), (1, 1), (2, 1), (3, 1), (4, 1)][·]?) (fl [[.int .u32 0], [.slice none 0 0], [.int .i64 0], [.int .u32 0], [.slice none 0 0]]) vs := by kernel_rfl
theorem bltO (vs : List (Nat × Value)) : Try.prog.built 39 vs = Instr.fill (#[(0, 1), (1, 105)][·]?) (fl [[.int .u32 0], bw Z105]) vs := by kernel_rfl
theorem bltI (vs : List (Nat × Value)) : Try.prog.built 47 vs = Instr.fill (#[(0, 1), (1, 1)][·]?) (fl [[.int .u32 0], [.string ByteArray.empty]]) vs := by kernel_rfl
theorem fill_nil (place : Nat → Option (Nat × Nat)) (cs : Array Value) : Instr.fill place cs [] = some cs := rfl
theorem bC (w : World) {a : Act} {o : Oper} (ho : o.op = .build 26 #[]) :
    (execOp a.eval o).run Try.prog w = .ok (.value (.agg (fl [[.int .u32 0], [.slice none 0 0], [.int .i64 0], [.int .u32 0], [.slice none 0 0]]))) w := by
  refine exec_bld w _ _ [] ho (by simp) _ ?_
  rw [bltC]
  exact fill_nil _ _
theorem bO (w : World) {a : Act} {o : Oper} (ho : o.op = .build 39 #[]) :
    (execOp a.eval o).run Try.prog w = .ok (.value (.agg (fl [[.int .u32 0], bw Z105]))) w := by
  refine exec_bld w _ _ [] ho (by simp) _ ?_
  rw [bltO]
  exact fill_nil _ _
theorem bO01 {z0 : Int} {K1 : List Int} (w : World) {a : Act} {o : Oper} (x0 x1 : Operand) (ho : o.op = .build 39 #[(0, x0), (1, x1)]) (h1 : K1.length = 105) (e0 : a.eval x0 = .int .u32 z0) (e1 : a.eval x1 = .agg (fl [bw K1])) :
    (execOp a.eval o).run Try.prog w = .ok (.value (.agg (fl [[.int .u32 z0], bw K1]))) w := by
  refine exec_bld w _ _ [(0, .int .u32 z0), (1, .agg (fl [bw K1]))] ho (by simp [e0, e1]) _ ?_
  rw [bltO]
  rw [fill_seg (N := NO) (nO Z105_len _) (vs := [.int .u32 z0]) rfl 0 0 rfl rfl]
  simp only [List.set_cons_zero, List.set_cons_succ]
  rw [fill_seg (N := NO) (nO Z105_len _) (vs := bw K1) (by unfold Value.cells fl; simp) 1 1 (by rw [bw_len, h1]; rfl) (by rw [bw_len, h1]; rfl)]
  simp only [List.set_cons_zero, List.set_cons_succ]
  exact fill_nil _ _
theorem bO0 {z0 : Int} (w : World) {a : Act} {o : Oper} (x0 : Operand) (ho : o.op = .build 39 #[(0, x0)]) (e0 : a.eval x0 = .int .u32 z0) :
    (execOp a.eval o).run Try.prog w = .ok (.value (.agg (fl [[.int .u32 z0], bw Z105]))) w := by
  refine exec_bld w _ _ [(0, .int .u32 z0)] ho (by simp [e0]) _ ?_
  rw [bltO]
  rw [fill_seg (N := NO) (nO Z105_len _) (vs := [.int .u32 z0]) rfl 0 0 rfl rfl]
  simp only [List.set_cons_zero, List.set_cons_succ]
  exact fill_nil _ _
theorem bI0 {z0 : Int} (w : World) {a : Act} {o : Oper} (x0 : Operand) (ho : o.op = .build 47 #[(0, x0)]) (e0 : a.eval x0 = .int .u32 z0) :
    (execOp a.eval o).run Try.prog w = .ok (.value (.agg (fl [[.int .u32 z0], [.string ByteArray.empty]]))) w := by
  refine exec_bld w _ _ [(0, .int .u32 z0)] ho (by simp [e0]) _ ?_
  rw [bltI]
  rw [fill_seg (N := NI) (nI _ _) (vs := [.int .u32 z0]) rfl 0 0 rfl rfl]
  simp only [List.set_cons_zero, List.set_cons_succ]
  exact fill_nil _ _
theorem bI01 {z0 : Int} {s1 : ByteArray} (w : World) {a : Act} {o : Oper} (x0 x1 : Operand) (ho : o.op = .build 47 #[(0, x0), (1, x1)]) (e0 : a.eval x0 = .int .u32 z0) (e1 : a.eval x1 = .string s1) :
    (execOp a.eval o).run Try.prog w = .ok (.value (.agg (fl [[.int .u32 z0], [.string s1]]))) w := by
  refine exec_bld w _ _ [(0, .int .u32 z0), (1, .string s1)] ho (by simp [e0, e1]) _ ?_
  rw [bltI]
  rw [fill_seg (N := NI) (nI _ _) (vs := [.int .u32 z0]) rfl 0 0 rfl rfl]
  simp only [List.set_cons_zero, List.set_cons_succ]
  rw [fill_seg (N := NI) (nI _ _) (vs := [.string s1]) rfl 1 1 rfl rfl]
  simp only [List.set_cons_zero, List.set_cons_succ]
  exact fill_nil _ _
theorem infO : (Try.prog.info? 39).map (fun i => (i.zero, i.size)) = some (some (.agg (fl [[.int .u32 0], bw Z105])), 106) := by kernel_rfl
theorem infI : (Try.prog.info? 47).map (fun i => (i.zero, i.size)) = some (some (.agg (fl [[.int .u32 0], [.string ByteArray.empty]])), 2) := by kernel_rfl
def oZ : Ot := ⟨0, Z105⟩
/-- a list of one -/
theorem exec_bso {a : Act} {o : Oper} (w : World) (x : Operand) (ho : o.op = .buildSlice 23 1 #[(0, x)]) (s : Ot) (hs : s.B.length = 105) (hx : a.eval x = .agg (fl [[.int .u32 s.n], bw s.B])) :
    (execOp a.eval o).run Try.prog w = .ok (.value (.slice (some ⟨w.heap.size, 0, none⟩) 1 1)) (w.alloc (.cells (fl [[.int .u32 s.n], bw s.B]) 39 (0, 0))) := by
  obtain ⟨i, h1, h2⟩ := Option.map_eq_some_iff.1 infO
  have h3 : i.zero = some (.agg (fl [[.int .u32 0], bw Z105])) := congrArg Prod.fst h2
  have h4 : i.size = 106 := congrArg Prod.snd h2
  have hl : (otr s).length = 106 := by unfold otr; simp [bw_len, hs]
  have hf := fill_seg (place := fun i => some (i * 106, 106)) (S := [otr oZ]) (N := [106]) (by kernel_rfl) (v := .agg (fl [[.int .u32 s.n], bw s.B])) (vs := otr s) rfl 0 0 (by rw [hl]; rfl) (by rw [hl]; rfl) []
  rw [fill_nil] at hf
  have h := run_buildSlice (P := Try.prog) w 23 39 1 #[(0, .agg (fl [[.int .u32 s.n], bw s.B]))] (fl [otr s]) i _ Try.underlying23 h1 h3 (by rw [h4]; decide) (by rw [h4]; decide) (by
    rw [h4, ← show fl ([otr oZ].set 0 (otr s)) = fl [otr s] from rfl, ← hf]
    congr 1
    kernel_rfl)
  rw [show fl [otr s] = fl [[.int .u32 s.n], bw s.B] from by simp [fl, otr]] at h
  unfold execOp
  simp only [ho, List.map_toArray, List.map_cons, List.map_nil, hx, Sem.run_bind, h, Result.andThen_ok, Sem.run_pure]
theorem exec_bsi {a : Act} {o : Oper} (w : World) (x : Operand) (ho : o.op = .buildSlice 24 1 #[(0, x)]) (s : It) (hx : a.eval x = .agg (fl [[.int .u32 s.n], [.string s.s]])) :
    (execOp a.eval o).run Try.prog w = .ok (.value (.slice (some ⟨w.heap.size, 0, none⟩) 1 1)) (w.alloc (.cells (fl [[.int .u32 s.n], [.string s.s]]) 47 (0, 0))) := by
  obtain ⟨i, h1, h2⟩ := Option.map_eq_some_iff.1 infI
  have h3 : i.zero = some (.agg (fl [[.int .u32 0], [.string ByteArray.empty]])) := congrArg Prod.fst h2
  have h4 : i.size = 2 := congrArg Prod.snd h2
  have hf := fill_seg (place := fun i => some (i * 2, 2)) (S := [itr ⟨0, ByteArray.empty⟩]) (N := [2]) (by kernel_rfl) (v := .agg (fl [[.int .u32 s.n], [.string s.s]])) (vs := itr s) rfl 0 0 rfl rfl []
  rw [fill_nil] at hf
  have h := run_buildSlice (P := Try.prog) w 24 47 1 #[(0, .agg (fl [[.int .u32 s.n], [.string s.s]]))] (fl [itr s]) i _ Try.underlying24 h1 h3 (by rw [h4]; decide) (by rw [h4]; decide) (by
    rw [h4, ← show fl ([itr ⟨0, ByteArray.empty⟩].set 0 (itr s)) = fl [itr s] from rfl, ← hf]
    congr 1
    kernel_rfl)
  rw [show fl [itr s] = fl [[.int .u32 s.n], [.string s.s]] from by simp [fl, itr]] at h
  unfold execOp
  simp only [ho, List.map_toArray, List.map_cons, List.map_nil, hx, Sem.run_bind, h, Result.andThen_ok, Sem.run_pure]
/-- an empty list -/
theorem run_bs0 (w : World) (t e : TypeId) (ie : TypeInfo) (hu : Try.prog.underlying t = some (.slice e)) (hie : Try.prog.info? e = some ie) : (Instr.buildSlice t 0 #[]).run Try.prog w = .ok (.slice (some ⟨w.heap.size, 0, none⟩) 0 0) (w.alloc (.cells #[] e)) := by
  simp [Instr.buildSlice, run_underlying hu, sizeOf, typeInfo, hie, newRow, Instr.fill]
  congr 2
  exact Array.eq_empty_of_size_eq_zero (by simp)
theorem exec_b0o {a : Act} {o : Oper} (w : World) (ho : o.op = .buildSlice 23 0 #[]) :
    (execOp a.eval o).run Try.prog w = .ok (.value (.slice (some ⟨w.heap.size, 0, none⟩) 0 0)) (w.alloc (.cells #[] 39 (0, 0))) := by
  obtain ⟨i, h1, h2⟩ := Option.map_eq_some_iff.1 infO
  have h3 : i.zero = some (.agg (fl [[.int .u32 0], bw Z105])) := congrArg Prod.fst h2
  have h4 : i.size = 106 := congrArg Prod.snd h2
  have h := run_bs0 w 23 39 i Try.underlying23 h1
  unfold execOp
  simp only [ho, List.map_toArray, List.map_cons, List.map_nil, Sem.run_bind, h, Result.andThen_ok, Sem.run_pure]
theorem exec_b0i {a : Act} {o : Oper} (w : World) (ho : o.op = .buildSlice 24 0 #[]) :
    (execOp a.eval o).run Try.prog w = .ok (.value (.slice (some ⟨w.heap.size, 0, none⟩) 0 0)) (w.alloc (.cells #[] 47 (0, 0))) := by
  obtain ⟨i, h1, h2⟩ := Option.map_eq_some_iff.1 infI
  have h3 : i.zero = some (.agg (fl [[.int .u32 0], [.string ByteArray.empty]])) := congrArg Prod.fst h2
  have h4 : i.size = 2 := congrArg Prod.snd h2
  have h := run_bs0 w 24 47 i Try.underlying24 h1
  unfold execOp
  simp only [ho, List.map_toArray, List.map_cons, List.map_nil, Sem.run_bind, h, Result.andThen_ok, Sem.run_pure]
/-- a struct at a block's place is held against another -/
theorem fldO : (Try.prog.fieldsOf 39).toList.map (fun f => (f.type, f.offset, decide (f.name = "_"))) = [(22, 0, false), (27, 1, false)] := by kernel_rfl
theorem fldI : (Try.prog.fieldsOf 47).toList.map (fun f => (f.type, f.offset, decide (f.name = "_"))) = [(22, 0, false), (9, 1, false)] := by kernel_rfl
theorem Try.infoY : (Try.prog.info? 27).map (·.size) = some 105 := by kernel_rfl
theorem part_y {S : List (List Value)} {N : List Nat} (hN : S.map List.length = N) (i : Nat) {K : List Int} (hi : S[i]? = some (bw K)) {o : Nat} (ho : (N.take i).sum = o) (hl : N[i]? = some 105) (w : World) : (part 27 (fl S) o).run Try.prog w = .ok (.agg (kc K)) w := by
  have hK : (bw K).length = 105 := by
    have := congrArg (·[i]?) hN
    simp only [List.getElem?_map, hi, hl, Option.map_some, Option.some.injEq] at this
    exact this
  have hp := plen S N hN i
  rw [part_rw Try.underlying27 Try.infoY]
  congr 1
  rw [← ho, ← hp]
  unfold fl
  rw [fl_split hi, kc_bw, ← hK]
  simp
theorem part_s {t : TypeId} (hu : Try.prog.underlying t = some .string) {S : List (List Value)} {N : List Nat} (hN : S.map List.length = N) (i : Nat) {v : Value} (hi : S[i]? = some [v]) {o : Nat} (ho : (N.take i).sum = o) (w : World) : (part t (fl S) o).run Try.prog w = .ok v w := by
  have hp := plen S N hN i
  have h : (fl S)[o]? = some v := by
    unfold fl
    rw [List.getElem?_toArray, fl_split hi, ← ho, ← hp]
    simp
  simp [part, isAgg, Sem.run_bind, run_underlying hu, h]
theorem eq_Y (d : Nat) (k m : List Int) (hk : k.length = 105) (hm : m.length = 105) (w : World) : Sem.run Try.prog (Op.equalIn (d + 2) 27 (.agg (kc k)) (.agg (kc m))) w = .ok (decide (k = m)) w := by
  obtain ⟨i0, hi0, _⟩ := info_parts Try.info5
  rw [run_equalIn_array (P := Try.prog) w (d + 1) (kc k) (kc m) Try.underlying27 hi0, Try.cells_b]
  refine (eqs_b k m (by omega) d _ (by intro i hi; simp at hi; omega) w).trans ?_
  congr 1
  rw [decide_eq_decide]
  constructor
  · intro h
    exact list_ext (by omega) fun i hi => h i (by simp; omega)
  · rintro rfl i _
    rfl
theorem eq_S (d : Nat) (m n : ByteArray) (w : World) : Sem.run Try.prog (Op.equalIn (d + 1) 9 (.string m) (.string n)) w = .ok (decide (m = n)) w := by
  rw [run_equalIn_string w d 9 m n Try.underlying9]
  congr 1
  rw [Bool.eq_iff_iff, decide_eq_true_eq, beq_iff_eq, ByteArray.toList_eq, ByteArray.toList_eq]
  obtain ⟨m⟩ := m; obtain ⟨n⟩ := n
  refine ⟨fun h => ?_, fun h => by rw [h]⟩
  have h2 : m = n := Array.ext' h
  rw [h2]
theorem eq_Ot (s t : Ot) (hs : s.B.length = 105) (ht : t.B.length = 105) (w : World) : Sem.run Try.prog (Op.equalIn 10000 39 (.agg (fl [[.int .u32 s.n], bw s.B])) (.agg (fl [[.int .u32 t.n], bw t.B]))) w = .ok (decide (s.n = t.n ∧ s.B = t.B)) w := by
  rw [run_equalIn_struct w 9999 _ _ _ (by kernel_rfl) (by kernel_rfl)]
  have hf := fldO
  match h : (Try.prog.fieldsOf 39).toList with
  | [] => rw [h] at hf; simp at hf
  | [f0] => rw [h] at hf; simp at hf
  | f0 :: f1 :: f2 :: fs => rw [h] at hf; simp at hf
  | [f0, f1] =>
    rw [h] at hf
    simp only [List.map_cons, List.map_nil, List.cons.injEq, and_true] at hf
    have e := eqf_cons 9999 (fl [[.int .u32 s.n], bw s.B]) (fl [[.int .u32 t.n], bw t.B]) f0 [f1] w _ _ hf.1 _ _ _ (part_c Try.underlying22 (nO hs _) 0 rfl rfl w) (part_c Try.underlying22 (nO ht _) 0 rfl rfl w) (eq_U 9998 s.n t.n w) _ (eqf_cons 9999 _ _ f1 [] w _ _ hf.2 _ _ _ (part_y (nO hs _) 1 rfl rfl rfl w) (part_y (nO ht _) 1 rfl rfl rfl w) (eq_Y 9997 s.B t.B hs ht w) true (by simp [Op.eqFields]))
    rw [e]
    congr 1
    simp
theorem eq_It (s t : It) (w : World) : Sem.run Try.prog (Op.equalIn 10000 47 (.agg (fl [[.int .u32 s.n], [.string s.s]])) (.agg (fl [[.int .u32 t.n], [.string t.s]]))) w = .ok (decide (s.n = t.n ∧ s.s = t.s)) w := by
  rw [run_equalIn_struct w 9999 _ _ _ (by kernel_rfl) (by kernel_rfl)]
  have hf := fldI
  match h : (Try.prog.fieldsOf 47).toList with
  | [] => rw [h] at hf; simp at hf
  | [f0] => rw [h] at hf; simp at hf
  | f0 :: f1 :: f2 :: fs => rw [h] at hf; simp at hf
  | [f0, f1] =>
    rw [h] at hf
    simp only [List.map_cons, List.map_nil, List.cons.injEq, and_true] at hf
    have e := eqf_cons 9999 (fl [[.int .u32 s.n], [.string s.s]]) (fl [[.int .u32 t.n], [.string t.s]]) f0 [f1] w _ _ hf.1 _ _ _ (part_c Try.underlying22 (nI _ _) 0 rfl rfl w) (part_c Try.underlying22 (nI _ _) 0 rfl rfl w) (eq_U 9998 s.n t.n w) _ (eqf_cons 9999 _ _ f1 [] w _ _ hf.2 _ _ _ (part_s Try.underlying9 (nI _ _) 1 rfl rfl w) (part_s Try.underlying9 (nI _ _) 1 rfl rfl w) (eq_S 9998 s.s t.s w) true (by simp [Op.eqFields]))
    rw [e]
    congr 1
    simp
theorem exec_neO {a : Act} {o : Oper} (w : World) (x y : Operand) (ho : o.op = .binOp .neq 39 x y 39) (s t : Ot) (hs : s.B.length = 105) (ht : t.B.length = 105) (hx : a.eval x = .agg (fl [[.int .u32 s.n], bw s.B])) (hy : a.eval y = .agg (fl [[.int .u32 t.n], bw t.B])) (b : Bool) (hb : decide (s = t) = b) : (execOp a.eval o).run Try.prog w = .ok (.value (.bool (!b))) w := by
  have he := eq_Ot s t hs ht w
  have hg := run_eqGuard_agg (P := Try.prog) w .neq 39 x y (fl [[.int .u32 s.n], bw s.B]) (fl [[.int .u32 t.n], bw t.B]) (by kernel_rfl)
  have e2 : decide (s.n = t.n ∧ s.B = t.B) = b := by
    rw [← hb, decide_eq_decide]
    obtain ⟨n1, B1⟩ := s; obtain ⟨n2, B2⟩ := t
    simp
  rw [e2] at he
  unfold execOp
  simp only [ho, hx, hy, Sem.run_bind, hg, run_eql_struct, run_neq_struct, he, Result.andThen_ok, Sem.run_pure]
theorem exec_neI {a : Act} {o : Oper} (w : World) (x y : Operand) (ho : o.op = .binOp .neq 47 x y 47) (s t : It) (hx : a.eval x = .agg (fl [[.int .u32 s.n], [.string s.s]])) (hy : a.eval y = .agg (fl [[.int .u32 t.n], [.string t.s]])) (b : Bool) (hb : decide (s = t) = b) : (execOp a.eval o).run Try.prog w = .ok (.value (.bool (!b))) w := by
  have he := eq_It s t w
  have hg := run_eqGuard_agg (P := Try.prog) w .neq 47 x y (fl [[.int .u32 s.n], [.string s.s]]) (fl [[.int .u32 t.n], [.string t.s]]) (by kernel_rfl)
  have e2 : decide (s.n = t.n ∧ s.s = t.s) = b := by
    rw [← hb, decide_eq_decide]
    obtain ⟨n1, B1⟩ := s; obtain ⟨n2, B2⟩ := t
    simp
  rw [e2] at he
  unfold execOp
  simp only [ho, hx, hy, Sem.run_bind, hg, run_eql_struct, run_neq_struct, he, Result.andThen_ok, Sem.run_pure]
theorem zvOut (w : World) : (zeroValue 39).run Try.prog w = .ok (.agg (fl [[.int .u32 0], bw Z105])) w := by kernel_rfl
end Go.Proofs.Ytcefkkoombmndaa
