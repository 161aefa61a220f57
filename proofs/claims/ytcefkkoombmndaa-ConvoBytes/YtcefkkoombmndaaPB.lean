/-
  What Put wants: bodies laid into one array, its parts, texts in an array of three.
-/
import Derived.Test.YtcefkkoombmndaaPA
namespace Go.Proofs.Ytcefkkoombmndaa
open Go.RowKit
set_option maxRecDepth 100000
set_option linter.unusedSimpArgs false
set_option linter.unusedVariables false
/-- the bodies, the first j of them laid -/
def bodL (O : List Ot) (j : Nat) : List Int := ((O.take j).map (·.B)).flatten ++ List.replicate (105 * (4 - j)) 0
theorem bods_len {O : List Ot} (h : ∀ s ∈ O, s.Ok) : ((O.map (·.B)).flatten).length = 105 * O.length := by
  induction O with
  | nil => rfl
  | cons s O ih =>
    rw [List.map_cons, List.flatten_cons, List.length_append, (h s (.head _)).2.1, ih fun t ht => h t (.tail _ ht), List.length_cons]
    omega
theorem bodt_len {O : List Ot} (h : ∀ s ∈ O, s.Ok) {j : Nat} (hj : j ≤ O.length) : (((O.take j).map (·.B)).flatten).length = 105 * j := by
  rw [bods_len fun s hs => h s (List.mem_of_mem_take hs), List.length_take, Nat.min_eq_left hj]
theorem bodL_len {O : List Ot} (h : ∀ s ∈ O, s.Ok) {j : Nat} (hj : j ≤ O.length) (h4 : j ≤ 4) : (bodL O j).length = 420 := by
  unfold bodL
  rw [List.length_append, bodt_len h hj, List.length_replicate]
  omega
theorem bodL_isB {O : List Ot} (h : ∀ s ∈ O, s.Ok) (j : Nat) : IsB (bodL O j) := by
  refine isB_app (fun x hx => ?_) (isB_rep _)
  obtain ⟨l, hl, hx⟩ := List.mem_flatten.1 hx
  obtain ⟨s, hs, rfl⟩ := List.mem_map.1 hl
  exact (h s (List.mem_of_mem_take hs)).2.2 x hx
theorem bodL_0 (O : List Ot) : bodL O 0 = List.replicate 420 0 := by unfold bodL; simp
theorem bodL_lay {O : List Ot} (h : ∀ s ∈ O, s.Ok) {j : Nat} {s : Ot} (hs : O[j]? = some s) (h4 : j < 4) : lay (bodL O j) (105 * j) s.B = bodL O (j + 1) := by
  have hl := (List.getElem?_eq_some_iff.1 hs).1
  have hA := bodt_len h (Nat.le_of_lt hl)
  have hb := (h s (List.mem_of_getElem? hs)).2.1
  have e : ((O.take (j + 1)).map (·.B)).flatten = ((O.take j).map (·.B)).flatten ++ s.B := by rw [List.take_add_one, hs]; simp
  unfold lay bodL
  rw [e, hb]
  generalize ((O.take j).map (·.B)).flatten = A at *
  rw [List.take_append_of_le_length (by omega), List.take_of_length_le (by omega), List.drop_append, List.drop_eq_nil_of_le (by omega), List.nil_append, List.drop_replicate, hA, List.append_assoc]
  congr 3
  omega
theorem exec_ixA {a : Act} {o : Oper} (w : World) (x y : Operand) (ho : o.op = .indexAddr 69 x y) (g i : Nat) (hx : a.eval x = .pointer (some ⟨g, 0, none⟩)) (hy : a.eval y = .int .i64 i) (hi : i < 4) :
    (execOp a.eval o).run Try.prog w = .ok (.value (.pointer (some ⟨g, 105 * i, none⟩))) w := by
  have h1 : (i : Int) < 4 := by omega
  have hs : (Try.prog.info? 27).map (·.size) = some 105 := by kernel_rfl
  obtain ⟨i0, h2, h3⟩ := Option.map_eq_some_iff.1 hs
  have hu := Try.underlying69
  have hc : i * 105 = 105 * i := Nat.mul_comm _ _
  unfold execOp
  simp only [ho, hx, hy]
  go_simp
theorem exec_ixB {a : Act} {o : Oper} (w : World) (x y : Operand) (ho : o.op = .index 69 x y) (X : List Int) (hX : X.length = 420) (hx : a.eval x = .agg (kc X)) (i : Nat) (hi : i < 4) (hy : a.eval y = .int .i64 (i : Int)) (Y : List Int) (hY : Y = (X.drop (105 * i)).take 105) : (execOp a.eval o).run Try.prog w = .ok (.value (.agg (fl [bw Y]))) w := by
  subst hY
  have hp : (part 27 (kc X) (i * 105)).run Try.prog w = .ok (.agg (fl [bw ((X.drop (105 * i)).take 105)])) w := by
    rw [part_rw Try.underlying27 Try.infoY]
    congr 2
    apply Array.ext'
    unfold kc fl bw
    rw [Nat.mul_comm i 105]
    simp [List.map_take, List.map_drop]
  have hu := Try.underlying69
  obtain ⟨i0, h1, h2⟩ := Option.map_eq_some_iff.1 Try.infoY
  have hlt : (i : Int) < 4 := by omega
  unfold execOp
  simp only [ho, hx, hy, Instr.index]
  simp [Sem.run_bind, run_underlying hu, sizeOf, typeInfo, h1, h2, hp, hlt, asIntOf, hi]
theorem exec_l420 {op : Oper} {a : Act} (w : World) (x : Operand) (ho : op.op = .load 69 x) (g : Nat) (hx : a.eval x = .pointer (some ⟨g, 0, none⟩)) (X : List Int) (hX : X.length = 420) {t : TypeId} (h : w.heap[g]? = some (.cells (kc X) t (0, 0))) :
    (execOp a.eval op).run Try.prog w = .ok (.value (.agg (kc X))) w :=
  exec_row (P := Try.prog) w 69 x ho g 0 hx (X.map (Value.int .u8)) _ (fun j v hj => by rw [Nat.zero_add]; exact cell_of h (by unfold kc; rw [List.getElem?_toArray]; exact hj)) Try.underlying69 rfl (by rw [List.length_map, hX]; kernel_rfl)
/-- a body is laid into the array -/
theorem list_body {ops : Array Oper} {Q : Exit → Act → World → Prop} {a : Act} {w w0 : World} {o : Oper} {rest : List Oper} {L : List Blk} {t : TypeId} (x y : Operand) (g off : Nat) (X K : List Int) (hw : Region.wanted o (yielded ops a.tmps) = true) (ho : o.op = .store 27 x y)
    (hx : a.eval x = .pointer (some ⟨g, off, none⟩)) (hy : a.eval y = .agg (fl [bw K])) (hK : K.length = 105) (hX : off + 105 ≤ X.length) (hB : Bl w0 L w) (b : Nat) (hb : L[b]? = some ⟨g, kc X, t⟩)
    (h : ∀ v, Bl w0 (L.set b ⟨g, kc (lay X off K), t⟩) v → Bt g w v → wpList Try.prog ops Q rest (a.put o.dst undef) v) : wpList Try.prog ops Q (o :: rest) a w := by
  refine wpList_step fun K0 hK0 => ?_
  have hB2 := hB.cells b (C := X.map (Value.int .u8)) hb off (K.map (Value.int .u8))
  rw [sp_lay X K off (by omega)] at hB2
  refine list_store_mid 27 x y g off (bw K).toArray hw ho hx (by rw [hy]; simp [fl]) (there_of (hB.get b hb) (by simp [bw_len, hK]; omega)) (by rw [show (bw K).toArray.size = 105 by simp [bw_len, hK]]; kernel_rfl) (by unfold bw; simp [Value.oneCell']) ?_
  exact hK0 _ _ (h _ hB2 (setCells_bt _ _ _ _))
/-- three texts -/
def fil3 (H : List It) : List It := H ++ List.replicate (3 - H.length) ⟨0, ByteArray.empty⟩
def c3 (H : List It) : Array Value := ((fil3 H).map itr).flatten.toArray
theorem fil3_len {H : List It} (h : H.length ≤ 3) : (fil3 H).length = 3 := by unfold fil3; simp; omega
theorem itrs_len (H : List It) : ((H.map itr).flatten).length = 2 * H.length := by
  have := flat_len (H.map itr) 2 (fun r hr => by obtain ⟨s, _, rfl⟩ := List.mem_map.1 hr; exact itr_len s)
  rw [this, List.length_map]; omega
theorem c3_size {H : List It} (h : H.length ≤ 3) : (c3 H).size = 6 := by
  unfold c3
  simp only [List.size_toArray]
  rw [itrs_len, fil3_len h]
theorem exec_l6 {op : Oper} {a : Act} (w : World) (x : Operand) (ho : op.op = .load 71 x) (g : Nat) (hx : a.eval x = .pointer (some ⟨g, 0, none⟩)) (H : List It) (hH : H.length ≤ 3) {t : TypeId} (h : w.heap[g]? = some (.cells (c3 H) t (0, 0))) :
    (execOp a.eval op).run Try.prog w = .ok (.value (.agg (c3 H))) w :=
  exec_row (P := Try.prog) w 71 x ho g 0 hx ((fil3 H).map itr).flatten _ (fun j v hj => by rw [Nat.zero_add]; exact cell_of h (by unfold c3; rw [List.getElem?_toArray]; exact hj)) Try.underlying71 rfl (by rw [itrs_len, fil3_len hH]; kernel_rfl)
theorem part_in {L : List It} (i : Nat) {s : It} (hi : L[i]? = some s) (w : World) : (part 47 ((L.map itr).flatten.toArray) (i * 2)).run Try.prog w = .ok (.agg (fl [[.int .u32 s.n], [.string s.s]])) w := by
  have hz : (Try.prog.info? 47).map (·.size) = some 2 := by kernel_rfl
  obtain ⟨i0, h1, h2⟩ := Option.map_eq_some_iff.1 hz
  have hu := Try.underlying47
  have hl := (List.getElem?_eq_some_iff.1 hi).1
  have e : ((L.map itr).flatten.toArray).extract (i * 2) (i * 2 + 2) = fl [[.int .u32 s.n], [.string s.s]] := by
    apply Array.ext'
    obtain ⟨hl2, h4⟩ := List.getElem?_eq_some_iff.1 hi
    have h3 : L = L.take i ++ (s :: L.drop (i + 1)) := by rw [← h4, ← List.drop_eq_getElem_cons hl2, List.take_append_drop]
    have h5 : ((L.take i).map itr).flatten.length = i * 2 := by rw [itrs_len, List.length_take, Nat.min_eq_left (Nat.le_of_lt hl)]; omega
    have h6 : (L.map itr).flatten = ((L.take i).map itr).flatten ++ (itr s ++ ((L.drop (i + 1)).map itr).flatten) := by
      conv => lhs; rw [h3]
      simp
    rw [h6]
    generalize ((L.take i).map itr).flatten = A at *
    generalize ((L.drop (i + 1)).map itr).flatten = D at *
    rw [← h5]
    simp [fl, itr]
  simp [part, isAgg, Sem.run_bind, run_underlying hu, sizeOf, typeInfo, h1, h2]
  simpa using e
theorem exec_ixI {a : Act} {o : Oper} (w : World) (x y : Operand) (ho : o.op = .index 71 x y) (H : List It) (hx : a.eval x = .agg (c3 H)) (i : Nat) (hi : i < 3) (hy : a.eval y = .int .i64 (i : Int)) (s : It) (hs : (fil3 H)[i]? = some s) : (execOp a.eval o).run Try.prog w = .ok (.value (.agg (fl [[.int .u32 s.n], [.string s.s]]))) w := by
  have hp := part_in i hs w
  have hu := Try.underlying71
  have hz : (Try.prog.info? 47).map (·.size) = some 2 := by kernel_rfl
  obtain ⟨i0, h1, h2⟩ := Option.map_eq_some_iff.1 hz
  have hlt : (i : Int) < 3 := by omega
  unfold c3 at hx
  unfold execOp
  simp only [ho, hx, hy, Instr.index]
  simp [Sem.run_bind, run_underlying hu, sizeOf, typeInfo, h1, h2, hp, hlt, asIntOf, hi]
theorem run_copy_kb (w : World) (dT sT ty elem : TypeId) (k b o dLen dCap : Nat) (a : Addr) (sLen sCap : Nat) (cs : List Value) (m : Nat)
    (hu : Try.prog.underlying dT = some (.slice elem)) (hs : (Try.prog.info? elem).map (·.size) = some k) (hm : m = Nat.min sLen dLen) (hn : cs.length = m * k)
    (hsrc : ∀ j v, cs[j]? = some v → w.cell? (a.add j) = some v) (hc : ∀ j, j < cs.length → (w.cell? ⟨b, o + j, none⟩).isSome = true) (hf : ∀ j, j < cs.length → w.frozen? ⟨b, o + j, none⟩ = false) (h1 : ∀ v ∈ cs, v.oneCell' = true) :
    (Builtin.copy_ #[dT, sT] ty #[.slice (some ⟨b, o, none⟩) dLen dCap, .slice (some a) sLen sCap]).run Try.prog w = .ok (goInt m) (w.setCells b o cs) := by
  have hl := run_loadCells_list (P := Try.prog) w a cs hsrc
  have hst := run_storeCells_cells (P := Try.prog) b o cs 0 w (by simpa using hc) (by simpa using hf) h1
  cases hq : Try.prog.info? elem with
  | none => simp [hq] at hs
  | some i =>
    have hi : i.size = k := by simpa [hq] using hs
    simp [Builtin.copy_, run_underlying hu, Builtin.lenOf, Builtin.firstCells, sizeOf, typeInfo, hq, hi, ← hm, ← hn, hl, hst]
theorem step_copykb {ops : Array Oper} {Q : Exit → Act → World → Prop} {o : Oper} {a : Act} {w : World} {K : Act → World → Prop} (d s : Operand) (ho : o.op = .call { callee := .builtin .copy, args := #[d, s], argTypes := #[24, 24] }) (hw : Region.wanted o (yielded ops a.tmps) = true)
    (v u v' : Value) (w' : World) (hd : a.eval d = v) (hs : a.eval s = u) (hr : (Builtin.copy_ #[24, 24] o.type #[v, u]).run Try.prog w = .ok v' w') (h : K (a.put o.dst v') w') : if Region.wanted o (yielded ops a.tmps) = true then Oper.wp Try.prog o a w K Q else K (a.put o.dst undef) w := by
  rw [if_pos hw]
  unfold Oper.wp execOp
  simp only [ho, resolve, invoke, builtin, Sem.run_bind, Sem.run_pure, Result.andThen_ok, List.map_toArray, List.map_cons, List.map_nil, hd, hs, hr]
  exact h
theorem run_copy_k0 (w : World) (dT sT ty elem : TypeId) (k : Nat) (d a : Option Addr) (dLen dCap sLen sCap : Nat) (hu : Try.prog.underlying dT = some (.slice elem)) (hs : (Try.prog.info? elem).map (·.size) = some k) (hn : Nat.min sLen dLen = 0) :
    (Builtin.copy_ #[dT, sT] ty #[.slice d dLen dCap, .slice a sLen sCap]).run Try.prog w = .ok (goInt 0) w := by
  cases hq : Try.prog.info? elem with
  | none => simp [hq] at hs
  | some i =>
    have hl : ∀ (x : Addr), (loadCells x 0).run Try.prog w = .ok #[] w := fun x => by simpa using run_loadCells_list (P := Try.prog) w x [] (by simp)
    cases d <;> cases a <;> simp [Builtin.copy_, run_underlying hu, Builtin.lenOf, Builtin.firstCells, sizeOf, typeInfo, hq, hn, storeCells, hl]
/-- texts are copied into the array of three -/
theorem copy3 (w : World) (ty : TypeId) (g n c : Nat) (a : Option Addr) (H : List It) (hL : Lz 2 w a n c (H.map itr)) (h3 : n ≤ 3) (hg : w.heap[g]? = some (.cells (c3 []) 71 (0, 0))) :
    (Builtin.copy_ #[24, 24] ty #[.slice (some ⟨g, 0, none⟩) 3 3, .slice a n c]).run Try.prog w = .ok (goInt n) (w.setCells g 0 (H.map itr).flatten) := by
  have hn : H.length = n := by have := hL.len; rwa [List.length_map] at this
  rcases hL.sl with h0 | ⟨p, o, rfl, h2⟩
  · have h1 : H = [] := by simpa using h0
    subst h1
    have h5 : n = 0 := hn.symm
    subst h5
    exact run_copy_k0 w 24 24 ty 47 2 _ _ _ _ _ _ Try.underlying24 (by kernel_rfl) (by rfl)
  · have hth := there_of (n := 2 * n) (o := 0) (C := (c3 []).toList) hg (by rw [Array.length_toList, c3_size (by simp)]; omega)
    refine run_copy_kb w 24 24 ty 47 2 g 0 3 3 ⟨p, o, none⟩ n c ((H.map itr).flatten) n Try.underlying24 (by kernel_rfl) (Nat.min_eq_left h3).symm (by rw [itrs_len, hn]; omega) (fun j v hj => by rw [Addr.add_mid]; exact h2 j v hj) (fun j hj => (hth j (by rw [itrs_len, hn] at hj; exact hj)).1) (fun j hj => (hth j (by rw [itrs_len, hn] at hj; exact hj)).2) (fun v hv => by
      obtain ⟨r, hr, hv⟩ := List.mem_flatten.1 hv
      obtain ⟨s, _, rfl⟩ := List.mem_map.1 hr
      have hv : v ∈ [Value.int .u32 s.n, .string s.s] := hv
      simp only [List.mem_cons, List.not_mem_nil, or_false] at hv
      rcases hv with rfl | rfl <;> rfl)
theorem c3_sp {H : List It} (h : H.length ≤ 3) : (sp (c3 []).toList 0 (H.map itr).flatten).toArray = c3 H := by
  have e : (c3 []).toList = [] ++ (((List.replicate H.length (⟨0, ByteArray.empty⟩ : It)).map itr).flatten ++ ((List.replicate (3 - H.length) (⟨0, ByteArray.empty⟩ : It)).map itr).flatten) := by
    unfold c3 fil3
    rw [List.nil_append, List.nil_append, ← List.flatten_append, ← List.map_append, List.replicate_append_replicate, show H.length + (3 - H.length) = 3 by omega]
    rfl
  have h1 := sp_mid ((H.map itr).flatten) [] (((List.replicate H.length (⟨0, ByteArray.empty⟩ : It)).map itr).flatten) (((List.replicate (3 - H.length) (⟨0, ByteArray.empty⟩ : It)).map itr).flatten) (by rw [itrs_len, itrs_len, List.length_replicate])
  rw [e, show (0 : Nat) = ([] : List Value).length from rfl, h1]
  unfold c3 fil3
  rw [List.map_append, List.flatten_append, List.nil_append]
end Go.Proofs.Ytcefkkoombmndaa
