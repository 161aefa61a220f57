/-
  Lists of bytes of one's own, and bytes put behind them.
-/
import Derived.Test.YtcclcknggeeehaaTwiceWalk
namespace Go.Proofs.Ytcclcknggeeehaa
open Go.RowKit
set_option maxRecDepth 100000
set_option linter.unusedVariables false
set_option linter.unusedSimpArgs false
/-- a list of bytes that the call itself has made -/
def Ob (b : Nat) (w : World) (v : Value) (L : List Int) : Prop := w.ownsRow b 5 1 v L.length (L.map (Value.int .u8))
theorem Ob.gr {b : Nat} {w u : World} {v : Value} {L : List Int} (h : Ob b w v L) (k : Gr w u) : Ob b u v L := own_gr h k
theorem Ob.slice {b : Nat} {w : World} {v : Value} {L : List Int} (h : Ob b w v L) : ∃ a c, v = .slice a L.length c ∧ L.length ≤ c ∧ c ≤ maxLen ∧ Sl w a L := by
  rcases h.2 with ⟨h1, h2⟩ | ⟨g, cap, cur, h1, h2, h3, h4, h5, h6, h7⟩
  · have : L = [] := List.eq_nil_of_length_eq_zero h2
    subst this
    exact ⟨none, 0, h1, Nat.le_refl _, Nat.zero_le _, .inl rfl⟩
  · refine ⟨_, cap, h1, h4, h5, .inr ⟨g, 0, rfl, fun j hj => ?_⟩⟩
    rw [Nat.zero_add]
    refine cell_of h3 ?_
    rw [← Array.getElem?_toList]
    have e : (L.map (Value.int .u8))[j]? = some (.int .u8 (L.getD j 0)) := by simp [hj]
    rw [← h7, Nat.mul_one, List.getElem?_take, if_pos hj] at e
    exact e
theorem Ob.grown {b : Nat} {w u u' : World} {v : Value} {L : List Int} (h : Ob b u v L) (hb : w.heap.size ≤ b) (k : Gr w u) (g : u.grownBy u' v.ownBlock) : Gr w u' := by
  refine ⟨g.os.trans k.os, g.tape.trans k.tape, g.output.trans k.output, Nat.le_trans k.size g.size, fun i hi => (g.block i (Nat.lt_of_lt_of_le hi k.size) ?_).trans (k.block i hi)⟩
  intro e
  have := (World.ownsRow.lt h i e.symm).1
  omega
/-- bytes are put behind bytes of one's own -/
theorem app_bs {w : World} {ops : Array Oper} {rest : List Oper} {o : Oper} {a : Act} {Q : Exit → Act → World → Prop} (hw : Region.wanted o (yielded ops a.tmps) = true) (s x : Operand)
    (ho : o.op = .call { callee := .builtin .append, args := #[s, x], argTypes := #[33, 33] }) (b : Nat) (v : Value) (L : List Int) (hs : a.eval s = v) (hown : Ob b w v L)
    (sp : Option Addr) (n sc : Nat) (l : List Int) (hx : a.eval x = .slice sp n sc) (hn : l.length = n) (hsl : Sl w sp l) (hbig : L.length + n ≤ 180000000000000) (hB : b ≤ w.heap.size)
    (h : ∀ v' w', Ob b w' v' (L ++ l) → w.grownBy w' v.ownBlock → wpList Try.prog ops Q rest (a.put o.dst v') w') :
    wpList Try.prog ops Q (o :: rest) a w := by
  subst hn
  obtain ⟨i0, hi, hz0, hz1, hz2⟩ := info_parts Try.info5
  rw [wpList, if_pos hw]
  refine Or.inl ?_
  rcases hsl with rfl | ⟨p, q, rfl, hat⟩
  · obtain ⟨a', c', rfl, hc, _, _⟩ := hown.slice
    have hrun : (Builtin.append_ #[33, 33] o.type #[.slice a' L.length c', .slice sp 0 sc]).run Try.prog w = .ok (.slice a' L.length c') w := by
      cases a' <;> cases sp <;> simp [Builtin.append_, run_underlying Try.underlying33, sizeOf, typeInfo, hi, Builtin.lenOf, Builtin.firstCells, loadCells, loadCellsFrom, storeCells, hc]
    unfold Oper.wp
    simp [execOp, ho, resolve, invoke, builtin, hs, hx, hrun, Result.andThen]
    exact h _ _ (by rw [List.append_nil]; exact hown) (World.grownBy.refl _ _)
  · refine wp_append_own_wide w s x 33 ho b 5 i0 (.int .u8 0) 1 1 Try.underlying33 hi hz0 hz1 hz2 rfl (by decide) v L.length _ hs hown ⟨p, q, none⟩ l.length sc (l.map (Value.int .u8)) hx (by simp) ?_ ?_ (by unfold maxLen; omega) (by omega) hB ?_
    · intro j u hj
      have hjl : j < l.length := by have := (List.getElem?_eq_some_iff.1 hj).1; simpa using this
      rw [Addr.add_mid, hat j hjl]
      simp [hjl] at hj ⊢
      exact hj
    · intro u hu
      obtain ⟨y, _, rfl⟩ := List.mem_map.1 hu
      rfl
    · intro v' w' h1 h2 _
      refine h v' w' ?_ h2
      unfold Ob
      rw [List.length_append, List.map_append]
      exact h1
/-- append, as an operation of a region that draws its order -/
theorem app_op {w : World} {o : Oper} {a : Act} {K : Act → World → Prop} {Q : Exit → Act → World → Prop} (s x : Operand)
    (ho : o.op = .call { callee := .builtin .append, args := #[s, x], argTypes := #[33, 33] }) (b : Nat) (v : Value) (L : List Int) (hs : a.eval s = v) (hown : Ob b w v L)
    (sp : Option Addr) (n sc : Nat) (l : List Int) (hx : a.eval x = .slice sp n sc) (hn : l.length = n) (hsl : Sl w sp l) (hbig : L.length + n ≤ 180000000000000) (hB : b ≤ w.heap.size)
    (h : ∀ v' w', Ob b w' v' (L ++ l) → w.grownBy w' v.ownBlock → K (a.put o.dst v') w') : o.wp Try.prog a w K Q := by
  subst hn
  obtain ⟨i0, hi, hz0, hz1, hz2⟩ := info_parts Try.info5
  rcases hsl with rfl | ⟨p, q, rfl, hat⟩
  · obtain ⟨a', c', rfl, hc, _, _⟩ := hown.slice
    have hrun : (Builtin.append_ #[33, 33] o.type #[.slice a' L.length c', .slice sp 0 sc]).run Try.prog w = .ok (.slice a' L.length c') w := by
      cases a' <;> cases sp <;> simp [Builtin.append_, run_underlying Try.underlying33, sizeOf, typeInfo, hi, Builtin.lenOf, Builtin.firstCells, loadCells, loadCellsFrom, storeCells, hc]
    unfold Oper.wp
    simp [execOp, ho, resolve, invoke, builtin, hs, hx, hrun, Result.andThen]
    exact h _ _ (by rw [List.append_nil]; exact hown) (World.grownBy.refl _ _)
  · refine wp_append_own_wide w s x 33 ho b 5 i0 (.int .u8 0) 1 1 Try.underlying33 hi hz0 hz1 hz2 rfl (by decide) v L.length _ hs hown ⟨p, q, none⟩ l.length sc (l.map (Value.int .u8)) hx (by simp) ?_ ?_ (by unfold maxLen; omega) (by omega) hB ?_
    · intro j u hj
      have hjl : j < l.length := by have := (List.getElem?_eq_some_iff.1 hj).1; simpa using this
      rw [Addr.add_mid, hat j hjl]
      simp [hjl] at hj ⊢
      exact hj
    · intro u hu
      obtain ⟨y, _, rfl⟩ := List.mem_map.1 hu
      rfl
    · intro v' w' h1 h2 _
      refine h v' w' ?_ h2
      unfold Ob
      rw [List.length_append, List.map_append]
      exact h1
theorem ob_of {w : World} {b g n : Nat} {X : List Int} (h : w.heap[g]? = some (.cells (kc X) 5 (0, 0))) (hn : X.length = n) (hg : b ≤ g) (hb : n ≤ 140737488351232) : Ob b w (.slice (some ⟨g, 0, none⟩) n n) X := by
  subst hn
  exact ⟨by simp, .inr ⟨g, X.length, kc X, rfl, hg, h, Nat.le_refl _, by unfold maxLen; omega, by rw [kc_size, Nat.mul_one], by unfold kc; rw [Nat.mul_one]; exact List.take_of_length_le (by simp)⟩⟩
theorem Ob.lb {b : Nat} {w : World} {v : Value} {L : List Int} (h : Ob b w v L) (hb : IsB L) : ∃ a c, v = .slice a L.length c ∧ Lb w a L.length c L := by
  obtain ⟨a, c, h1, h2, h3, h4⟩ := h.slice
  exact ⟨a, c, h1, rfl, hb, h4, h2, by unfold maxLen at h3; omega⟩
/-- a slice is made, as an operation of a region that draws its order -/
theorem make_op {w : World} {o : Oper} {a : Act} {K : Act → World → Prop} {Q : Exit → Act → World → Prop} (l c : Operand) (hop : o.op = Op.makeSlice 33 l c) (n m : Nat) (hl : a.eval l = .int .i64 n) (hc : a.eval c = .int .i64 m) (hnm : n ≤ m) (hn : m ≤ 281474976710656)
    (h : K (a.put o.dst (.slice (some ⟨w.heap.size, 0, none⟩) n m)) (w.alloc (.cells (kc (List.replicate m 0)) 5 (0, 0)))) : o.wp Try.prog a w K Q := by
  obtain ⟨i, h2, h3, h4, h5⟩ := info_parts Try.info5
  have hrun := run_make (P := Try.prog) w 33 5 i (.int .u8 0) Try.underlying33 h2 h3 .i64 .i64 (n : Int) (m : Int) (by omega) (by omega) (by rw [h5]; omega) (by omega)
  rw [h4] at hrun
  have e : madeCells (Value.int .u8 0).cells m = kc (List.replicate m 0) := by
    apply Array.ext
    · simp [size_madeCells, kc]
    · intro i h1 h2
      have : i % 1 = 0 := Nat.mod_one i
      simp [madeCells, Value.cells, this, kc]
  simp only [Int.toNat_natCast, Nat.mul_one, e] at hrun
  unfold Oper.wp
  simp [execOp, hop, hl, hc, hrun, Result.andThen]
  exact h
theorem exec_upto {a : Act} {o : Oper} (w : World) (x y : Operand) (ho : o.op = .slice 33 x none (some y) none) (s : Option Addr) (len cap n : Nat) (hx : a.eval x = .slice s len cap) (hy : a.eval y = .int .i64 n) (hc : len ≤ cap) (hn : n ≤ len) :
    (execOp a.eval o).run Try.prog w = .ok (.value (.slice (if cap = 0 then s else s.map (·.add 0)) n cap)) w := by
  have h1 : (0 : Int) ≤ n := by omega
  have h2 : (n : Int) ≤ cap := by omega
  have hu : Try.prog.underlying 33 = some (.slice (Try.prog.elem 33)) := by kernel_rfl
  have hz : (sizeOf (Try.prog.elem 33)).run Try.prog w = .ok 1 w := by kernel_rfl
  simp [execOp, ho, hx, hy, run_sliceAt_slice _ _ _ _ _ _ hu, run_slice_h _ _ _ _ _ hu _ _ h1 h2, hz, sliced]
theorem exec_from {a : Act} {o : Oper} (w : World) (x y : Operand) (ho : o.op = .slice 33 x (some y) none none) (s : Option Addr) (len cap n : Nat) (hx : a.eval x = .slice s len cap) (hy : a.eval y = .int .i64 n) (hc : len ≤ cap) (hn : n ≤ len) :
    (execOp a.eval o).run Try.prog w = .ok (.value (.slice (if cap = n then s else s.map (·.add n)) (len - n) (cap - n))) w := by
  have h1 : (0 : Int) ≤ n := by omega
  have h2 : (n : Int) ≤ len := by omega
  have hu : Try.prog.underlying 33 = some (.slice (Try.prog.elem 33)) := by kernel_rfl
  have hz : (sizeOf (Try.prog.elem 33)).run Try.prog w = .ok 1 w := by kernel_rfl
  simp [execOp, ho, hx, hy, run_sliceAt_slice _ _ _ _ _ _ hu, run_slice_l _ _ _ _ _ hu _ _ h1 h2, hz, sliced]
/-- parts that are xored from their blocks on -/
theorem cn_cn (c : Int) (k j : Nat) : cn (cn c k) j = cn c (k + j) := by unfold cn; omega
theorem w32_cn (c : Int) (k : Nat) : W32 (cn c k) := by unfold W32 cn; omega
theorem xl_parts (K N : List Int) (c : Int) (B : List Int) (k m : Nat) (hm : m = 64 * k) (hl : m ≤ B.length) : xl K N c B = xl K N c (B.take m) ++ xl K N (cn c k) (B.drop m) := by
  have h1 : (xl K N c (B.take m)).length = m := by rw [xl_len, List.length_take]; omega
  refine list_ext (by rw [List.length_append, xl_len, h1, xl_len, List.length_drop]; omega) fun i hi => ?_
  rw [xl_len] at hi
  rw [xl_get _ _ _ _ _ hi]
  rcases Nat.lt_or_ge i m with him | him
  · rw [List.getD_eq_getElem?_getD, List.getElem?_append_left (by rw [h1]; exact him), ← List.getD_eq_getElem?_getD, xl_get _ _ _ _ _ (by rw [List.length_take]; omega)]
    unfold xf
    rw [List.getD_eq_getElem?_getD, List.getD_eq_getElem?_getD, List.getElem?_take, if_pos him]
  · rw [List.getD_eq_getElem?_getD, List.getElem?_append_right (by rw [h1]; exact him), h1, ← List.getD_eq_getElem?_getD, xl_get _ _ _ _ _ (by rw [List.length_drop]; omega)]
    unfold xf sf
    rw [cn_cn, show k + (i - m) / 64 = i / 64 from by omega, show (i - m) % 64 = i % 64 from by omega]
    have e : (B.drop m).getD (i - m) 0 = B.getD i 0 := by rw [List.getD_eq_getElem?_getD, List.getElem?_drop, show m + (i - m) = i from by omega, ← List.getD_eq_getElem?_getD]
    rw [e]
/-- noughts make the stream -/
theorem xl_zero (K N : List Int) (c : Int) (n i : Nat) (h : i < n) : (xl K N c (List.replicate n 0)).getD i 0 = sf K N c i := by
  rw [xl_get _ _ _ _ _ (by simp; exact h)]
  unfold xf
  rw [show (List.replicate n (0 : Int)).getD i 0 = 0 from by simp [h]]
  exact xb_zero _ (sf_rng _ _ _ _)
theorem xl_head (K N : List Int) (c : Int) (hc : W32 c) (n p : Nat) (hp : p = min n 64) : (xl K N c (List.replicate n 0)).take p = (bk K N c).take p := by
  refine list_ext (by rw [List.length_take, List.length_take, xl_len, bk_len, List.length_replicate]; omega) fun i hi => ?_
  rw [List.length_take, xl_len, List.length_replicate] at hi
  rw [List.getD_eq_getElem?_getD, List.getElem?_take, if_pos (by omega), ← List.getD_eq_getElem?_getD, xl_zero _ _ _ _ _ (by omega), List.getD_eq_getElem?_getD, List.getElem?_take, if_pos (by omega), ← List.getD_eq_getElem?_getD]
  unfold sf
  rw [show i / 64 = 0 from by omega, show i % 64 = i from by omega, cn_zero c hc]
theorem rep_isB (n : Nat) : IsB (List.replicate n 0) := fun x hx => by have := List.eq_of_mem_replicate hx; omega
end Go.Proofs.Ytcclcknggeeehaa
