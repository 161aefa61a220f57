/-
  What a conversation may be: Check.
-/
import Derived.Test.YtcefkkoombmndaaUB
namespace Go.Proofs.Ytcefkkoombmndaa
open Go.RowKit
set_option maxRecDepth 100000
set_option linter.unusedSimpArgs false
set_option linter.unusedVariables false
section
variable {a : Act} {o : Oper} (w : World) (x y : Operand) (m n : Int)
theorem conv_u32 (ho : o.op = .convert 3 22 x) (hx : a.eval x = .int .i64 m) (h : 0 ≤ m ∧ m < 4294967296) : (execOp a.eval o).run Try.prog w = .ok (.value (.int .u32 m)) w := by
  have hw : IntKind.u32.wrap m = m := by rw [IntKind.wrap_u32]; omega
  unfold execOp
  simp only [ho, hx]
  go_simp
theorem conv_i64 (ho : o.op = .convert 22 3 x) (hx : a.eval x = .int .u32 m) (h : 0 ≤ m ∧ m < 4294967296) : (execOp a.eval o).run Try.prog w = .ok (.value (.int .i64 m)) w := by
  have hw : IntKind.i64.wrap m = m := by rw [IntKind.wrap_i64]; omega
  unfold execOp
  simp only [ho, hx]
  go_simp
theorem add_32 (ho : o.op = .binOp .add 22 x y 22) (hx : a.eval x = .int .u32 m) (hy : a.eval y = .int .u32 n) (r : Int) (hr : m + n = r) (h : 0 ≤ r ∧ r < 4294967296) : (execOp a.eval o).run Try.prog w = .ok (.value (.int .u32 r)) w := by
  subst hr
  have hw : IntKind.u32.wrap (m + n) = m + n := by rw [IntKind.wrap_u32]; omega
  unfold execOp
  simp only [ho, hx, hy]
  go_simp
theorem sub_32 (ho : o.op = .binOp .sub 22 x y 22) (hx : a.eval x = .int .u32 m) (hy : a.eval y = .int .u32 n) (r : Int) (hr : m - n = r) (h : 0 ≤ r ∧ r < 4294967296) : (execOp a.eval o).run Try.prog w = .ok (.value (.int .u32 r)) w := by
  subst hr
  have hw : IntKind.u32.wrap (m - n) = m - n := by rw [IntKind.wrap_u32]; omega
  unfold execOp
  simp only [ho, hx, hy]
  go_simp
theorem add_i (ho : o.op = .binOp .add 3 x y 3) (hx : a.eval x = .int .i64 m) (hy : a.eval y = .int .i64 n) (r : Int) (hr : m + n = r) (h : -9223372036854775808 ≤ r ∧ r < 9223372036854775808) : (execOp a.eval o).run Try.prog w = .ok (.value (.int .i64 r)) w := by
  subst hr
  have hw : IntKind.i64.wrap (m + n) = m + n := by rw [IntKind.wrap_i64]; omega
  unfold execOp
  simp only [ho, hx, hy]
  go_simp
theorem sub_i (ho : o.op = .binOp .sub 3 x y 3) (hx : a.eval x = .int .i64 m) (hy : a.eval y = .int .i64 n) (r : Int) (hr : m - n = r) (h : -9223372036854775808 ≤ r ∧ r < 9223372036854775808) : (execOp a.eval o).run Try.prog w = .ok (.value (.int .i64 r)) w := by
  subst hr
  have hw : IntKind.i64.wrap (m - n) = m - n := by rw [IntKind.wrap_i64]; omega
  unfold execOp
  simp only [ho, hx, hy]
  go_simp
theorem max_i (ho : o.op = .call { callee := .builtin .max, args := #[x, y], argTypes := #[3, 3] }) (hx : a.eval x = .int .i64 m) (hy : a.eval y = .int .i64 n) (r : Int) (hr : max m n = r) : (execOp a.eval o).run Try.prog w = .ok (.value (.int .i64 r)) w := by
  subst hr
  unfold execOp
  simp only [ho, hx, hy, resolve, invoke, builtin, List.map_toArray, List.map_cons, List.map_nil]
  go_simp
  split <;> omega
theorem min_i (ho : o.op = .call { callee := .builtin .min, args := #[x, y], argTypes := #[3, 3] }) (hx : a.eval x = .int .i64 m) (hy : a.eval y = .int .i64 n) (r : Int) (hr : min m n = r) : (execOp a.eval o).run Try.prog w = .ok (.value (.int .i64 r)) w := by
  subst hr
  unfold execOp
  simp only [ho, hx, hy, resolve, invoke, builtin, List.map_toArray, List.map_cons, List.map_nil]
  go_simp
  split <;> omega
theorem min_32 (ho : o.op = .call { callee := .builtin .min, args := #[x, y], argTypes := #[22, 22] }) (hx : a.eval x = .int .u32 m) (hy : a.eval y = .int .u32 n) (r : Int) (hr : min m n = r) : (execOp a.eval o).run Try.prog w = .ok (.value (.int .u32 r)) w := by
  subst hr
  unfold execOp
  simp only [ho, hx, hy, resolve, invoke, builtin, List.map_toArray, List.map_cons, List.map_nil]
  go_simp
  split <;> omega
theorem len_st (s : ByteArray) (hs : s.size < 9223372036854775808) (ho : o.op = .call { callee := .builtin .len, args := #[x], argTypes := #[9] }) (hx : a.eval x = .string s) : (execOp a.eval o).run Try.prog w = .ok (.value (.int .i64 (s.size : Int))) w := by
  unfold execOp
  simp only [ho, hx, resolve, invoke, builtin, List.map_toArray, List.map_cons, List.map_nil]
  go_simp
end
def szB (s : ByteArray) : Bool := decide (1 ≤ s.size ∧ s.size ≤ 48)
def seqs : Int → List Ot → Bool
  | _, [] => true
  | k, o :: L => decide (o.n = k) && seqs (k + 1) L
def rises : Int → Int → List It → Bool
  | _, _, [] => true
  | f, e, i :: L => (decide (f < i.n) && decide (i.n < e) && szB i.s) && rises i.n e L
def outB (c : Cm) : Bool := decide (c.O.length ≤ 4 ∧ (c.O.length : Int) ≤ c.nx ∧ 0 ≤ c.tn ∧ c.tn < max (c.O.length : Int) 1) && seqs (c.nx - c.O.length) c.O
def heldB (c : Cm) : Bool := decide (c.H.length ≤ 3) && rises c.dl (min (c.dl + 4) 2147483648) c.H
/-- it may be -/
def rt (c : Cm) : Bool := decide (c.nx ≤ 2147483648 ∧ c.dl ≤ 2147483648) && (outB c && heldB c)
theorem seqs_step (k : Int) (L : List Ot) (j : Nat) (o : Ot) (h : L[j]? = some o) : seqs k (L.drop j) = (decide (o.n = k) && seqs (k + 1) (L.drop (j + 1))) := by
  obtain ⟨hl, rfl⟩ := List.getElem?_eq_some_iff.1 h
  rw [List.drop_eq_getElem_cons hl]
  rfl
theorem rises_step (f e : Int) (L : List It) (j : Nat) (i : It) (h : L[j]? = some i) : rises f e (L.drop j) = ((decide (f < i.n) && decide (i.n < e) && szB i.s) && rises i.n e (L.drop (j + 1))) := by
  obtain ⟨hl, rfl⟩ := List.getElem?_eq_some_iff.1 h
  rw [List.drop_eq_getElem_cons hl]
  rfl
set_option maxHeartbeats 4000000 in
theorem sized_ok (s : ByteArray) (hs : s.size < 9223372036854775808) (w : World)  : Calls Try.prog 51 #[.string s] w (Vl (.bool (szB s)) w) := by
  obtain ⟨T, hT⟩ : ∃ T : Ending → World → Prop, T = (Vl (.bool (szB s)) w) := ⟨_, rfl⟩
  rw [← hT]
  replace hT := hide hT
  go_enter Try.func51, Try.ntmps51
  go_upto_region 1 with fail
  obtain ⟨u0, hu_⟩ : ∃ u, u = w := ⟨_, rfl⟩
  rw [← hu_]
  have hB : Bl w [] u0 := hu_ ▸ Bl.nil w
  clear hu_
  by_cases h1 : 1 ≤ (s.size : Int)
  · by_cases h2 : (s.size : Int) ≤ 48
    · have hv : szB s = true := by unfold szB; rw [decide_eq_true_iff]; omega
      refine wp_region_lit ?_
      refine wpList_gen fun ops_ hops => ?_
      replace hops := hide hops
      refine list_val (.string s) (by rw [unhide hops]; kernel_rfl) (by kernel_rfl) ?_
      simp only [nrm]
      refine list_val (.int .i64 (s.size : Int)) (by rw [unhide hops]; kernel_rfl) (len_st _ (.tmp 3) s hs rfl (by kernel_rfl)) ?_
      simp only [nrm]
      refine list_val (.bool true) (by rw [unhide hops]; kernel_rfl) (geq_i _ (.tmp 4) (.const (.int .i64 1)) (s.size : Int) 1 true rfl (by kernel_rfl) (by kernel_rfl) (decide_eq_true h1)) ?_
      simp only [nrm]
      refine list_val (.bool true) (by rw [unhide hops]; kernel_rfl) (by kernel_rfl) ?_
      simp only [nrm]
      refine list_val (.string s) (by rw [unhide hops]; kernel_rfl) (by kernel_rfl) ?_
      simp only [nrm]
      refine list_val (.int .i64 (s.size : Int)) (by rw [unhide hops]; kernel_rfl) (len_st _ (.tmp 7) s hs rfl (by kernel_rfl)) ?_
      simp only [nrm]
      refine list_val (.bool true) (by rw [unhide hops]; kernel_rfl) (leq_i _ (.tmp 8) (.const (.int .i64 48)) (s.size : Int) 48 true rfl (by kernel_rfl) (by kernel_rfl) (decide_eq_true h2)) ?_
      simp only [nrm]
      refine list_val (.bool true) (by rw [unhide hops]; kernel_rfl) (by kernel_rfl) ?_
      simp only [nrm]
      (refine wpList_step fun K hK => ?_; replace hK := hide hK; go_simp; refine unhide hK _ _ ?_; clear hK K)
      refine wpList_nil ?_
      replace hB := hide hB
      go_wp2_with fail
      replace hB := unhide hB
      rw [unhide hT]
      exact (⟨by rw [hv] <;> rfl, hB.gr⟩)
    · have hv : szB s = false := by unfold szB; rw [decide_eq_false_iff_not]; omega
      refine wp_region_lit ?_
      refine wpList_gen fun ops_ hops => ?_
      replace hops := hide hops
      refine list_val (.string s) (by rw [unhide hops]; kernel_rfl) (by kernel_rfl) ?_
      simp only [nrm]
      refine list_val (.int .i64 (s.size : Int)) (by rw [unhide hops]; kernel_rfl) (len_st _ (.tmp 3) s hs rfl (by kernel_rfl)) ?_
      simp only [nrm]
      refine list_val (.bool true) (by rw [unhide hops]; kernel_rfl) (geq_i _ (.tmp 4) (.const (.int .i64 1)) (s.size : Int) 1 true rfl (by kernel_rfl) (by kernel_rfl) (decide_eq_true h1)) ?_
      simp only [nrm]
      refine list_val (.bool true) (by rw [unhide hops]; kernel_rfl) (by kernel_rfl) ?_
      simp only [nrm]
      refine list_val (.string s) (by rw [unhide hops]; kernel_rfl) (by kernel_rfl) ?_
      simp only [nrm]
      refine list_val (.int .i64 (s.size : Int)) (by rw [unhide hops]; kernel_rfl) (len_st _ (.tmp 7) s hs rfl (by kernel_rfl)) ?_
      simp only [nrm]
      refine list_val (.bool false) (by rw [unhide hops]; kernel_rfl) (leq_i _ (.tmp 8) (.const (.int .i64 48)) (s.size : Int) 48 false rfl (by kernel_rfl) (by kernel_rfl) (decide_eq_false h2)) ?_
      simp only [nrm]
      refine list_val (.bool false) (by rw [unhide hops]; kernel_rfl) (by kernel_rfl) ?_
      simp only [nrm]
      (refine wpList_step fun K hK => ?_; replace hK := hide hK; go_simp; refine unhide hK _ _ ?_; clear hK K)
      refine wpList_nil ?_
      replace hB := hide hB
      go_wp2_with fail
      replace hB := unhide hB
      rw [unhide hT]
      exact (⟨by rw [hv] <;> rfl, hB.gr⟩)
  · have hv : szB s = false := by unfold szB; rw [decide_eq_false_iff_not]; omega
    refine wp_region_lit ?_
    refine wpList_gen fun ops_ hops => ?_
    replace hops := hide hops
    refine list_val (.string s) (by rw [unhide hops]; kernel_rfl) (by kernel_rfl) ?_
    simp only [nrm]
    refine list_val (.int .i64 (s.size : Int)) (by rw [unhide hops]; kernel_rfl) (len_st _ (.tmp 3) s hs rfl (by kernel_rfl)) ?_
    simp only [nrm]
    refine list_val (.bool false) (by rw [unhide hops]; kernel_rfl) (geq_i _ (.tmp 4) (.const (.int .i64 1)) (s.size : Int) 1 false rfl (by kernel_rfl) (by kernel_rfl) (decide_eq_false h1)) ?_
    simp only [nrm]
    refine list_val (.bool false) (by rw [unhide hops]; kernel_rfl) (by kernel_rfl) ?_
    simp only [nrm]
    refine list_off (by rw [unhide hops]; kernel_rfl) ?_
    simp only [nrm]
    refine list_off (by rw [unhide hops]; kernel_rfl) ?_
    simp only [nrm]
    refine list_off (by rw [unhide hops]; kernel_rfl) ?_
    simp only [nrm]
    refine list_val (.bool false) (by rw [unhide hops]; kernel_rfl) (by kernel_rfl) ?_
    simp only [nrm]
    (refine wpList_step fun K hK => ?_; replace hK := hide hK; go_simp; refine unhide hK _ _ ?_; clear hK K)
    refine wpList_nil ?_
    replace hB := hide hB
    go_wp2_with fail
    replace hB := unhide hB
    rw [unhide hT]
    exact (⟨by rw [hv] <;> rfl, hB.gr⟩)
set_option maxHeartbeats 4000000 in
theorem acked_ok (c : Cm) (x : Lc) (w : World) (hc : Cin w c x) (h : (x.no : Int) ≤ c.nx) : Calls Try.prog 36 #[.agg (fl [[.int .u32 c.nx], [.slice x.ao x.no x.co], [.int .i64 c.tn], [.int .u32 c.dl], [.slice x.ah x.nh x.ch]])] w (Vl (.int .u32 (c.nx - x.no)) w) := by
  obtain ⟨T, hT⟩ : ∃ T : Ending → World → Prop, T = (Vl (.int .u32 (c.nx - x.no)) w) := ⟨_, rfl⟩
  rw [← hT]
  replace hT := hide hT
  have hn := hc.nx
  clear hc
  obtain ⟨A0_, hA0_⟩ : ∃ S_, S_ = fl [[.int .u32 c.nx], [.slice x.ao x.no x.co], [.int .i64 c.tn], [.int .u32 c.dl], [.slice x.ah x.nh x.ch]] := ⟨_, rfl⟩
  rw [← hA0_]
  replace hA0_ := hide hA0_
  go_enter Try.func36, Try.ntmps36
  go_upto_region 1 with fail
  have hB := ((Bl.nil w).new A0_ 26)
  simp only [size_alloc, List.nil_append, List.cons_append] at hB
  rw [unhide hA0_] at hB
  generalize hu_ : World.alloc _ _ = u0
  replace hB : Bl w [⟨w.heap.size, fl [[.int .u32 c.nx], [.slice x.ao x.no x.co], [.int .i64 c.tn], [.int .u32 c.dl], [.slice x.ah x.nh x.ch]], 26⟩] u0 := by
    rw [← hu_]
    rw [unhide hA0_]
    exact hB
  clear hu_ hA0_
  refine wp_region_lit ?_
  refine lvk (.pointer (some ⟨w.heap.size, 0, none⟩)) ?_
  simp only [nrm]
  refine list_val (.int .u32 c.nx) (by kernel_rfl) (exec_c32 _ (.tmp 3) rfl (w.heap.size) 0 (by kernel_rfl) c.nx (seg_cell (nC  _ _ _ _ _) (hB.get 0 (x := ⟨w.heap.size, fl [[.int .u32 c.nx], [.slice x.ao x.no x.co], [.int .i64 c.tn], [.int .u32 c.dl], [.slice x.ah x.nh x.ch]], 26⟩) rfl) 0 (v := .int .u32 c.nx) rfl rfl)) ?_
  simp only [nrm]
  refine lvk (.pointer (some ⟨w.heap.size, 1, none⟩)) ?_
  simp only [nrm]
  refine list_val (.slice x.ao x.no x.co) (by kernel_rfl) (exec_csO _ (.tmp 5) rfl (w.heap.size) 1 (by kernel_rfl) x.ao x.no x.co (seg_cell (nC  _ _ _ _ _) (hB.get 0 (x := ⟨w.heap.size, fl [[.int .u32 c.nx], [.slice x.ao x.no x.co], [.int .i64 c.tn], [.int .u32 c.dl], [.slice x.ah x.nh x.ch]], 26⟩) rfl) 1 (v := .slice x.ao x.no x.co) rfl rfl)) ?_
  simp only [nrm]
  refine lvk (.int .i64 (x.no : Int)) ?_
  simp only [nrm]
  refine list_val (.int .u32 (x.no : Int)) (by kernel_rfl) (conv_u32 _ (.tmp 7) (x.no : Int) rfl (by kernel_rfl) (by omega)) ?_
  simp only [nrm]
  refine list_val (.int .u32 (c.nx - x.no)) (by kernel_rfl) (sub_32 _ (.tmp 4) (.tmp 8) c.nx (x.no : Int) rfl (by kernel_rfl) (by kernel_rfl) _ rfl (by omega)) ?_
  simp only [nrm]
  (refine wpList_step fun K hK => ?_; replace hK := hide hK; go_simp; refine unhide hK _ _ ?_; clear hK K)
  refine wpList_nil ?_
  replace hB := hide hB
  go_wp2_with fail
  replace hB := unhide hB
  rw [unhide hT]
  exact (⟨rfl, hB.gr⟩)
end Go.Proofs.Ytcefkkoombmndaa
