/-
  ConvoTurns.
-/
import Derived.Test.YtcefkkoombmndabUP
namespace Go.Proofs.Ytcefkkoombmndab
open Go.RowKit
set_option maxRecDepth 100000
set_option linter.unusedSimpArgs false
set_option linter.unusedVariables false
theorem rt_tn {c : Cm} (h : rt c = true) (t : Int) (ht : 0 ≤ t ∧ t < max (c.O.length : Int) 1) : rt { c with tn := t } = true := by
  unfold rt outB heldB at h ⊢
  simp only [Bool.and_eq_true, decide_eq_true_eq] at h ⊢
  exact ⟨h.1, ⟨⟨h.2.1.1.1, h.2.1.1.2.1, ht⟩, h.2.1.2⟩, h.2.2⟩
/-- so many turns on -/
def dk (e : Cm) (k : Nat) : Cm := { e with tn := (e.tn + (k : Int)) % (e.O.length : Int) }
theorem dk_rt {e : Cm} (h : rt e = true) (k : Nat) (hk : k ≤ 2 * e.O.length) : rt (dk e k) = true := by
  have hl := rt_le h
  refine rt_tn h _ ?_
  by_cases hn : e.O.length = 0
  · have : k = 0 := by omega
    subst this
    rw [hn]
    simp
    omega
  · have h1 := Int.emod_nonneg (e.tn + (k : Int)) (show (e.O.length : Int) ≠ 0 by omega)
    have h2 := Int.emod_lt_of_pos (e.tn + (k : Int)) (show (0 : Int) < (e.O.length : Int) by omega)
    omega
theorem dk_0 {e : Cm} (h : rt e = true) : dk e 0 = e := by
  have hl := rt_le h
  have h1 : (e.tn + ((0 : Nat) : Int)) % (e.O.length : Int) = e.tn := by
    by_cases hn : e.O.length = 0
    · rw [hn]; simp
    · rw [Int.emod_eq_of_lt (by omega) (by omega)]; simp
  unfold dk
  rw [h1]
theorem dk_2 {e : Cm} (h : rt e = true) : dk e (2 * e.O.length) = e := by
  have hl := rt_le h
  have h1 : (e.tn + ((2 * e.O.length : Nat) : Int)) % (e.O.length : Int) = e.tn := by
    by_cases hn : e.O.length = 0
    · rw [hn]; simp
    · rw [Int.natCast_mul, Int.add_mul_emod_self_right, Int.emod_eq_of_lt (by omega) (by omega)]
  unfold dk
  rw [h1]
theorem dk_tu {e : Cm} (h : rt e = true) (hn : ¬ e.O.length = 0) (k : Nat) (hk : k ≤ 2 * e.O.length) : tu (dk e k) = (dk e (k + 1), e.O.getD ((e.tn + (k : Int)) % (e.O.length : Int)).toNat oZ, 0) := by
  rw [tu_yes (dk_rt h k hk) hn]
  unfold dk
  dsimp only
  rw [Int.emod_add_emod, Int.natCast_add, Int.add_assoc]
  rfl
theorem mul_i {a : Act} {o : Oper} (w : World) (x y : Operand) (m n : Int) (ho : o.op = .binOp .mul 3 x y 3) (hx : a.eval x = .int .i64 m) (hy : a.eval y = .int .i64 n) (r : Int) (hr : m * n = r) (h : -9223372036854775808 ≤ r ∧ r < 9223372036854775808) : (execOp a.eval o).run Try.prog w = .ok (.value (.int .i64 r)) w := by
  subst hr
  have hw : IntKind.i64.wrap (m * n) = m * n := by rw [IntKind.wrap_i64]; omega
  unfold execOp
  simp only [ho, hx, hy]
  go_simp
set_option maxHeartbeats 4000000 in
theorem turns_law (c : Cm) (x : Lc) (w : World) (hc : Cin w c x) : Calls Try.prog 3 #[.agg (fl [[.int .u32 c.nx], [.slice x.ao x.no x.co], [.int .i64 c.tn], [.int .u32 c.dl], [.slice x.ah x.nh x.ch]])] w (Vl (.bool true) w) := by
  obtain ⟨T, hT⟩ : ∃ T : Ending → World → Prop, T = (Vl (.bool true) w) := ⟨_, rfl⟩
  rw [← hT]
  replace hT := hide hT
  replace hc := hide hc
  obtain ⟨A0_, hA0_⟩ : ∃ S_, S_ = fl [[.int .u32 c.nx], [.slice x.ao x.no x.co], [.int .i64 c.tn], [.int .u32 c.dl], [.slice x.ah x.nh x.ch]] := ⟨_, rfl⟩
  rw [← hA0_]
  replace hA0_ := hide hA0_
  go_enter Try.func3, Try.ntmps3
  go_upto_region 1 with fail
  have hB := ((Bl.nil w).new A0_ 26)
  simp only [size_alloc, List.nil_append, List.cons_append] at hB
  rw [unhide hA0_] at hB
  generalize hu_ : World.alloc _ _ = u0
  replace hB : Bl w [⟨w.heap.size, fl [[.int .u32 c.nx], [.slice x.ao x.no x.co], [.int .i64 c.tn], [.int .u32 c.dl], [.slice x.ah x.nh x.ch]], 26⟩] u0 := by
    rw [← hu_]
    rw [unhide hA0_]
    exact hB
  clear hu_ hA0_
  refine wp_region_lit ?_
  refine list_call 6 #[] (by kernel_rfl) (by kernel_rfl) ((wakes_ok u0).mono ?_)
  rintro r_ u1 ⟨rfl, hg⟩
  replace hB := hB.more hg
  clear hg
  refine ⟨_, rfl, ?_⟩
  simp only [Act.put, List.setIfInBounds_toArray, List.set_cons_zero, List.set_cons_succ, List.getElem_toArray, List.getElem_cons_zero, List.getElem_cons_succ]
  refine list_val (.bool false) (by kernel_rfl) (by kernel_rfl) ?_
  simp only [Act.put, List.setIfInBounds_toArray, List.set_cons_zero, List.set_cons_succ, List.getElem_toArray, List.getElem_cons_zero, List.getElem_cons_succ]
  refine wpList_nil ?_
  obtain ⟨e, he⟩ : ∃ e, e = ct c := ⟨_, rfl⟩
  have hnm := (unhide hc).nums.ct
  have e8o := ct_o c
  have e8h := ct_h c
  rw [← he] at hnm e8o e8h
  replace he := hide he; replace hnm := hide hnm
  replace hB := hide hB
  go_upto_region 3 with fail
  replace hB := unhide hB
  refine wp_region_lit ?_
  refine list_val (.agg (fl [[.int .u32 c.nx], [.slice x.ao x.no x.co], [.int .i64 c.tn], [.int .u32 c.dl], [.slice x.ah x.nh x.ch]])) (by kernel_rfl) (exec_sw _ 26 (.tmp 1) rfl (w.heap.size) (by kernel_rfl) (hB.get 0 (x := ⟨w.heap.size, fl [[.int .u32 c.nx], [.slice x.ao x.no x.co], [.int .i64 c.tn], [.int .u32 c.dl], [.slice x.ah x.nh x.ch]], 26⟩) rfl) NC (nC  _ _ _ _ _) Try.underlying26 rfl (by kernel_rfl)) ?_
  simp only [Act.put, List.setIfInBounds_toArray, List.set_cons_zero, List.set_cons_succ, List.getElem_toArray, List.getElem_cons_zero, List.getElem_cons_succ]
  refine list_call 7 #[.agg (fl [[.int .u32 c.nx], [.slice x.ao x.no x.co], [.int .i64 c.tn], [.int .u32 c.dl], [.slice x.ah x.nh x.ch]])] (by kernel_rfl) (by kernel_rfl) (((show Calls Try.prog 7 #[.agg (fl [[.int .u32 c.nx], [.slice x.ao x.no x.co], [.int .i64 c.tn], [.int .u32 c.dl], [.slice x.ah x.nh x.ch]])] u1 (fun r w' => ∃ x', r = .returned (.agg (fl (cvs e x'))) ∧ Sh w.heap.size w' e x' ∧ Gr u1 w') from by have h := short_ok c x u1 ((unhide hc).gr hB.gr); rw [← unhide he] at h; exact h.mono fun r w' h9 => (by obtain ⟨x', h1, h2, h3⟩ := h9; exact ⟨x', h1, h2.base hB.gr.size, h3⟩))).mono ?_)
  rintro r_ u2 ⟨x1, rfl, hSe, hg⟩
  replace hB := hB.more hg
  clear hg
  have hC1 := hide (hSe.co (unhide hnm))
  clear hSe
  refine ⟨_, rfl, ?_⟩
  simp only [Act.put, List.setIfInBounds_toArray, List.set_cons_zero, List.set_cons_succ, List.getElem_toArray, List.getElem_cons_zero, List.getElem_cons_succ]
  have hzz_ : Hid (u2.heap[w.heap.size]? = some (.cells (fl [[.int .u32 c.nx], [.slice x.ao x.no x.co], [.int .i64 c.tn], [.int .u32 c.dl], [.slice x.ah x.nh x.ch]]) 26 (0, 0))) := hide (hB.get 0 (x := ⟨w.heap.size, fl [[.int .u32 c.nx], [.slice x.ao x.no x.co], [.int .i64 c.tn], [.int .u32 c.dl], [.slice x.ah x.nh x.ch]], 26⟩) rfl)
  refine list_all 26 (.tmp 1) (.tmp 15) (w.heap.size) (S2 := [[.int .u32 e.nx], [.slice x1.ao x1.no x1.co], [.int .i64 e.tn], [.int .u32 e.dl], [.slice x1.ah x1.nh x1.ch]]) (by kernel_rfl) rfl (by kernel_rfl) (by kernel_rfl) hB 0 rfl NC (nC  _ _ _ _ _) (nC  _ _ _ _ _) (by kernel_rfl) (oC  rfl rfl rfl rfl rfl) ?_
  intro u3 hB_ hbt_
  clear hB
  replace hB : Bl w [⟨w.heap.size, fl [[.int .u32 e.nx], [.slice x1.ao x1.no x1.co], [.int .i64 e.tn], [.int .u32 e.dl], [.slice x1.ah x1.nh x1.ch]], 26⟩] u3 := hB_
  clear hB_
  replace hC1 := hide ((unhide hC1).bz (unhide hzz_) hbt_)
  clear hbt_ hzz_
  simp only [Act.put, List.setIfInBounds_toArray, List.set_cons_zero, List.set_cons_succ, List.getElem_toArray, List.getElem_cons_zero, List.getElem_cons_succ]
  refine wpList_nil ?_
  have hol := (unhide hC1).i.o.len
  have hmx := (unhide hC1).i.o.2.max
  have hcp := (unhide hC1).i.o.2.cap
  cases h1 : rt e with
  | false =>
    have hk := chk_f h1
    replace hB := hide hB
    go_upto_region 4 with fail
    replace hB := unhide hB
    refine wp_region_lit ?_
    refine list_val (.agg (fl [[.int .u32 e.nx], [.slice x1.ao x1.no x1.co], [.int .i64 e.tn], [.int .u32 e.dl], [.slice x1.ah x1.nh x1.ch]])) (by kernel_rfl) (exec_sw _ 26 (.tmp 1) rfl (w.heap.size) (by kernel_rfl) (hB.get 0 (x := ⟨w.heap.size, fl [[.int .u32 e.nx], [.slice x1.ao x1.no x1.co], [.int .i64 e.tn], [.int .u32 e.dl], [.slice x1.ah x1.nh x1.ch]], 26⟩) rfl) NC (nC  _ _ _ _ _) Try.underlying26 rfl (by kernel_rfl)) ?_
    simp only [Act.put, List.setIfInBounds_toArray, List.set_cons_zero, List.set_cons_succ, List.getElem_toArray, List.getElem_cons_zero, List.getElem_cons_succ]
    refine list_call 8 #[.agg (fl [[.int .u32 e.nx], [.slice x1.ao x1.no x1.co], [.int .i64 e.tn], [.int .u32 e.dl], [.slice x1.ah x1.nh x1.ch]])] (by kernel_rfl) (by kernel_rfl) (((show Calls Try.prog 8 #[.agg (fl [[.int .u32 e.nx], [.slice x1.ao x1.no x1.co], [.int .i64 e.tn], [.int .u32 e.dl], [.slice x1.ah x1.nh x1.ch]])] u3 (Vl (.int .i64 281) u3) from hk ▸ check_ok e x1 u3 ((unhide hC1).i.gr (Gr.refl _)))).mono ?_)
    rintro r_ u4 ⟨rfl, hg⟩
    replace hC1 := hide ((unhide hC1).gr hg)
    replace hB := hB.more hg
    clear hg
    refine ⟨_, rfl, ?_⟩
    simp only [Act.put, List.setIfInBounds_toArray, List.set_cons_zero, List.set_cons_succ, List.getElem_toArray, List.getElem_cons_zero, List.getElem_cons_succ]
    refine list_val (.bool true) (by kernel_rfl) (neq_e _ (.tmp 17) (.const (.int .i64 0)) 281 0 true rfl (by kernel_rfl) (by kernel_rfl) (by decide)) ?_
    simp only [Act.put, List.setIfInBounds_toArray, List.set_cons_zero, List.set_cons_succ, List.getElem_toArray, List.getElem_cons_zero, List.getElem_cons_succ]
    refine wpList_nil ?_
    replace hB := hide hB
    go_upto_region 5 with fail
    replace hB := unhide hB
    refine wp_region_lit ?_
    (refine wpList_step fun K hK => ?_; replace hK := hide hK; go_simp; refine unhide hK _ _ ?_; clear hK K)
    refine wpList_nil ?_
    replace hB := hide hB
    go_wp2_with fail
    replace hB := unhide hB
    rw [unhide hT]
    exact (⟨rfl, hB.gr⟩)
  | true =>
    have hk := chk_t h1
    have hle := rt_le h1
    rw [hol] at hle
    replace h1 := hide h1
    replace hB := hide hB
    go_upto_region 4 with fail
    replace hB := unhide hB
    refine wp_region_lit ?_
    refine list_val (.agg (fl [[.int .u32 e.nx], [.slice x1.ao x1.no x1.co], [.int .i64 e.tn], [.int .u32 e.dl], [.slice x1.ah x1.nh x1.ch]])) (by kernel_rfl) (exec_sw _ 26 (.tmp 1) rfl (w.heap.size) (by kernel_rfl) (hB.get 0 (x := ⟨w.heap.size, fl [[.int .u32 e.nx], [.slice x1.ao x1.no x1.co], [.int .i64 e.tn], [.int .u32 e.dl], [.slice x1.ah x1.nh x1.ch]], 26⟩) rfl) NC (nC  _ _ _ _ _) Try.underlying26 rfl (by kernel_rfl)) ?_
    simp only [Act.put, List.setIfInBounds_toArray, List.set_cons_zero, List.set_cons_succ, List.getElem_toArray, List.getElem_cons_zero, List.getElem_cons_succ]
    refine list_call 8 #[.agg (fl [[.int .u32 e.nx], [.slice x1.ao x1.no x1.co], [.int .i64 e.tn], [.int .u32 e.dl], [.slice x1.ah x1.nh x1.ch]])] (by kernel_rfl) (by kernel_rfl) (((show Calls Try.prog 8 #[.agg (fl [[.int .u32 e.nx], [.slice x1.ao x1.no x1.co], [.int .i64 e.tn], [.int .u32 e.dl], [.slice x1.ah x1.nh x1.ch]])] u3 (Vl (.int .i64 0) u3) from hk ▸ check_ok e x1 u3 ((unhide hC1).i.gr (Gr.refl _)))).mono ?_)
    rintro r_ u4 ⟨rfl, hg⟩
    replace hC1 := hide ((unhide hC1).gr hg)
    replace hB := hB.more hg
    clear hg
    refine ⟨_, rfl, ?_⟩
    simp only [Act.put, List.setIfInBounds_toArray, List.set_cons_zero, List.set_cons_succ, List.getElem_toArray, List.getElem_cons_zero, List.getElem_cons_succ]
    refine list_val (.bool false) (by kernel_rfl) (neq_e _ (.tmp 17) (.const (.int .i64 0)) 0 0 false rfl (by kernel_rfl) (by kernel_rfl) (by decide)) ?_
    simp only [Act.put, List.setIfInBounds_toArray, List.set_cons_zero, List.set_cons_succ, List.getElem_toArray, List.getElem_cons_zero, List.getElem_cons_succ]
    refine wpList_nil ?_
    replace hB := hide hB
    go_upto_region 6 with fail
    replace hB := unhide hB
    refine wp_region_lit ?_
    refine list_val (.pointer (some ⟨w.heap.size, 1, none⟩)) (by kernel_rfl) (by kernel_rfl) ?_
    simp only [Act.put, List.setIfInBounds_toArray, List.set_cons_zero, List.set_cons_succ, List.getElem_toArray, List.getElem_cons_zero, List.getElem_cons_succ]
    refine list_val (.slice x1.ao x1.no x1.co) (by kernel_rfl) (exec_csO _ (.tmp 19) rfl (w.heap.size) 1 (by kernel_rfl) x1.ao x1.no x1.co (seg_cell (nC  _ _ _ _ _) (hB.get 0 (x := ⟨w.heap.size, fl [[.int .u32 e.nx], [.slice x1.ao x1.no x1.co], [.int .i64 e.tn], [.int .u32 e.dl], [.slice x1.ah x1.nh x1.ch]], 26⟩) rfl) 1 (v := .slice x1.ao x1.no x1.co) rfl rfl)) ?_
    simp only [Act.put, List.setIfInBounds_toArray, List.set_cons_zero, List.set_cons_succ, List.getElem_toArray, List.getElem_cons_zero, List.getElem_cons_succ]
    refine list_val (.int .i64 (x1.no : Int)) (by kernel_rfl) (by kernel_rfl) ?_
    simp only [Act.put, List.setIfInBounds_toArray, List.set_cons_zero, List.set_cons_succ, List.getElem_toArray, List.getElem_cons_zero, List.getElem_cons_succ]
    (refine wpList_step fun K hK => ?_; replace hK := hide hK; go_simp; refine unhide hK _ _ ?_; clear hK K)
    refine wpList_nil ?_
    replace hB := hide hB
    go_upto_region 7 with fail
    replace hB := unhide hB
    refine wp_region_lit ?_
    refine wpList_gen fun ops_ hops => ?_
    replace hops := hide hops
    refine list_val (.pointer (some ⟨w.heap.size, 2, none⟩)) (by rw [unhide hops]; kernel_rfl) (by kernel_rfl) ?_
    simp only [Act.put, List.setIfInBounds_toArray, List.set_cons_zero, List.set_cons_succ, List.getElem_toArray, List.getElem_cons_zero, List.getElem_cons_succ]
    refine list_val (.int .i64 e.tn) (by rw [unhide hops]; kernel_rfl) (exec_ci _ (.tmp 22) rfl (w.heap.size) 2 (by kernel_rfl) e.tn (seg_cell (nC  _ _ _ _ _) (hB.get 0 (x := ⟨w.heap.size, fl [[.int .u32 e.nx], [.slice x1.ao x1.no x1.co], [.int .i64 e.tn], [.int .u32 e.dl], [.slice x1.ah x1.nh x1.ch]], 26⟩) rfl) 2 (v := .int .i64 e.tn) rfl rfl)) ?_
    simp only [Act.put, List.setIfInBounds_toArray, List.set_cons_zero, List.set_cons_succ, List.getElem_toArray, List.getElem_cons_zero, List.getElem_cons_succ]
    refine list_val (.bool false) (by rw [unhide hops]; kernel_rfl) (lss_i _ (.tmp 23) (.const (.int .i64 0)) e.tn 0 false rfl (by kernel_rfl) (by kernel_rfl) (decide_eq_false (by omega))) ?_
    simp only [Act.put, List.setIfInBounds_toArray, List.set_cons_zero, List.set_cons_succ, List.getElem_toArray, List.getElem_cons_zero, List.getElem_cons_succ]
    refine list_val (.bool false) (by rw [unhide hops]; kernel_rfl) (by kernel_rfl) ?_
    simp only [Act.put, List.setIfInBounds_toArray, List.set_cons_zero, List.set_cons_succ, List.getElem_toArray, List.getElem_cons_zero, List.getElem_cons_succ]
    refine list_val (.pointer (some ⟨w.heap.size, 2, none⟩)) (by rw [unhide hops]; kernel_rfl) (by kernel_rfl) ?_
    simp only [Act.put, List.setIfInBounds_toArray, List.set_cons_zero, List.set_cons_succ, List.getElem_toArray, List.getElem_cons_zero, List.getElem_cons_succ]
    refine list_val (.int .i64 e.tn) (by rw [unhide hops]; kernel_rfl) (exec_ci _ (.tmp 26) rfl (w.heap.size) 2 (by kernel_rfl) e.tn (seg_cell (nC  _ _ _ _ _) (hB.get 0 (x := ⟨w.heap.size, fl [[.int .u32 e.nx], [.slice x1.ao x1.no x1.co], [.int .i64 e.tn], [.int .u32 e.dl], [.slice x1.ah x1.nh x1.ch]], 26⟩) rfl) 2 (v := .int .i64 e.tn) rfl rfl)) ?_
    simp only [Act.put, List.setIfInBounds_toArray, List.set_cons_zero, List.set_cons_succ, List.getElem_toArray, List.getElem_cons_zero, List.getElem_cons_succ]
    refine list_val (.int .i64 (x1.no : Int)) (by rw [unhide hops]; kernel_rfl) (by kernel_rfl) ?_
    simp only [Act.put, List.setIfInBounds_toArray, List.set_cons_zero, List.set_cons_succ, List.getElem_toArray, List.getElem_cons_zero, List.getElem_cons_succ]
    refine list_val (.int .i64 (max (x1.no : Int) 1)) (by rw [unhide hops]; kernel_rfl) (max_i _ (.tmp 28) (.const (.int .i64 1)) (x1.no : Int) 1 rfl (by kernel_rfl) (by kernel_rfl) _ rfl) ?_
    simp only [Act.put, List.setIfInBounds_toArray, List.set_cons_zero, List.set_cons_succ, List.getElem_toArray, List.getElem_cons_zero, List.getElem_cons_succ]
    refine list_val (.bool false) (by rw [unhide hops]; kernel_rfl) (geq_i _ (.tmp 27) (.tmp 29) e.tn (max (x1.no : Int) 1) false rfl (by kernel_rfl) (by kernel_rfl) (decide_eq_false (by omega))) ?_
    simp only [Act.put, List.setIfInBounds_toArray, List.set_cons_zero, List.set_cons_succ, List.getElem_toArray, List.getElem_cons_zero, List.getElem_cons_succ]
    refine list_val (.bool false) (by rw [unhide hops]; kernel_rfl) (by kernel_rfl) ?_
    simp only [Act.put, List.setIfInBounds_toArray, List.set_cons_zero, List.set_cons_succ, List.getElem_toArray, List.getElem_cons_zero, List.getElem_cons_succ]
    refine wpList_nil ?_
    replace hB := hide hB
    go_upto_region 9 with fail
    replace hB := unhide hB
    refine wp_region_lit ?_
    refine list_val (.agg (fl [[.int .u32 e.nx], [.slice x1.ao x1.no x1.co], [.int .i64 e.tn], [.int .u32 e.dl], [.slice x1.ah x1.nh x1.ch]])) (by kernel_rfl) (exec_sw _ 26 (.tmp 1) rfl (w.heap.size) (by kernel_rfl) (hB.get 0 (x := ⟨w.heap.size, fl [[.int .u32 e.nx], [.slice x1.ao x1.no x1.co], [.int .i64 e.tn], [.int .u32 e.dl], [.slice x1.ah x1.nh x1.ch]], 26⟩) rfl) NC (nC  _ _ _ _ _) Try.underlying26 rfl (by kernel_rfl)) ?_
    simp only [Act.put, List.setIfInBounds_toArray, List.set_cons_zero, List.set_cons_succ, List.getElem_toArray, List.getElem_cons_zero, List.getElem_cons_succ]
    refine list_valw (.pointer (some ⟨u4.heap.size, 0, none⟩)) (u4.alloc (.cells (fl [[.int .u32 0], [.slice none 0 0], [.int .i64 0], [.int .u32 0], [.slice none 0 0]]) 26 (0, 0))) (by kernel_rfl) (by kernel_rfl) ?_
    replace hB := hB.new (fl [[.int .u32 0], [.slice none 0 0], [.int .i64 0], [.int .u32 0], [.slice none 0 0]]) 26
    simp only [List.nil_append, List.cons_append] at hB
    have hg := (Gr.refl u4).alloc (.cells (fl [[.int .u32 0], [.slice none 0 0], [.int .i64 0], [.int .u32 0], [.slice none 0 0]]) 26 (0, 0))
    replace hC1 := hide ((unhide hC1).gr hg)
    clear hg
    generalize World.alloc _ _ = u5 at *
    generalize u4.heap.size = g4 at *
    simp only [Act.put, List.setIfInBounds_toArray, List.set_cons_zero, List.set_cons_succ, List.getElem_toArray, List.getElem_cons_zero, List.getElem_cons_succ]
    have hzz_ : Hid (u5.heap[g4]? = some (.cells (fl [[.int .u32 0], [.slice none 0 0], [.int .i64 0], [.int .u32 0], [.slice none 0 0]]) 26 (0, 0))) := hide (hB.get 1 (x := ⟨g4, fl [[.int .u32 0], [.slice none 0 0], [.int .i64 0], [.int .u32 0], [.slice none 0 0]], 26⟩) rfl)
    refine list_all 26 (.tmp 4) (.tmp 32) (g4) (S2 := [[.int .u32 e.nx], [.slice x1.ao x1.no x1.co], [.int .i64 e.tn], [.int .u32 e.dl], [.slice x1.ah x1.nh x1.ch]]) (by kernel_rfl) rfl (by kernel_rfl) (by kernel_rfl) hB 1 rfl NC (nC  _ _ _ _ _) (nC  _ _ _ _ _) (by kernel_rfl) (oC  rfl rfl rfl rfl rfl) ?_
    intro u6 hB_ hbt_
    clear hB
    replace hB : Bl w [⟨w.heap.size, fl [[.int .u32 e.nx], [.slice x1.ao x1.no x1.co], [.int .i64 e.tn], [.int .u32 e.dl], [.slice x1.ah x1.nh x1.ch]], 26⟩, ⟨g4, fl [[.int .u32 e.nx], [.slice x1.ao x1.no x1.co], [.int .i64 e.tn], [.int .u32 e.dl], [.slice x1.ah x1.nh x1.ch]], 26⟩] u6 := hB_
    clear hB_
    replace hC1 := hide ((unhide hC1).bz (unhide hzz_) hbt_)
    clear hbt_ hzz_
    simp only [Act.put, List.setIfInBounds_toArray, List.set_cons_zero, List.set_cons_succ, List.getElem_toArray, List.getElem_cons_zero, List.getElem_cons_succ]
    refine wpList_nil ?_
    replace hB := hide hB
    go_upto_region 10 with fail
    replace hB := unhide hB
    refine wp_region_lit ?_
    (refine wpList_step fun K hK => ?_; replace hK := hide hK; go_simp; refine unhide hK _ _ ?_; clear hK K)
    refine wpList_nil ?_
    have hd0 : Hid (e = dk e 0) := hide (dk_0 (unhide h1)).symm
    have hCd := hC1
    have hB0 := hide hB
    clear hB hk
    go_wp2_with fail
    go_loopw [5] (fun q wr => ∃ (k : Nat) (xk : Lc) (d : Cm), k ≤ 2 * x1.no ∧ q = .int .i64 (k : Int) ∧ Hid (d = dk e k) ∧ Hid (Bl w [⟨w.heap.size, fl [[.int .u32 e.nx], [.slice x1.ao x1.no x1.co], [.int .i64 e.tn], [.int .u32 e.dl], [.slice x1.ah x1.nh x1.ch]], 26⟩, ⟨g4, fl [[.int .u32 d.nx], [.slice xk.ao xk.no xk.co], [.int .i64 d.tn], [.int .u32 d.dl], [.slice xk.ah xk.nh xk.ch]], 26⟩] wr) ∧ Hid (Co w.heap.size wr d xk) ∧ Hid (Co w.heap.size wr e x1)) (fun q _ => 2 * x1.no - (intOf q).toNat)
    case atStart => exact ⟨0, x1, e, by omega, rfl, hd0, hB0, hCd, hC1⟩
    case round =>
    clear hd0 hB0 hCd hC1
    obtain ⟨k, xk, d, hk2, rfl, hd, hB0, hCd, hC1⟩ := hrel
    have hB := unhide hB0
    clear hB0
    by_cases hlt : k < 2 * x1.no
    · have hn0 : ¬ e.O.length = 0 := by omega
      obtain ⟨t, ht⟩ : ∃ t : Nat, (e.tn + (k : Int)) % (x1.no : Int) = (t : Int) := ⟨((e.tn + (k : Int)) % (x1.no : Int)).toNat, by have := Int.emod_nonneg (e.tn + (k : Int)) (show (x1.no : Int) ≠ 0 by omega); omega⟩
      have htl : t < x1.no := by have := Int.emod_lt_of_pos (e.tn + (k : Int)) (show (0 : Int) < (x1.no : Int) by omega); omega
      obtain ⟨s, hs⟩ : ∃ s, e.O[t]? = some s := ⟨_, List.getElem?_eq_getElem (by omega)⟩
      have hok := (unhide hC1).i.o.ok t s hs
      have hok2 := hok.2.1
      obtain ⟨d2, hd2⟩ : ∃ d2, d2 = dk e (k + 1) := ⟨_, rfl⟩
      have htu : tu d = (d2, s, 0) := by
        rw [unhide hd, dk_tu (unhide h1) hn0 k (by omega), hol, ht, Int.toNat_natCast, hd2]
        simp [List.getD, hs]
      have hr2 : rt d2 = true := by rw [hd2]; exact dk_rt (unhide h1) (k + 1) (by omega)
      have hk3 := chk_t hr2
      clear hr2
      replace ht := hide ht; replace hs := hide hs; replace hok := hide hok; replace hok2 := hide hok2; replace hd2 := hide hd2; replace htu := hide htu; replace hk3 := hide hk3
      replace hB := hide hB
      go_upto_region 11 with fail
      replace hB := unhide hB
      refine wp_region_lit ?_
      refine list_val (.int .i64 (k : Int)) (by kernel_rfl) (by kernel_rfl) ?_
      simp only [Act.put, List.setIfInBounds_toArray, List.set_cons_zero, List.set_cons_succ, List.getElem_toArray, List.getElem_cons_zero, List.getElem_cons_succ]
      refine list_val (.int .i64 (x1.no : Int)) (by kernel_rfl) (by kernel_rfl) ?_
      simp only [Act.put, List.setIfInBounds_toArray, List.set_cons_zero, List.set_cons_succ, List.getElem_toArray, List.getElem_cons_zero, List.getElem_cons_succ]
      refine list_val (.int .i64 (2 * (x1.no : Int))) (by kernel_rfl) (mul_i _ (.const (.int .i64 2)) (.tmp 34) 2 (x1.no : Int) rfl (by kernel_rfl) (by kernel_rfl) _ rfl (by omega)) ?_
      simp only [Act.put, List.setIfInBounds_toArray, List.set_cons_zero, List.set_cons_succ, List.getElem_toArray, List.getElem_cons_zero, List.getElem_cons_succ]
      refine list_val (.bool true) (by kernel_rfl) (lss_i _ (.tmp 33) (.tmp 35) (k : Int) (2 * (x1.no : Int)) true rfl (by kernel_rfl) (by kernel_rfl) (decide_eq_true (by omega))) ?_
      simp only [Act.put, List.setIfInBounds_toArray, List.set_cons_zero, List.set_cons_succ, List.getElem_toArray, List.getElem_cons_zero, List.getElem_cons_succ]
      refine wpList_nil ?_
      replace hB := hide hB
      go_upto_region 13 with fail
      replace hB := unhide hB
      have hwz2 : w.heap.size ≤ wr.heap.size := hB.gr.size
      refine wp_region_lit ?_
      refine list_val (.agg (fl [[.int .u32 d.nx], [.slice xk.ao xk.no xk.co], [.int .i64 d.tn], [.int .u32 d.dl], [.slice xk.ah xk.nh xk.ch]])) (by kernel_rfl) (exec_sw _ 26 (.tmp 4) rfl (g4) (by kernel_rfl) (hB.get 1 (x := ⟨g4, fl [[.int .u32 d.nx], [.slice xk.ao xk.no xk.co], [.int .i64 d.tn], [.int .u32 d.dl], [.slice xk.ah xk.nh xk.ch]], 26⟩) rfl) NC (nC  _ _ _ _ _) Try.underlying26 rfl (by kernel_rfl)) ?_
      simp only [Act.put, List.setIfInBounds_toArray, List.set_cons_zero, List.set_cons_succ, List.getElem_toArray, List.getElem_cons_zero, List.getElem_cons_succ]
      refine list_call 9 #[.agg (fl [[.int .u32 d.nx], [.slice xk.ao xk.no xk.co], [.int .i64 d.tn], [.int .u32 d.dl], [.slice xk.ah xk.nh xk.ch]])] (by kernel_rfl) (by kernel_rfl) (((show Calls Try.prog 9 #[.agg (fl [[.int .u32 d.nx], [.slice xk.ao xk.no xk.co], [.int .i64 d.tn], [.int .u32 d.dl], [.slice xk.ah xk.nh xk.ch]])] wr (Rc d2 [.agg (fl [[.int .u32 s.n], bw s.B]), .int .i64 0] wr) from by have h := turn_ok d xk wr (unhide hCd).i; rw [unhide htu] at h; exact h)).mono ?_)
      rintro r_ u7 ⟨x2, rfl, hc2, ho2, hg⟩
      replace hC1 := hide ((unhide hC1).gr hg)
      replace hCd := hide ((unhide hCd).gr hg)
      replace hB := hB.more hg
      clear hg
      have hC2 := hide (Co.mk hc2 (ho2.base hwz2))
      clear hc2 ho2
      refine ⟨_, rfl, ?_⟩
      simp only [Act.put, List.setIfInBounds_toArray, List.set_cons_zero, List.set_cons_succ, List.getElem_toArray, List.getElem_cons_zero, List.getElem_cons_succ]
      refine list_val (.tuple #[.agg (fl [[.int .u32 d2.nx], [.slice x2.ao x2.no x2.co], [.int .i64 d2.tn], [.int .u32 d2.dl], [.slice x2.ah x2.nh x2.ch]]), .agg (fl [[.int .u32 s.n], bw s.B]), .int .i64 0]) (by kernel_rfl) (by kernel_rfl) ?_
      simp only [Act.put, List.setIfInBounds_toArray, List.set_cons_zero, List.set_cons_succ, List.getElem_toArray, List.getElem_cons_zero, List.getElem_cons_succ]
      refine list_val (.agg (fl [[.int .u32 d2.nx], [.slice x2.ao x2.no x2.co], [.int .i64 d2.tn], [.int .u32 d2.dl], [.slice x2.ah x2.nh x2.ch]])) (by kernel_rfl) (by kernel_rfl) ?_
      simp only [Act.put, List.setIfInBounds_toArray, List.set_cons_zero, List.set_cons_succ, List.getElem_toArray, List.getElem_cons_zero, List.getElem_cons_succ]
      refine list_val (.agg (fl [[.int .u32 s.n], bw s.B])) (by kernel_rfl) (by kernel_rfl) ?_
      simp only [Act.put, List.setIfInBounds_toArray, List.set_cons_zero, List.set_cons_succ, List.getElem_toArray, List.getElem_cons_zero, List.getElem_cons_succ]
      refine list_val (.int .i64 0) (by kernel_rfl) (by kernel_rfl) ?_
      simp only [Act.put, List.setIfInBounds_toArray, List.set_cons_zero, List.set_cons_succ, List.getElem_toArray, List.getElem_cons_zero, List.getElem_cons_succ]
      refine list_valw (.pointer (some ⟨u7.heap.size, 0, none⟩)) (u7.alloc (.cells (fl [[.int .u32 0], [.slice none 0 0], [.int .i64 0], [.int .u32 0], [.slice none 0 0]]) 26 (0, 0))) (by kernel_rfl) (by kernel_rfl) ?_
      replace hB := hB.new (fl [[.int .u32 0], [.slice none 0 0], [.int .i64 0], [.int .u32 0], [.slice none 0 0]]) 26
      simp only [List.nil_append, List.cons_append] at hB
      have hg := (Gr.refl u7).alloc (.cells (fl [[.int .u32 0], [.slice none 0 0], [.int .i64 0], [.int .u32 0], [.slice none 0 0]]) 26 (0, 0))
      replace hC1 := hide ((unhide hC1).gr hg)
      replace hCd := hide ((unhide hCd).gr hg)
      replace hC2 := hide ((unhide hC2).gr hg)
      clear hg
      generalize World.alloc _ _ = u8 at *
      generalize u7.heap.size = g6 at *
      simp only [Act.put, List.setIfInBounds_toArray, List.set_cons_zero, List.set_cons_succ, List.getElem_toArray, List.getElem_cons_zero, List.getElem_cons_succ]
      have hne7_hC1 := (unhide hC1).newO
      have hne7_hCd := (unhide hCd).newO
      have hne7_hC2 := (unhide hC2).newO
      refine list_valw (.pointer (some ⟨u8.heap.size, 0, none⟩)) (u8.alloc (.cells (fl [[.int .u32 0], bw Z105]) 33 (0, 0))) (by kernel_rfl) (by kernel_rfl) ?_
      replace hB := hB.new (fl [[.int .u32 0], bw Z105]) 33
      simp only [List.nil_append, List.cons_append] at hB
      have hg := (Gr.refl u8).alloc (.cells (fl [[.int .u32 0], bw Z105]) 33 (0, 0))
      replace hC1 := hide ((unhide hC1).gr hg)
      replace hCd := hide ((unhide hCd).gr hg)
      replace hC2 := hide ((unhide hC2).gr hg)
      clear hg
      generalize World.alloc _ _ = u9 at *
      generalize u8.heap.size = g7 at *
      simp only [Act.put, List.setIfInBounds_toArray, List.set_cons_zero, List.set_cons_succ, List.getElem_toArray, List.getElem_cons_zero, List.getElem_cons_succ]
      have hzz_ : Hid (u9.heap[g6]? = some (.cells (fl [[.int .u32 0], [.slice none 0 0], [.int .i64 0], [.int .u32 0], [.slice none 0 0]]) 26 (0, 0))) := hide (hB.get 2 (x := ⟨g6, fl [[.int .u32 0], [.slice none 0 0], [.int .i64 0], [.int .u32 0], [.slice none 0 0]], 26⟩) rfl)
      refine list_all 26 (.tmp 6) (.tmp 42) (g6) (S2 := [[.int .u32 d2.nx], [.slice x2.ao x2.no x2.co], [.int .i64 d2.tn], [.int .u32 d2.dl], [.slice x2.ah x2.nh x2.ch]]) (by kernel_rfl) rfl (by kernel_rfl) (by kernel_rfl) hB 2 rfl NC (nC  _ _ _ _ _) (nC  _ _ _ _ _) (by kernel_rfl) (oC  rfl rfl rfl rfl rfl) ?_
      intro u10 hB_ hbt_
      clear hB
      replace hB : Bl w [⟨w.heap.size, fl [[.int .u32 e.nx], [.slice x1.ao x1.no x1.co], [.int .i64 e.tn], [.int .u32 e.dl], [.slice x1.ah x1.nh x1.ch]], 26⟩, ⟨g4, fl [[.int .u32 d.nx], [.slice xk.ao xk.no xk.co], [.int .i64 d.tn], [.int .u32 d.dl], [.slice xk.ah xk.nh xk.ch]], 26⟩, ⟨g6, fl [[.int .u32 d2.nx], [.slice x2.ao x2.no x2.co], [.int .i64 d2.tn], [.int .u32 d2.dl], [.slice x2.ah x2.nh x2.ch]], 26⟩, ⟨g7, fl [[.int .u32 0], bw Z105], 33⟩] u10 := hB_
      clear hB_
      replace hC1 := hide ((unhide hC1).bz (unhide hzz_) hbt_)
      replace hCd := hide ((unhide hCd).bz (unhide hzz_) hbt_)
      replace hC2 := hide ((unhide hC2).bz (unhide hzz_) hbt_)
      clear hbt_ hzz_
      simp only [Act.put, List.setIfInBounds_toArray, List.set_cons_zero, List.set_cons_succ, List.getElem_toArray, List.getElem_cons_zero, List.getElem_cons_succ]
      have hzz_ : Hid (u10.heap[g7]? = some (.cells (fl [[.int .u32 0], bw Z105]) 33 (0, 0))) := hide (hB.get 3 (x := ⟨g7, fl [[.int .u32 0], bw Z105], 33⟩) rfl)
      refine list_all 33 (.tmp 7) (.tmp 43) (g7) (S2 := [[.int .u32 s.n], bw s.B]) (by kernel_rfl) rfl (by kernel_rfl) (by kernel_rfl) hB 3 rfl NO (nO Z105_len _) (nO (unhide hok2) _) (by kernel_rfl) (oO _ rfl) ?_
      intro u11 hB_ hbt_
      clear hB
      replace hB : Bl w [⟨w.heap.size, fl [[.int .u32 e.nx], [.slice x1.ao x1.no x1.co], [.int .i64 e.tn], [.int .u32 e.dl], [.slice x1.ah x1.nh x1.ch]], 26⟩, ⟨g4, fl [[.int .u32 d.nx], [.slice xk.ao xk.no xk.co], [.int .i64 d.tn], [.int .u32 d.dl], [.slice xk.ah xk.nh xk.ch]], 26⟩, ⟨g6, fl [[.int .u32 d2.nx], [.slice x2.ao x2.no x2.co], [.int .i64 d2.tn], [.int .u32 d2.dl], [.slice x2.ah x2.nh x2.ch]], 26⟩, ⟨g7, fl [[.int .u32 s.n], bw s.B], 33⟩] u11 := hB_
      clear hB_
      replace hC1 := hide ((unhide hC1).bkO (unhide hzz_) hbt_ hne7_hC1)
      replace hCd := hide ((unhide hCd).bkO (unhide hzz_) hbt_ hne7_hCd)
      replace hC2 := hide ((unhide hC2).bkO (unhide hzz_) hbt_ hne7_hC2)
      clear hbt_ hzz_
      simp only [Act.put, List.setIfInBounds_toArray, List.set_cons_zero, List.set_cons_succ, List.getElem_toArray, List.getElem_cons_zero, List.getElem_cons_succ]
      (refine wpList_step fun K hK => ?_; replace hK := hide hK; go_simp; refine unhide hK _ _ ?_; clear hK K)
      refine wpList_nil ?_
      clear hwz2
      obtain ⟨p, o, ha, hr⟩ := (unhide hC1).i.o.at_ t s (unhide hs)
      replace ha := hide ha; replace hr := hide hr
      have hG := hide (Gr.refl u11)
      replace hB := hide hB
      go_upto_region 14 with fail
      replace hB := unhide hB
      refine any_start (S := fun v_ => v_.heap[w.heap.size]? = some (.cells (fl [[.int .u32 e.nx], [.slice x1.ao x1.no x1.co], [.int .i64 e.tn], [.int .u32 e.dl], [.slice x1.ah x1.nh x1.ch]]) 26 (0, 0)) ∧ v_.heap[g6]? = some (.cells (fl [[.int .u32 d2.nx], [.slice x2.ao x2.no x2.co], [.int .i64 d2.tn], [.int .u32 d2.dl], [.slice x2.ah x2.nh x2.ch]]) 26 (0, 0)) ∧ v_.heap[g7]? = some (.cells (fl [[.int .u32 s.n], bw s.B]) 33 (0, 0)) ∧ Gr u11 v_) (by kernel_rfl) ?_
      replace hG := hide ((unhide hG).gr ((Gr.refl u11).drew))
      replace hC1 := hide ((unhide hC1).gr ((Gr.refl u11).drew))
      replace hCd := hide ((unhide hCd).gr ((Gr.refl u11).drew))
      replace hC2 := hide ((unhide hC2).gr ((Gr.refl u11).drew))
      replace hB := hB.drew
      generalize World.drew _ = u12 at *
      simp only [List.size_toArray, List.length_cons, List.length_nil, Array.replicate, List.replicate]
      refine any_take (i := 0) (v := (.int .i64 0)) #[false, false, false, false, false, false, false, false, false, false, false, false, false, false, false, false, false, false, false, false, false] rfl (by kernel_rfl) (by kernel_rfl) (by kernel_rfl) (by kernel_rfl) (fun _ _ _ h => h) (.inl ⟨by kernel_rfl, fun x_ hu => by kernel_rfl⟩) ⟨(hB.get 0 (x := ⟨w.heap.size, fl [[.int .u32 e.nx], [.slice x1.ao x1.no x1.co], [.int .i64 e.tn], [.int .u32 e.dl], [.slice x1.ah x1.nh x1.ch]], 26⟩) rfl), (hB.get 2 (x := ⟨g6, fl [[.int .u32 d2.nx], [.slice x2.ao x2.no x2.co], [.int .i64 d2.tn], [.int .u32 d2.dl], [.slice x2.ah x2.nh x2.ch]], 26⟩) rfl), (hB.get 3 (x := ⟨g7, fl [[.int .u32 s.n], bw s.B], 33⟩) rfl), (unhide hG)⟩ ?_
      simp only [Act.put, List.setIfInBounds_toArray, List.set_cons_zero, List.set_cons_succ, List.getElem_toArray, List.getElem_cons_zero, List.getElem_cons_succ]
      refine any_take (i := 1) (v := (.bool false)) #[true, false, false, false, false, false, false, false, false, false, false, false, false, false, false, false, false, false, false, false, false] rfl (by kernel_rfl) (by kernel_rfl) (by kernel_rfl) (by kernel_rfl) (fun _ _ _ h => h) (.inl ⟨by kernel_rfl, fun x_ hu => neq_e _ (.tmp 45) (.const (.int .i64 0)) 0 0 false rfl (by kernel_rfl) (by kernel_rfl) (by decide)⟩) ⟨(hB.get 0 (x := ⟨w.heap.size, fl [[.int .u32 e.nx], [.slice x1.ao x1.no x1.co], [.int .i64 e.tn], [.int .u32 e.dl], [.slice x1.ah x1.nh x1.ch]], 26⟩) rfl), (hB.get 2 (x := ⟨g6, fl [[.int .u32 d2.nx], [.slice x2.ao x2.no x2.co], [.int .i64 d2.tn], [.int .u32 d2.dl], [.slice x2.ah x2.nh x2.ch]], 26⟩) rfl), (hB.get 3 (x := ⟨g7, fl [[.int .u32 s.n], bw s.B], 33⟩) rfl), (unhide hG)⟩ ?_
      simp only [Act.put, List.setIfInBounds_toArray, List.set_cons_zero, List.set_cons_succ, List.getElem_toArray, List.getElem_cons_zero, List.getElem_cons_succ]
      refine any_take (i := 2) (v := (.bool false)) #[true, true, false, false, false, false, false, false, false, false, false, false, false, false, false, false, false, false, false, false, false] rfl (by kernel_rfl) (by kernel_rfl) (by kernel_rfl) (by kernel_rfl) (fun _ _ _ h => h) (.inl ⟨by kernel_rfl, fun x_ hu => by kernel_rfl⟩) ⟨(hB.get 0 (x := ⟨w.heap.size, fl [[.int .u32 e.nx], [.slice x1.ao x1.no x1.co], [.int .i64 e.tn], [.int .u32 e.dl], [.slice x1.ah x1.nh x1.ch]], 26⟩) rfl), (hB.get 2 (x := ⟨g6, fl [[.int .u32 d2.nx], [.slice x2.ao x2.no x2.co], [.int .i64 d2.tn], [.int .u32 d2.dl], [.slice x2.ah x2.nh x2.ch]], 26⟩) rfl), (hB.get 3 (x := ⟨g7, fl [[.int .u32 s.n], bw s.B], 33⟩) rfl), (unhide hG)⟩ ?_
      simp only [Act.put, List.setIfInBounds_toArray, List.set_cons_zero, List.set_cons_succ, List.getElem_toArray, List.getElem_cons_zero, List.getElem_cons_succ]
      refine any_take (i := 3) (v := (.agg (fl [[.int .u32 s.n], bw s.B]))) #[true, true, true, false, false, false, false, false, false, false, false, false, false, false, false, false, false, false, false, false, false] rfl (by kernel_rfl) (by kernel_rfl) (by kernel_rfl) (by kernel_rfl) (fun _ _ _ h => h) (.inl ⟨by kernel_rfl, fun x_ hu => exec_sw _ 33 (.tmp 7) rfl (g7) (by kernel_rfl) hu.2.2.1 NO (nO (unhide hok2) _) Try.underlying33 rfl (by kernel_rfl)⟩) ⟨(hB.get 0 (x := ⟨w.heap.size, fl [[.int .u32 e.nx], [.slice x1.ao x1.no x1.co], [.int .i64 e.tn], [.int .u32 e.dl], [.slice x1.ah x1.nh x1.ch]], 26⟩) rfl), (hB.get 2 (x := ⟨g6, fl [[.int .u32 d2.nx], [.slice x2.ao x2.no x2.co], [.int .i64 d2.tn], [.int .u32 d2.dl], [.slice x2.ah x2.nh x2.ch]], 26⟩) rfl), (hB.get 3 (x := ⟨g7, fl [[.int .u32 s.n], bw s.B], 33⟩) rfl), (unhide hG)⟩ ?_
      simp only [Act.put, List.setIfInBounds_toArray, List.set_cons_zero, List.set_cons_succ, List.getElem_toArray, List.getElem_cons_zero, List.getElem_cons_succ]
      refine any_take (i := 4) (v := (.pointer (some ⟨w.heap.size, 1, none⟩))) #[true, true, true, true, false, false, false, false, false, false, false, false, false, false, false, false, false, false, false, false, false] rfl (by kernel_rfl) (by kernel_rfl) (by kernel_rfl) (by kernel_rfl) (fun _ _ _ h => h) (.inl ⟨by kernel_rfl, fun x_ hu => by kernel_rfl⟩) ⟨(hB.get 0 (x := ⟨w.heap.size, fl [[.int .u32 e.nx], [.slice x1.ao x1.no x1.co], [.int .i64 e.tn], [.int .u32 e.dl], [.slice x1.ah x1.nh x1.ch]], 26⟩) rfl), (hB.get 2 (x := ⟨g6, fl [[.int .u32 d2.nx], [.slice x2.ao x2.no x2.co], [.int .i64 d2.tn], [.int .u32 d2.dl], [.slice x2.ah x2.nh x2.ch]], 26⟩) rfl), (hB.get 3 (x := ⟨g7, fl [[.int .u32 s.n], bw s.B], 33⟩) rfl), (unhide hG)⟩ ?_
      simp only [Act.put, List.setIfInBounds_toArray, List.set_cons_zero, List.set_cons_succ, List.getElem_toArray, List.getElem_cons_zero, List.getElem_cons_succ]
      refine any_take (i := 5) (v := (.slice x1.ao x1.no x1.co)) #[true, true, true, true, true, false, false, false, false, false, false, false, false, false, false, false, false, false, false, false, false] rfl (by kernel_rfl) (by kernel_rfl) (by kernel_rfl) (by kernel_rfl) (fun _ _ _ h => h) (.inl ⟨by kernel_rfl, fun x_ hu => exec_csO _ (.tmp 49) rfl (w.heap.size) 1 (by kernel_rfl) x1.ao x1.no x1.co (seg_cell (nC  _ _ _ _ _) hu.1 1 (v := .slice x1.ao x1.no x1.co) rfl rfl)⟩) ⟨(hB.get 0 (x := ⟨w.heap.size, fl [[.int .u32 e.nx], [.slice x1.ao x1.no x1.co], [.int .i64 e.tn], [.int .u32 e.dl], [.slice x1.ah x1.nh x1.ch]], 26⟩) rfl), (hB.get 2 (x := ⟨g6, fl [[.int .u32 d2.nx], [.slice x2.ao x2.no x2.co], [.int .i64 d2.tn], [.int .u32 d2.dl], [.slice x2.ah x2.nh x2.ch]], 26⟩) rfl), (hB.get 3 (x := ⟨g7, fl [[.int .u32 s.n], bw s.B], 33⟩) rfl), (unhide hG)⟩ ?_
      simp only [Act.put, List.setIfInBounds_toArray, List.set_cons_zero, List.set_cons_succ, List.getElem_toArray, List.getElem_cons_zero, List.getElem_cons_succ]
      refine any_take (i := 6) (v := (.pointer (some ⟨w.heap.size, 2, none⟩))) #[true, true, true, true, true, true, false, false, false, false, false, false, false, false, false, false, false, false, false, false, false] rfl (by kernel_rfl) (by kernel_rfl) (by kernel_rfl) (by kernel_rfl) (fun _ _ _ h => h) (.inl ⟨by kernel_rfl, fun x_ hu => by kernel_rfl⟩) ⟨(hB.get 0 (x := ⟨w.heap.size, fl [[.int .u32 e.nx], [.slice x1.ao x1.no x1.co], [.int .i64 e.tn], [.int .u32 e.dl], [.slice x1.ah x1.nh x1.ch]], 26⟩) rfl), (hB.get 2 (x := ⟨g6, fl [[.int .u32 d2.nx], [.slice x2.ao x2.no x2.co], [.int .i64 d2.tn], [.int .u32 d2.dl], [.slice x2.ah x2.nh x2.ch]], 26⟩) rfl), (hB.get 3 (x := ⟨g7, fl [[.int .u32 s.n], bw s.B], 33⟩) rfl), (unhide hG)⟩ ?_
      simp only [Act.put, List.setIfInBounds_toArray, List.set_cons_zero, List.set_cons_succ, List.getElem_toArray, List.getElem_cons_zero, List.getElem_cons_succ]
      refine any_take (i := 7) (v := (.int .i64 e.tn)) #[true, true, true, true, true, true, true, false, false, false, false, false, false, false, false, false, false, false, false, false, false] rfl (by kernel_rfl) (by kernel_rfl) (by kernel_rfl) (by kernel_rfl) (fun _ _ _ h => h) (.inl ⟨by kernel_rfl, fun x_ hu => exec_ci _ (.tmp 51) rfl (w.heap.size) 2 (by kernel_rfl) e.tn (seg_cell (nC  _ _ _ _ _) hu.1 2 (v := .int .i64 e.tn) rfl rfl)⟩) ⟨(hB.get 0 (x := ⟨w.heap.size, fl [[.int .u32 e.nx], [.slice x1.ao x1.no x1.co], [.int .i64 e.tn], [.int .u32 e.dl], [.slice x1.ah x1.nh x1.ch]], 26⟩) rfl), (hB.get 2 (x := ⟨g6, fl [[.int .u32 d2.nx], [.slice x2.ao x2.no x2.co], [.int .i64 d2.tn], [.int .u32 d2.dl], [.slice x2.ah x2.nh x2.ch]], 26⟩) rfl), (hB.get 3 (x := ⟨g7, fl [[.int .u32 s.n], bw s.B], 33⟩) rfl), (unhide hG)⟩ ?_
      simp only [Act.put, List.setIfInBounds_toArray, List.set_cons_zero, List.set_cons_succ, List.getElem_toArray, List.getElem_cons_zero, List.getElem_cons_succ]
      refine any_take (i := 8) (v := (.int .i64 (k : Int))) #[true, true, true, true, true, true, true, true, false, false, false, false, false, false, false, false, false, false, false, false, false] rfl (by kernel_rfl) (by kernel_rfl) (by kernel_rfl) (by kernel_rfl) (fun _ _ _ h => h) (.inl ⟨by kernel_rfl, fun x_ hu => by kernel_rfl⟩) ⟨(hB.get 0 (x := ⟨w.heap.size, fl [[.int .u32 e.nx], [.slice x1.ao x1.no x1.co], [.int .i64 e.tn], [.int .u32 e.dl], [.slice x1.ah x1.nh x1.ch]], 26⟩) rfl), (hB.get 2 (x := ⟨g6, fl [[.int .u32 d2.nx], [.slice x2.ao x2.no x2.co], [.int .i64 d2.tn], [.int .u32 d2.dl], [.slice x2.ah x2.nh x2.ch]], 26⟩) rfl), (hB.get 3 (x := ⟨g7, fl [[.int .u32 s.n], bw s.B], 33⟩) rfl), (unhide hG)⟩ ?_
      simp only [Act.put, List.setIfInBounds_toArray, List.set_cons_zero, List.set_cons_succ, List.getElem_toArray, List.getElem_cons_zero, List.getElem_cons_succ]
      refine any_take (i := 9) (v := (.int .i64 (e.tn + (k : Int)))) #[true, true, true, true, true, true, true, true, true, false, false, false, false, false, false, false, false, false, false, false, false] rfl (by kernel_rfl) (by kernel_rfl) (by kernel_rfl) (by kernel_rfl) (fun _ _ _ h => h) (.inl ⟨by kernel_rfl, fun x_ hu => add_i _ (.tmp 52) (.tmp 53) e.tn (k : Int) rfl (by kernel_rfl) (by kernel_rfl) _ rfl (by omega)⟩) ⟨(hB.get 0 (x := ⟨w.heap.size, fl [[.int .u32 e.nx], [.slice x1.ao x1.no x1.co], [.int .i64 e.tn], [.int .u32 e.dl], [.slice x1.ah x1.nh x1.ch]], 26⟩) rfl), (hB.get 2 (x := ⟨g6, fl [[.int .u32 d2.nx], [.slice x2.ao x2.no x2.co], [.int .i64 d2.tn], [.int .u32 d2.dl], [.slice x2.ah x2.nh x2.ch]], 26⟩) rfl), (hB.get 3 (x := ⟨g7, fl [[.int .u32 s.n], bw s.B], 33⟩) rfl), (unhide hG)⟩ ?_
      simp only [Act.put, List.setIfInBounds_toArray, List.set_cons_zero, List.set_cons_succ, List.getElem_toArray, List.getElem_cons_zero, List.getElem_cons_succ]
      refine any_take (i := 10) (v := (.int .i64 (x1.no : Int))) #[true, true, true, true, true, true, true, true, true, true, false, false, false, false, false, false, false, false, false, false, false] rfl (by kernel_rfl) (by kernel_rfl) (by kernel_rfl) (by kernel_rfl) (fun _ _ _ h => h) (.inl ⟨by kernel_rfl, fun x_ hu => by kernel_rfl⟩) ⟨(hB.get 0 (x := ⟨w.heap.size, fl [[.int .u32 e.nx], [.slice x1.ao x1.no x1.co], [.int .i64 e.tn], [.int .u32 e.dl], [.slice x1.ah x1.nh x1.ch]], 26⟩) rfl), (hB.get 2 (x := ⟨g6, fl [[.int .u32 d2.nx], [.slice x2.ao x2.no x2.co], [.int .i64 d2.tn], [.int .u32 d2.dl], [.slice x2.ah x2.nh x2.ch]], 26⟩) rfl), (hB.get 3 (x := ⟨g7, fl [[.int .u32 s.n], bw s.B], 33⟩) rfl), (unhide hG)⟩ ?_
      simp only [Act.put, List.setIfInBounds_toArray, List.set_cons_zero, List.set_cons_succ, List.getElem_toArray, List.getElem_cons_zero, List.getElem_cons_succ]
      refine any_take (i := 11) (v := (.int .i64 (t : Int))) #[true, true, true, true, true, true, true, true, true, true, true, false, false, false, false, false, false, false, false, false, false] rfl (by kernel_rfl) (by kernel_rfl) (by kernel_rfl) (by kernel_rfl) (fun _ _ _ h => h) (.inl ⟨by kernel_rfl, fun x_ hu => unhide ht ▸ rem_i _ (.tmp 54) (.tmp 55) (e.tn + (k : Int)) (x1.no : Int) rfl (by kernel_rfl) (by kernel_rfl) (by omega) (by omega) (by omega)⟩) ⟨(hB.get 0 (x := ⟨w.heap.size, fl [[.int .u32 e.nx], [.slice x1.ao x1.no x1.co], [.int .i64 e.tn], [.int .u32 e.dl], [.slice x1.ah x1.nh x1.ch]], 26⟩) rfl), (hB.get 2 (x := ⟨g6, fl [[.int .u32 d2.nx], [.slice x2.ao x2.no x2.co], [.int .i64 d2.tn], [.int .u32 d2.dl], [.slice x2.ah x2.nh x2.ch]], 26⟩) rfl), (hB.get 3 (x := ⟨g7, fl [[.int .u32 s.n], bw s.B], 33⟩) rfl), (unhide hG)⟩ ?_
      simp only [Act.put, List.setIfInBounds_toArray, List.set_cons_zero, List.set_cons_succ, List.getElem_toArray, List.getElem_cons_zero, List.getElem_cons_succ]
      refine any_take (i := 12) (v := (.pointer (some ⟨p, o + 106 * t, none⟩))) #[true, true, true, true, true, true, true, true, true, true, true, true, false, false, false, false, false, false, false, false, false] rfl (by kernel_rfl) (by kernel_rfl) (by kernel_rfl) (by kernel_rfl) (fun _ _ _ h => h) (.inl ⟨by kernel_rfl, fun x_ hu => exec_iso _ (.tmp 50) (.tmp 56) rfl p o x1.no x1.co t (by rw [← unhide ha]; kernel_rfl) (by kernel_rfl) htl⟩) ⟨(hB.get 0 (x := ⟨w.heap.size, fl [[.int .u32 e.nx], [.slice x1.ao x1.no x1.co], [.int .i64 e.tn], [.int .u32 e.dl], [.slice x1.ah x1.nh x1.ch]], 26⟩) rfl), (hB.get 2 (x := ⟨g6, fl [[.int .u32 d2.nx], [.slice x2.ao x2.no x2.co], [.int .i64 d2.tn], [.int .u32 d2.dl], [.slice x2.ah x2.nh x2.ch]], 26⟩) rfl), (hB.get 3 (x := ⟨g7, fl [[.int .u32 s.n], bw s.B], 33⟩) rfl), (unhide hG)⟩ ?_
      simp only [Act.put, List.setIfInBounds_toArray, List.set_cons_zero, List.set_cons_succ, List.getElem_toArray, List.getElem_cons_zero, List.getElem_cons_succ]
      refine any_take (i := 13) (v := (.agg (fl [[.int .u32 s.n], bw s.B]))) #[true, true, true, true, true, true, true, true, true, true, true, true, true, false, false, false, false, false, false, false, false] rfl (by kernel_rfl) (by kernel_rfl) (by kernel_rfl) (by kernel_rfl) (fun _ _ _ h => h) (.inl ⟨by kernel_rfl, fun x_ hu => exec_lo _ (.tmp 57) rfl p (o + 106 * t) (by kernel_rfl) s (unhide hok) (range_gr (unhide hr) hu.2.2.2)⟩) ⟨(hB.get 0 (x := ⟨w.heap.size, fl [[.int .u32 e.nx], [.slice x1.ao x1.no x1.co], [.int .i64 e.tn], [.int .u32 e.dl], [.slice x1.ah x1.nh x1.ch]], 26⟩) rfl), (hB.get 2 (x := ⟨g6, fl [[.int .u32 d2.nx], [.slice x2.ao x2.no x2.co], [.int .i64 d2.tn], [.int .u32 d2.dl], [.slice x2.ah x2.nh x2.ch]], 26⟩) rfl), (hB.get 3 (x := ⟨g7, fl [[.int .u32 s.n], bw s.B], 33⟩) rfl), (unhide hG)⟩ ?_
      simp only [Act.put, List.setIfInBounds_toArray, List.set_cons_zero, List.set_cons_succ, List.getElem_toArray, List.getElem_cons_zero, List.getElem_cons_succ]
      refine any_take (i := 14) (v := (.bool false)) #[true, true, true, true, true, true, true, true, true, true, true, true, true, true, false, false, false, false, false, false, false] rfl (by kernel_rfl) (by kernel_rfl) (by kernel_rfl) (by kernel_rfl) (fun _ _ _ h => h) (.inl ⟨by kernel_rfl, fun x_ hu => exec_neO _ (.tmp 48) (.tmp 58) rfl s s (unhide hok2) (unhide hok2) (by kernel_rfl) (by kernel_rfl) true (by simp)⟩) ⟨(hB.get 0 (x := ⟨w.heap.size, fl [[.int .u32 e.nx], [.slice x1.ao x1.no x1.co], [.int .i64 e.tn], [.int .u32 e.dl], [.slice x1.ah x1.nh x1.ch]], 26⟩) rfl), (hB.get 2 (x := ⟨g6, fl [[.int .u32 d2.nx], [.slice x2.ao x2.no x2.co], [.int .i64 d2.tn], [.int .u32 d2.dl], [.slice x2.ah x2.nh x2.ch]], 26⟩) rfl), (hB.get 3 (x := ⟨g7, fl [[.int .u32 s.n], bw s.B], 33⟩) rfl), (unhide hG)⟩ ?_
      simp only [Act.put, List.setIfInBounds_toArray, List.set_cons_zero, List.set_cons_succ, List.getElem_toArray, List.getElem_cons_zero, List.getElem_cons_succ]
      refine any_take (i := 15) (v := (.bool false)) #[true, true, true, true, true, true, true, true, true, true, true, true, true, true, true, false, false, false, false, false, false] rfl (by kernel_rfl) (by kernel_rfl) (by kernel_rfl) (by kernel_rfl) (fun _ _ _ h => h) (.inl ⟨by kernel_rfl, fun x_ hu => by kernel_rfl⟩) ⟨(hB.get 0 (x := ⟨w.heap.size, fl [[.int .u32 e.nx], [.slice x1.ao x1.no x1.co], [.int .i64 e.tn], [.int .u32 e.dl], [.slice x1.ah x1.nh x1.ch]], 26⟩) rfl), (hB.get 2 (x := ⟨g6, fl [[.int .u32 d2.nx], [.slice x2.ao x2.no x2.co], [.int .i64 d2.tn], [.int .u32 d2.dl], [.slice x2.ah x2.nh x2.ch]], 26⟩) rfl), (hB.get 3 (x := ⟨g7, fl [[.int .u32 s.n], bw s.B], 33⟩) rfl), (unhide hG)⟩ ?_
      simp only [Act.put, List.setIfInBounds_toArray, List.set_cons_zero, List.set_cons_succ, List.getElem_toArray, List.getElem_cons_zero, List.getElem_cons_succ]
      refine any_take (i := 16) (v := (.bool false)) #[true, true, true, true, true, true, true, true, true, true, true, true, true, true, true, true, false, false, false, false, false] rfl (by kernel_rfl) (by kernel_rfl) (by kernel_rfl) (by kernel_rfl) (fun _ _ _ h => h) (.inl ⟨by kernel_rfl, fun x_ hu => by kernel_rfl⟩) ⟨(hB.get 0 (x := ⟨w.heap.size, fl [[.int .u32 e.nx], [.slice x1.ao x1.no x1.co], [.int .i64 e.tn], [.int .u32 e.dl], [.slice x1.ah x1.nh x1.ch]], 26⟩) rfl), (hB.get 2 (x := ⟨g6, fl [[.int .u32 d2.nx], [.slice x2.ao x2.no x2.co], [.int .i64 d2.tn], [.int .u32 d2.dl], [.slice x2.ah x2.nh x2.ch]], 26⟩) rfl), (hB.get 3 (x := ⟨g7, fl [[.int .u32 s.n], bw s.B], 33⟩) rfl), (unhide hG)⟩ ?_
      simp only [Act.put, List.setIfInBounds_toArray, List.set_cons_zero, List.set_cons_succ, List.getElem_toArray, List.getElem_cons_zero, List.getElem_cons_succ]
      refine any_take (i := 17) (v := (.agg (fl [[.int .u32 d2.nx], [.slice x2.ao x2.no x2.co], [.int .i64 d2.tn], [.int .u32 d2.dl], [.slice x2.ah x2.nh x2.ch]]))) #[true, true, true, true, true, true, true, true, true, true, true, true, true, true, true, true, true, false, false, false, false] rfl (by kernel_rfl) (by kernel_rfl) (by kernel_rfl) (by kernel_rfl) (fun _ _ _ h => h) (.inl ⟨by kernel_rfl, fun x_ hu => exec_sw _ 26 (.tmp 6) rfl (g6) (by kernel_rfl) hu.2.1 NC (nC  _ _ _ _ _) Try.underlying26 rfl (by kernel_rfl)⟩) ⟨(hB.get 0 (x := ⟨w.heap.size, fl [[.int .u32 e.nx], [.slice x1.ao x1.no x1.co], [.int .i64 e.tn], [.int .u32 e.dl], [.slice x1.ah x1.nh x1.ch]], 26⟩) rfl), (hB.get 2 (x := ⟨g6, fl [[.int .u32 d2.nx], [.slice x2.ao x2.no x2.co], [.int .i64 d2.tn], [.int .u32 d2.dl], [.slice x2.ah x2.nh x2.ch]], 26⟩) rfl), (hB.get 3 (x := ⟨g7, fl [[.int .u32 s.n], bw s.B], 33⟩) rfl), (unhide hG)⟩ ?_
      simp only [Act.put, List.setIfInBounds_toArray, List.set_cons_zero, List.set_cons_succ, List.getElem_toArray, List.getElem_cons_zero, List.getElem_cons_succ]
      refine any_one (i := 18) (by kernel_rfl) rfl (fun K hK => ?_)
      refine step_callw (by kernel_rfl) 8 #[.agg (fl [[.int .u32 d2.nx], [.slice x2.ao x2.no x2.co], [.int .i64 d2.tn], [.int .u32 d2.dl], [.slice x2.ah x2.nh x2.ch]])] (by kernel_rfl) (((show Calls Try.prog 8 #[.agg (fl [[.int .u32 d2.nx], [.slice x2.ao x2.no x2.co], [.int .i64 d2.tn], [.int .u32 d2.dl], [.slice x2.ah x2.nh x2.ch]])] u12 (Vl (.int .i64 0) u12) from unhide hk3 ▸ check_ok d2 x2 u12 (unhide hC2).i)).mono ?_)
      rintro r_ u13 ⟨rfl, hg⟩
      replace hG := hide ((unhide hG).gr hg)
      replace hC1 := hide ((unhide hC1).gr hg)
      replace hCd := hide ((unhide hCd).gr hg)
      replace hC2 := hide ((unhide hC2).gr hg)
      replace hB := hB.more hg
      clear hg
      refine ⟨_, rfl, ?_⟩
      refine hK.out _ _ ⟨(hB.get 0 (x := ⟨w.heap.size, fl [[.int .u32 e.nx], [.slice x1.ao x1.no x1.co], [.int .i64 e.tn], [.int .u32 e.dl], [.slice x1.ah x1.nh x1.ch]], 26⟩) rfl), (hB.get 2 (x := ⟨g6, fl [[.int .u32 d2.nx], [.slice x2.ao x2.no x2.co], [.int .i64 d2.tn], [.int .u32 d2.dl], [.slice x2.ah x2.nh x2.ch]], 26⟩) rfl), (hB.get 3 (x := ⟨g7, fl [[.int .u32 s.n], bw s.B], 33⟩) rfl), (unhide hG)⟩ (fun _ => ?_)
      clear hK K
      simp only [Act.put, List.setIfInBounds_toArray, List.set_cons_zero, List.set_cons_succ, List.getElem_toArray, List.getElem_cons_zero, List.getElem_cons_succ]
      refine any_take (i := 19) (v := (.bool false)) #[true, true, true, true, true, true, true, true, true, true, true, true, true, true, true, true, true, true, true, false, false] rfl (by kernel_rfl) (by kernel_rfl) (by kernel_rfl) (by kernel_rfl) (fun _ _ _ h => h) (.inl ⟨by kernel_rfl, fun x_ hu => neq_e _ (.tmp 63) (.const (.int .i64 0)) 0 0 false rfl (by kernel_rfl) (by kernel_rfl) (by decide)⟩) ⟨(hB.get 0 (x := ⟨w.heap.size, fl [[.int .u32 e.nx], [.slice x1.ao x1.no x1.co], [.int .i64 e.tn], [.int .u32 e.dl], [.slice x1.ah x1.nh x1.ch]], 26⟩) rfl), (hB.get 2 (x := ⟨g6, fl [[.int .u32 d2.nx], [.slice x2.ao x2.no x2.co], [.int .i64 d2.tn], [.int .u32 d2.dl], [.slice x2.ah x2.nh x2.ch]], 26⟩) rfl), (hB.get 3 (x := ⟨g7, fl [[.int .u32 s.n], bw s.B], 33⟩) rfl), (unhide hG)⟩ ?_
      simp only [Act.put, List.setIfInBounds_toArray, List.set_cons_zero, List.set_cons_succ, List.getElem_toArray, List.getElem_cons_zero, List.getElem_cons_succ]
      refine any_take (i := 20) (v := (.bool false)) #[true, true, true, true, true, true, true, true, true, true, true, true, true, true, true, true, true, true, true, true, false] rfl (by kernel_rfl) (by kernel_rfl) (by kernel_rfl) (by kernel_rfl) (fun _ _ _ h => h) (.inl ⟨by kernel_rfl, fun x_ hu => by kernel_rfl⟩) ⟨(hB.get 0 (x := ⟨w.heap.size, fl [[.int .u32 e.nx], [.slice x1.ao x1.no x1.co], [.int .i64 e.tn], [.int .u32 e.dl], [.slice x1.ah x1.nh x1.ch]], 26⟩) rfl), (hB.get 2 (x := ⟨g6, fl [[.int .u32 d2.nx], [.slice x2.ao x2.no x2.co], [.int .i64 d2.tn], [.int .u32 d2.dl], [.slice x2.ah x2.nh x2.ch]], 26⟩) rfl), (hB.get 3 (x := ⟨g7, fl [[.int .u32 s.n], bw s.B], 33⟩) rfl), (unhide hG)⟩ ?_
      simp only [Act.put, List.setIfInBounds_toArray, List.set_cons_zero, List.set_cons_succ, List.getElem_toArray, List.getElem_cons_zero, List.getElem_cons_succ]
      refine any_done (by kernel_rfl) ?_
      clear hG hr
      replace hB := hide hB
      go_upto_region 16 with fail
      replace hB := unhide hB
      refine wp_region_lit ?_
      refine list_val (.agg (fl [[.int .u32 d2.nx], [.slice x2.ao x2.no x2.co], [.int .i64 d2.tn], [.int .u32 d2.dl], [.slice x2.ah x2.nh x2.ch]])) (by kernel_rfl) (exec_sw _ 26 (.tmp 6) rfl (g6) (by kernel_rfl) (hB.get 2 (x := ⟨g6, fl [[.int .u32 d2.nx], [.slice x2.ao x2.no x2.co], [.int .i64 d2.tn], [.int .u32 d2.dl], [.slice x2.ah x2.nh x2.ch]], 26⟩) rfl) NC (nC  _ _ _ _ _) Try.underlying26 rfl (by kernel_rfl)) ?_
      simp only [Act.put, List.setIfInBounds_toArray, List.set_cons_zero, List.set_cons_succ, List.getElem_toArray, List.getElem_cons_zero, List.getElem_cons_succ]
      have hzz_ : Hid (u13.heap[g4]? = some (.cells (fl [[.int .u32 d.nx], [.slice xk.ao xk.no xk.co], [.int .i64 d.tn], [.int .u32 d.dl], [.slice xk.ah xk.nh xk.ch]]) 26 (0, 0))) := hide (hB.get 1 (x := ⟨g4, fl [[.int .u32 d.nx], [.slice xk.ao xk.no xk.co], [.int .i64 d.tn], [.int .u32 d.dl], [.slice xk.ah xk.nh xk.ch]], 26⟩) rfl)
      refine list_all 26 (.tmp 4) (.tmp 66) (g4) (S2 := [[.int .u32 d2.nx], [.slice x2.ao x2.no x2.co], [.int .i64 d2.tn], [.int .u32 d2.dl], [.slice x2.ah x2.nh x2.ch]]) (by kernel_rfl) rfl (by kernel_rfl) (by kernel_rfl) hB 1 rfl NC (nC  _ _ _ _ _) (nC  _ _ _ _ _) (by kernel_rfl) (oC  rfl rfl rfl rfl rfl) ?_
      intro u14 hB_ hbt_
      clear hB
      replace hB : Bl w [⟨w.heap.size, fl [[.int .u32 e.nx], [.slice x1.ao x1.no x1.co], [.int .i64 e.tn], [.int .u32 e.dl], [.slice x1.ah x1.nh x1.ch]], 26⟩, ⟨g4, fl [[.int .u32 d2.nx], [.slice x2.ao x2.no x2.co], [.int .i64 d2.tn], [.int .u32 d2.dl], [.slice x2.ah x2.nh x2.ch]], 26⟩, ⟨g6, fl [[.int .u32 d2.nx], [.slice x2.ao x2.no x2.co], [.int .i64 d2.tn], [.int .u32 d2.dl], [.slice x2.ah x2.nh x2.ch]], 26⟩, ⟨g7, fl [[.int .u32 s.n], bw s.B], 33⟩] u14 := hB_
      clear hB_
      replace hC1 := hide ((unhide hC1).bz (unhide hzz_) hbt_)
      replace hCd := hide ((unhide hCd).bz (unhide hzz_) hbt_)
      replace hC2 := hide ((unhide hC2).bz (unhide hzz_) hbt_)
      clear hbt_ hzz_
      simp only [Act.put, List.setIfInBounds_toArray, List.set_cons_zero, List.set_cons_succ, List.getElem_toArray, List.getElem_cons_zero, List.getElem_cons_succ]
      refine wpList_nil ?_
      replace hB := Bl.left (L := [⟨w.heap.size, fl [[.int .u32 e.nx], [.slice x1.ao x1.no x1.co], [.int .i64 e.tn], [.int .u32 e.dl], [.slice x1.ah x1.nh x1.ch]], 26⟩, ⟨g4, fl [[.int .u32 d2.nx], [.slice x2.ao x2.no x2.co], [.int .i64 d2.tn], [.int .u32 d2.dl], [.slice x2.ah x2.nh x2.ch]], 26⟩]) (M := [⟨g6, fl [[.int .u32 d2.nx], [.slice x2.ao x2.no x2.co], [.int .i64 d2.tn], [.int .u32 d2.dl], [.slice x2.ah x2.nh x2.ch]], 26⟩, ⟨g7, fl [[.int .u32 s.n], bw s.B], 33⟩]) hB
      replace hd := hd2
      clear hCd
      replace hB := hide hB
      go_upto_region 12 with fail
      replace hB := unhide hB
      refine wp_region_lit ?_
      refine list_val (.int .i64 (k : Int)) (by kernel_rfl) (by kernel_rfl) ?_
      simp only [Act.put, List.setIfInBounds_toArray, List.set_cons_zero, List.set_cons_succ, List.getElem_toArray, List.getElem_cons_zero, List.getElem_cons_succ]
      refine list_val (.int .i64 ((k + 1 : Nat) : Int)) (by kernel_rfl) (add_i _ (.tmp 37) (.const (.int .i64 1)) (k : Int) 1 rfl (by kernel_rfl) (by kernel_rfl) _ (by omega) (by omega)) ?_
      simp only [Act.put, List.setIfInBounds_toArray, List.set_cons_zero, List.set_cons_succ, List.getElem_toArray, List.getElem_cons_zero, List.getElem_cons_succ]
      (refine wpList_step fun K hK => ?_; replace hK := hide hK; go_simp; refine unhide hK _ _ ?_; clear hK K)
      refine wpList_nil ?_
      replace hB := hide hB
      clear ht hs hok hok2 htu hk3 ha
      go_wp2_with fail
      go_roundw
      case rel => exact ⟨k + 1, x2, d2, by omega, rfl, hd2, hB, hC2, hC1⟩
      case measure => simp [intOf]; omega
    · have hk9 : k = 2 * x1.no := by omega
      have hde : d = e := by rw [unhide hd, hk9, ← hol]; exact dk_2 (unhide h1)
      subst hde
      clear hd
      replace hB := hide hB
      go_upto_region 11 with fail
      replace hB := unhide hB
      refine wp_region_lit ?_
      refine list_val (.int .i64 (k : Int)) (by kernel_rfl) (by kernel_rfl) ?_
      simp only [Act.put, List.setIfInBounds_toArray, List.set_cons_zero, List.set_cons_succ, List.getElem_toArray, List.getElem_cons_zero, List.getElem_cons_succ]
      refine list_val (.int .i64 (x1.no : Int)) (by kernel_rfl) (by kernel_rfl) ?_
      simp only [Act.put, List.setIfInBounds_toArray, List.set_cons_zero, List.set_cons_succ, List.getElem_toArray, List.getElem_cons_zero, List.getElem_cons_succ]
      refine list_val (.int .i64 (2 * (x1.no : Int))) (by kernel_rfl) (mul_i _ (.const (.int .i64 2)) (.tmp 34) 2 (x1.no : Int) rfl (by kernel_rfl) (by kernel_rfl) _ rfl (by omega)) ?_
      simp only [Act.put, List.setIfInBounds_toArray, List.set_cons_zero, List.set_cons_succ, List.getElem_toArray, List.getElem_cons_zero, List.getElem_cons_succ]
      refine list_val (.bool false) (by kernel_rfl) (lss_i _ (.tmp 33) (.tmp 35) (k : Int) (2 * (x1.no : Int)) false rfl (by kernel_rfl) (by kernel_rfl) (decide_eq_false (by omega))) ?_
      simp only [Act.put, List.setIfInBounds_toArray, List.set_cons_zero, List.set_cons_succ, List.getElem_toArray, List.getElem_cons_zero, List.getElem_cons_succ]
      refine wpList_nil ?_
      by_cases hn0 : d.O.length = 0
      · have hx0 : x1.no = 0 := by omega
        replace hx0 := hide hx0
        have htu := tu_none (unhide h1) hn0
        replace hB := hide hB
        go_upto_region 17 with fail
        replace hB := unhide hB
        refine wp_region_lit ?_
        refine list_val (.agg (fl [[.int .u32 d.nx], [.slice xk.ao xk.no xk.co], [.int .i64 d.tn], [.int .u32 d.dl], [.slice xk.ah xk.nh xk.ch]])) (by kernel_rfl) (exec_sw _ 26 (.tmp 4) rfl (g4) (by kernel_rfl) (hB.get 1 (x := ⟨g4, fl [[.int .u32 d.nx], [.slice xk.ao xk.no xk.co], [.int .i64 d.tn], [.int .u32 d.dl], [.slice xk.ah xk.nh xk.ch]], 26⟩) rfl) NC (nC  _ _ _ _ _) Try.underlying26 rfl (by kernel_rfl)) ?_
        simp only [Act.put, List.setIfInBounds_toArray, List.set_cons_zero, List.set_cons_succ, List.getElem_toArray, List.getElem_cons_zero, List.getElem_cons_succ]
        refine list_call 9 #[.agg (fl [[.int .u32 d.nx], [.slice xk.ao xk.no xk.co], [.int .i64 d.tn], [.int .u32 d.dl], [.slice xk.ah xk.nh xk.ch]])] (by kernel_rfl) (by kernel_rfl) (((show Calls Try.prog 9 #[.agg (fl [[.int .u32 d.nx], [.slice xk.ao xk.no xk.co], [.int .i64 d.tn], [.int .u32 d.dl], [.slice xk.ah xk.nh xk.ch]])] wr (Rc cz [.agg (fl [[.int .u32 oZ.n], bw oZ.B]), .int .i64 4] wr) from by have h := turn_ok d xk wr (unhide hCd).i; rw [htu] at h; exact h)).mono ?_)
        rintro r_ u7 ⟨x2, rfl, hc2, ho2, hg⟩
        replace hC1 := hide ((unhide hC1).gr hg)
        replace hCd := hide ((unhide hCd).gr hg)
        replace hB := hB.more hg
        clear hg
        clear hc2 ho2
        refine ⟨_, rfl, ?_⟩
        simp only [Act.put, List.setIfInBounds_toArray, List.set_cons_zero, List.set_cons_succ, List.getElem_toArray, List.getElem_cons_zero, List.getElem_cons_succ]
        refine list_val (.tuple #[.agg (fl [[.int .u32 cz.nx], [.slice x2.ao x2.no x2.co], [.int .i64 cz.tn], [.int .u32 cz.dl], [.slice x2.ah x2.nh x2.ch]]), .agg (fl [[.int .u32 oZ.n], bw oZ.B]), .int .i64 4]) (by kernel_rfl) (by kernel_rfl) ?_
        simp only [Act.put, List.setIfInBounds_toArray, List.set_cons_zero, List.set_cons_succ, List.getElem_toArray, List.getElem_cons_zero, List.getElem_cons_succ]
        refine list_val (.agg (fl [[.int .u32 cz.nx], [.slice x2.ao x2.no x2.co], [.int .i64 cz.tn], [.int .u32 cz.dl], [.slice x2.ah x2.nh x2.ch]])) (by kernel_rfl) (by kernel_rfl) ?_
        simp only [Act.put, List.setIfInBounds_toArray, List.set_cons_zero, List.set_cons_succ, List.getElem_toArray, List.getElem_cons_zero, List.getElem_cons_succ]
        refine list_val (.agg (fl [[.int .u32 oZ.n], bw oZ.B])) (by kernel_rfl) (by kernel_rfl) ?_
        simp only [Act.put, List.setIfInBounds_toArray, List.set_cons_zero, List.set_cons_succ, List.getElem_toArray, List.getElem_cons_zero, List.getElem_cons_succ]
        refine list_val (.int .i64 4) (by kernel_rfl) (by kernel_rfl) ?_
        simp only [Act.put, List.setIfInBounds_toArray, List.set_cons_zero, List.set_cons_succ, List.getElem_toArray, List.getElem_cons_zero, List.getElem_cons_succ]
        refine list_valw (.pointer (some ⟨u7.heap.size, 0, none⟩)) (u7.alloc (.cells (fl [[.int .u32 0], [.slice none 0 0], [.int .i64 0], [.int .u32 0], [.slice none 0 0]]) 26 (0, 0))) (by kernel_rfl) (by kernel_rfl) ?_
        replace hB := hB.new (fl [[.int .u32 0], [.slice none 0 0], [.int .i64 0], [.int .u32 0], [.slice none 0 0]]) 26
        simp only [List.nil_append, List.cons_append] at hB
        have hg := (Gr.refl u7).alloc (.cells (fl [[.int .u32 0], [.slice none 0 0], [.int .i64 0], [.int .u32 0], [.slice none 0 0]]) 26 (0, 0))
        replace hC1 := hide ((unhide hC1).gr hg)
        replace hCd := hide ((unhide hCd).gr hg)
        clear hg
        generalize World.alloc _ _ = u8 at *
        generalize u7.heap.size = g9 at *
        simp only [Act.put, List.setIfInBounds_toArray, List.set_cons_zero, List.set_cons_succ, List.getElem_toArray, List.getElem_cons_zero, List.getElem_cons_succ]
        have hne10_hC1 := (unhide hC1).newO
        have hne10_hCd := (unhide hCd).newO
        refine list_valw (.pointer (some ⟨u8.heap.size, 0, none⟩)) (u8.alloc (.cells (fl [[.int .u32 0], bw Z105]) 33 (0, 0))) (by kernel_rfl) (by kernel_rfl) ?_
        replace hB := hB.new (fl [[.int .u32 0], bw Z105]) 33
        simp only [List.nil_append, List.cons_append] at hB
        have hg := (Gr.refl u8).alloc (.cells (fl [[.int .u32 0], bw Z105]) 33 (0, 0))
        replace hC1 := hide ((unhide hC1).gr hg)
        replace hCd := hide ((unhide hCd).gr hg)
        clear hg
        generalize World.alloc _ _ = u9 at *
        generalize u8.heap.size = g10 at *
        simp only [Act.put, List.setIfInBounds_toArray, List.set_cons_zero, List.set_cons_succ, List.getElem_toArray, List.getElem_cons_zero, List.getElem_cons_succ]
        have hzz_ : Hid (u9.heap[g9]? = some (.cells (fl [[.int .u32 0], [.slice none 0 0], [.int .i64 0], [.int .u32 0], [.slice none 0 0]]) 26 (0, 0))) := hide (hB.get 2 (x := ⟨g9, fl [[.int .u32 0], [.slice none 0 0], [.int .i64 0], [.int .u32 0], [.slice none 0 0]], 26⟩) rfl)
        refine list_all 26 (.tmp 9) (.tmp 70) (g9) (S2 := [[.int .u32 cz.nx], [.slice x2.ao x2.no x2.co], [.int .i64 cz.tn], [.int .u32 cz.dl], [.slice x2.ah x2.nh x2.ch]]) (by kernel_rfl) rfl (by kernel_rfl) (by kernel_rfl) hB 2 rfl NC (nC  _ _ _ _ _) (nC  _ _ _ _ _) (by kernel_rfl) (oC  rfl rfl rfl rfl rfl) ?_
        intro u10 hB_ hbt_
        clear hB
        replace hB : Bl w [⟨w.heap.size, fl [[.int .u32 d.nx], [.slice x1.ao x1.no x1.co], [.int .i64 d.tn], [.int .u32 d.dl], [.slice x1.ah x1.nh x1.ch]], 26⟩, ⟨g4, fl [[.int .u32 d.nx], [.slice xk.ao xk.no xk.co], [.int .i64 d.tn], [.int .u32 d.dl], [.slice xk.ah xk.nh xk.ch]], 26⟩, ⟨g9, fl [[.int .u32 cz.nx], [.slice x2.ao x2.no x2.co], [.int .i64 cz.tn], [.int .u32 cz.dl], [.slice x2.ah x2.nh x2.ch]], 26⟩, ⟨g10, fl [[.int .u32 0], bw Z105], 33⟩] u10 := hB_
        clear hB_
        replace hC1 := hide ((unhide hC1).bz (unhide hzz_) hbt_)
        replace hCd := hide ((unhide hCd).bz (unhide hzz_) hbt_)
        clear hbt_ hzz_
        simp only [Act.put, List.setIfInBounds_toArray, List.set_cons_zero, List.set_cons_succ, List.getElem_toArray, List.getElem_cons_zero, List.getElem_cons_succ]
        have hzz_ : Hid (u10.heap[g10]? = some (.cells (fl [[.int .u32 0], bw Z105]) 33 (0, 0))) := hide (hB.get 3 (x := ⟨g10, fl [[.int .u32 0], bw Z105], 33⟩) rfl)
        refine list_all 33 (.tmp 10) (.tmp 71) (g10) (S2 := [[.int .u32 oZ.n], bw oZ.B]) (by kernel_rfl) rfl (by kernel_rfl) (by kernel_rfl) hB 3 rfl NO (nO Z105_len _) (nO Z105_len _) (by kernel_rfl) (oO _ rfl) ?_
        intro u11 hB_ hbt_
        clear hB
        replace hB : Bl w [⟨w.heap.size, fl [[.int .u32 d.nx], [.slice x1.ao x1.no x1.co], [.int .i64 d.tn], [.int .u32 d.dl], [.slice x1.ah x1.nh x1.ch]], 26⟩, ⟨g4, fl [[.int .u32 d.nx], [.slice xk.ao xk.no xk.co], [.int .i64 d.tn], [.int .u32 d.dl], [.slice xk.ah xk.nh xk.ch]], 26⟩, ⟨g9, fl [[.int .u32 cz.nx], [.slice x2.ao x2.no x2.co], [.int .i64 cz.tn], [.int .u32 cz.dl], [.slice x2.ah x2.nh x2.ch]], 26⟩, ⟨g10, fl [[.int .u32 oZ.n], bw oZ.B], 33⟩] u11 := hB_
        clear hB_
        replace hC1 := hide ((unhide hC1).bkO (unhide hzz_) hbt_ hne10_hC1)
        replace hCd := hide ((unhide hCd).bkO (unhide hzz_) hbt_ hne10_hCd)
        clear hbt_ hzz_
        simp only [Act.put, List.setIfInBounds_toArray, List.set_cons_zero, List.set_cons_succ, List.getElem_toArray, List.getElem_cons_zero, List.getElem_cons_succ]
        (refine wpList_step fun K hK => ?_; replace hK := hide hK; go_simp; refine unhide hK _ _ ?_; clear hK K)
        refine wpList_nil ?_
        replace hB := hide hB
        go_upto_region 18 with fail
        replace hB := unhide hB
        refine wp_region_lit ?_
        refine wpList_gen fun ops_ hops => ?_
        replace hops := hide hops
        refine list_val (.agg (fl [[.int .u32 d.nx], [.slice x1.ao x1.no x1.co], [.int .i64 d.tn], [.int .u32 d.dl], [.slice x1.ah x1.nh x1.ch]])) (by rw [unhide hops]; kernel_rfl) (exec_sw _ 26 (.tmp 1) rfl (w.heap.size) (by kernel_rfl) (hB.get 0 (x := ⟨w.heap.size, fl [[.int .u32 d.nx], [.slice x1.ao x1.no x1.co], [.int .i64 d.tn], [.int .u32 d.dl], [.slice x1.ah x1.nh x1.ch]], 26⟩) rfl) NC (nC  _ _ _ _ _) Try.underlying26 rfl (by kernel_rfl)) ?_
        simp only [Act.put, List.setIfInBounds_toArray, List.set_cons_zero, List.set_cons_succ, List.getElem_toArray, List.getElem_cons_zero, List.getElem_cons_succ]
        refine list_val (.agg (fl [[.int .u32 d.nx], [.slice xk.ao xk.no xk.co], [.int .i64 d.tn], [.int .u32 d.dl], [.slice xk.ah xk.nh xk.ch]])) (by rw [unhide hops]; kernel_rfl) (exec_sw _ 26 (.tmp 4) rfl (g4) (by kernel_rfl) (hB.get 1 (x := ⟨g4, fl [[.int .u32 d.nx], [.slice xk.ao xk.no xk.co], [.int .i64 d.tn], [.int .u32 d.dl], [.slice xk.ah xk.nh xk.ch]], 26⟩) rfl) NC (nC  _ _ _ _ _) Try.underlying26 rfl (by kernel_rfl)) ?_
        simp only [Act.put, List.setIfInBounds_toArray, List.set_cons_zero, List.set_cons_succ, List.getElem_toArray, List.getElem_cons_zero, List.getElem_cons_succ]
        refine list_call 10 #[.agg (fl [[.int .u32 d.nx], [.slice x1.ao x1.no x1.co], [.int .i64 d.tn], [.int .u32 d.dl], [.slice x1.ah x1.nh x1.ch]]), .agg (fl [[.int .u32 d.nx], [.slice xk.ao xk.no xk.co], [.int .i64 d.tn], [.int .u32 d.dl], [.slice xk.ah xk.nh xk.ch]])] (by rw [unhide hops]; kernel_rfl) (by kernel_rfl) (((show Calls Try.prog 10 #[.agg (fl [[.int .u32 d.nx], [.slice x1.ao x1.no x1.co], [.int .i64 d.tn], [.int .u32 d.dl], [.slice x1.ah x1.nh x1.ch]]), .agg (fl [[.int .u32 d.nx], [.slice xk.ao xk.no xk.co], [.int .i64 d.tn], [.int .u32 d.dl], [.slice xk.ah xk.nh xk.ch]])] u11 (Vl (.bool true) u11) from by have h := same_ok d d x1 xk u11 (unhide hC1).i (unhide hCd).i; rw [decide_eq_true rfl] at h; exact h)).mono ?_)
        rintro r_ u12 ⟨rfl, hg⟩
        replace hC1 := hide ((unhide hC1).gr hg)
        replace hCd := hide ((unhide hCd).gr hg)
        replace hB := hB.more hg
        clear hg
        refine ⟨_, rfl, ?_⟩
        simp only [Act.put, List.setIfInBounds_toArray, List.set_cons_zero, List.set_cons_succ, List.getElem_toArray, List.getElem_cons_zero, List.getElem_cons_succ]
        refine list_val (.bool true) (by rw [unhide hops]; kernel_rfl) (by kernel_rfl) ?_
        simp only [Act.put, List.setIfInBounds_toArray, List.set_cons_zero, List.set_cons_succ, List.getElem_toArray, List.getElem_cons_zero, List.getElem_cons_succ]
        refine list_val (.int .i64 (x1.no : Int)) (by rw [unhide hops]; kernel_rfl) (by kernel_rfl) ?_
        simp only [Act.put, List.setIfInBounds_toArray, List.set_cons_zero, List.set_cons_succ, List.getElem_toArray, List.getElem_cons_zero, List.getElem_cons_succ]
        refine list_val (.bool false) (by rw [unhide hops]; kernel_rfl) (gtr_i _ (.tmp 77) (.const (.int .i64 0)) (x1.no : Int) 0 false rfl (by kernel_rfl) (by kernel_rfl) (decide_eq_false (by have := unhide hx0; omega))) ?_
        simp only [Act.put, List.setIfInBounds_toArray, List.set_cons_zero, List.set_cons_succ, List.getElem_toArray, List.getElem_cons_zero, List.getElem_cons_succ]
        refine list_val (.int .i64 4) (by rw [unhide hops]; kernel_rfl) (by kernel_rfl) ?_
        simp only [Act.put, List.setIfInBounds_toArray, List.set_cons_zero, List.set_cons_succ, List.getElem_toArray, List.getElem_cons_zero, List.getElem_cons_succ]
        refine list_val (.bool false) (by rw [unhide hops]; kernel_rfl) (eql_e _ (.tmp 79) (.const (.int .i64 0)) 4 0 false rfl (by kernel_rfl) (by kernel_rfl) (by decide)) ?_
        simp only [Act.put, List.setIfInBounds_toArray, List.set_cons_zero, List.set_cons_succ, List.getElem_toArray, List.getElem_cons_zero, List.getElem_cons_succ]
        refine list_val (.bool true) (by rw [unhide hops]; kernel_rfl) (by kernel_rfl) ?_
        simp only [Act.put, List.setIfInBounds_toArray, List.set_cons_zero, List.set_cons_succ, List.getElem_toArray, List.getElem_cons_zero, List.getElem_cons_succ]
        refine list_val (.bool true) (by rw [unhide hops]; kernel_rfl) (by kernel_rfl) ?_
        simp only [Act.put, List.setIfInBounds_toArray, List.set_cons_zero, List.set_cons_succ, List.getElem_toArray, List.getElem_cons_zero, List.getElem_cons_succ]
        (refine wpList_step fun K hK => ?_; replace hK := hide hK; go_simp; refine unhide hK _ _ ?_; clear hK K)
        refine wpList_nil ?_
        replace hB := hide hB
        go_wp2_with fail
        replace hB := unhide hB
        rw [unhide hT]
        exact (⟨rfl, hB.gr⟩)
      · have hx0 : 0 < x1.no := by omega
        replace hx0 := hide hx0
        have htu := tu_yes (unhide h1) hn0
        obtain ⟨d3, hd3⟩ : ∃ d3, d3 = ({ d with tn := (d.tn + 1) % (d.O.length : Int) } : Cm) := ⟨_, rfl⟩
        obtain ⟨s, hs⟩ : ∃ s, s = d.O.getD d.tn.toNat oZ := ⟨_, rfl⟩
        have hsl : s.B.length = 105 := by
          have h9 : d.tn.toNat < d.O.length := by omega
          rw [hs, show d.O.getD d.tn.toNat oZ = d.O[d.tn.toNat] by simp [List.getD, h9]]
          exact ((unhide hCd).i.o.1 _ (List.getElem_mem h9)).2.1
        rw [← hd3, ← hs] at htu
        clear hd3 hs
        replace hsl := hide hsl; replace htu := hide htu
        replace hB := hide hB
        go_upto_region 17 with fail
        replace hB := unhide hB
        refine wp_region_lit ?_
        refine list_val (.agg (fl [[.int .u32 d.nx], [.slice xk.ao xk.no xk.co], [.int .i64 d.tn], [.int .u32 d.dl], [.slice xk.ah xk.nh xk.ch]])) (by kernel_rfl) (exec_sw _ 26 (.tmp 4) rfl (g4) (by kernel_rfl) (hB.get 1 (x := ⟨g4, fl [[.int .u32 d.nx], [.slice xk.ao xk.no xk.co], [.int .i64 d.tn], [.int .u32 d.dl], [.slice xk.ah xk.nh xk.ch]], 26⟩) rfl) NC (nC  _ _ _ _ _) Try.underlying26 rfl (by kernel_rfl)) ?_
        simp only [Act.put, List.setIfInBounds_toArray, List.set_cons_zero, List.set_cons_succ, List.getElem_toArray, List.getElem_cons_zero, List.getElem_cons_succ]
        refine list_call 9 #[.agg (fl [[.int .u32 d.nx], [.slice xk.ao xk.no xk.co], [.int .i64 d.tn], [.int .u32 d.dl], [.slice xk.ah xk.nh xk.ch]])] (by kernel_rfl) (by kernel_rfl) (((show Calls Try.prog 9 #[.agg (fl [[.int .u32 d.nx], [.slice xk.ao xk.no xk.co], [.int .i64 d.tn], [.int .u32 d.dl], [.slice xk.ah xk.nh xk.ch]])] wr (Rc d3 [.agg (fl [[.int .u32 s.n], bw s.B]), .int .i64 0] wr) from by have h := turn_ok d xk wr (unhide hCd).i; rw [unhide htu] at h; exact h)).mono ?_)
        rintro r_ u7 ⟨x2, rfl, hc2, ho2, hg⟩
        replace hC1 := hide ((unhide hC1).gr hg)
        replace hCd := hide ((unhide hCd).gr hg)
        replace hB := hB.more hg
        clear hg
        clear hc2 ho2
        refine ⟨_, rfl, ?_⟩
        simp only [Act.put, List.setIfInBounds_toArray, List.set_cons_zero, List.set_cons_succ, List.getElem_toArray, List.getElem_cons_zero, List.getElem_cons_succ]
        refine list_val (.tuple #[.agg (fl [[.int .u32 d3.nx], [.slice x2.ao x2.no x2.co], [.int .i64 d3.tn], [.int .u32 d3.dl], [.slice x2.ah x2.nh x2.ch]]), .agg (fl [[.int .u32 s.n], bw s.B]), .int .i64 0]) (by kernel_rfl) (by kernel_rfl) ?_
        simp only [Act.put, List.setIfInBounds_toArray, List.set_cons_zero, List.set_cons_succ, List.getElem_toArray, List.getElem_cons_zero, List.getElem_cons_succ]
        refine list_val (.agg (fl [[.int .u32 d3.nx], [.slice x2.ao x2.no x2.co], [.int .i64 d3.tn], [.int .u32 d3.dl], [.slice x2.ah x2.nh x2.ch]])) (by kernel_rfl) (by kernel_rfl) ?_
        simp only [Act.put, List.setIfInBounds_toArray, List.set_cons_zero, List.set_cons_succ, List.getElem_toArray, List.getElem_cons_zero, List.getElem_cons_succ]
        refine list_val (.agg (fl [[.int .u32 s.n], bw s.B])) (by kernel_rfl) (by kernel_rfl) ?_
        simp only [Act.put, List.setIfInBounds_toArray, List.set_cons_zero, List.set_cons_succ, List.getElem_toArray, List.getElem_cons_zero, List.getElem_cons_succ]
        refine list_val (.int .i64 0) (by kernel_rfl) (by kernel_rfl) ?_
        simp only [Act.put, List.setIfInBounds_toArray, List.set_cons_zero, List.set_cons_succ, List.getElem_toArray, List.getElem_cons_zero, List.getElem_cons_succ]
        refine list_valw (.pointer (some ⟨u7.heap.size, 0, none⟩)) (u7.alloc (.cells (fl [[.int .u32 0], [.slice none 0 0], [.int .i64 0], [.int .u32 0], [.slice none 0 0]]) 26 (0, 0))) (by kernel_rfl) (by kernel_rfl) ?_
        replace hB := hB.new (fl [[.int .u32 0], [.slice none 0 0], [.int .i64 0], [.int .u32 0], [.slice none 0 0]]) 26
        simp only [List.nil_append, List.cons_append] at hB
        have hg := (Gr.refl u7).alloc (.cells (fl [[.int .u32 0], [.slice none 0 0], [.int .i64 0], [.int .u32 0], [.slice none 0 0]]) 26 (0, 0))
        replace hC1 := hide ((unhide hC1).gr hg)
        replace hCd := hide ((unhide hCd).gr hg)
        clear hg
        generalize World.alloc _ _ = u8 at *
        generalize u7.heap.size = g9 at *
        simp only [Act.put, List.setIfInBounds_toArray, List.set_cons_zero, List.set_cons_succ, List.getElem_toArray, List.getElem_cons_zero, List.getElem_cons_succ]
        have hne10_hC1 := (unhide hC1).newO
        have hne10_hCd := (unhide hCd).newO
        refine list_valw (.pointer (some ⟨u8.heap.size, 0, none⟩)) (u8.alloc (.cells (fl [[.int .u32 0], bw Z105]) 33 (0, 0))) (by kernel_rfl) (by kernel_rfl) ?_
        replace hB := hB.new (fl [[.int .u32 0], bw Z105]) 33
        simp only [List.nil_append, List.cons_append] at hB
        have hg := (Gr.refl u8).alloc (.cells (fl [[.int .u32 0], bw Z105]) 33 (0, 0))
        replace hC1 := hide ((unhide hC1).gr hg)
        replace hCd := hide ((unhide hCd).gr hg)
        clear hg
        generalize World.alloc _ _ = u9 at *
        generalize u8.heap.size = g10 at *
        simp only [Act.put, List.setIfInBounds_toArray, List.set_cons_zero, List.set_cons_succ, List.getElem_toArray, List.getElem_cons_zero, List.getElem_cons_succ]
        have hzz_ : Hid (u9.heap[g9]? = some (.cells (fl [[.int .u32 0], [.slice none 0 0], [.int .i64 0], [.int .u32 0], [.slice none 0 0]]) 26 (0, 0))) := hide (hB.get 2 (x := ⟨g9, fl [[.int .u32 0], [.slice none 0 0], [.int .i64 0], [.int .u32 0], [.slice none 0 0]], 26⟩) rfl)
        refine list_all 26 (.tmp 9) (.tmp 70) (g9) (S2 := [[.int .u32 d3.nx], [.slice x2.ao x2.no x2.co], [.int .i64 d3.tn], [.int .u32 d3.dl], [.slice x2.ah x2.nh x2.ch]]) (by kernel_rfl) rfl (by kernel_rfl) (by kernel_rfl) hB 2 rfl NC (nC  _ _ _ _ _) (nC  _ _ _ _ _) (by kernel_rfl) (oC  rfl rfl rfl rfl rfl) ?_
        intro u10 hB_ hbt_
        clear hB
        replace hB : Bl w [⟨w.heap.size, fl [[.int .u32 d.nx], [.slice x1.ao x1.no x1.co], [.int .i64 d.tn], [.int .u32 d.dl], [.slice x1.ah x1.nh x1.ch]], 26⟩, ⟨g4, fl [[.int .u32 d.nx], [.slice xk.ao xk.no xk.co], [.int .i64 d.tn], [.int .u32 d.dl], [.slice xk.ah xk.nh xk.ch]], 26⟩, ⟨g9, fl [[.int .u32 d3.nx], [.slice x2.ao x2.no x2.co], [.int .i64 d3.tn], [.int .u32 d3.dl], [.slice x2.ah x2.nh x2.ch]], 26⟩, ⟨g10, fl [[.int .u32 0], bw Z105], 33⟩] u10 := hB_
        clear hB_
        replace hC1 := hide ((unhide hC1).bz (unhide hzz_) hbt_)
        replace hCd := hide ((unhide hCd).bz (unhide hzz_) hbt_)
        clear hbt_ hzz_
        simp only [Act.put, List.setIfInBounds_toArray, List.set_cons_zero, List.set_cons_succ, List.getElem_toArray, List.getElem_cons_zero, List.getElem_cons_succ]
        have hzz_ : Hid (u10.heap[g10]? = some (.cells (fl [[.int .u32 0], bw Z105]) 33 (0, 0))) := hide (hB.get 3 (x := ⟨g10, fl [[.int .u32 0], bw Z105], 33⟩) rfl)
        refine list_all 33 (.tmp 10) (.tmp 71) (g10) (S2 := [[.int .u32 s.n], bw s.B]) (by kernel_rfl) rfl (by kernel_rfl) (by kernel_rfl) hB 3 rfl NO (nO Z105_len _) (nO (unhide hsl) _) (by kernel_rfl) (oO _ rfl) ?_
        intro u11 hB_ hbt_
        clear hB
        replace hB : Bl w [⟨w.heap.size, fl [[.int .u32 d.nx], [.slice x1.ao x1.no x1.co], [.int .i64 d.tn], [.int .u32 d.dl], [.slice x1.ah x1.nh x1.ch]], 26⟩, ⟨g4, fl [[.int .u32 d.nx], [.slice xk.ao xk.no xk.co], [.int .i64 d.tn], [.int .u32 d.dl], [.slice xk.ah xk.nh xk.ch]], 26⟩, ⟨g9, fl [[.int .u32 d3.nx], [.slice x2.ao x2.no x2.co], [.int .i64 d3.tn], [.int .u32 d3.dl], [.slice x2.ah x2.nh x2.ch]], 26⟩, ⟨g10, fl [[.int .u32 s.n], bw s.B], 33⟩] u11 := hB_
        clear hB_
        replace hC1 := hide ((unhide hC1).bkO (unhide hzz_) hbt_ hne10_hC1)
        replace hCd := hide ((unhide hCd).bkO (unhide hzz_) hbt_ hne10_hCd)
        clear hbt_ hzz_
        simp only [Act.put, List.setIfInBounds_toArray, List.set_cons_zero, List.set_cons_succ, List.getElem_toArray, List.getElem_cons_zero, List.getElem_cons_succ]
        (refine wpList_step fun K hK => ?_; replace hK := hide hK; go_simp; refine unhide hK _ _ ?_; clear hK K)
        refine wpList_nil ?_
        replace hB := hide hB
        go_upto_region 18 with fail
        replace hB := unhide hB
        refine wp_region_lit ?_
        refine wpList_gen fun ops_ hops => ?_
        replace hops := hide hops
        refine list_val (.agg (fl [[.int .u32 d.nx], [.slice x1.ao x1.no x1.co], [.int .i64 d.tn], [.int .u32 d.dl], [.slice x1.ah x1.nh x1.ch]])) (by rw [unhide hops]; kernel_rfl) (exec_sw _ 26 (.tmp 1) rfl (w.heap.size) (by kernel_rfl) (hB.get 0 (x := ⟨w.heap.size, fl [[.int .u32 d.nx], [.slice x1.ao x1.no x1.co], [.int .i64 d.tn], [.int .u32 d.dl], [.slice x1.ah x1.nh x1.ch]], 26⟩) rfl) NC (nC  _ _ _ _ _) Try.underlying26 rfl (by kernel_rfl)) ?_
        simp only [Act.put, List.setIfInBounds_toArray, List.set_cons_zero, List.set_cons_succ, List.getElem_toArray, List.getElem_cons_zero, List.getElem_cons_succ]
        refine list_val (.agg (fl [[.int .u32 d.nx], [.slice xk.ao xk.no xk.co], [.int .i64 d.tn], [.int .u32 d.dl], [.slice xk.ah xk.nh xk.ch]])) (by rw [unhide hops]; kernel_rfl) (exec_sw _ 26 (.tmp 4) rfl (g4) (by kernel_rfl) (hB.get 1 (x := ⟨g4, fl [[.int .u32 d.nx], [.slice xk.ao xk.no xk.co], [.int .i64 d.tn], [.int .u32 d.dl], [.slice xk.ah xk.nh xk.ch]], 26⟩) rfl) NC (nC  _ _ _ _ _) Try.underlying26 rfl (by kernel_rfl)) ?_
        simp only [Act.put, List.setIfInBounds_toArray, List.set_cons_zero, List.set_cons_succ, List.getElem_toArray, List.getElem_cons_zero, List.getElem_cons_succ]
        refine list_call 10 #[.agg (fl [[.int .u32 d.nx], [.slice x1.ao x1.no x1.co], [.int .i64 d.tn], [.int .u32 d.dl], [.slice x1.ah x1.nh x1.ch]]), .agg (fl [[.int .u32 d.nx], [.slice xk.ao xk.no xk.co], [.int .i64 d.tn], [.int .u32 d.dl], [.slice xk.ah xk.nh xk.ch]])] (by rw [unhide hops]; kernel_rfl) (by kernel_rfl) (((show Calls Try.prog 10 #[.agg (fl [[.int .u32 d.nx], [.slice x1.ao x1.no x1.co], [.int .i64 d.tn], [.int .u32 d.dl], [.slice x1.ah x1.nh x1.ch]]), .agg (fl [[.int .u32 d.nx], [.slice xk.ao xk.no xk.co], [.int .i64 d.tn], [.int .u32 d.dl], [.slice xk.ah xk.nh xk.ch]])] u11 (Vl (.bool true) u11) from by have h := same_ok d d x1 xk u11 (unhide hC1).i (unhide hCd).i; rw [decide_eq_true rfl] at h; exact h)).mono ?_)
        rintro r_ u12 ⟨rfl, hg⟩
        replace hC1 := hide ((unhide hC1).gr hg)
        replace hCd := hide ((unhide hCd).gr hg)
        replace hB := hB.more hg
        clear hg
        refine ⟨_, rfl, ?_⟩
        simp only [Act.put, List.setIfInBounds_toArray, List.set_cons_zero, List.set_cons_succ, List.getElem_toArray, List.getElem_cons_zero, List.getElem_cons_succ]
        refine list_val (.bool true) (by rw [unhide hops]; kernel_rfl) (by kernel_rfl) ?_
        simp only [Act.put, List.setIfInBounds_toArray, List.set_cons_zero, List.set_cons_succ, List.getElem_toArray, List.getElem_cons_zero, List.getElem_cons_succ]
        refine list_val (.int .i64 (x1.no : Int)) (by rw [unhide hops]; kernel_rfl) (by kernel_rfl) ?_
        simp only [Act.put, List.setIfInBounds_toArray, List.set_cons_zero, List.set_cons_succ, List.getElem_toArray, List.getElem_cons_zero, List.getElem_cons_succ]
        refine list_val (.bool true) (by rw [unhide hops]; kernel_rfl) (gtr_i _ (.tmp 77) (.const (.int .i64 0)) (x1.no : Int) 0 true rfl (by kernel_rfl) (by kernel_rfl) (decide_eq_true (by have := unhide hx0; omega))) ?_
        simp only [Act.put, List.setIfInBounds_toArray, List.set_cons_zero, List.set_cons_succ, List.getElem_toArray, List.getElem_cons_zero, List.getElem_cons_succ]
        refine list_val (.int .i64 0) (by rw [unhide hops]; kernel_rfl) (by kernel_rfl) ?_
        simp only [Act.put, List.setIfInBounds_toArray, List.set_cons_zero, List.set_cons_succ, List.getElem_toArray, List.getElem_cons_zero, List.getElem_cons_succ]
        refine list_val (.bool true) (by rw [unhide hops]; kernel_rfl) (eql_e _ (.tmp 79) (.const (.int .i64 0)) 0 0 true rfl (by kernel_rfl) (by kernel_rfl) (by decide)) ?_
        simp only [Act.put, List.setIfInBounds_toArray, List.set_cons_zero, List.set_cons_succ, List.getElem_toArray, List.getElem_cons_zero, List.getElem_cons_succ]
        refine list_val (.bool true) (by rw [unhide hops]; kernel_rfl) (by kernel_rfl) ?_
        simp only [Act.put, List.setIfInBounds_toArray, List.set_cons_zero, List.set_cons_succ, List.getElem_toArray, List.getElem_cons_zero, List.getElem_cons_succ]
        refine list_val (.bool true) (by rw [unhide hops]; kernel_rfl) (by kernel_rfl) ?_
        simp only [Act.put, List.setIfInBounds_toArray, List.set_cons_zero, List.set_cons_succ, List.getElem_toArray, List.getElem_cons_zero, List.getElem_cons_succ]
        (refine wpList_step fun K hK => ?_; replace hK := hide hK; go_simp; refine unhide hK _ _ ?_; clear hK K)
        refine wpList_nil ?_
        replace hB := hide hB
        go_wp2_with fail
        replace hB := unhide hB
        rw [unhide hT]
        exact (⟨rfl, hB.gr⟩)
end Go.Proofs.Ytcefkkoombmndab
