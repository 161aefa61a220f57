/-
  What is acked: the program's Acked and the reference's.
-/
import Derived.Test.YtcefkkoombmndaaUQ
import Derived.Test.YtcefkkoombmndaaUP
namespace Go.Proofs.Ytcefkkoombmndaa
open Go.RowKit
set_option maxRecDepth 100000
set_option linter.unusedSimpArgs false
set_option linter.unusedVariables false
theorem exec_frO {a : Act} {o : Oper} (w : World) (x y : Operand) (ho : o.op = .slice 23 x (some y) none none) (s : Option Addr) (len cap n : Nat) (hx : a.eval x = .slice s len cap) (hy : a.eval y = .int .i64 n) (hc : len ≤ cap) (hn : n ≤ len) :
    (execOp a.eval o).run Try.prog w = .ok (.value (.slice (if cap = n then s else s.map (·.add (n * 106))) (len - n) (cap - n))) w := by
  have h1 : (0 : Int) ≤ n := by omega
  have h2 : (n : Int) ≤ len := by omega
  have hu : Try.prog.underlying 23 = some (.slice (Try.prog.elem 23)) := by kernel_rfl
  have hz : (sizeOf (Try.prog.elem 23)).run Try.prog w = .ok 106 w := by kernel_rfl
  simp [execOp, ho, hx, hy, run_sliceAt_slice _ _ _ _ _ _ hu, run_slice_l _ _ _ _ _ hu _ _ h1 h2, hz, sliced]
theorem exec_frI {a : Act} {o : Oper} (w : World) (x y : Operand) (ho : o.op = .slice 24 x (some y) none none) (s : Option Addr) (len cap n : Nat) (hx : a.eval x = .slice s len cap) (hy : a.eval y = .int .i64 n) (hc : len ≤ cap) (hn : n ≤ len) :
    (execOp a.eval o).run Try.prog w = .ok (.value (.slice (if cap = n then s else s.map (·.add (n * 2))) (len - n) (cap - n))) w := by
  have h1 : (0 : Int) ≤ n := by omega
  have h2 : (n : Int) ≤ len := by omega
  have hu : Try.prog.underlying 24 = some (.slice (Try.prog.elem 24)) := by kernel_rfl
  have hz : (sizeOf (Try.prog.elem 24)).run Try.prog w = .ok 2 w := by kernel_rfl
  simp [execOp, ho, hx, hy, run_sliceAt_slice _ _ _ _ _ _ hu, run_slice_l _ _ _ _ _ hu _ _ h1 h2, hz, sliced]
theorem conv_i64r {a : Act} {o : Oper} (w : World) (x : Operand) (m : Int) (ho : o.op = .convert 22 3 x) (hx : a.eval x = .int .u32 m) (h : 0 ≤ m ∧ m < 4294967296) (r : Int) (hr : m = r) : (execOp a.eval o).run Try.prog w = .ok (.value (.int .i64 r)) w := by
  subst hr
  exact conv_i64 w x m ho hx h
/-- where the rest of a list lies -/
def frA (k : Nat) (a : Option Addr) (c n : Nat) : Option Addr := if c = n then a else a.map (·.add (n * k))
theorem frA_some (k p o c n : Nat) (h : n < c) : frA k (some ⟨p, o, none⟩) c n = some ⟨p, o + k * n, none⟩ := by
  unfold frA
  rw [if_neg (by omega), Option.map_some, add_some, Nat.mul_comm]
theorem Lz.from_ {k : Nat} {w : World} {a : Option Addr} {n c : Nat} {R : List (List Value)} (h : Lz k w a n c R) (m : Nat) (hm : m ≤ n) : Lz k w (frA k a c m) (n - m) (c - m) (R.drop m) := by
  have hcap := h.cap
  have hmax := h.max
  refine ⟨by rw [List.length_drop, h.len], fun r hr => h.row r (List.mem_of_mem_drop hr), ?_, by omega, by omega⟩
  by_cases he : m = n
  · left
    exact List.drop_eq_nil_of_le (by rw [h.len, he]; exact Nat.le_refl _)
  · rcases h.sl with h1 | ⟨p, o, rfl, h2⟩
    · left; rw [h1]; simp
    · refine .inr ⟨p, o + k * m, frA_some k p o c m (by omega), fun j x hj => ?_⟩
      have h3 : R.flatten[k * m + j]? = some x := by
        have h4 := List.take_append_drop m R
        rw [← h4, List.flatten_append, List.getElem?_append_right (by
          rw [flat_len _ k (fun r hr => h.row r (List.mem_of_mem_take hr)), List.length_take, h.len, Nat.min_eq_left hm, Nat.mul_comm]
          omega)]
        rw [flat_len _ k (fun r hr => h.row r (List.mem_of_mem_take hr)), List.length_take, h.len, Nat.min_eq_left hm, Nat.mul_comm m k]
        rw [show k * m + j - k * m = j by omega]
        exact hj
      have := h2 (k * m + j) x h3
      rwa [← Nat.add_assoc] at this
theorem Ow.from_ {k : Nat} {e : TypeId} {b : Nat} {w : World} {a : Option Addr} {n c : Nat} (h : Ow k e b w a n) (m : Nat) (hm : m ≤ n) (hc : n ≤ c) : Ow k e b w (frA k a c m) (n - m) := by
  by_cases he : m = n
  · left; omega
  · rcases h with h | ⟨q, o, C, rfl, h2, h3, h4⟩
    · left; omega
    · refine .inr ⟨q, o + k * m, C, frA_some k q o c m (by omega), h2, h3, ?_⟩
      rw [Nat.add_assoc, ← Nat.mul_add, show m + (n - m) = n by omega]
      exact h4
theorem Co.drop {b : Nat} {w : World} {c : Cm} {x : Lc} (h : Co b w c x) (m : Nat) (hm : m ≤ x.no) : Co b w { c with O := c.O.drop m } ⟨frA 106 x.ao x.co m, x.no - m, x.co - m, x.ah, x.nh, x.ch⟩ :=
  ⟨⟨⟨fun s hs => h.i.o.1 s (List.mem_of_mem_drop hs), by have := h.i.o.2.from_ m hm; rwa [← List.map_drop] at this⟩, h.i.h, h.i.nx, h.i.tn, h.i.dl⟩, ⟨h.o.o.from_ m hm h.i.o.2.cap, h.o.h⟩⟩
theorem Co.tn {b : Nat} {w : World} {c : Cm} {x : Lc} (h : Co b w c x) (t : Int) (ht : -9223372036854775808 ≤ t ∧ t < 9223372036854775808) : Co b w { c with tn := t } x := ⟨⟨h.i.o, h.i.h, h.i.nx, ht, h.i.dl⟩, h.o⟩
theorem Own.co {b : Nat} {w : World} {c : Cm} {x : Lc} (h : Own b w c x) (n : Nums c) : Co b w c x := ⟨h.cin n, h.owx⟩
theorem seqs_at : ∀ (L : List Ot) (k : Int) (i : Nat) (s : Ot), seqs k L = true → L[i]? = some s → s.n = k + (i : Int)
  | [], _, _, _, _, h => by simp at h
  | o :: L, k, 0, s, h, hi => by
    simp only [seqs, Bool.and_eq_true, decide_eq_true_eq] at h
    simp only [List.getElem?_cons_zero, Option.some.injEq] at hi
    rw [← hi]
    simpa using h.1
  | o :: L, k, i + 1, s, h, hi => by
    simp only [seqs, Bool.and_eq_true, decide_eq_true_eq] at h
    rw [List.getElem?_cons_succ] at hi
    have := seqs_at L (k + 1) i s h.2 hi
    omega
/-- how many are acked -/
def gk (c : Cm) (n : Int) : Nat := (n - (c.nx - c.O.length)).toNat
def ak (c : Cm) (n : Int) : Cm × Int × Int :=
  if rt c = false then (cz, 0, 281) else if c.nx < n then (cz, 0, 280) else ({ c with O := c.O.drop (gk c n), tn := c.tn - min (gk c n : Int) c.tn }, gk c n, 0)
theorem ak_no {c : Cm} (n : Int) (h : rt c = false) : ak c n = (cz, 0, 281) := by unfold ak; rw [if_pos h]
theorem ak_far {c : Cm} {n : Int} (h : rt c = true) (h2 : c.nx < n) : ak c n = (cz, 0, 280) := by unfold ak; rw [if_neg (by rw [h]; decide), if_pos h2]
theorem ak_yes {c : Cm} {n : Int} (h : rt c = true) (h2 : ¬ c.nx < n) (g : Nat) (hg : gk c n = g) : ak c n = ({ c with O := c.O.drop g, tn := c.tn - min (g : Int) c.tn }, (g : Int), 0) := by unfold ak; rw [if_neg (by rw [h]; decide), if_neg h2, hg]
set_option maxHeartbeats 4000000 in
theorem packed_ok (c : Cm) (x : Lc) (n : Int) (hn9 : 0 ≤ n ∧ n < 4294967296) (w : World) (hc : Cin w c x) : Calls Try.prog 22 #[.agg (fl [[.int .u32 c.nx], [.slice x.ao x.no x.co], [.int .i64 c.tn], [.int .u32 c.dl], [.slice x.ah x.nh x.ch]]), .int .u32 n] w (Rc (ak c n).1 [.int .i64 (ak c n).2.1, .int .i64 (ak c n).2.2] w) := by
  obtain ⟨T, hT⟩ : ∃ T : Ending → World → Prop, T = (Rc (ak c n).1 [.int .i64 (ak c n).2.1, .int .i64 (ak c n).2.2] w) := ⟨_, rfl⟩
  rw [← hT]
  replace hT := hide hT
  have hn := hc.o.len
  have hnx := hc.nx
  replace hc := hide hc
  obtain ⟨A0_, hA0_⟩ : ∃ S_, S_ = fl [[.int .u32 c.nx], [.slice x.ao x.no x.co], [.int .i64 c.tn], [.int .u32 c.dl], [.slice x.ah x.nh x.ch]] := ⟨_, rfl⟩
  rw [← hA0_]
  replace hA0_ := hide hA0_
  go_enter Try.func22, Try.ntmps22
  go_upto_region 1 with fail
  have hB := (((Bl.nil w).new A0_ 26).new (fl [[.int .u32 0], [.slice none 0 0], [.int .i64 0], [.int .u32 0], [.slice none 0 0]]) 26)
  simp only [size_alloc, List.nil_append, List.cons_append] at hB
  rw [unhide hA0_] at hB
  generalize hu_ : World.alloc _ _ = u0
  replace hB : Bl w [⟨w.heap.size, fl [[.int .u32 c.nx], [.slice x.ao x.no x.co], [.int .i64 c.tn], [.int .u32 c.dl], [.slice x.ah x.nh x.ch]], 26⟩, ⟨w.heap.size + 1, fl [[.int .u32 0], [.slice none 0 0], [.int .i64 0], [.int .u32 0], [.slice none 0 0]], 26⟩] u0 := by
    rw [← hu_]
    rw [unhide hA0_]
    exact hB
  clear hu_ hA0_
  cases h1 : rt c with
  | false =>
    have hk := chk_f h1
    have hv := ak_no n h1
    refine wp_region_lit ?_
    refine list_val (.agg (fl [[.int .u32 c.nx], [.slice x.ao x.no x.co], [.int .i64 c.tn], [.int .u32 c.dl], [.slice x.ah x.nh x.ch]])) (by kernel_rfl) (exec_sw _ 26 (.tmp 2) rfl (w.heap.size) (by kernel_rfl) (hB.get 0 (x := ⟨w.heap.size, fl [[.int .u32 c.nx], [.slice x.ao x.no x.co], [.int .i64 c.tn], [.int .u32 c.dl], [.slice x.ah x.nh x.ch]], 26⟩) rfl) NC (nC  _ _ _ _ _) Try.underlying26 rfl (by kernel_rfl)) ?_
    simp only [nrm]
    refine list_call 12 #[.agg (fl [[.int .u32 c.nx], [.slice x.ao x.no x.co], [.int .i64 c.tn], [.int .u32 c.dl], [.slice x.ah x.nh x.ch]])] (by kernel_rfl) (by kernel_rfl) (((show Calls Try.prog 12 #[.agg (fl [[.int .u32 c.nx], [.slice x.ao x.no x.co], [.int .i64 c.tn], [.int .u32 c.dl], [.slice x.ah x.nh x.ch]])] u0 (Vl (.int .i64 281) u0) from hk ▸ check_ok c x u0 ((unhide hc).gr hB.gr))).mono ?_)
    rintro r_ u1 ⟨rfl, hg⟩
    replace hB := hB.more hg
    clear hg
    refine ⟨_, rfl, ?_⟩
    simp only [nrm]
    (refine wpList_step fun K hK => ?_; replace hK := hide hK; go_simp; refine unhide hK _ _ ?_; clear hK K)
    refine wpList_nil ?_
    replace hB := hide hB
    go_upto_region 2 with fail
    replace hB := unhide hB
    refine wp_region_lit ?_
    refine lvk (.int .i64 281) ?_
    simp only [nrm]
    refine list_val (.bool true) (by kernel_rfl) (neq_e _ (.tmp 12) (.const (.int .i64 0)) 281 0 true rfl (by kernel_rfl) (by kernel_rfl) (by decide)) ?_
    simp only [nrm]
    refine wpList_nil ?_
    replace hB := hide hB
    go_upto_region 3 with fail
    replace hB := unhide hB
    refine wp_region_lit ?_
    refine list_val (.agg (fl [[.int .u32 0], [.slice none 0 0], [.int .i64 0], [.int .u32 0], [.slice none 0 0]])) (by kernel_rfl) (bC _ rfl) ?_
    simp only [nrm]
    refine lvk (.int .i64 281) ?_
    simp only [nrm]
    refine list_all 26 (.tmp 4) (.tmp 14) (w.heap.size + 1) (S2 := [[.int .u32 0], [.slice none 0 0], [.int .i64 0], [.int .u32 0], [.slice none 0 0]]) (by kernel_rfl) rfl (by kernel_rfl) (by kernel_rfl) hB 1 rfl NC (nC  _ _ _ _ _) (nC  _ _ _ _ _) (by kernel_rfl) (oC  rfl rfl rfl rfl rfl) ?_
    intro u2 hB_ hbt_
    clear hB
    replace hB : Bl w [⟨w.heap.size, fl [[.int .u32 c.nx], [.slice x.ao x.no x.co], [.int .i64 c.tn], [.int .u32 c.dl], [.slice x.ah x.nh x.ch]], 26⟩, ⟨w.heap.size + 1, fl [[.int .u32 0], [.slice none 0 0], [.int .i64 0], [.int .u32 0], [.slice none 0 0]], 26⟩] u2 := hB_
    clear hB_
    clear hbt_
    simp only [nrm]
    (refine wpList_step fun K hK => ?_; replace hK := hide hK; go_simp; refine unhide hK _ _ ?_; clear hK K)
    (refine wpList_step fun K hK => ?_; replace hK := hide hK; go_simp; refine unhide hK _ _ ?_; clear hK K)
    refine wpList_nil ?_
    replace hB := hide hB
    go_wp2_with fail
    replace hB := unhide hB
    rw [unhide hT]
    rw [hv]
    exact bodyPost_ret (v := .tuple #[.agg (fl [[.int .u32 0], [.slice none 0 0], [.int .i64 0], [.int .u32 0], [.slice none 0 0]]), .int .i64 0, .int .i64 281]) (res3 Try.results22 (rv_cell (by kernel_rfl) (hB.get 1 (x := ⟨w.heap.size + 1, fl [[.int .u32 0], [.slice none 0 0], [.int .i64 0], [.int .u32 0], [.slice none 0 0]], 26⟩) rfl) Try.underlying26 rfl (by rw [fl_size (nC  _ _ _ _ _)]; kernel_rfl)) (rv_tmp (by kernel_rfl)) (rv_tmp (by kernel_rfl))) rfl (⟨xz, rfl, cin_z _, owx_z _ _, hB.gr⟩)
  | true =>
    have hk := chk_t h1
    have hle := rt_le h1
    rw [hn] at hle
    replace h1 := hide h1
    refine wp_region_lit ?_
    refine list_val (.agg (fl [[.int .u32 c.nx], [.slice x.ao x.no x.co], [.int .i64 c.tn], [.int .u32 c.dl], [.slice x.ah x.nh x.ch]])) (by kernel_rfl) (exec_sw _ 26 (.tmp 2) rfl (w.heap.size) (by kernel_rfl) (hB.get 0 (x := ⟨w.heap.size, fl [[.int .u32 c.nx], [.slice x.ao x.no x.co], [.int .i64 c.tn], [.int .u32 c.dl], [.slice x.ah x.nh x.ch]], 26⟩) rfl) NC (nC  _ _ _ _ _) Try.underlying26 rfl (by kernel_rfl)) ?_
    simp only [nrm]
    refine list_call 12 #[.agg (fl [[.int .u32 c.nx], [.slice x.ao x.no x.co], [.int .i64 c.tn], [.int .u32 c.dl], [.slice x.ah x.nh x.ch]])] (by kernel_rfl) (by kernel_rfl) (((show Calls Try.prog 12 #[.agg (fl [[.int .u32 c.nx], [.slice x.ao x.no x.co], [.int .i64 c.tn], [.int .u32 c.dl], [.slice x.ah x.nh x.ch]])] u0 (Vl (.int .i64 0) u0) from hk ▸ check_ok c x u0 ((unhide hc).gr hB.gr))).mono ?_)
    rintro r_ u1 ⟨rfl, hg⟩
    replace hB := hB.more hg
    clear hg
    refine ⟨_, rfl, ?_⟩
    simp only [nrm]
    (refine wpList_step fun K hK => ?_; replace hK := hide hK; go_simp; refine unhide hK _ _ ?_; clear hK K)
    refine wpList_nil ?_
    replace hB := hide hB
    go_upto_region 2 with fail
    replace hB := unhide hB
    refine wp_region_lit ?_
    refine lvk (.int .i64 0) ?_
    simp only [nrm]
    refine list_val (.bool false) (by kernel_rfl) (neq_e _ (.tmp 12) (.const (.int .i64 0)) 0 0 false rfl (by kernel_rfl) (by kernel_rfl) (by decide)) ?_
    simp only [nrm]
    refine wpList_nil ?_
    by_cases h2 : c.nx < n
    · have hv := ak_far (unhide h1) h2
      replace hB := hide hB
      go_upto_region 4 with fail
      replace hB := unhide hB
      refine wp_region_lit ?_
      refine lvk (.int .u32 n) ?_
      simp only [nrm]
      refine lvk (.pointer (some ⟨w.heap.size, 0, none⟩)) ?_
      simp only [nrm]
      refine list_val (.int .u32 c.nx) (by kernel_rfl) (exec_c32 _ (.tmp 17) rfl (w.heap.size) 0 (by kernel_rfl) c.nx (seg_cell (nC  _ _ _ _ _) (hB.get 0 (x := ⟨w.heap.size, fl [[.int .u32 c.nx], [.slice x.ao x.no x.co], [.int .i64 c.tn], [.int .u32 c.dl], [.slice x.ah x.nh x.ch]], 26⟩) rfl) 0 (v := .int .u32 c.nx) rfl rfl)) ?_
      simp only [nrm]
      refine list_val (.bool true) (by kernel_rfl) (gtr_32 _ (.tmp 16) (.tmp 18) n c.nx true rfl (by kernel_rfl) (by kernel_rfl) (decide_eq_true h2)) ?_
      simp only [nrm]
      refine wpList_nil ?_
      replace hB := hide hB
      go_upto_region 5 with fail
      replace hB := unhide hB
      refine wp_region_lit ?_
      refine list_val (.agg (fl [[.int .u32 0], [.slice none 0 0], [.int .i64 0], [.int .u32 0], [.slice none 0 0]])) (by kernel_rfl) (bC _ rfl) ?_
      simp only [nrm]
      refine list_all 26 (.tmp 4) (.tmp 20) (w.heap.size + 1) (S2 := [[.int .u32 0], [.slice none 0 0], [.int .i64 0], [.int .u32 0], [.slice none 0 0]]) (by kernel_rfl) rfl (by kernel_rfl) (by kernel_rfl) hB 1 rfl NC (nC  _ _ _ _ _) (nC  _ _ _ _ _) (by kernel_rfl) (oC  rfl rfl rfl rfl rfl) ?_
      intro u2 hB_ hbt_
      clear hB
      replace hB : Bl w [⟨w.heap.size, fl [[.int .u32 c.nx], [.slice x.ao x.no x.co], [.int .i64 c.tn], [.int .u32 c.dl], [.slice x.ah x.nh x.ch]], 26⟩, ⟨w.heap.size + 1, fl [[.int .u32 0], [.slice none 0 0], [.int .i64 0], [.int .u32 0], [.slice none 0 0]], 26⟩] u2 := hB_
      clear hB_
      clear hbt_
      simp only [nrm]
      (refine wpList_step fun K hK => ?_; replace hK := hide hK; go_simp; refine unhide hK _ _ ?_; clear hK K)
      (refine wpList_step fun K hK => ?_; replace hK := hide hK; go_simp; refine unhide hK _ _ ?_; clear hK K)
      refine wpList_nil ?_
      replace hB := hide hB
      go_wp2_with fail
      replace hB := unhide hB
      rw [unhide hT]
      rw [hv]
      exact bodyPost_ret (v := .tuple #[.agg (fl [[.int .u32 0], [.slice none 0 0], [.int .i64 0], [.int .u32 0], [.slice none 0 0]]), .int .i64 0, .int .i64 280]) (res3 Try.results22 (rv_cell (by kernel_rfl) (hB.get 1 (x := ⟨w.heap.size + 1, fl [[.int .u32 0], [.slice none 0 0], [.int .i64 0], [.int .u32 0], [.slice none 0 0]], 26⟩) rfl) Try.underlying26 rfl (by rw [fl_size (nC  _ _ _ _ _)]; kernel_rfl)) (rv_tmp (by kernel_rfl)) (rv_tmp (by kernel_rfl))) rfl (⟨xz, rfl, cin_z _, owx_z _ _, hB.gr⟩)
    replace hB := hide hB
    go_upto_region 4 with fail
    replace hB := unhide hB
    refine wp_region_lit ?_
    refine lvk (.int .u32 n) ?_
    simp only [nrm]
    refine lvk (.pointer (some ⟨w.heap.size, 0, none⟩)) ?_
    simp only [nrm]
    refine list_val (.int .u32 c.nx) (by kernel_rfl) (exec_c32 _ (.tmp 17) rfl (w.heap.size) 0 (by kernel_rfl) c.nx (seg_cell (nC  _ _ _ _ _) (hB.get 0 (x := ⟨w.heap.size, fl [[.int .u32 c.nx], [.slice x.ao x.no x.co], [.int .i64 c.tn], [.int .u32 c.dl], [.slice x.ah x.nh x.ch]], 26⟩) rfl) 0 (v := .int .u32 c.nx) rfl rfl)) ?_
    simp only [nrm]
    refine list_val (.bool false) (by kernel_rfl) (gtr_32 _ (.tmp 16) (.tmp 18) n c.nx false rfl (by kernel_rfl) (by kernel_rfl) (decide_eq_false h2)) ?_
    simp only [nrm]
    refine wpList_nil ?_
    replace hB := hide hB
    go_upto_region 6 with fail
    replace hB := unhide hB
    refine wp_region_lit ?_
    (refine wpList_step fun K hK => ?_; replace hK := hide hK; go_simp; refine unhide hK _ _ ?_; clear hK K)
    refine wpList_nil ?_
    replace hB := hide hB
    go_upto_region 7 with fail
    replace hB := unhide hB
    refine wp_region_lit ?_
    refine list_val (.agg (fl [[.int .u32 c.nx], [.slice x.ao x.no x.co], [.int .i64 c.tn], [.int .u32 c.dl], [.slice x.ah x.nh x.ch]])) (by kernel_rfl) (exec_sw _ 26 (.tmp 2) rfl (w.heap.size) (by kernel_rfl) (hB.get 0 (x := ⟨w.heap.size, fl [[.int .u32 c.nx], [.slice x.ao x.no x.co], [.int .i64 c.tn], [.int .u32 c.dl], [.slice x.ah x.nh x.ch]], 26⟩) rfl) NC (nC  _ _ _ _ _) Try.underlying26 rfl (by kernel_rfl)) ?_
    simp only [nrm]
    refine list_call 36 #[.agg (fl [[.int .u32 c.nx], [.slice x.ao x.no x.co], [.int .i64 c.tn], [.int .u32 c.dl], [.slice x.ah x.nh x.ch]])] (by kernel_rfl) (by kernel_rfl) ((acked_ok c x u1 ((unhide hc).gr hB.gr) (by omega)).mono ?_)
    rintro r_ u2 ⟨rfl, hg⟩
    replace hB := hB.more hg
    clear hg
    refine ⟨_, rfl, ?_⟩
    simp only [nrm]
    (refine wpList_step fun K hK => ?_; replace hK := hide hK; go_simp; refine unhide hK _ _ ?_; clear hK K)
    refine wpList_nil ?_
    obtain ⟨k0, hk0⟩ : ∃ k, k = c.nx - (x.no : Int) := ⟨_, rfl⟩
    rw [← hk0]
    have hg0 : gk c n = (n - k0).toNat := by unfold gk; rw [hn, hk0]
    have hk1 : 0 ≤ k0 ∧ k0 < 4294967296 := by omega
    have hk2 : n - k0 ≤ (x.no : Int) := by omega
    replace hk0 := hide hk0
    by_cases h3 : k0 < n
    · obtain ⟨g, hg⟩ : ∃ g : Nat, (g : Int) = n - k0 := ⟨(n - k0).toNat, by omega⟩
      have hgn : g ≤ x.no := by omega
      have hv := ak_yes (unhide h1) h2 g (by rw [hg0]; omega)
      replace hv := hide hv; replace hg := hide hg
      replace hB := hide hB
      go_upto_region 8 with fail
      replace hB := unhide hB
      refine wp_region_lit ?_
      refine lvk (.int .u32 n) ?_
      simp only [nrm]
      refine lvk (.int .u32 k0) ?_
      simp only [nrm]
      refine list_val (.bool true) (by kernel_rfl) (gtr_32 _ (.tmp 23) (.tmp 24) n k0 true rfl (by kernel_rfl) (by kernel_rfl) (decide_eq_true h3)) ?_
      simp only [nrm]
      refine wpList_nil ?_
      replace hB := hide hB
      go_upto_region 9 with fail
      replace hB := unhide hB
      refine wp_region_lit ?_
      refine lvk (.int .u32 n) ?_
      simp only [nrm]
      refine lvk (.int .u32 k0) ?_
      simp only [nrm]
      refine list_val (.int .u32 (n - k0)) (by kernel_rfl) (sub_32 _ (.tmp 26) (.tmp 27) n k0 rfl (by kernel_rfl) (by kernel_rfl) _ rfl (by omega)) ?_
      simp only [nrm]
      refine list_val (.int .i64 (g : Int)) (by kernel_rfl) (conv_i64r _ (.tmp 28) (n - k0) rfl (by kernel_rfl) (by omega) _ (unhide hg).symm) ?_
      simp only [nrm]
      (refine wpList_step fun K hK => ?_; replace hK := hide hK; go_simp; refine unhide hK _ _ ?_; clear hK K)
      refine wpList_nil ?_
      replace hB := hide hB
      go_upto_region 10 with fail
      replace hB := unhide hB
      have hb0 : w.heap.size ≤ u2.heap.size := hB.gr.size
      refine wp_region_lit ?_
      refine list_val (.agg (fl [[.int .u32 c.nx], [.slice x.ao x.no x.co], [.int .i64 c.tn], [.int .u32 c.dl], [.slice x.ah x.nh x.ch]])) (by kernel_rfl) (exec_sw _ 26 (.tmp 2) rfl (w.heap.size) (by kernel_rfl) (hB.get 0 (x := ⟨w.heap.size, fl [[.int .u32 c.nx], [.slice x.ao x.no x.co], [.int .i64 c.tn], [.int .u32 c.dl], [.slice x.ah x.nh x.ch]], 26⟩) rfl) NC (nC  _ _ _ _ _) Try.underlying26 rfl (by kernel_rfl)) ?_
      simp only [nrm]
      refine list_call 35 #[.agg (fl [[.int .u32 c.nx], [.slice x.ao x.no x.co], [.int .i64 c.tn], [.int .u32 c.dl], [.slice x.ah x.nh x.ch]])] (by kernel_rfl) (by kernel_rfl) ((copied_ok c x u2 ((unhide hc).gr hB.gr) (by omega) (by rw [← (unhide hc).h.len]; omega)).mono ?_)
      rintro r_ u3 ⟨x1, rfl, hW, hn1, hh1, hg⟩
      replace hB := hB.more hg
      clear hg
      replace hW := hide (Co.mk (hW.cin (unhide hc).nums) (hW.owx.base hb0))
      refine ⟨_, rfl, ?_⟩
      simp only [nrm]
      have hzz_ : Hid (u3.heap[w.heap.size]? = some (.cells (fl [[.int .u32 c.nx], [.slice x.ao x.no x.co], [.int .i64 c.tn], [.int .u32 c.dl], [.slice x.ah x.nh x.ch]]) 26 (0, 0))) := hide (hB.get 0 (x := ⟨w.heap.size, fl [[.int .u32 c.nx], [.slice x.ao x.no x.co], [.int .i64 c.tn], [.int .u32 c.dl], [.slice x.ah x.nh x.ch]], 26⟩) rfl)
      refine list_all 26 (.tmp 2) (.tmp 31) (w.heap.size) (S2 := [[.int .u32 c.nx], [.slice x1.ao x1.no x1.co], [.int .i64 c.tn], [.int .u32 c.dl], [.slice x1.ah x1.nh x1.ch]]) (by kernel_rfl) rfl (by kernel_rfl) (by kernel_rfl) hB 0 rfl NC (nC  _ _ _ _ _) (nC  _ _ _ _ _) (by kernel_rfl) (oC  rfl rfl rfl rfl rfl) ?_
      intro u4 hB_ hbt_
      clear hB
      replace hB : Bl w [⟨w.heap.size, fl [[.int .u32 c.nx], [.slice x1.ao x1.no x1.co], [.int .i64 c.tn], [.int .u32 c.dl], [.slice x1.ah x1.nh x1.ch]], 26⟩, ⟨w.heap.size + 1, fl [[.int .u32 0], [.slice none 0 0], [.int .i64 0], [.int .u32 0], [.slice none 0 0]], 26⟩] u4 := hB_
      clear hB_
      replace hW := hide ((unhide hW).bz (unhide hzz_) hbt_)
      clear hbt_ hzz_
      simp only [nrm]
      refine wpList_nil ?_
      clear hb0
      have hcp := (unhide hW).i.o.2.cap
      have hmx := (unhide hW).i.o.2.max
      replace hB := hide hB
      go_upto_region 11 with fail
      replace hB := unhide hB
      refine wp_region_lit ?_
      refine lvk (.pointer (some ⟨w.heap.size, 1, none⟩)) ?_
      simp only [nrm]
      refine list_val (.slice x1.ao x1.no x1.co) (by kernel_rfl) (exec_csO _ (.tmp 32) rfl (w.heap.size) 1 (by kernel_rfl) x1.ao x1.no x1.co (seg_cell (nC  _ _ _ _ _) (hB.get 0 (x := ⟨w.heap.size, fl [[.int .u32 c.nx], [.slice x1.ao x1.no x1.co], [.int .i64 c.tn], [.int .u32 c.dl], [.slice x1.ah x1.nh x1.ch]], 26⟩) rfl) 1 (v := .slice x1.ao x1.no x1.co) rfl rfl)) ?_
      simp only [nrm]
      refine lvk (.int .i64 (g : Int)) ?_
      simp only [nrm]
      refine list_val (.slice (frA 106 x1.ao x1.co g) (x1.no - g) (x1.co - g)) (by kernel_rfl) (exec_frO _ (.tmp 33) (.tmp 34) rfl x1.ao x1.no x1.co g (by kernel_rfl) (by kernel_rfl) hcp (by omega)) ?_
      simp only [nrm]
      refine lvk (.pointer (some ⟨w.heap.size, 1, none⟩)) ?_
      simp only [nrm]
      have hzz_ : Hid (u4.heap[w.heap.size]? = some (.cells (fl [[.int .u32 c.nx], [.slice x1.ao x1.no x1.co], [.int .i64 c.tn], [.int .u32 c.dl], [.slice x1.ah x1.nh x1.ch]]) 26 (0, 0))) := hide (hB.get 0 (x := ⟨w.heap.size, fl [[.int .u32 c.nx], [.slice x1.ao x1.no x1.co], [.int .i64 c.tn], [.int .u32 c.dl], [.slice x1.ah x1.nh x1.ch]], 26⟩) rfl)
      refine list_csO (.tmp 36) (.tmp 35) (w.heap.size) 1 (frA 106 x1.ao x1.co g) (x1.no - g) (x1.co - g) (by kernel_rfl) rfl (by kernel_rfl) (by kernel_rfl) hB 0 rfl NC (nC  _ _ _ _ _) 1 _ rfl rfl ?_
      intro u5 hB_ hbt_
      clear hB
      replace hB : Bl w [⟨w.heap.size, fl [[.int .u32 c.nx], [.slice (frA 106 x1.ao x1.co g) (x1.no - g) (x1.co - g)], [.int .i64 c.tn], [.int .u32 c.dl], [.slice x1.ah x1.nh x1.ch]], 26⟩, ⟨w.heap.size + 1, fl [[.int .u32 0], [.slice none 0 0], [.int .i64 0], [.int .u32 0], [.slice none 0 0]], 26⟩] u5 := hB_
      clear hB_
      replace hW := hide ((unhide hW).bz (unhide hzz_) hbt_)
      clear hbt_ hzz_
      simp only [nrm]
      refine wpList_nil ?_
      replace hB := hide hB
      go_upto_region 12 with fail
      replace hB := unhide hB
      refine wp_region_lit ?_
      refine lvk (.pointer (some ⟨w.heap.size, 2, none⟩)) ?_
      simp only [nrm]
      refine list_val (.int .i64 c.tn) (by kernel_rfl) (exec_ci _ (.tmp 37) rfl (w.heap.size) 2 (by kernel_rfl) c.tn (seg_cell (nC  _ _ _ _ _) (hB.get 0 (x := ⟨w.heap.size, fl [[.int .u32 c.nx], [.slice (frA 106 x1.ao x1.co g) (x1.no - g) (x1.co - g)], [.int .i64 c.tn], [.int .u32 c.dl], [.slice x1.ah x1.nh x1.ch]], 26⟩) rfl) 2 (v := .int .i64 c.tn) rfl rfl)) ?_
      simp only [nrm]
      refine lvk (.int .i64 (g : Int)) ?_
      simp only [nrm]
      refine lvk (.pointer (some ⟨w.heap.size, 2, none⟩)) ?_
      simp only [nrm]
      refine list_val (.int .i64 c.tn) (by kernel_rfl) (exec_ci _ (.tmp 40) rfl (w.heap.size) 2 (by kernel_rfl) c.tn (seg_cell (nC  _ _ _ _ _) (hB.get 0 (x := ⟨w.heap.size, fl [[.int .u32 c.nx], [.slice (frA 106 x1.ao x1.co g) (x1.no - g) (x1.co - g)], [.int .i64 c.tn], [.int .u32 c.dl], [.slice x1.ah x1.nh x1.ch]], 26⟩) rfl) 2 (v := .int .i64 c.tn) rfl rfl)) ?_
      simp only [nrm]
      refine list_val (.int .i64 (min (g : Int) c.tn)) (by kernel_rfl) (min_i _ (.tmp 39) (.tmp 41) (g : Int) c.tn rfl (by kernel_rfl) (by kernel_rfl) _ rfl) ?_
      simp only [nrm]
      refine list_val (.int .i64 (c.tn - min (g : Int) c.tn)) (by kernel_rfl) (sub_i _ (.tmp 38) (.tmp 42) c.tn (min (g : Int) c.tn) rfl (by kernel_rfl) (by kernel_rfl) _ rfl (by omega)) ?_
      simp only [nrm]
      refine lvk (.pointer (some ⟨w.heap.size, 2, none⟩)) ?_
      simp only [nrm]
      have hzz_ : Hid (u5.heap[w.heap.size]? = some (.cells (fl [[.int .u32 c.nx], [.slice (frA 106 x1.ao x1.co g) (x1.no - g) (x1.co - g)], [.int .i64 c.tn], [.int .u32 c.dl], [.slice x1.ah x1.nh x1.ch]]) 26 (0, 0))) := hide (hB.get 0 (x := ⟨w.heap.size, fl [[.int .u32 c.nx], [.slice (frA 106 x1.ao x1.co g) (x1.no - g) (x1.co - g)], [.int .i64 c.tn], [.int .u32 c.dl], [.slice x1.ah x1.nh x1.ch]], 26⟩) rfl)
      refine list_ci (.tmp 44) (.tmp 43) (w.heap.size) 2 (c.tn - min (g : Int) c.tn) (by kernel_rfl) rfl (by kernel_rfl) (by kernel_rfl) hB 0 rfl NC (nC  _ _ _ _ _) 2 _ rfl rfl ?_
      intro u6 hB_ hbt_
      clear hB
      replace hB : Bl w [⟨w.heap.size, fl [[.int .u32 c.nx], [.slice (frA 106 x1.ao x1.co g) (x1.no - g) (x1.co - g)], [.int .i64 (c.tn - min (g : Int) c.tn)], [.int .u32 c.dl], [.slice x1.ah x1.nh x1.ch]], 26⟩, ⟨w.heap.size + 1, fl [[.int .u32 0], [.slice none 0 0], [.int .i64 0], [.int .u32 0], [.slice none 0 0]], 26⟩] u6 := hB_
      clear hB_
      replace hW := hide ((unhide hW).bz (unhide hzz_) hbt_)
      clear hbt_ hzz_
      simp only [nrm]
      refine wpList_nil ?_
      replace hB := hide hB
      go_upto_region 13 with fail
      replace hB := unhide hB
      refine wp_region_lit ?_
      refine list_val (.agg (fl [[.int .u32 c.nx], [.slice (frA 106 x1.ao x1.co g) (x1.no - g) (x1.co - g)], [.int .i64 (c.tn - min (g : Int) c.tn)], [.int .u32 c.dl], [.slice x1.ah x1.nh x1.ch]])) (by kernel_rfl) (exec_sw _ 26 (.tmp 2) rfl (w.heap.size) (by kernel_rfl) (hB.get 0 (x := ⟨w.heap.size, fl [[.int .u32 c.nx], [.slice (frA 106 x1.ao x1.co g) (x1.no - g) (x1.co - g)], [.int .i64 (c.tn - min (g : Int) c.tn)], [.int .u32 c.dl], [.slice x1.ah x1.nh x1.ch]], 26⟩) rfl) NC (nC  _ _ _ _ _) Try.underlying26 rfl (by kernel_rfl)) ?_
      simp only [nrm]
      refine lvk (.int .i64 (g : Int)) ?_
      simp only [nrm]
      have hzz_ : Hid (u6.heap[w.heap.size + 1]? = some (.cells (fl [[.int .u32 0], [.slice none 0 0], [.int .i64 0], [.int .u32 0], [.slice none 0 0]]) 26 (0, 0))) := hide (hB.get 1 (x := ⟨w.heap.size + 1, fl [[.int .u32 0], [.slice none 0 0], [.int .i64 0], [.int .u32 0], [.slice none 0 0]], 26⟩) rfl)
      refine list_all 26 (.tmp 4) (.tmp 45) (w.heap.size + 1) (S2 := [[.int .u32 c.nx], [.slice (frA 106 x1.ao x1.co g) (x1.no - g) (x1.co - g)], [.int .i64 (c.tn - min (g : Int) c.tn)], [.int .u32 c.dl], [.slice x1.ah x1.nh x1.ch]]) (by kernel_rfl) rfl (by kernel_rfl) (by kernel_rfl) hB 1 rfl NC (nC  _ _ _ _ _) (nC  _ _ _ _ _) (by kernel_rfl) (oC  rfl rfl rfl rfl rfl) ?_
      intro u7 hB_ hbt_
      clear hB
      replace hB : Bl w [⟨w.heap.size, fl [[.int .u32 c.nx], [.slice (frA 106 x1.ao x1.co g) (x1.no - g) (x1.co - g)], [.int .i64 (c.tn - min (g : Int) c.tn)], [.int .u32 c.dl], [.slice x1.ah x1.nh x1.ch]], 26⟩, ⟨w.heap.size + 1, fl [[.int .u32 c.nx], [.slice (frA 106 x1.ao x1.co g) (x1.no - g) (x1.co - g)], [.int .i64 (c.tn - min (g : Int) c.tn)], [.int .u32 c.dl], [.slice x1.ah x1.nh x1.ch]], 26⟩] u7 := hB_
      clear hB_
      replace hW := hide ((unhide hW).bz (unhide hzz_) hbt_)
      clear hbt_ hzz_
      simp only [nrm]
      (refine wpList_step fun K hK => ?_; replace hK := hide hK; go_simp; refine unhide hK _ _ ?_; clear hK K)
      (refine wpList_step fun K hK => ?_; replace hK := hide hK; go_simp; refine unhide hK _ _ ?_; clear hK K)
      refine wpList_nil ?_
      have hD := ((unhide hW).drop g (by omega)).tn (c.tn - min (g : Int) c.tn) (by first | omega | (dsimp only; omega))
      replace hB := hide hB
      go_wp2_with fail
      replace hB := unhide hB
      rw [unhide hT]
      rw [unhide hv]
      exact bodyPost_ret (v := .tuple #[.agg (fl [[.int .u32 c.nx], [.slice (frA 106 x1.ao x1.co g) (x1.no - g) (x1.co - g)], [.int .i64 (c.tn - min (g : Int) c.tn)], [.int .u32 c.dl], [.slice x1.ah x1.nh x1.ch]]), .int .i64 (g : Int), .int .i64 0]) (res3 Try.results22 (rv_cell (by kernel_rfl) (hB.get 1 (x := ⟨w.heap.size + 1, fl [[.int .u32 c.nx], [.slice (frA 106 x1.ao x1.co g) (x1.no - g) (x1.co - g)], [.int .i64 (c.tn - min (g : Int) c.tn)], [.int .u32 c.dl], [.slice x1.ah x1.nh x1.ch]], 26⟩) rfl) Try.underlying26 rfl (by rw [fl_size (nC  _ _ _ _ _)]; kernel_rfl)) (rv_tmp (by kernel_rfl)) (rv_tmp (by kernel_rfl))) rfl (⟨⟨frA 106 x1.ao x1.co g, x1.no - g, x1.co - g, x1.ah, x1.nh, x1.ch⟩, rfl, hD.i, hD.o, hB.gr⟩)
    · obtain ⟨g, hg⟩ : ∃ g : Nat, g = 0 := ⟨0, rfl⟩
      have hgn : g ≤ x.no := by omega
      have hv := ak_yes (unhide h1) h2 g (by rw [hg0]; omega)
      replace hv := hide hv; replace hg := hide hg
      replace hB := hide hB
      go_upto_region 8 with fail
      replace hB := unhide hB
      refine wp_region_lit ?_
      refine lvk (.int .u32 n) ?_
      simp only [nrm]
      refine lvk (.int .u32 k0) ?_
      simp only [nrm]
      refine list_val (.bool false) (by kernel_rfl) (gtr_32 _ (.tmp 23) (.tmp 24) n k0 false rfl (by kernel_rfl) (by kernel_rfl) (decide_eq_false h3)) ?_
      simp only [nrm]
      refine wpList_nil ?_
      have hgz := unhide hg
      subst hgz
      replace hB := hide hB
      go_upto_region 10 with fail
      replace hB := unhide hB
      have hb0 : w.heap.size ≤ u2.heap.size := hB.gr.size
      refine wp_region_lit ?_
      refine list_val (.agg (fl [[.int .u32 c.nx], [.slice x.ao x.no x.co], [.int .i64 c.tn], [.int .u32 c.dl], [.slice x.ah x.nh x.ch]])) (by kernel_rfl) (exec_sw _ 26 (.tmp 2) rfl (w.heap.size) (by kernel_rfl) (hB.get 0 (x := ⟨w.heap.size, fl [[.int .u32 c.nx], [.slice x.ao x.no x.co], [.int .i64 c.tn], [.int .u32 c.dl], [.slice x.ah x.nh x.ch]], 26⟩) rfl) NC (nC  _ _ _ _ _) Try.underlying26 rfl (by kernel_rfl)) ?_
      simp only [nrm]
      refine list_call 35 #[.agg (fl [[.int .u32 c.nx], [.slice x.ao x.no x.co], [.int .i64 c.tn], [.int .u32 c.dl], [.slice x.ah x.nh x.ch]])] (by kernel_rfl) (by kernel_rfl) ((copied_ok c x u2 ((unhide hc).gr hB.gr) (by omega) (by rw [← (unhide hc).h.len]; omega)).mono ?_)
      rintro r_ u3 ⟨x1, rfl, hW, hn1, hh1, hg⟩
      replace hB := hB.more hg
      clear hg
      replace hW := hide (Co.mk (hW.cin (unhide hc).nums) (hW.owx.base hb0))
      refine ⟨_, rfl, ?_⟩
      simp only [nrm]
      have hzz_ : Hid (u3.heap[w.heap.size]? = some (.cells (fl [[.int .u32 c.nx], [.slice x.ao x.no x.co], [.int .i64 c.tn], [.int .u32 c.dl], [.slice x.ah x.nh x.ch]]) 26 (0, 0))) := hide (hB.get 0 (x := ⟨w.heap.size, fl [[.int .u32 c.nx], [.slice x.ao x.no x.co], [.int .i64 c.tn], [.int .u32 c.dl], [.slice x.ah x.nh x.ch]], 26⟩) rfl)
      refine list_all 26 (.tmp 2) (.tmp 31) (w.heap.size) (S2 := [[.int .u32 c.nx], [.slice x1.ao x1.no x1.co], [.int .i64 c.tn], [.int .u32 c.dl], [.slice x1.ah x1.nh x1.ch]]) (by kernel_rfl) rfl (by kernel_rfl) (by kernel_rfl) hB 0 rfl NC (nC  _ _ _ _ _) (nC  _ _ _ _ _) (by kernel_rfl) (oC  rfl rfl rfl rfl rfl) ?_
      intro u4 hB_ hbt_
      clear hB
      replace hB : Bl w [⟨w.heap.size, fl [[.int .u32 c.nx], [.slice x1.ao x1.no x1.co], [.int .i64 c.tn], [.int .u32 c.dl], [.slice x1.ah x1.nh x1.ch]], 26⟩, ⟨w.heap.size + 1, fl [[.int .u32 0], [.slice none 0 0], [.int .i64 0], [.int .u32 0], [.slice none 0 0]], 26⟩] u4 := hB_
      clear hB_
      replace hW := hide ((unhide hW).bz (unhide hzz_) hbt_)
      clear hbt_ hzz_
      simp only [nrm]
      refine wpList_nil ?_
      clear hb0
      have hcp := (unhide hW).i.o.2.cap
      have hmx := (unhide hW).i.o.2.max
      replace hB := hide hB
      go_upto_region 11 with fail
      replace hB := unhide hB
      refine wp_region_lit ?_
      refine lvk (.pointer (some ⟨w.heap.size, 1, none⟩)) ?_
      simp only [nrm]
      refine list_val (.slice x1.ao x1.no x1.co) (by kernel_rfl) (exec_csO _ (.tmp 32) rfl (w.heap.size) 1 (by kernel_rfl) x1.ao x1.no x1.co (seg_cell (nC  _ _ _ _ _) (hB.get 0 (x := ⟨w.heap.size, fl [[.int .u32 c.nx], [.slice x1.ao x1.no x1.co], [.int .i64 c.tn], [.int .u32 c.dl], [.slice x1.ah x1.nh x1.ch]], 26⟩) rfl) 1 (v := .slice x1.ao x1.no x1.co) rfl rfl)) ?_
      simp only [nrm]
      refine lvk (.int .i64 0) ?_
      simp only [nrm]
      refine list_val (.slice (frA 106 x1.ao x1.co 0) (x1.no - 0) (x1.co - 0)) (by kernel_rfl) (exec_frO _ (.tmp 33) (.tmp 34) rfl x1.ao x1.no x1.co 0 (by kernel_rfl) (by kernel_rfl) hcp (by omega)) ?_
      simp only [nrm]
      refine lvk (.pointer (some ⟨w.heap.size, 1, none⟩)) ?_
      simp only [nrm]
      have hzz_ : Hid (u4.heap[w.heap.size]? = some (.cells (fl [[.int .u32 c.nx], [.slice x1.ao x1.no x1.co], [.int .i64 c.tn], [.int .u32 c.dl], [.slice x1.ah x1.nh x1.ch]]) 26 (0, 0))) := hide (hB.get 0 (x := ⟨w.heap.size, fl [[.int .u32 c.nx], [.slice x1.ao x1.no x1.co], [.int .i64 c.tn], [.int .u32 c.dl], [.slice x1.ah x1.nh x1.ch]], 26⟩) rfl)
      refine list_csO (.tmp 36) (.tmp 35) (w.heap.size) 1 (frA 106 x1.ao x1.co 0) (x1.no - 0) (x1.co - 0) (by kernel_rfl) rfl (by kernel_rfl) (by kernel_rfl) hB 0 rfl NC (nC  _ _ _ _ _) 1 _ rfl rfl ?_
      intro u5 hB_ hbt_
      clear hB
      replace hB : Bl w [⟨w.heap.size, fl [[.int .u32 c.nx], [.slice (frA 106 x1.ao x1.co 0) (x1.no - 0) (x1.co - 0)], [.int .i64 c.tn], [.int .u32 c.dl], [.slice x1.ah x1.nh x1.ch]], 26⟩, ⟨w.heap.size + 1, fl [[.int .u32 0], [.slice none 0 0], [.int .i64 0], [.int .u32 0], [.slice none 0 0]], 26⟩] u5 := hB_
      clear hB_
      replace hW := hide ((unhide hW).bz (unhide hzz_) hbt_)
      clear hbt_ hzz_
      simp only [nrm]
      refine wpList_nil ?_
      replace hB := hide hB
      go_upto_region 12 with fail
      replace hB := unhide hB
      refine wp_region_lit ?_
      refine lvk (.pointer (some ⟨w.heap.size, 2, none⟩)) ?_
      simp only [nrm]
      refine list_val (.int .i64 c.tn) (by kernel_rfl) (exec_ci _ (.tmp 37) rfl (w.heap.size) 2 (by kernel_rfl) c.tn (seg_cell (nC  _ _ _ _ _) (hB.get 0 (x := ⟨w.heap.size, fl [[.int .u32 c.nx], [.slice (frA 106 x1.ao x1.co 0) (x1.no - 0) (x1.co - 0)], [.int .i64 c.tn], [.int .u32 c.dl], [.slice x1.ah x1.nh x1.ch]], 26⟩) rfl) 2 (v := .int .i64 c.tn) rfl rfl)) ?_
      simp only [nrm]
      refine lvk (.int .i64 0) ?_
      simp only [nrm]
      refine lvk (.pointer (some ⟨w.heap.size, 2, none⟩)) ?_
      simp only [nrm]
      refine list_val (.int .i64 c.tn) (by kernel_rfl) (exec_ci _ (.tmp 40) rfl (w.heap.size) 2 (by kernel_rfl) c.tn (seg_cell (nC  _ _ _ _ _) (hB.get 0 (x := ⟨w.heap.size, fl [[.int .u32 c.nx], [.slice (frA 106 x1.ao x1.co 0) (x1.no - 0) (x1.co - 0)], [.int .i64 c.tn], [.int .u32 c.dl], [.slice x1.ah x1.nh x1.ch]], 26⟩) rfl) 2 (v := .int .i64 c.tn) rfl rfl)) ?_
      simp only [nrm]
      refine list_val (.int .i64 (min (0 : Int) c.tn)) (by kernel_rfl) (min_i _ (.tmp 39) (.tmp 41) (0 : Int) c.tn rfl (by kernel_rfl) (by kernel_rfl) _ rfl) ?_
      simp only [nrm]
      refine list_val (.int .i64 (c.tn - min (0 : Int) c.tn)) (by kernel_rfl) (sub_i _ (.tmp 38) (.tmp 42) c.tn (min (0 : Int) c.tn) rfl (by kernel_rfl) (by kernel_rfl) _ rfl (by omega)) ?_
      simp only [nrm]
      refine lvk (.pointer (some ⟨w.heap.size, 2, none⟩)) ?_
      simp only [nrm]
      have hzz_ : Hid (u5.heap[w.heap.size]? = some (.cells (fl [[.int .u32 c.nx], [.slice (frA 106 x1.ao x1.co 0) (x1.no - 0) (x1.co - 0)], [.int .i64 c.tn], [.int .u32 c.dl], [.slice x1.ah x1.nh x1.ch]]) 26 (0, 0))) := hide (hB.get 0 (x := ⟨w.heap.size, fl [[.int .u32 c.nx], [.slice (frA 106 x1.ao x1.co 0) (x1.no - 0) (x1.co - 0)], [.int .i64 c.tn], [.int .u32 c.dl], [.slice x1.ah x1.nh x1.ch]], 26⟩) rfl)
      refine list_ci (.tmp 44) (.tmp 43) (w.heap.size) 2 (c.tn - min (0 : Int) c.tn) (by kernel_rfl) rfl (by kernel_rfl) (by kernel_rfl) hB 0 rfl NC (nC  _ _ _ _ _) 2 _ rfl rfl ?_
      intro u6 hB_ hbt_
      clear hB
      replace hB : Bl w [⟨w.heap.size, fl [[.int .u32 c.nx], [.slice (frA 106 x1.ao x1.co 0) (x1.no - 0) (x1.co - 0)], [.int .i64 (c.tn - min (0 : Int) c.tn)], [.int .u32 c.dl], [.slice x1.ah x1.nh x1.ch]], 26⟩, ⟨w.heap.size + 1, fl [[.int .u32 0], [.slice none 0 0], [.int .i64 0], [.int .u32 0], [.slice none 0 0]], 26⟩] u6 := hB_
      clear hB_
      replace hW := hide ((unhide hW).bz (unhide hzz_) hbt_)
      clear hbt_ hzz_
      simp only [nrm]
      refine wpList_nil ?_
      replace hB := hide hB
      go_upto_region 13 with fail
      replace hB := unhide hB
      refine wp_region_lit ?_
      refine list_val (.agg (fl [[.int .u32 c.nx], [.slice (frA 106 x1.ao x1.co 0) (x1.no - 0) (x1.co - 0)], [.int .i64 (c.tn - min (0 : Int) c.tn)], [.int .u32 c.dl], [.slice x1.ah x1.nh x1.ch]])) (by kernel_rfl) (exec_sw _ 26 (.tmp 2) rfl (w.heap.size) (by kernel_rfl) (hB.get 0 (x := ⟨w.heap.size, fl [[.int .u32 c.nx], [.slice (frA 106 x1.ao x1.co 0) (x1.no - 0) (x1.co - 0)], [.int .i64 (c.tn - min (0 : Int) c.tn)], [.int .u32 c.dl], [.slice x1.ah x1.nh x1.ch]], 26⟩) rfl) NC (nC  _ _ _ _ _) Try.underlying26 rfl (by kernel_rfl)) ?_
      simp only [nrm]
      refine lvk (.int .i64 0) ?_
      simp only [nrm]
      have hzz_ : Hid (u6.heap[w.heap.size + 1]? = some (.cells (fl [[.int .u32 0], [.slice none 0 0], [.int .i64 0], [.int .u32 0], [.slice none 0 0]]) 26 (0, 0))) := hide (hB.get 1 (x := ⟨w.heap.size + 1, fl [[.int .u32 0], [.slice none 0 0], [.int .i64 0], [.int .u32 0], [.slice none 0 0]], 26⟩) rfl)
      refine list_all 26 (.tmp 4) (.tmp 45) (w.heap.size + 1) (S2 := [[.int .u32 c.nx], [.slice (frA 106 x1.ao x1.co 0) (x1.no - 0) (x1.co - 0)], [.int .i64 (c.tn - min (0 : Int) c.tn)], [.int .u32 c.dl], [.slice x1.ah x1.nh x1.ch]]) (by kernel_rfl) rfl (by kernel_rfl) (by kernel_rfl) hB 1 rfl NC (nC  _ _ _ _ _) (nC  _ _ _ _ _) (by kernel_rfl) (oC  rfl rfl rfl rfl rfl) ?_
      intro u7 hB_ hbt_
      clear hB
      replace hB : Bl w [⟨w.heap.size, fl [[.int .u32 c.nx], [.slice (frA 106 x1.ao x1.co 0) (x1.no - 0) (x1.co - 0)], [.int .i64 (c.tn - min (0 : Int) c.tn)], [.int .u32 c.dl], [.slice x1.ah x1.nh x1.ch]], 26⟩, ⟨w.heap.size + 1, fl [[.int .u32 c.nx], [.slice (frA 106 x1.ao x1.co 0) (x1.no - 0) (x1.co - 0)], [.int .i64 (c.tn - min (0 : Int) c.tn)], [.int .u32 c.dl], [.slice x1.ah x1.nh x1.ch]], 26⟩] u7 := hB_
      clear hB_
      replace hW := hide ((unhide hW).bz (unhide hzz_) hbt_)
      clear hbt_ hzz_
      simp only [nrm]
      (refine wpList_step fun K hK => ?_; replace hK := hide hK; go_simp; refine unhide hK _ _ ?_; clear hK K)
      (refine wpList_step fun K hK => ?_; replace hK := hide hK; go_simp; refine unhide hK _ _ ?_; clear hK K)
      refine wpList_nil ?_
      have hD := ((unhide hW).drop 0 (by omega)).tn (c.tn - min (0 : Int) c.tn) (by first | omega | (dsimp only; omega))
      replace hB := hide hB
      go_wp2_with fail
      replace hB := unhide hB
      rw [unhide hT]
      rw [unhide hv]
      exact bodyPost_ret (v := .tuple #[.agg (fl [[.int .u32 c.nx], [.slice (frA 106 x1.ao x1.co 0) (x1.no - 0) (x1.co - 0)], [.int .i64 (c.tn - min (0 : Int) c.tn)], [.int .u32 c.dl], [.slice x1.ah x1.nh x1.ch]]), .int .i64 0, .int .i64 0]) (res3 Try.results22 (rv_cell (by kernel_rfl) (hB.get 1 (x := ⟨w.heap.size + 1, fl [[.int .u32 c.nx], [.slice (frA 106 x1.ao x1.co 0) (x1.no - 0) (x1.co - 0)], [.int .i64 (c.tn - min (0 : Int) c.tn)], [.int .u32 c.dl], [.slice x1.ah x1.nh x1.ch]], 26⟩) rfl) Try.underlying26 rfl (by rw [fl_size (nC  _ _ _ _ _)]; kernel_rfl)) (rv_tmp (by kernel_rfl)) (rv_tmp (by kernel_rfl))) rfl (⟨⟨frA 106 x1.ao x1.co 0, x1.no - 0, x1.co - 0, x1.ah, x1.nh, x1.ch⟩, rfl, hD.i, hD.o, hB.gr⟩)
set_option maxHeartbeats 4000000 in
theorem racked_ok (c : Cm) (x : Lc) (n : Int) (hn9 : 0 ≤ n ∧ n < 4294967296) (w : World) (hc : Cin w c x) : Calls Try.prog 21 #[.agg (fl [[.int .u32 c.nx], [.slice x.ao x.no x.co], [.int .i64 c.tn], [.int .u32 c.dl], [.slice x.ah x.nh x.ch]]), .int .u32 n] w (Rc (ak c n).1 [.int .i64 (ak c n).2.1, .int .i64 (ak c n).2.2] w) := by
  obtain ⟨T, hT⟩ : ∃ T : Ending → World → Prop, T = (Rc (ak c n).1 [.int .i64 (ak c n).2.1, .int .i64 (ak c n).2.2] w) := ⟨_, rfl⟩
  rw [← hT]
  replace hT := hide hT
  have hn := hc.o.len
  have hnx := hc.nx
  replace hc := hide hc
  obtain ⟨A0_, hA0_⟩ : ∃ S_, S_ = fl [[.int .u32 c.nx], [.slice x.ao x.no x.co], [.int .i64 c.tn], [.int .u32 c.dl], [.slice x.ah x.nh x.ch]] := ⟨_, rfl⟩
  rw [← hA0_]
  replace hA0_ := hide hA0_
  go_enter Try.func21, Try.ntmps21
  go_upto_region 1 with fail
  have hB := (((Bl.nil w).new A0_ 26).new (fl [[.int .u32 0], [.slice none 0 0], [.int .i64 0], [.int .u32 0], [.slice none 0 0]]) 26)
  simp only [size_alloc, List.nil_append, List.cons_append] at hB
  rw [unhide hA0_] at hB
  generalize hu_ : World.alloc _ _ = u0
  replace hB : Bl w [⟨w.heap.size, fl [[.int .u32 c.nx], [.slice x.ao x.no x.co], [.int .i64 c.tn], [.int .u32 c.dl], [.slice x.ah x.nh x.ch]], 26⟩, ⟨w.heap.size + 1, fl [[.int .u32 0], [.slice none 0 0], [.int .i64 0], [.int .u32 0], [.slice none 0 0]], 26⟩] u0 := by
    rw [← hu_]
    rw [unhide hA0_]
    exact hB
  clear hu_ hA0_
  cases h1 : rt c with
  | false =>
    have hv := ak_no n h1
    refine wp_region_lit ?_
    refine list_val (.agg (fl [[.int .u32 c.nx], [.slice x.ao x.no x.co], [.int .i64 c.tn], [.int .u32 c.dl], [.slice x.ah x.nh x.ch]])) (by kernel_rfl) (exec_sw _ 26 (.tmp 2) rfl (w.heap.size) (by kernel_rfl) (hB.get 0 (x := ⟨w.heap.size, fl [[.int .u32 c.nx], [.slice x.ao x.no x.co], [.int .i64 c.tn], [.int .u32 c.dl], [.slice x.ah x.nh x.ch]], 26⟩) rfl) NC (nC  _ _ _ _ _) Try.underlying26 rfl (by kernel_rfl)) ?_
    simp only [nrm]
    refine list_call 13 #[.agg (fl [[.int .u32 c.nx], [.slice x.ao x.no x.co], [.int .i64 c.tn], [.int .u32 c.dl], [.slice x.ah x.nh x.ch]])] (by kernel_rfl) (by kernel_rfl) (((show Calls Try.prog 13 #[.agg (fl [[.int .u32 c.nx], [.slice x.ao x.no x.co], [.int .i64 c.tn], [.int .u32 c.dl], [.slice x.ah x.nh x.ch]])] u0 (Vl (.bool false) u0) from h1 ▸ right_ok c x u0 ((unhide hc).gr hB.gr))).mono ?_)
    rintro r_ u1 ⟨rfl, hg⟩
    replace hB := hB.more hg
    clear hg
    refine ⟨_, rfl, ?_⟩
    simp only [nrm]
    refine lvk (.bool true) ?_
    simp only [nrm]
    refine wpList_nil ?_
    replace hB := hide hB
    go_upto_region 2 with fail
    replace hB := unhide hB
    refine wp_region_lit ?_
    refine list_val (.agg (fl [[.int .u32 0], [.slice none 0 0], [.int .i64 0], [.int .u32 0], [.slice none 0 0]])) (by kernel_rfl) (bC _ rfl) ?_
    simp only [nrm]
    refine list_all 26 (.tmp 4) (.tmp 11) (w.heap.size + 1) (S2 := [[.int .u32 0], [.slice none 0 0], [.int .i64 0], [.int .u32 0], [.slice none 0 0]]) (by kernel_rfl) rfl (by kernel_rfl) (by kernel_rfl) hB 1 rfl NC (nC  _ _ _ _ _) (nC  _ _ _ _ _) (by kernel_rfl) (oC  rfl rfl rfl rfl rfl) ?_
    intro u2 hB_ hbt_
    clear hB
    replace hB : Bl w [⟨w.heap.size, fl [[.int .u32 c.nx], [.slice x.ao x.no x.co], [.int .i64 c.tn], [.int .u32 c.dl], [.slice x.ah x.nh x.ch]], 26⟩, ⟨w.heap.size + 1, fl [[.int .u32 0], [.slice none 0 0], [.int .i64 0], [.int .u32 0], [.slice none 0 0]], 26⟩] u2 := hB_
    clear hB_
    clear hbt_
    simp only [nrm]
    (refine wpList_step fun K hK => ?_; replace hK := hide hK; go_simp; refine unhide hK _ _ ?_; clear hK K)
    (refine wpList_step fun K hK => ?_; replace hK := hide hK; go_simp; refine unhide hK _ _ ?_; clear hK K)
    refine wpList_nil ?_
    replace hB := hide hB
    go_wp2_with fail
    replace hB := unhide hB
    rw [unhide hT]
    rw [hv]
    exact bodyPost_ret (v := .tuple #[.agg (fl [[.int .u32 0], [.slice none 0 0], [.int .i64 0], [.int .u32 0], [.slice none 0 0]]), .int .i64 0, .int .i64 281]) (res3 Try.results21 (rv_cell (by kernel_rfl) (hB.get 1 (x := ⟨w.heap.size + 1, fl [[.int .u32 0], [.slice none 0 0], [.int .i64 0], [.int .u32 0], [.slice none 0 0]], 26⟩) rfl) Try.underlying26 rfl (by rw [fl_size (nC  _ _ _ _ _)]; kernel_rfl)) (rv_tmp (by kernel_rfl)) (rv_tmp (by kernel_rfl))) rfl (⟨xz, rfl, cin_z _, owx_z _ _, hB.gr⟩)
  | true =>
    have hle := rt_le h1
    rw [hn] at hle
    replace h1 := hide h1
    refine wp_region_lit ?_
    refine list_val (.agg (fl [[.int .u32 c.nx], [.slice x.ao x.no x.co], [.int .i64 c.tn], [.int .u32 c.dl], [.slice x.ah x.nh x.ch]])) (by kernel_rfl) (exec_sw _ 26 (.tmp 2) rfl (w.heap.size) (by kernel_rfl) (hB.get 0 (x := ⟨w.heap.size, fl [[.int .u32 c.nx], [.slice x.ao x.no x.co], [.int .i64 c.tn], [.int .u32 c.dl], [.slice x.ah x.nh x.ch]], 26⟩) rfl) NC (nC  _ _ _ _ _) Try.underlying26 rfl (by kernel_rfl)) ?_
    simp only [nrm]
    refine list_call 13 #[.agg (fl [[.int .u32 c.nx], [.slice x.ao x.no x.co], [.int .i64 c.tn], [.int .u32 c.dl], [.slice x.ah x.nh x.ch]])] (by kernel_rfl) (by kernel_rfl) (((show Calls Try.prog 13 #[.agg (fl [[.int .u32 c.nx], [.slice x.ao x.no x.co], [.int .i64 c.tn], [.int .u32 c.dl], [.slice x.ah x.nh x.ch]])] u0 (Vl (.bool true) u0) from unhide h1 ▸ right_ok c x u0 ((unhide hc).gr hB.gr))).mono ?_)
    rintro r_ u1 ⟨rfl, hg⟩
    replace hB := hB.more hg
    clear hg
    refine ⟨_, rfl, ?_⟩
    simp only [nrm]
    refine lvk (.bool false) ?_
    simp only [nrm]
    refine wpList_nil ?_
    by_cases h2 : c.nx < n
    · have hv := ak_far (unhide h1) h2
      replace hB := hide hB
      go_upto_region 3 with fail
      replace hB := unhide hB
      refine wp_region_lit ?_
      refine lvk (.int .u32 n) ?_
      simp only [nrm]
      refine lvk (.pointer (some ⟨w.heap.size, 0, none⟩)) ?_
      simp only [nrm]
      refine list_val (.int .u32 c.nx) (by kernel_rfl) (exec_c32 _ (.tmp 13) rfl (w.heap.size) 0 (by kernel_rfl) c.nx (seg_cell (nC  _ _ _ _ _) (hB.get 0 (x := ⟨w.heap.size, fl [[.int .u32 c.nx], [.slice x.ao x.no x.co], [.int .i64 c.tn], [.int .u32 c.dl], [.slice x.ah x.nh x.ch]], 26⟩) rfl) 0 (v := .int .u32 c.nx) rfl rfl)) ?_
      simp only [nrm]
      refine list_val (.bool true) (by kernel_rfl) (gtr_32 _ (.tmp 12) (.tmp 14) n c.nx true rfl (by kernel_rfl) (by kernel_rfl) (decide_eq_true h2)) ?_
      simp only [nrm]
      refine wpList_nil ?_
      replace hB := hide hB
      go_upto_region 4 with fail
      replace hB := unhide hB
      refine wp_region_lit ?_
      refine list_val (.agg (fl [[.int .u32 0], [.slice none 0 0], [.int .i64 0], [.int .u32 0], [.slice none 0 0]])) (by kernel_rfl) (bC _ rfl) ?_
      simp only [nrm]
      refine list_all 26 (.tmp 4) (.tmp 16) (w.heap.size + 1) (S2 := [[.int .u32 0], [.slice none 0 0], [.int .i64 0], [.int .u32 0], [.slice none 0 0]]) (by kernel_rfl) rfl (by kernel_rfl) (by kernel_rfl) hB 1 rfl NC (nC  _ _ _ _ _) (nC  _ _ _ _ _) (by kernel_rfl) (oC  rfl rfl rfl rfl rfl) ?_
      intro u2 hB_ hbt_
      clear hB
      replace hB : Bl w [⟨w.heap.size, fl [[.int .u32 c.nx], [.slice x.ao x.no x.co], [.int .i64 c.tn], [.int .u32 c.dl], [.slice x.ah x.nh x.ch]], 26⟩, ⟨w.heap.size + 1, fl [[.int .u32 0], [.slice none 0 0], [.int .i64 0], [.int .u32 0], [.slice none 0 0]], 26⟩] u2 := hB_
      clear hB_
      clear hbt_
      simp only [nrm]
      (refine wpList_step fun K hK => ?_; replace hK := hide hK; go_simp; refine unhide hK _ _ ?_; clear hK K)
      (refine wpList_step fun K hK => ?_; replace hK := hide hK; go_simp; refine unhide hK _ _ ?_; clear hK K)
      refine wpList_nil ?_
      replace hB := hide hB
      go_wp2_with fail
      replace hB := unhide hB
      rw [unhide hT]
      rw [hv]
      exact bodyPost_ret (v := .tuple #[.agg (fl [[.int .u32 0], [.slice none 0 0], [.int .i64 0], [.int .u32 0], [.slice none 0 0]]), .int .i64 0, .int .i64 280]) (res3 Try.results21 (rv_cell (by kernel_rfl) (hB.get 1 (x := ⟨w.heap.size + 1, fl [[.int .u32 0], [.slice none 0 0], [.int .i64 0], [.int .u32 0], [.slice none 0 0]], 26⟩) rfl) Try.underlying26 rfl (by rw [fl_size (nC  _ _ _ _ _)]; kernel_rfl)) (rv_tmp (by kernel_rfl)) (rv_tmp (by kernel_rfl))) rfl (⟨xz, rfl, cin_z _, owx_z _ _, hB.gr⟩)
    replace hB := hide hB
    go_upto_region 3 with fail
    replace hB := unhide hB
    refine wp_region_lit ?_
    refine lvk (.int .u32 n) ?_
    simp only [nrm]
    refine lvk (.pointer (some ⟨w.heap.size, 0, none⟩)) ?_
    simp only [nrm]
    refine list_val (.int .u32 c.nx) (by kernel_rfl) (exec_c32 _ (.tmp 13) rfl (w.heap.size) 0 (by kernel_rfl) c.nx (seg_cell (nC  _ _ _ _ _) (hB.get 0 (x := ⟨w.heap.size, fl [[.int .u32 c.nx], [.slice x.ao x.no x.co], [.int .i64 c.tn], [.int .u32 c.dl], [.slice x.ah x.nh x.ch]], 26⟩) rfl) 0 (v := .int .u32 c.nx) rfl rfl)) ?_
    simp only [nrm]
    refine list_val (.bool false) (by kernel_rfl) (gtr_32 _ (.tmp 12) (.tmp 14) n c.nx false rfl (by kernel_rfl) (by kernel_rfl) (decide_eq_false h2)) ?_
    simp only [nrm]
    refine wpList_nil ?_
    replace hB := hide hB
    go_upto_region 5 with fail
    replace hB := unhide hB
    have hb0 : w.heap.size ≤ u1.heap.size := hB.gr.size
    refine wp_region_lit ?_
    refine list_val (.agg (fl [[.int .u32 c.nx], [.slice x.ao x.no x.co], [.int .i64 c.tn], [.int .u32 c.dl], [.slice x.ah x.nh x.ch]])) (by kernel_rfl) (exec_sw _ 26 (.tmp 2) rfl (w.heap.size) (by kernel_rfl) (hB.get 0 (x := ⟨w.heap.size, fl [[.int .u32 c.nx], [.slice x.ao x.no x.co], [.int .i64 c.tn], [.int .u32 c.dl], [.slice x.ah x.nh x.ch]], 26⟩) rfl) NC (nC  _ _ _ _ _) Try.underlying26 rfl (by kernel_rfl)) ?_
    simp only [nrm]
    refine list_call 11 #[.agg (fl [[.int .u32 c.nx], [.slice x.ao x.no x.co], [.int .i64 c.tn], [.int .u32 c.dl], [.slice x.ah x.nh x.ch]])] (by kernel_rfl) (by kernel_rfl) ((rcopy_ok c x u1 ((unhide hc).gr hB.gr) (by omega) (by rw [← (unhide hc).h.len]; omega)).mono ?_)
    rintro r_ u2 ⟨x1, rfl, hW, hn1, hh1, hg⟩
    replace hB := hB.more hg
    clear hg
    replace hW := hide (Co.mk (hW.cin (unhide hc).nums) (hW.owx.base hb0))
    refine ⟨_, rfl, ?_⟩
    simp only [nrm]
    have hzz_ : Hid (u2.heap[w.heap.size]? = some (.cells (fl [[.int .u32 c.nx], [.slice x.ao x.no x.co], [.int .i64 c.tn], [.int .u32 c.dl], [.slice x.ah x.nh x.ch]]) 26 (0, 0))) := hide (hB.get 0 (x := ⟨w.heap.size, fl [[.int .u32 c.nx], [.slice x.ao x.no x.co], [.int .i64 c.tn], [.int .u32 c.dl], [.slice x.ah x.nh x.ch]], 26⟩) rfl)
    refine list_all 26 (.tmp 2) (.tmp 18) (w.heap.size) (S2 := [[.int .u32 c.nx], [.slice x1.ao x1.no x1.co], [.int .i64 c.tn], [.int .u32 c.dl], [.slice x1.ah x1.nh x1.ch]]) (by kernel_rfl) rfl (by kernel_rfl) (by kernel_rfl) hB 0 rfl NC (nC  _ _ _ _ _) (nC  _ _ _ _ _) (by kernel_rfl) (oC  rfl rfl rfl rfl rfl) ?_
    intro u3 hB_ hbt_
    clear hB
    replace hB : Bl w [⟨w.heap.size, fl [[.int .u32 c.nx], [.slice x1.ao x1.no x1.co], [.int .i64 c.tn], [.int .u32 c.dl], [.slice x1.ah x1.nh x1.ch]], 26⟩, ⟨w.heap.size + 1, fl [[.int .u32 0], [.slice none 0 0], [.int .i64 0], [.int .u32 0], [.slice none 0 0]], 26⟩] u3 := hB_
    clear hB_
    replace hW := hide ((unhide hW).bz (unhide hzz_) hbt_)
    clear hbt_ hzz_
    simp only [nrm]
    refine wpList_nil ?_
    clear hb0
    replace hB := hide hB
    go_upto_region 6 with fail
    replace hB := unhide hB
    refine wp_region_lit ?_
    (refine wpList_step fun K hK => ?_; replace hK := hide hK; go_simp; refine unhide hK _ _ ?_; clear hK K)
    refine wpList_nil ?_
    have hW0 : Hid (Co w.heap.size u3 { c with O := c.O.drop 0 } x1) := hide (by rw [List.drop_zero]; exact unhide hW)
    have hB0 := hide hB
    clear hB hW
    go_wp2_with fail
    go_loopw [7] (fun q wr => ∃ (j : Nat) (xj : Lc), j ≤ x.no ∧ q = .int .i64 (j : Int) ∧ Hid ((∀ i s, i < j → c.O[i]? = some s → s.n < n) ∧ (xj.ah = x1.ah ∧ xj.nh = x1.nh ∧ xj.ch = x1.ch)) ∧ Hid (Bl w [⟨w.heap.size, fl [[.int .u32 c.nx], [.slice xj.ao xj.no xj.co], [.int .i64 c.tn], [.int .u32 c.dl], [.slice x1.ah x1.nh x1.ch]], 26⟩, ⟨w.heap.size + 1, fl [[.int .u32 0], [.slice none 0 0], [.int .i64 0], [.int .u32 0], [.slice none 0 0]], 26⟩] wr) ∧ Hid (Co w.heap.size wr { c with O := c.O.drop j } xj)) (fun q _ => x.no - (intOf q).toNat)
    case atStart => exact ⟨0, x1, by omega, rfl, hide ⟨fun i s hi => absurd hi (by omega), rfl, rfl, rfl⟩, hB0, hW0⟩
    case round =>
    clear hB0 hW0
    obtain ⟨j, xj, hj, rfl, hE, hB0, hW⟩ := hrel
    have hB := unhide hB0
    clear hB0
    obtain ⟨e1, e2, e3⟩ := (unhide hE).2
    rw [← e1, ← e2, ← e3] at hB
    clear e1 e2 e3
    have hjn : xj.no = x.no - j := by
      have h9 := (unhide hW).i.o.len
      dsimp only at h9
      rw [List.length_drop, hn] at h9
      omega
    have hcp := (unhide hW).i.o.2.cap
    have hmx := (unhide hW).i.o.2.max
    replace hB := hide hB
    go_upto_region 7 with fail
    replace hB := unhide hB
    by_cases h3 : j < x.no
    · have h3 := h3
      obtain ⟨s, hsj⟩ : ∃ s, c.O[j]? = some s := ⟨_, List.getElem?_eq_getElem (by omega)⟩
      have hd0 : (c.O.drop j)[0]? = some s := by rw [List.getElem?_drop]; simpa using hsj
      obtain ⟨p, o, ha, hr⟩ := (unhide hW).i.o.at_ 0 s hd0
      have hr3 : Hid (wr.cell? ⟨p, o + 106 * 0, none⟩ = some (.int .u32 s.n)) := hide (hr 0 _ rfl)
      clear hr hd0
      replace ha := hide ha; replace hsj := hide hsj
      by_cases h4 : s.n < n
      · have h4 := h4
        refine wp_region_lit ?_
        refine wpList_gen fun ops_ hops => ?_
        replace hops := hide hops
        refine list_val (.pointer (some ⟨w.heap.size, 1, none⟩)) (by rw [unhide hops]; kernel_rfl) (by kernel_rfl) ?_
        simp only [nrm]
        refine list_val (.slice xj.ao xj.no xj.co) (by rw [unhide hops]; kernel_rfl) (exec_csO _ (.tmp 19) rfl (w.heap.size) 1 (by kernel_rfl) xj.ao xj.no xj.co (seg_cell (nC  _ _ _ _ _) (hB.get 0 (x := ⟨w.heap.size, fl [[.int .u32 c.nx], [.slice xj.ao xj.no xj.co], [.int .i64 c.tn], [.int .u32 c.dl], [.slice xj.ah xj.nh xj.ch]], 26⟩) rfl) 1 (v := .slice xj.ao xj.no xj.co) rfl rfl)) ?_
        simp only [nrm]
        refine list_val (.int .i64 (xj.no : Int)) (by rw [unhide hops]; kernel_rfl) (by kernel_rfl) ?_
        simp only [nrm]
        refine list_val (.bool true) (by rw [unhide hops]; kernel_rfl) (gtr_i _ (.tmp 21) (.const (.int .i64 0)) (xj.no : Int) 0 true rfl (by kernel_rfl) (by kernel_rfl) (decide_eq_true (by omega))) ?_
        simp only [nrm]
        refine list_val (.bool true) (by rw [unhide hops]; kernel_rfl) (by kernel_rfl) ?_
        simp only [nrm]
        refine list_val (.pointer (some ⟨w.heap.size, 1, none⟩)) (by rw [unhide hops]; kernel_rfl) (by kernel_rfl) ?_
        simp only [nrm]
        refine list_val (.slice xj.ao xj.no xj.co) (by rw [unhide hops]; kernel_rfl) (exec_csO _ (.tmp 24) rfl (w.heap.size) 1 (by kernel_rfl) xj.ao xj.no xj.co (seg_cell (nC  _ _ _ _ _) (hB.get 0 (x := ⟨w.heap.size, fl [[.int .u32 c.nx], [.slice xj.ao xj.no xj.co], [.int .i64 c.tn], [.int .u32 c.dl], [.slice xj.ah xj.nh xj.ch]], 26⟩) rfl) 1 (v := .slice xj.ao xj.no xj.co) rfl rfl)) ?_
        simp only [nrm]
        refine list_val (.pointer (some ⟨p, o + 106 * 0, none⟩)) (by rw [unhide hops]; kernel_rfl) (exec_iso _ (.tmp 25) (.const (.int .i64 0)) rfl p o xj.no xj.co 0 (by rw [← unhide ha]; kernel_rfl) rfl (by omega)) ?_
        simp only [nrm]
        refine list_val (.pointer (some ⟨p, o + 106 * 0, none⟩)) (by rw [unhide hops]; kernel_rfl) (by kernel_rfl) ?_
        simp only [nrm]
        refine list_val (.int .u32 s.n) (by rw [unhide hops]; kernel_rfl) (exec_c32 _ (.tmp 27) rfl p (o + 106 * 0) (by kernel_rfl) s.n (unhide hr3)) ?_
        simp only [nrm]
        refine list_val (.int .u32 n) (by rw [unhide hops]; kernel_rfl) (by kernel_rfl) ?_
        simp only [nrm]
        refine list_val (.bool true) (by rw [unhide hops]; kernel_rfl) (lss_32 _ (.tmp 28) (.tmp 29) s.n n true rfl (by kernel_rfl) (by kernel_rfl) (decide_eq_true h4)) ?_
        simp only [nrm]
        refine list_val (.bool true) (by rw [unhide hops]; kernel_rfl) (by kernel_rfl) ?_
        simp only [nrm]
        refine wpList_nil ?_
        replace hB := hide hB
        go_upto_region 8 with fail
        replace hB := unhide hB
        refine wp_region_lit ?_
        refine lvk (.pointer (some ⟨w.heap.size, 1, none⟩)) ?_
        simp only [nrm]
        refine list_val (.slice xj.ao xj.no xj.co) (by kernel_rfl) (exec_csO _ (.tmp 32) rfl (w.heap.size) 1 (by kernel_rfl) xj.ao xj.no xj.co (seg_cell (nC  _ _ _ _ _) (hB.get 0 (x := ⟨w.heap.size, fl [[.int .u32 c.nx], [.slice xj.ao xj.no xj.co], [.int .i64 c.tn], [.int .u32 c.dl], [.slice xj.ah xj.nh xj.ch]], 26⟩) rfl) 1 (v := .slice xj.ao xj.no xj.co) rfl rfl)) ?_
        simp only [nrm]
        refine list_val (.slice (frA 106 xj.ao xj.co 1) (xj.no - 1) (xj.co - 1)) (by kernel_rfl) (exec_frO _ (.tmp 33) (.const (.int .i64 1)) rfl xj.ao xj.no xj.co 1 (by kernel_rfl) rfl hcp (by omega)) ?_
        simp only [nrm]
        refine lvk (.pointer (some ⟨w.heap.size, 1, none⟩)) ?_
        simp only [nrm]
        have hzz_ : Hid (wr.heap[w.heap.size]? = some (.cells (fl [[.int .u32 c.nx], [.slice xj.ao xj.no xj.co], [.int .i64 c.tn], [.int .u32 c.dl], [.slice xj.ah xj.nh xj.ch]]) 26 (0, 0))) := hide (hB.get 0 (x := ⟨w.heap.size, fl [[.int .u32 c.nx], [.slice xj.ao xj.no xj.co], [.int .i64 c.tn], [.int .u32 c.dl], [.slice xj.ah xj.nh xj.ch]], 26⟩) rfl)
        refine list_csO (.tmp 35) (.tmp 34) (w.heap.size) 1 (frA 106 xj.ao xj.co 1) (xj.no - 1) (xj.co - 1) (by kernel_rfl) rfl (by kernel_rfl) (by kernel_rfl) hB 0 rfl NC (nC  _ _ _ _ _) 1 _ rfl rfl ?_
        intro u4 hB_ hbt_
        clear hB
        replace hB : Bl w [⟨w.heap.size, fl [[.int .u32 c.nx], [.slice (frA 106 xj.ao xj.co 1) (xj.no - 1) (xj.co - 1)], [.int .i64 c.tn], [.int .u32 c.dl], [.slice xj.ah xj.nh xj.ch]], 26⟩, ⟨w.heap.size + 1, fl [[.int .u32 0], [.slice none 0 0], [.int .i64 0], [.int .u32 0], [.slice none 0 0]], 26⟩] u4 := hB_
        clear hB_
        replace hW := hide ((unhide hW).bz (unhide hzz_) hbt_)
        clear hbt_ hzz_
        simp only [nrm]
        refine wpList_nil ?_
        replace hB := hide hB
        go_upto_region 9 with fail
        replace hB := unhide hB
        refine wp_region_lit ?_
        refine lvk (.int .i64 (j : Int)) ?_
        simp only [nrm]
        refine list_val (.int .i64 ((j + 1 : Nat) : Int)) (by kernel_rfl) (add_i _ (.tmp 36) (.const (.int .i64 1)) (j : Int) 1 rfl (by kernel_rfl) (by kernel_rfl) _ (by omega) (by omega)) ?_
        simp only [nrm]
        (refine wpList_step fun K hK => ?_; replace hK := hide hK; go_simp; refine unhide hK _ _ ?_; clear hK K)
        refine wpList_nil ?_
        have hW2 : Hid (Co w.heap.size u4 { c with O := c.O.drop (j + 1) } ⟨frA 106 xj.ao xj.co 1, xj.no - 1, xj.co - 1, xj.ah, xj.nh, xj.ch⟩) := hide (by
          have h9 := (unhide hW).drop 1 (by omega)
          dsimp only at h9
          rwa [List.drop_drop] at h9)
        have hE2 : Hid ((∀ i s, i < j + 1 → c.O[i]? = some s → s.n < n) ∧ (xj.ah = x1.ah ∧ xj.nh = x1.nh ∧ xj.ch = x1.ch)) := hide ⟨fun i t hi hit => by
          rcases Nat.lt_or_ge i j with h9 | h9
          · exact (unhide hE).1 i t h9 hit
          · have : i = j := by omega
            subst this
            have h8 := hit.symm.trans (unhide hsj)
            injection h8 with h8
            rw [h8]; exact h4, (unhide hE).2⟩
        obtain ⟨e1, e2, e3⟩ := (unhide hE).2
        rw [e1, e2, e3] at hB
        replace hB := hide hB
        clear ha hr3 hsj hE hW e1 e2 e3 h4
        go_wp2_with fail
        go_roundw
        case rel => exact ⟨j + 1, ⟨frA 106 xj.ao xj.co 1, xj.no - 1, xj.co - 1, xj.ah, xj.nh, xj.ch⟩, by omega, rfl, hE2, hB, hW2⟩
        case measure => simp [intOf]; omega
      · have h4 := h4
        refine wp_region_lit ?_
        refine wpList_gen fun ops_ hops => ?_
        replace hops := hide hops
        refine list_val (.pointer (some ⟨w.heap.size, 1, none⟩)) (by rw [unhide hops]; kernel_rfl) (by kernel_rfl) ?_
        simp only [nrm]
        refine list_val (.slice xj.ao xj.no xj.co) (by rw [unhide hops]; kernel_rfl) (exec_csO _ (.tmp 19) rfl (w.heap.size) 1 (by kernel_rfl) xj.ao xj.no xj.co (seg_cell (nC  _ _ _ _ _) (hB.get 0 (x := ⟨w.heap.size, fl [[.int .u32 c.nx], [.slice xj.ao xj.no xj.co], [.int .i64 c.tn], [.int .u32 c.dl], [.slice xj.ah xj.nh xj.ch]], 26⟩) rfl) 1 (v := .slice xj.ao xj.no xj.co) rfl rfl)) ?_
        simp only [nrm]
        refine list_val (.int .i64 (xj.no : Int)) (by rw [unhide hops]; kernel_rfl) (by kernel_rfl) ?_
        simp only [nrm]
        refine list_val (.bool true) (by rw [unhide hops]; kernel_rfl) (gtr_i _ (.tmp 21) (.const (.int .i64 0)) (xj.no : Int) 0 true rfl (by kernel_rfl) (by kernel_rfl) (decide_eq_true (by omega))) ?_
        simp only [nrm]
        refine list_val (.bool true) (by rw [unhide hops]; kernel_rfl) (by kernel_rfl) ?_
        simp only [nrm]
        refine list_val (.pointer (some ⟨w.heap.size, 1, none⟩)) (by rw [unhide hops]; kernel_rfl) (by kernel_rfl) ?_
        simp only [nrm]
        refine list_val (.slice xj.ao xj.no xj.co) (by rw [unhide hops]; kernel_rfl) (exec_csO _ (.tmp 24) rfl (w.heap.size) 1 (by kernel_rfl) xj.ao xj.no xj.co (seg_cell (nC  _ _ _ _ _) (hB.get 0 (x := ⟨w.heap.size, fl [[.int .u32 c.nx], [.slice xj.ao xj.no xj.co], [.int .i64 c.tn], [.int .u32 c.dl], [.slice xj.ah xj.nh xj.ch]], 26⟩) rfl) 1 (v := .slice xj.ao xj.no xj.co) rfl rfl)) ?_
        simp only [nrm]
        refine list_val (.pointer (some ⟨p, o + 106 * 0, none⟩)) (by rw [unhide hops]; kernel_rfl) (exec_iso _ (.tmp 25) (.const (.int .i64 0)) rfl p o xj.no xj.co 0 (by rw [← unhide ha]; kernel_rfl) rfl (by omega)) ?_
        simp only [nrm]
        refine list_val (.pointer (some ⟨p, o + 106 * 0, none⟩)) (by rw [unhide hops]; kernel_rfl) (by kernel_rfl) ?_
        simp only [nrm]
        refine list_val (.int .u32 s.n) (by rw [unhide hops]; kernel_rfl) (exec_c32 _ (.tmp 27) rfl p (o + 106 * 0) (by kernel_rfl) s.n (unhide hr3)) ?_
        simp only [nrm]
        refine list_val (.int .u32 n) (by rw [unhide hops]; kernel_rfl) (by kernel_rfl) ?_
        simp only [nrm]
        refine list_val (.bool false) (by rw [unhide hops]; kernel_rfl) (lss_32 _ (.tmp 28) (.tmp 29) s.n n false rfl (by kernel_rfl) (by kernel_rfl) (decide_eq_false h4)) ?_
        simp only [nrm]
        refine list_val (.bool false) (by rw [unhide hops]; kernel_rfl) (by kernel_rfl) ?_
        simp only [nrm]
        refine wpList_nil ?_
        have hupj : seqs (c.nx - (x.no : Int)) c.O = true → n - (c.nx - (x.no : Int)) ≤ (j : Int) := fun h9 => by
          have h8 := seqs_at _ _ _ _ h9 (unhide hsj)
          omega
        clear ha hr3 hsj
        have hv := ak_yes (n := n) (unhide h1) (by omega) j (by
          have h9 := rt_seqs (unhide h1)
          rw [hn] at h9
          unfold gk
          rw [hn]
          have hup : n - (c.nx - (x.no : Int)) ≤ (j : Int) := hupj h9
          rcases Nat.eq_zero_or_pos j with h8 | h8
          · omega
          · obtain ⟨t, ht⟩ : ∃ t, c.O[j - 1]? = some t := ⟨_, List.getElem?_eq_getElem (by omega)⟩
            have h7 := seqs_at _ _ _ _ h9 ht
            have h6 := (unhide hE).1 (j - 1) t (by omega) ht
            omega)
        clear hupj
        replace hv := hide hv
        replace hB := hide hB
        go_upto_region 10 with fail
        replace hB := unhide hB
        by_cases q1 : c.tn < (j : Int)
        · have q1 := q1
          refine wp_region_lit ?_
          refine wpList_gen fun ops_ hops => ?_
          replace hops := hide hops
          refine list_val (.pointer (some ⟨w.heap.size, 2, none⟩)) (by rw [unhide hops]; kernel_rfl) (by kernel_rfl) ?_
          simp only [nrm]
          refine list_val (.int .i64 c.tn) (by rw [unhide hops]; kernel_rfl) (exec_ci _ (.tmp 38) rfl (w.heap.size) 2 (by kernel_rfl) c.tn (seg_cell (nC  _ _ _ _ _) (hB.get 0 (x := ⟨w.heap.size, fl [[.int .u32 c.nx], [.slice xj.ao xj.no xj.co], [.int .i64 c.tn], [.int .u32 c.dl], [.slice xj.ah xj.nh xj.ch]], 26⟩) rfl) 2 (v := .int .i64 c.tn) rfl rfl)) ?_
          simp only [nrm]
          refine list_val (.int .i64 (j : Int)) (by rw [unhide hops]; kernel_rfl) (by kernel_rfl) ?_
          simp only [nrm]
          refine list_val (.bool true) (by rw [unhide hops]; kernel_rfl) (lss_i _ (.tmp 39) (.tmp 40) c.tn (j : Int) true rfl (by kernel_rfl) (by kernel_rfl) (decide_eq_true q1)) ?_
          simp only [nrm]
          refine list_val (.bool true) (by rw [unhide hops]; kernel_rfl) (by kernel_rfl) ?_
          simp only [nrm]
          refine list_off (by rw [unhide hops]; kernel_rfl) ?_
          simp only [nrm]
          refine list_off (by rw [unhide hops]; kernel_rfl) ?_
          simp only [nrm]
          refine list_off (by rw [unhide hops]; kernel_rfl) ?_
          simp only [nrm]
          refine list_off (by rw [unhide hops]; kernel_rfl) ?_
          simp only [nrm]
          refine list_val (.bool true) (by rw [unhide hops]; kernel_rfl) (by kernel_rfl) ?_
          simp only [nrm]
          refine wpList_nil ?_
          replace hB := hide hB
          go_upto_region 11 with fail
          replace hB := unhide hB
          refine wp_region_lit ?_
          refine lvk (.pointer (some ⟨w.heap.size, 2, none⟩)) ?_
          simp only [nrm]
          have hzz_ : Hid (wr.heap[w.heap.size]? = some (.cells (fl [[.int .u32 c.nx], [.slice xj.ao xj.no xj.co], [.int .i64 c.tn], [.int .u32 c.dl], [.slice xj.ah xj.nh xj.ch]]) 26 (0, 0))) := hide (hB.get 0 (x := ⟨w.heap.size, fl [[.int .u32 c.nx], [.slice xj.ao xj.no xj.co], [.int .i64 c.tn], [.int .u32 c.dl], [.slice xj.ah xj.nh xj.ch]], 26⟩) rfl)
          refine list_ci (.tmp 48) (.const (.int .i64 0)) (w.heap.size) 2 0 (by kernel_rfl) rfl (by kernel_rfl) (by kernel_rfl) hB 0 rfl NC (nC  _ _ _ _ _) 2 _ rfl rfl ?_
          intro u4 hB_ hbt_
          clear hB
          replace hB : Bl w [⟨w.heap.size, fl [[.int .u32 c.nx], [.slice xj.ao xj.no xj.co], [.int .i64 0], [.int .u32 c.dl], [.slice xj.ah xj.nh xj.ch]], 26⟩, ⟨w.heap.size + 1, fl [[.int .u32 0], [.slice none 0 0], [.int .i64 0], [.int .u32 0], [.slice none 0 0]], 26⟩] u4 := hB_
          clear hB_
          replace hW := hide ((unhide hW).bz (unhide hzz_) hbt_)
          clear hbt_ hzz_
          simp only [nrm]
          refine wpList_nil ?_
          replace hB := hide hB
          go_upto_region 13 with fail
          replace hB := unhide hB
          refine wp_region_lit ?_
          refine list_val (.agg (fl [[.int .u32 c.nx], [.slice xj.ao xj.no xj.co], [.int .i64 0], [.int .u32 c.dl], [.slice xj.ah xj.nh xj.ch]])) (by kernel_rfl) (exec_sw _ 26 (.tmp 2) rfl (w.heap.size) (by kernel_rfl) (hB.get 0 (x := ⟨w.heap.size, fl [[.int .u32 c.nx], [.slice xj.ao xj.no xj.co], [.int .i64 0], [.int .u32 c.dl], [.slice xj.ah xj.nh xj.ch]], 26⟩) rfl) NC (nC  _ _ _ _ _) Try.underlying26 rfl (by kernel_rfl)) ?_
          simp only [nrm]
          refine lvk (.int .i64 (j : Int)) ?_
          simp only [nrm]
          have hzz_ : Hid (u4.heap[w.heap.size + 1]? = some (.cells (fl [[.int .u32 0], [.slice none 0 0], [.int .i64 0], [.int .u32 0], [.slice none 0 0]]) 26 (0, 0))) := hide (hB.get 1 (x := ⟨w.heap.size + 1, fl [[.int .u32 0], [.slice none 0 0], [.int .i64 0], [.int .u32 0], [.slice none 0 0]], 26⟩) rfl)
          refine list_all 26 (.tmp 4) (.tmp 54) (w.heap.size + 1) (S2 := [[.int .u32 c.nx], [.slice xj.ao xj.no xj.co], [.int .i64 0], [.int .u32 c.dl], [.slice xj.ah xj.nh xj.ch]]) (by kernel_rfl) rfl (by kernel_rfl) (by kernel_rfl) hB 1 rfl NC (nC  _ _ _ _ _) (nC  _ _ _ _ _) (by kernel_rfl) (oC  rfl rfl rfl rfl rfl) ?_
          intro u5 hB_ hbt_
          clear hB
          replace hB : Bl w [⟨w.heap.size, fl [[.int .u32 c.nx], [.slice xj.ao xj.no xj.co], [.int .i64 0], [.int .u32 c.dl], [.slice xj.ah xj.nh xj.ch]], 26⟩, ⟨w.heap.size + 1, fl [[.int .u32 c.nx], [.slice xj.ao xj.no xj.co], [.int .i64 0], [.int .u32 c.dl], [.slice xj.ah xj.nh xj.ch]], 26⟩] u5 := hB_
          clear hB_
          replace hW := hide ((unhide hW).bz (unhide hzz_) hbt_)
          clear hbt_ hzz_
          simp only [nrm]
          (refine wpList_step fun K hK => ?_; replace hK := hide hK; go_simp; refine unhide hK _ _ ?_; clear hK K)
          (refine wpList_step fun K hK => ?_; replace hK := hide hK; go_simp; refine unhide hK _ _ ?_; clear hK K)
          refine wpList_nil ?_
          have ht9 : c.tn - min (j : Int) c.tn = 0 := by omega
          have hD := (unhide hW).tn (0) (by first | omega | (dsimp only; omega))
          replace hB := hide hB
          go_wp2_with fail
          replace hB := unhide hB
          rw [unhide hT]
          rw [unhide hv, ht9]
          exact bodyPost_ret (v := .tuple #[.agg (fl [[.int .u32 c.nx], [.slice xj.ao xj.no xj.co], [.int .i64 0], [.int .u32 c.dl], [.slice xj.ah xj.nh xj.ch]]), .int .i64 (j : Int), .int .i64 0]) (res3 Try.results21 (rv_cell (by kernel_rfl) (hB.get 1 (x := ⟨w.heap.size + 1, fl [[.int .u32 c.nx], [.slice xj.ao xj.no xj.co], [.int .i64 0], [.int .u32 c.dl], [.slice xj.ah xj.nh xj.ch]], 26⟩) rfl) Try.underlying26 rfl (by rw [fl_size (nC  _ _ _ _ _)]; kernel_rfl)) (rv_tmp (by kernel_rfl)) (rv_tmp (by kernel_rfl))) rfl (⟨xj, rfl, hD.i, hD.o, hB.gr⟩)
        by_cases q2 : xj.no = 0
        · have q2 := hide q2
          have q3 : xj.no ≤ 0 := by have := unhide q2; omega
          refine wp_region_lit ?_
          refine wpList_gen fun ops_ hops => ?_
          replace hops := hide hops
          refine list_val (.pointer (some ⟨w.heap.size, 2, none⟩)) (by rw [unhide hops]; kernel_rfl) (by kernel_rfl) ?_
          simp only [nrm]
          refine list_val (.int .i64 c.tn) (by rw [unhide hops]; kernel_rfl) (exec_ci _ (.tmp 38) rfl (w.heap.size) 2 (by kernel_rfl) c.tn (seg_cell (nC  _ _ _ _ _) (hB.get 0 (x := ⟨w.heap.size, fl [[.int .u32 c.nx], [.slice xj.ao xj.no xj.co], [.int .i64 c.tn], [.int .u32 c.dl], [.slice xj.ah xj.nh xj.ch]], 26⟩) rfl) 2 (v := .int .i64 c.tn) rfl rfl)) ?_
          simp only [nrm]
          refine list_val (.int .i64 (j : Int)) (by rw [unhide hops]; kernel_rfl) (by kernel_rfl) ?_
          simp only [nrm]
          refine list_val (.bool false) (by rw [unhide hops]; kernel_rfl) (lss_i _ (.tmp 39) (.tmp 40) c.tn (j : Int) false rfl (by kernel_rfl) (by kernel_rfl) (decide_eq_false q1)) ?_
          simp only [nrm]
          refine list_val (.bool false) (by rw [unhide hops]; kernel_rfl) (by kernel_rfl) ?_
          simp only [nrm]
          refine list_val (.pointer (some ⟨w.heap.size, 1, none⟩)) (by rw [unhide hops]; kernel_rfl) (by kernel_rfl) ?_
          simp only [nrm]
          refine list_val (.slice xj.ao xj.no xj.co) (by rw [unhide hops]; kernel_rfl) (exec_csO _ (.tmp 43) rfl (w.heap.size) 1 (by kernel_rfl) xj.ao xj.no xj.co (seg_cell (nC  _ _ _ _ _) (hB.get 0 (x := ⟨w.heap.size, fl [[.int .u32 c.nx], [.slice xj.ao xj.no xj.co], [.int .i64 c.tn], [.int .u32 c.dl], [.slice xj.ah xj.nh xj.ch]], 26⟩) rfl) 1 (v := .slice xj.ao xj.no xj.co) rfl rfl)) ?_
          simp only [nrm]
          refine list_val (.int .i64 (xj.no : Int)) (by rw [unhide hops]; kernel_rfl) (by kernel_rfl) ?_
          simp only [nrm]
          refine list_val (.bool true) (by rw [unhide hops]; kernel_rfl) (eql_i _ (.tmp 45) (.const (.int .i64 0)) (xj.no : Int) 0 true rfl (by kernel_rfl) (by kernel_rfl) (decide_eq_true (by have := unhide q2; omega))) ?_
          simp only [nrm]
          refine list_val (.bool true) (by rw [unhide hops]; kernel_rfl) (by kernel_rfl) ?_
          simp only [nrm]
          refine wpList_nil ?_
          replace hB := hide hB
          go_upto_region 11 with fail
          replace hB := unhide hB
          refine wp_region_lit ?_
          refine lvk (.pointer (some ⟨w.heap.size, 2, none⟩)) ?_
          simp only [nrm]
          have hzz_ : Hid (wr.heap[w.heap.size]? = some (.cells (fl [[.int .u32 c.nx], [.slice xj.ao xj.no xj.co], [.int .i64 c.tn], [.int .u32 c.dl], [.slice xj.ah xj.nh xj.ch]]) 26 (0, 0))) := hide (hB.get 0 (x := ⟨w.heap.size, fl [[.int .u32 c.nx], [.slice xj.ao xj.no xj.co], [.int .i64 c.tn], [.int .u32 c.dl], [.slice xj.ah xj.nh xj.ch]], 26⟩) rfl)
          refine list_ci (.tmp 48) (.const (.int .i64 0)) (w.heap.size) 2 0 (by kernel_rfl) rfl (by kernel_rfl) (by kernel_rfl) hB 0 rfl NC (nC  _ _ _ _ _) 2 _ rfl rfl ?_
          intro u4 hB_ hbt_
          clear hB
          replace hB : Bl w [⟨w.heap.size, fl [[.int .u32 c.nx], [.slice xj.ao xj.no xj.co], [.int .i64 0], [.int .u32 c.dl], [.slice xj.ah xj.nh xj.ch]], 26⟩, ⟨w.heap.size + 1, fl [[.int .u32 0], [.slice none 0 0], [.int .i64 0], [.int .u32 0], [.slice none 0 0]], 26⟩] u4 := hB_
          clear hB_
          replace hW := hide ((unhide hW).bz (unhide hzz_) hbt_)
          clear hbt_ hzz_
          simp only [nrm]
          refine wpList_nil ?_
          replace hB := hide hB
          go_upto_region 13 with fail
          replace hB := unhide hB
          refine wp_region_lit ?_
          refine list_val (.agg (fl [[.int .u32 c.nx], [.slice xj.ao xj.no xj.co], [.int .i64 0], [.int .u32 c.dl], [.slice xj.ah xj.nh xj.ch]])) (by kernel_rfl) (exec_sw _ 26 (.tmp 2) rfl (w.heap.size) (by kernel_rfl) (hB.get 0 (x := ⟨w.heap.size, fl [[.int .u32 c.nx], [.slice xj.ao xj.no xj.co], [.int .i64 0], [.int .u32 c.dl], [.slice xj.ah xj.nh xj.ch]], 26⟩) rfl) NC (nC  _ _ _ _ _) Try.underlying26 rfl (by kernel_rfl)) ?_
          simp only [nrm]
          refine lvk (.int .i64 (j : Int)) ?_
          simp only [nrm]
          have hzz_ : Hid (u4.heap[w.heap.size + 1]? = some (.cells (fl [[.int .u32 0], [.slice none 0 0], [.int .i64 0], [.int .u32 0], [.slice none 0 0]]) 26 (0, 0))) := hide (hB.get 1 (x := ⟨w.heap.size + 1, fl [[.int .u32 0], [.slice none 0 0], [.int .i64 0], [.int .u32 0], [.slice none 0 0]], 26⟩) rfl)
          refine list_all 26 (.tmp 4) (.tmp 54) (w.heap.size + 1) (S2 := [[.int .u32 c.nx], [.slice xj.ao xj.no xj.co], [.int .i64 0], [.int .u32 c.dl], [.slice xj.ah xj.nh xj.ch]]) (by kernel_rfl) rfl (by kernel_rfl) (by kernel_rfl) hB 1 rfl NC (nC  _ _ _ _ _) (nC  _ _ _ _ _) (by kernel_rfl) (oC  rfl rfl rfl rfl rfl) ?_
          intro u5 hB_ hbt_
          clear hB
          replace hB : Bl w [⟨w.heap.size, fl [[.int .u32 c.nx], [.slice xj.ao xj.no xj.co], [.int .i64 0], [.int .u32 c.dl], [.slice xj.ah xj.nh xj.ch]], 26⟩, ⟨w.heap.size + 1, fl [[.int .u32 c.nx], [.slice xj.ao xj.no xj.co], [.int .i64 0], [.int .u32 c.dl], [.slice xj.ah xj.nh xj.ch]], 26⟩] u5 := hB_
          clear hB_
          replace hW := hide ((unhide hW).bz (unhide hzz_) hbt_)
          clear hbt_ hzz_
          simp only [nrm]
          (refine wpList_step fun K hK => ?_; replace hK := hide hK; go_simp; refine unhide hK _ _ ?_; clear hK K)
          (refine wpList_step fun K hK => ?_; replace hK := hide hK; go_simp; refine unhide hK _ _ ?_; clear hK K)
          refine wpList_nil ?_
          have ht9 : c.tn - min (j : Int) c.tn = 0 := by omega
          have hD := (unhide hW).tn (0) (by first | omega | (dsimp only; omega))
          replace hB := hide hB
          go_wp2_with fail
          replace hB := unhide hB
          rw [unhide hT]
          rw [unhide hv, ht9]
          exact bodyPost_ret (v := .tuple #[.agg (fl [[.int .u32 c.nx], [.slice xj.ao xj.no xj.co], [.int .i64 0], [.int .u32 c.dl], [.slice xj.ah xj.nh xj.ch]]), .int .i64 (j : Int), .int .i64 0]) (res3 Try.results21 (rv_cell (by kernel_rfl) (hB.get 1 (x := ⟨w.heap.size + 1, fl [[.int .u32 c.nx], [.slice xj.ao xj.no xj.co], [.int .i64 0], [.int .u32 c.dl], [.slice xj.ah xj.nh xj.ch]], 26⟩) rfl) Try.underlying26 rfl (by rw [fl_size (nC  _ _ _ _ _)]; kernel_rfl)) (rv_tmp (by kernel_rfl)) (rv_tmp (by kernel_rfl))) rfl (⟨xj, rfl, hD.i, hD.o, hB.gr⟩)
        · have q2 := q2
          refine wp_region_lit ?_
          refine wpList_gen fun ops_ hops => ?_
          replace hops := hide hops
          refine list_val (.pointer (some ⟨w.heap.size, 2, none⟩)) (by rw [unhide hops]; kernel_rfl) (by kernel_rfl) ?_
          simp only [nrm]
          refine list_val (.int .i64 c.tn) (by rw [unhide hops]; kernel_rfl) (exec_ci _ (.tmp 38) rfl (w.heap.size) 2 (by kernel_rfl) c.tn (seg_cell (nC  _ _ _ _ _) (hB.get 0 (x := ⟨w.heap.size, fl [[.int .u32 c.nx], [.slice xj.ao xj.no xj.co], [.int .i64 c.tn], [.int .u32 c.dl], [.slice xj.ah xj.nh xj.ch]], 26⟩) rfl) 2 (v := .int .i64 c.tn) rfl rfl)) ?_
          simp only [nrm]
          refine list_val (.int .i64 (j : Int)) (by rw [unhide hops]; kernel_rfl) (by kernel_rfl) ?_
          simp only [nrm]
          refine list_val (.bool false) (by rw [unhide hops]; kernel_rfl) (lss_i _ (.tmp 39) (.tmp 40) c.tn (j : Int) false rfl (by kernel_rfl) (by kernel_rfl) (decide_eq_false q1)) ?_
          simp only [nrm]
          refine list_val (.bool false) (by rw [unhide hops]; kernel_rfl) (by kernel_rfl) ?_
          simp only [nrm]
          refine list_val (.pointer (some ⟨w.heap.size, 1, none⟩)) (by rw [unhide hops]; kernel_rfl) (by kernel_rfl) ?_
          simp only [nrm]
          refine list_val (.slice xj.ao xj.no xj.co) (by rw [unhide hops]; kernel_rfl) (exec_csO _ (.tmp 43) rfl (w.heap.size) 1 (by kernel_rfl) xj.ao xj.no xj.co (seg_cell (nC  _ _ _ _ _) (hB.get 0 (x := ⟨w.heap.size, fl [[.int .u32 c.nx], [.slice xj.ao xj.no xj.co], [.int .i64 c.tn], [.int .u32 c.dl], [.slice xj.ah xj.nh xj.ch]], 26⟩) rfl) 1 (v := .slice xj.ao xj.no xj.co) rfl rfl)) ?_
          simp only [nrm]
          refine list_val (.int .i64 (xj.no : Int)) (by rw [unhide hops]; kernel_rfl) (by kernel_rfl) ?_
          simp only [nrm]
          refine list_val (.bool false) (by rw [unhide hops]; kernel_rfl) (eql_i _ (.tmp 45) (.const (.int .i64 0)) (xj.no : Int) 0 false rfl (by kernel_rfl) (by kernel_rfl) (decide_eq_false (by omega))) ?_
          simp only [nrm]
          refine list_val (.bool false) (by rw [unhide hops]; kernel_rfl) (by kernel_rfl) ?_
          simp only [nrm]
          refine wpList_nil ?_
          replace hB := hide hB
          go_upto_region 12 with fail
          replace hB := unhide hB
          refine wp_region_lit ?_
          refine lvk (.pointer (some ⟨w.heap.size, 2, none⟩)) ?_
          simp only [nrm]
          refine list_val (.int .i64 c.tn) (by kernel_rfl) (exec_ci _ (.tmp 49) rfl (w.heap.size) 2 (by kernel_rfl) c.tn (seg_cell (nC  _ _ _ _ _) (hB.get 0 (x := ⟨w.heap.size, fl [[.int .u32 c.nx], [.slice xj.ao xj.no xj.co], [.int .i64 c.tn], [.int .u32 c.dl], [.slice xj.ah xj.nh xj.ch]], 26⟩) rfl) 2 (v := .int .i64 c.tn) rfl rfl)) ?_
          simp only [nrm]
          refine lvk (.int .i64 (j : Int)) ?_
          simp only [nrm]
          refine list_val (.int .i64 (c.tn - (j : Int))) (by kernel_rfl) (sub_i _ (.tmp 50) (.tmp 51) c.tn (j : Int) rfl (by kernel_rfl) (by kernel_rfl) _ rfl (by omega)) ?_
          simp only [nrm]
          refine lvk (.pointer (some ⟨w.heap.size, 2, none⟩)) ?_
          simp only [nrm]
          have hzz_ : Hid (wr.heap[w.heap.size]? = some (.cells (fl [[.int .u32 c.nx], [.slice xj.ao xj.no xj.co], [.int .i64 c.tn], [.int .u32 c.dl], [.slice xj.ah xj.nh xj.ch]]) 26 (0, 0))) := hide (hB.get 0 (x := ⟨w.heap.size, fl [[.int .u32 c.nx], [.slice xj.ao xj.no xj.co], [.int .i64 c.tn], [.int .u32 c.dl], [.slice xj.ah xj.nh xj.ch]], 26⟩) rfl)
          refine list_ci (.tmp 53) (.tmp 52) (w.heap.size) 2 (c.tn - (j : Int)) (by kernel_rfl) rfl (by kernel_rfl) (by kernel_rfl) hB 0 rfl NC (nC  _ _ _ _ _) 2 _ rfl rfl ?_
          intro u4 hB_ hbt_
          clear hB
          replace hB : Bl w [⟨w.heap.size, fl [[.int .u32 c.nx], [.slice xj.ao xj.no xj.co], [.int .i64 (c.tn - (j : Int))], [.int .u32 c.dl], [.slice xj.ah xj.nh xj.ch]], 26⟩, ⟨w.heap.size + 1, fl [[.int .u32 0], [.slice none 0 0], [.int .i64 0], [.int .u32 0], [.slice none 0 0]], 26⟩] u4 := hB_
          clear hB_
          replace hW := hide ((unhide hW).bz (unhide hzz_) hbt_)
          clear hbt_ hzz_
          simp only [nrm]
          refine wpList_nil ?_
          replace hB := hide hB
          go_upto_region 13 with fail
          replace hB := unhide hB
          refine wp_region_lit ?_
          refine list_val (.agg (fl [[.int .u32 c.nx], [.slice xj.ao xj.no xj.co], [.int .i64 (c.tn - (j : Int))], [.int .u32 c.dl], [.slice xj.ah xj.nh xj.ch]])) (by kernel_rfl) (exec_sw _ 26 (.tmp 2) rfl (w.heap.size) (by kernel_rfl) (hB.get 0 (x := ⟨w.heap.size, fl [[.int .u32 c.nx], [.slice xj.ao xj.no xj.co], [.int .i64 (c.tn - (j : Int))], [.int .u32 c.dl], [.slice xj.ah xj.nh xj.ch]], 26⟩) rfl) NC (nC  _ _ _ _ _) Try.underlying26 rfl (by kernel_rfl)) ?_
          simp only [nrm]
          refine lvk (.int .i64 (j : Int)) ?_
          simp only [nrm]
          have hzz_ : Hid (u4.heap[w.heap.size + 1]? = some (.cells (fl [[.int .u32 0], [.slice none 0 0], [.int .i64 0], [.int .u32 0], [.slice none 0 0]]) 26 (0, 0))) := hide (hB.get 1 (x := ⟨w.heap.size + 1, fl [[.int .u32 0], [.slice none 0 0], [.int .i64 0], [.int .u32 0], [.slice none 0 0]], 26⟩) rfl)
          refine list_all 26 (.tmp 4) (.tmp 54) (w.heap.size + 1) (S2 := [[.int .u32 c.nx], [.slice xj.ao xj.no xj.co], [.int .i64 (c.tn - (j : Int))], [.int .u32 c.dl], [.slice xj.ah xj.nh xj.ch]]) (by kernel_rfl) rfl (by kernel_rfl) (by kernel_rfl) hB 1 rfl NC (nC  _ _ _ _ _) (nC  _ _ _ _ _) (by kernel_rfl) (oC  rfl rfl rfl rfl rfl) ?_
          intro u5 hB_ hbt_
          clear hB
          replace hB : Bl w [⟨w.heap.size, fl [[.int .u32 c.nx], [.slice xj.ao xj.no xj.co], [.int .i64 (c.tn - (j : Int))], [.int .u32 c.dl], [.slice xj.ah xj.nh xj.ch]], 26⟩, ⟨w.heap.size + 1, fl [[.int .u32 c.nx], [.slice xj.ao xj.no xj.co], [.int .i64 (c.tn - (j : Int))], [.int .u32 c.dl], [.slice xj.ah xj.nh xj.ch]], 26⟩] u5 := hB_
          clear hB_
          replace hW := hide ((unhide hW).bz (unhide hzz_) hbt_)
          clear hbt_ hzz_
          simp only [nrm]
          (refine wpList_step fun K hK => ?_; replace hK := hide hK; go_simp; refine unhide hK _ _ ?_; clear hK K)
          (refine wpList_step fun K hK => ?_; replace hK := hide hK; go_simp; refine unhide hK _ _ ?_; clear hK K)
          refine wpList_nil ?_
          have ht9 : c.tn - min (j : Int) c.tn = c.tn - (j : Int) := by omega
          have hD := (unhide hW).tn (c.tn - (j : Int)) (by first | omega | (dsimp only; omega))
          replace hB := hide hB
          go_wp2_with fail
          replace hB := unhide hB
          rw [unhide hT]
          rw [unhide hv, ht9]
          exact bodyPost_ret (v := .tuple #[.agg (fl [[.int .u32 c.nx], [.slice xj.ao xj.no xj.co], [.int .i64 (c.tn - (j : Int))], [.int .u32 c.dl], [.slice xj.ah xj.nh xj.ch]]), .int .i64 (j : Int), .int .i64 0]) (res3 Try.results21 (rv_cell (by kernel_rfl) (hB.get 1 (x := ⟨w.heap.size + 1, fl [[.int .u32 c.nx], [.slice xj.ao xj.no xj.co], [.int .i64 (c.tn - (j : Int))], [.int .u32 c.dl], [.slice xj.ah xj.nh xj.ch]], 26⟩) rfl) Try.underlying26 rfl (by rw [fl_size (nC  _ _ _ _ _)]; kernel_rfl)) (rv_tmp (by kernel_rfl)) (rv_tmp (by kernel_rfl))) rfl (⟨xj, rfl, hD.i, hD.o, hB.gr⟩)
    · have hjj := hide (show j = x.no by omega)
      refine wp_region_lit ?_
      refine wpList_gen fun ops_ hops => ?_
      replace hops := hide hops
      refine list_val (.pointer (some ⟨w.heap.size, 1, none⟩)) (by rw [unhide hops]; kernel_rfl) (by kernel_rfl) ?_
      simp only [nrm]
      refine list_val (.slice xj.ao xj.no xj.co) (by rw [unhide hops]; kernel_rfl) (exec_csO _ (.tmp 19) rfl (w.heap.size) 1 (by kernel_rfl) xj.ao xj.no xj.co (seg_cell (nC  _ _ _ _ _) (hB.get 0 (x := ⟨w.heap.size, fl [[.int .u32 c.nx], [.slice xj.ao xj.no xj.co], [.int .i64 c.tn], [.int .u32 c.dl], [.slice xj.ah xj.nh xj.ch]], 26⟩) rfl) 1 (v := .slice xj.ao xj.no xj.co) rfl rfl)) ?_
      simp only [nrm]
      refine list_val (.int .i64 (xj.no : Int)) (by rw [unhide hops]; kernel_rfl) (by kernel_rfl) ?_
      simp only [nrm]
      refine list_val (.bool false) (by rw [unhide hops]; kernel_rfl) (gtr_i _ (.tmp 21) (.const (.int .i64 0)) (xj.no : Int) 0 false rfl (by kernel_rfl) (by kernel_rfl) (decide_eq_false (by have := unhide hjj; omega))) ?_
      simp only [nrm]
      refine list_val (.bool false) (by rw [unhide hops]; kernel_rfl) (by kernel_rfl) ?_
      simp only [nrm]
      refine list_off (by rw [unhide hops]; kernel_rfl) ?_
      simp only [nrm]
      refine list_off (by rw [unhide hops]; kernel_rfl) ?_
      simp only [nrm]
      refine list_off (by rw [unhide hops]; kernel_rfl) ?_
      simp only [nrm]
      refine list_off (by rw [unhide hops]; kernel_rfl) ?_
      simp only [nrm]
      refine list_off (by rw [unhide hops]; kernel_rfl) ?_
      simp only [nrm]
      refine list_off (by rw [unhide hops]; kernel_rfl) ?_
      simp only [nrm]
      refine list_off (by rw [unhide hops]; kernel_rfl) ?_
      simp only [nrm]
      refine list_val (.bool false) (by rw [unhide hops]; kernel_rfl) (by kernel_rfl) ?_
      simp only [nrm]
      refine wpList_nil ?_
      have hupj : seqs (c.nx - (x.no : Int)) c.O = true → n - (c.nx - (x.no : Int)) ≤ (j : Int) := fun _ => by have := unhide hjj; omega
      have hv := ak_yes (n := n) (unhide h1) (by omega) j (by
        have h9 := rt_seqs (unhide h1)
        rw [hn] at h9
        unfold gk
        rw [hn]
        have hup : n - (c.nx - (x.no : Int)) ≤ (j : Int) := hupj h9
        rcases Nat.eq_zero_or_pos j with h8 | h8
        · omega
        · obtain ⟨t, ht⟩ : ∃ t, c.O[j - 1]? = some t := ⟨_, List.getElem?_eq_getElem (by omega)⟩
          have h7 := seqs_at _ _ _ _ h9 ht
          have h6 := (unhide hE).1 (j - 1) t (by omega) ht
          omega)
      clear hupj
      replace hv := hide hv
      replace hB := hide hB
      go_upto_region 10 with fail
      replace hB := unhide hB
      by_cases q1 : c.tn < (j : Int)
      · have q1 := q1
        refine wp_region_lit ?_
        refine wpList_gen fun ops_ hops => ?_
        replace hops := hide hops
        refine list_val (.pointer (some ⟨w.heap.size, 2, none⟩)) (by rw [unhide hops]; kernel_rfl) (by kernel_rfl) ?_
        simp only [nrm]
        refine list_val (.int .i64 c.tn) (by rw [unhide hops]; kernel_rfl) (exec_ci _ (.tmp 38) rfl (w.heap.size) 2 (by kernel_rfl) c.tn (seg_cell (nC  _ _ _ _ _) (hB.get 0 (x := ⟨w.heap.size, fl [[.int .u32 c.nx], [.slice xj.ao xj.no xj.co], [.int .i64 c.tn], [.int .u32 c.dl], [.slice xj.ah xj.nh xj.ch]], 26⟩) rfl) 2 (v := .int .i64 c.tn) rfl rfl)) ?_
        simp only [nrm]
        refine list_val (.int .i64 (j : Int)) (by rw [unhide hops]; kernel_rfl) (by kernel_rfl) ?_
        simp only [nrm]
        refine list_val (.bool true) (by rw [unhide hops]; kernel_rfl) (lss_i _ (.tmp 39) (.tmp 40) c.tn (j : Int) true rfl (by kernel_rfl) (by kernel_rfl) (decide_eq_true q1)) ?_
        simp only [nrm]
        refine list_val (.bool true) (by rw [unhide hops]; kernel_rfl) (by kernel_rfl) ?_
        simp only [nrm]
        refine list_off (by rw [unhide hops]; kernel_rfl) ?_
        simp only [nrm]
        refine list_off (by rw [unhide hops]; kernel_rfl) ?_
        simp only [nrm]
        refine list_off (by rw [unhide hops]; kernel_rfl) ?_
        simp only [nrm]
        refine list_off (by rw [unhide hops]; kernel_rfl) ?_
        simp only [nrm]
        refine list_val (.bool true) (by rw [unhide hops]; kernel_rfl) (by kernel_rfl) ?_
        simp only [nrm]
        refine wpList_nil ?_
        replace hB := hide hB
        go_upto_region 11 with fail
        replace hB := unhide hB
        refine wp_region_lit ?_
        refine lvk (.pointer (some ⟨w.heap.size, 2, none⟩)) ?_
        simp only [nrm]
        have hzz_ : Hid (wr.heap[w.heap.size]? = some (.cells (fl [[.int .u32 c.nx], [.slice xj.ao xj.no xj.co], [.int .i64 c.tn], [.int .u32 c.dl], [.slice xj.ah xj.nh xj.ch]]) 26 (0, 0))) := hide (hB.get 0 (x := ⟨w.heap.size, fl [[.int .u32 c.nx], [.slice xj.ao xj.no xj.co], [.int .i64 c.tn], [.int .u32 c.dl], [.slice xj.ah xj.nh xj.ch]], 26⟩) rfl)
        refine list_ci (.tmp 48) (.const (.int .i64 0)) (w.heap.size) 2 0 (by kernel_rfl) rfl (by kernel_rfl) (by kernel_rfl) hB 0 rfl NC (nC  _ _ _ _ _) 2 _ rfl rfl ?_
        intro u4 hB_ hbt_
        clear hB
        replace hB : Bl w [⟨w.heap.size, fl [[.int .u32 c.nx], [.slice xj.ao xj.no xj.co], [.int .i64 0], [.int .u32 c.dl], [.slice xj.ah xj.nh xj.ch]], 26⟩, ⟨w.heap.size + 1, fl [[.int .u32 0], [.slice none 0 0], [.int .i64 0], [.int .u32 0], [.slice none 0 0]], 26⟩] u4 := hB_
        clear hB_
        replace hW := hide ((unhide hW).bz (unhide hzz_) hbt_)
        clear hbt_ hzz_
        simp only [nrm]
        refine wpList_nil ?_
        replace hB := hide hB
        go_upto_region 13 with fail
        replace hB := unhide hB
        refine wp_region_lit ?_
        refine list_val (.agg (fl [[.int .u32 c.nx], [.slice xj.ao xj.no xj.co], [.int .i64 0], [.int .u32 c.dl], [.slice xj.ah xj.nh xj.ch]])) (by kernel_rfl) (exec_sw _ 26 (.tmp 2) rfl (w.heap.size) (by kernel_rfl) (hB.get 0 (x := ⟨w.heap.size, fl [[.int .u32 c.nx], [.slice xj.ao xj.no xj.co], [.int .i64 0], [.int .u32 c.dl], [.slice xj.ah xj.nh xj.ch]], 26⟩) rfl) NC (nC  _ _ _ _ _) Try.underlying26 rfl (by kernel_rfl)) ?_
        simp only [nrm]
        refine lvk (.int .i64 (j : Int)) ?_
        simp only [nrm]
        have hzz_ : Hid (u4.heap[w.heap.size + 1]? = some (.cells (fl [[.int .u32 0], [.slice none 0 0], [.int .i64 0], [.int .u32 0], [.slice none 0 0]]) 26 (0, 0))) := hide (hB.get 1 (x := ⟨w.heap.size + 1, fl [[.int .u32 0], [.slice none 0 0], [.int .i64 0], [.int .u32 0], [.slice none 0 0]], 26⟩) rfl)
        refine list_all 26 (.tmp 4) (.tmp 54) (w.heap.size + 1) (S2 := [[.int .u32 c.nx], [.slice xj.ao xj.no xj.co], [.int .i64 0], [.int .u32 c.dl], [.slice xj.ah xj.nh xj.ch]]) (by kernel_rfl) rfl (by kernel_rfl) (by kernel_rfl) hB 1 rfl NC (nC  _ _ _ _ _) (nC  _ _ _ _ _) (by kernel_rfl) (oC  rfl rfl rfl rfl rfl) ?_
        intro u5 hB_ hbt_
        clear hB
        replace hB : Bl w [⟨w.heap.size, fl [[.int .u32 c.nx], [.slice xj.ao xj.no xj.co], [.int .i64 0], [.int .u32 c.dl], [.slice xj.ah xj.nh xj.ch]], 26⟩, ⟨w.heap.size + 1, fl [[.int .u32 c.nx], [.slice xj.ao xj.no xj.co], [.int .i64 0], [.int .u32 c.dl], [.slice xj.ah xj.nh xj.ch]], 26⟩] u5 := hB_
        clear hB_
        replace hW := hide ((unhide hW).bz (unhide hzz_) hbt_)
        clear hbt_ hzz_
        simp only [nrm]
        (refine wpList_step fun K hK => ?_; replace hK := hide hK; go_simp; refine unhide hK _ _ ?_; clear hK K)
        (refine wpList_step fun K hK => ?_; replace hK := hide hK; go_simp; refine unhide hK _ _ ?_; clear hK K)
        refine wpList_nil ?_
        have ht9 : c.tn - min (j : Int) c.tn = 0 := by omega
        have hD := (unhide hW).tn (0) (by first | omega | (dsimp only; omega))
        replace hB := hide hB
        go_wp2_with fail
        replace hB := unhide hB
        rw [unhide hT]
        rw [unhide hv, ht9]
        exact bodyPost_ret (v := .tuple #[.agg (fl [[.int .u32 c.nx], [.slice xj.ao xj.no xj.co], [.int .i64 0], [.int .u32 c.dl], [.slice xj.ah xj.nh xj.ch]]), .int .i64 (j : Int), .int .i64 0]) (res3 Try.results21 (rv_cell (by kernel_rfl) (hB.get 1 (x := ⟨w.heap.size + 1, fl [[.int .u32 c.nx], [.slice xj.ao xj.no xj.co], [.int .i64 0], [.int .u32 c.dl], [.slice xj.ah xj.nh xj.ch]], 26⟩) rfl) Try.underlying26 rfl (by rw [fl_size (nC  _ _ _ _ _)]; kernel_rfl)) (rv_tmp (by kernel_rfl)) (rv_tmp (by kernel_rfl))) rfl (⟨xj, rfl, hD.i, hD.o, hB.gr⟩)
      by_cases q2 : xj.no = 0
      · have q2 := hide q2
        have q3 : xj.no ≤ 0 := by have := unhide q2; omega
        refine wp_region_lit ?_
        refine wpList_gen fun ops_ hops => ?_
        replace hops := hide hops
        refine list_val (.pointer (some ⟨w.heap.size, 2, none⟩)) (by rw [unhide hops]; kernel_rfl) (by kernel_rfl) ?_
        simp only [nrm]
        refine list_val (.int .i64 c.tn) (by rw [unhide hops]; kernel_rfl) (exec_ci _ (.tmp 38) rfl (w.heap.size) 2 (by kernel_rfl) c.tn (seg_cell (nC  _ _ _ _ _) (hB.get 0 (x := ⟨w.heap.size, fl [[.int .u32 c.nx], [.slice xj.ao xj.no xj.co], [.int .i64 c.tn], [.int .u32 c.dl], [.slice xj.ah xj.nh xj.ch]], 26⟩) rfl) 2 (v := .int .i64 c.tn) rfl rfl)) ?_
        simp only [nrm]
        refine list_val (.int .i64 (j : Int)) (by rw [unhide hops]; kernel_rfl) (by kernel_rfl) ?_
        simp only [nrm]
        refine list_val (.bool false) (by rw [unhide hops]; kernel_rfl) (lss_i _ (.tmp 39) (.tmp 40) c.tn (j : Int) false rfl (by kernel_rfl) (by kernel_rfl) (decide_eq_false q1)) ?_
        simp only [nrm]
        refine list_val (.bool false) (by rw [unhide hops]; kernel_rfl) (by kernel_rfl) ?_
        simp only [nrm]
        refine list_val (.pointer (some ⟨w.heap.size, 1, none⟩)) (by rw [unhide hops]; kernel_rfl) (by kernel_rfl) ?_
        simp only [nrm]
        refine list_val (.slice xj.ao xj.no xj.co) (by rw [unhide hops]; kernel_rfl) (exec_csO _ (.tmp 43) rfl (w.heap.size) 1 (by kernel_rfl) xj.ao xj.no xj.co (seg_cell (nC  _ _ _ _ _) (hB.get 0 (x := ⟨w.heap.size, fl [[.int .u32 c.nx], [.slice xj.ao xj.no xj.co], [.int .i64 c.tn], [.int .u32 c.dl], [.slice xj.ah xj.nh xj.ch]], 26⟩) rfl) 1 (v := .slice xj.ao xj.no xj.co) rfl rfl)) ?_
        simp only [nrm]
        refine list_val (.int .i64 (xj.no : Int)) (by rw [unhide hops]; kernel_rfl) (by kernel_rfl) ?_
        simp only [nrm]
        refine list_val (.bool true) (by rw [unhide hops]; kernel_rfl) (eql_i _ (.tmp 45) (.const (.int .i64 0)) (xj.no : Int) 0 true rfl (by kernel_rfl) (by kernel_rfl) (decide_eq_true (by have := unhide q2; omega))) ?_
        simp only [nrm]
        refine list_val (.bool true) (by rw [unhide hops]; kernel_rfl) (by kernel_rfl) ?_
        simp only [nrm]
        refine wpList_nil ?_
        replace hB := hide hB
        go_upto_region 11 with fail
        replace hB := unhide hB
        refine wp_region_lit ?_
        refine lvk (.pointer (some ⟨w.heap.size, 2, none⟩)) ?_
        simp only [nrm]
        have hzz_ : Hid (wr.heap[w.heap.size]? = some (.cells (fl [[.int .u32 c.nx], [.slice xj.ao xj.no xj.co], [.int .i64 c.tn], [.int .u32 c.dl], [.slice xj.ah xj.nh xj.ch]]) 26 (0, 0))) := hide (hB.get 0 (x := ⟨w.heap.size, fl [[.int .u32 c.nx], [.slice xj.ao xj.no xj.co], [.int .i64 c.tn], [.int .u32 c.dl], [.slice xj.ah xj.nh xj.ch]], 26⟩) rfl)
        refine list_ci (.tmp 48) (.const (.int .i64 0)) (w.heap.size) 2 0 (by kernel_rfl) rfl (by kernel_rfl) (by kernel_rfl) hB 0 rfl NC (nC  _ _ _ _ _) 2 _ rfl rfl ?_
        intro u4 hB_ hbt_
        clear hB
        replace hB : Bl w [⟨w.heap.size, fl [[.int .u32 c.nx], [.slice xj.ao xj.no xj.co], [.int .i64 0], [.int .u32 c.dl], [.slice xj.ah xj.nh xj.ch]], 26⟩, ⟨w.heap.size + 1, fl [[.int .u32 0], [.slice none 0 0], [.int .i64 0], [.int .u32 0], [.slice none 0 0]], 26⟩] u4 := hB_
        clear hB_
        replace hW := hide ((unhide hW).bz (unhide hzz_) hbt_)
        clear hbt_ hzz_
        simp only [nrm]
        refine wpList_nil ?_
        replace hB := hide hB
        go_upto_region 13 with fail
        replace hB := unhide hB
        refine wp_region_lit ?_
        refine list_val (.agg (fl [[.int .u32 c.nx], [.slice xj.ao xj.no xj.co], [.int .i64 0], [.int .u32 c.dl], [.slice xj.ah xj.nh xj.ch]])) (by kernel_rfl) (exec_sw _ 26 (.tmp 2) rfl (w.heap.size) (by kernel_rfl) (hB.get 0 (x := ⟨w.heap.size, fl [[.int .u32 c.nx], [.slice xj.ao xj.no xj.co], [.int .i64 0], [.int .u32 c.dl], [.slice xj.ah xj.nh xj.ch]], 26⟩) rfl) NC (nC  _ _ _ _ _) Try.underlying26 rfl (by kernel_rfl)) ?_
        simp only [nrm]
        refine lvk (.int .i64 (j : Int)) ?_
        simp only [nrm]
        have hzz_ : Hid (u4.heap[w.heap.size + 1]? = some (.cells (fl [[.int .u32 0], [.slice none 0 0], [.int .i64 0], [.int .u32 0], [.slice none 0 0]]) 26 (0, 0))) := hide (hB.get 1 (x := ⟨w.heap.size + 1, fl [[.int .u32 0], [.slice none 0 0], [.int .i64 0], [.int .u32 0], [.slice none 0 0]], 26⟩) rfl)
        refine list_all 26 (.tmp 4) (.tmp 54) (w.heap.size + 1) (S2 := [[.int .u32 c.nx], [.slice xj.ao xj.no xj.co], [.int .i64 0], [.int .u32 c.dl], [.slice xj.ah xj.nh xj.ch]]) (by kernel_rfl) rfl (by kernel_rfl) (by kernel_rfl) hB 1 rfl NC (nC  _ _ _ _ _) (nC  _ _ _ _ _) (by kernel_rfl) (oC  rfl rfl rfl rfl rfl) ?_
        intro u5 hB_ hbt_
        clear hB
        replace hB : Bl w [⟨w.heap.size, fl [[.int .u32 c.nx], [.slice xj.ao xj.no xj.co], [.int .i64 0], [.int .u32 c.dl], [.slice xj.ah xj.nh xj.ch]], 26⟩, ⟨w.heap.size + 1, fl [[.int .u32 c.nx], [.slice xj.ao xj.no xj.co], [.int .i64 0], [.int .u32 c.dl], [.slice xj.ah xj.nh xj.ch]], 26⟩] u5 := hB_
        clear hB_
        replace hW := hide ((unhide hW).bz (unhide hzz_) hbt_)
        clear hbt_ hzz_
        simp only [nrm]
        (refine wpList_step fun K hK => ?_; replace hK := hide hK; go_simp; refine unhide hK _ _ ?_; clear hK K)
        (refine wpList_step fun K hK => ?_; replace hK := hide hK; go_simp; refine unhide hK _ _ ?_; clear hK K)
        refine wpList_nil ?_
        have ht9 : c.tn - min (j : Int) c.tn = 0 := by omega
        have hD := (unhide hW).tn (0) (by first | omega | (dsimp only; omega))
        replace hB := hide hB
        go_wp2_with fail
        replace hB := unhide hB
        rw [unhide hT]
        rw [unhide hv, ht9]
        exact bodyPost_ret (v := .tuple #[.agg (fl [[.int .u32 c.nx], [.slice xj.ao xj.no xj.co], [.int .i64 0], [.int .u32 c.dl], [.slice xj.ah xj.nh xj.ch]]), .int .i64 (j : Int), .int .i64 0]) (res3 Try.results21 (rv_cell (by kernel_rfl) (hB.get 1 (x := ⟨w.heap.size + 1, fl [[.int .u32 c.nx], [.slice xj.ao xj.no xj.co], [.int .i64 0], [.int .u32 c.dl], [.slice xj.ah xj.nh xj.ch]], 26⟩) rfl) Try.underlying26 rfl (by rw [fl_size (nC  _ _ _ _ _)]; kernel_rfl)) (rv_tmp (by kernel_rfl)) (rv_tmp (by kernel_rfl))) rfl (⟨xj, rfl, hD.i, hD.o, hB.gr⟩)
      · have q2 := q2
        refine wp_region_lit ?_
        refine wpList_gen fun ops_ hops => ?_
        replace hops := hide hops
        refine list_val (.pointer (some ⟨w.heap.size, 2, none⟩)) (by rw [unhide hops]; kernel_rfl) (by kernel_rfl) ?_
        simp only [nrm]
        refine list_val (.int .i64 c.tn) (by rw [unhide hops]; kernel_rfl) (exec_ci _ (.tmp 38) rfl (w.heap.size) 2 (by kernel_rfl) c.tn (seg_cell (nC  _ _ _ _ _) (hB.get 0 (x := ⟨w.heap.size, fl [[.int .u32 c.nx], [.slice xj.ao xj.no xj.co], [.int .i64 c.tn], [.int .u32 c.dl], [.slice xj.ah xj.nh xj.ch]], 26⟩) rfl) 2 (v := .int .i64 c.tn) rfl rfl)) ?_
        simp only [nrm]
        refine list_val (.int .i64 (j : Int)) (by rw [unhide hops]; kernel_rfl) (by kernel_rfl) ?_
        simp only [nrm]
        refine list_val (.bool false) (by rw [unhide hops]; kernel_rfl) (lss_i _ (.tmp 39) (.tmp 40) c.tn (j : Int) false rfl (by kernel_rfl) (by kernel_rfl) (decide_eq_false q1)) ?_
        simp only [nrm]
        refine list_val (.bool false) (by rw [unhide hops]; kernel_rfl) (by kernel_rfl) ?_
        simp only [nrm]
        refine list_val (.pointer (some ⟨w.heap.size, 1, none⟩)) (by rw [unhide hops]; kernel_rfl) (by kernel_rfl) ?_
        simp only [nrm]
        refine list_val (.slice xj.ao xj.no xj.co) (by rw [unhide hops]; kernel_rfl) (exec_csO _ (.tmp 43) rfl (w.heap.size) 1 (by kernel_rfl) xj.ao xj.no xj.co (seg_cell (nC  _ _ _ _ _) (hB.get 0 (x := ⟨w.heap.size, fl [[.int .u32 c.nx], [.slice xj.ao xj.no xj.co], [.int .i64 c.tn], [.int .u32 c.dl], [.slice xj.ah xj.nh xj.ch]], 26⟩) rfl) 1 (v := .slice xj.ao xj.no xj.co) rfl rfl)) ?_
        simp only [nrm]
        refine list_val (.int .i64 (xj.no : Int)) (by rw [unhide hops]; kernel_rfl) (by kernel_rfl) ?_
        simp only [nrm]
        refine list_val (.bool false) (by rw [unhide hops]; kernel_rfl) (eql_i _ (.tmp 45) (.const (.int .i64 0)) (xj.no : Int) 0 false rfl (by kernel_rfl) (by kernel_rfl) (decide_eq_false (by omega))) ?_
        simp only [nrm]
        refine list_val (.bool false) (by rw [unhide hops]; kernel_rfl) (by kernel_rfl) ?_
        simp only [nrm]
        refine wpList_nil ?_
        replace hB := hide hB
        go_upto_region 12 with fail
        replace hB := unhide hB
        refine wp_region_lit ?_
        refine lvk (.pointer (some ⟨w.heap.size, 2, none⟩)) ?_
        simp only [nrm]
        refine list_val (.int .i64 c.tn) (by kernel_rfl) (exec_ci _ (.tmp 49) rfl (w.heap.size) 2 (by kernel_rfl) c.tn (seg_cell (nC  _ _ _ _ _) (hB.get 0 (x := ⟨w.heap.size, fl [[.int .u32 c.nx], [.slice xj.ao xj.no xj.co], [.int .i64 c.tn], [.int .u32 c.dl], [.slice xj.ah xj.nh xj.ch]], 26⟩) rfl) 2 (v := .int .i64 c.tn) rfl rfl)) ?_
        simp only [nrm]
        refine lvk (.int .i64 (j : Int)) ?_
        simp only [nrm]
        refine list_val (.int .i64 (c.tn - (j : Int))) (by kernel_rfl) (sub_i _ (.tmp 50) (.tmp 51) c.tn (j : Int) rfl (by kernel_rfl) (by kernel_rfl) _ rfl (by omega)) ?_
        simp only [nrm]
        refine lvk (.pointer (some ⟨w.heap.size, 2, none⟩)) ?_
        simp only [nrm]
        have hzz_ : Hid (wr.heap[w.heap.size]? = some (.cells (fl [[.int .u32 c.nx], [.slice xj.ao xj.no xj.co], [.int .i64 c.tn], [.int .u32 c.dl], [.slice xj.ah xj.nh xj.ch]]) 26 (0, 0))) := hide (hB.get 0 (x := ⟨w.heap.size, fl [[.int .u32 c.nx], [.slice xj.ao xj.no xj.co], [.int .i64 c.tn], [.int .u32 c.dl], [.slice xj.ah xj.nh xj.ch]], 26⟩) rfl)
        refine list_ci (.tmp 53) (.tmp 52) (w.heap.size) 2 (c.tn - (j : Int)) (by kernel_rfl) rfl (by kernel_rfl) (by kernel_rfl) hB 0 rfl NC (nC  _ _ _ _ _) 2 _ rfl rfl ?_
        intro u4 hB_ hbt_
        clear hB
        replace hB : Bl w [⟨w.heap.size, fl [[.int .u32 c.nx], [.slice xj.ao xj.no xj.co], [.int .i64 (c.tn - (j : Int))], [.int .u32 c.dl], [.slice xj.ah xj.nh xj.ch]], 26⟩, ⟨w.heap.size + 1, fl [[.int .u32 0], [.slice none 0 0], [.int .i64 0], [.int .u32 0], [.slice none 0 0]], 26⟩] u4 := hB_
        clear hB_
        replace hW := hide ((unhide hW).bz (unhide hzz_) hbt_)
        clear hbt_ hzz_
        simp only [nrm]
        refine wpList_nil ?_
        replace hB := hide hB
        go_upto_region 13 with fail
        replace hB := unhide hB
        refine wp_region_lit ?_
        refine list_val (.agg (fl [[.int .u32 c.nx], [.slice xj.ao xj.no xj.co], [.int .i64 (c.tn - (j : Int))], [.int .u32 c.dl], [.slice xj.ah xj.nh xj.ch]])) (by kernel_rfl) (exec_sw _ 26 (.tmp 2) rfl (w.heap.size) (by kernel_rfl) (hB.get 0 (x := ⟨w.heap.size, fl [[.int .u32 c.nx], [.slice xj.ao xj.no xj.co], [.int .i64 (c.tn - (j : Int))], [.int .u32 c.dl], [.slice xj.ah xj.nh xj.ch]], 26⟩) rfl) NC (nC  _ _ _ _ _) Try.underlying26 rfl (by kernel_rfl)) ?_
        simp only [nrm]
        refine lvk (.int .i64 (j : Int)) ?_
        simp only [nrm]
        have hzz_ : Hid (u4.heap[w.heap.size + 1]? = some (.cells (fl [[.int .u32 0], [.slice none 0 0], [.int .i64 0], [.int .u32 0], [.slice none 0 0]]) 26 (0, 0))) := hide (hB.get 1 (x := ⟨w.heap.size + 1, fl [[.int .u32 0], [.slice none 0 0], [.int .i64 0], [.int .u32 0], [.slice none 0 0]], 26⟩) rfl)
        refine list_all 26 (.tmp 4) (.tmp 54) (w.heap.size + 1) (S2 := [[.int .u32 c.nx], [.slice xj.ao xj.no xj.co], [.int .i64 (c.tn - (j : Int))], [.int .u32 c.dl], [.slice xj.ah xj.nh xj.ch]]) (by kernel_rfl) rfl (by kernel_rfl) (by kernel_rfl) hB 1 rfl NC (nC  _ _ _ _ _) (nC  _ _ _ _ _) (by kernel_rfl) (oC  rfl rfl rfl rfl rfl) ?_
        intro u5 hB_ hbt_
        clear hB
        replace hB : Bl w [⟨w.heap.size, fl [[.int .u32 c.nx], [.slice xj.ao xj.no xj.co], [.int .i64 (c.tn - (j : Int))], [.int .u32 c.dl], [.slice xj.ah xj.nh xj.ch]], 26⟩, ⟨w.heap.size + 1, fl [[.int .u32 c.nx], [.slice xj.ao xj.no xj.co], [.int .i64 (c.tn - (j : Int))], [.int .u32 c.dl], [.slice xj.ah xj.nh xj.ch]], 26⟩] u5 := hB_
        clear hB_
        replace hW := hide ((unhide hW).bz (unhide hzz_) hbt_)
        clear hbt_ hzz_
        simp only [nrm]
        (refine wpList_step fun K hK => ?_; replace hK := hide hK; go_simp; refine unhide hK _ _ ?_; clear hK K)
        (refine wpList_step fun K hK => ?_; replace hK := hide hK; go_simp; refine unhide hK _ _ ?_; clear hK K)
        refine wpList_nil ?_
        have ht9 : c.tn - min (j : Int) c.tn = c.tn - (j : Int) := by omega
        have hD := (unhide hW).tn (c.tn - (j : Int)) (by first | omega | (dsimp only; omega))
        replace hB := hide hB
        go_wp2_with fail
        replace hB := unhide hB
        rw [unhide hT]
        rw [unhide hv, ht9]
        exact bodyPost_ret (v := .tuple #[.agg (fl [[.int .u32 c.nx], [.slice xj.ao xj.no xj.co], [.int .i64 (c.tn - (j : Int))], [.int .u32 c.dl], [.slice xj.ah xj.nh xj.ch]]), .int .i64 (j : Int), .int .i64 0]) (res3 Try.results21 (rv_cell (by kernel_rfl) (hB.get 1 (x := ⟨w.heap.size + 1, fl [[.int .u32 c.nx], [.slice xj.ao xj.no xj.co], [.int .i64 (c.tn - (j : Int))], [.int .u32 c.dl], [.slice xj.ah xj.nh xj.ch]], 26⟩) rfl) Try.underlying26 rfl (by rw [fl_size (nC  _ _ _ _ _)]; kernel_rfl)) (rv_tmp (by kernel_rfl)) (rv_tmp (by kernel_rfl))) rfl (⟨xj, rfl, hD.i, hD.o, hB.gr⟩)
end Go.Proofs.Ytcefkkoombmndaa
