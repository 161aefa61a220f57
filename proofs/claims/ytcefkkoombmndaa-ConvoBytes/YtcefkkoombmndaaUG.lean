/-
  Queue.
-/
import Derived.Test.YtcefkkoombmndaaUF
namespace Go.Proofs.Ytcefkkoombmndaa
open Go.RowKit
set_option maxRecDepth 100000
set_option linter.unusedSimpArgs false
set_option linter.unusedVariables false
def cz : Cm := ⟨0, [], 0, 0, []⟩
def xz : Lc := ⟨none, 0, 0, none, 0, 0⟩
theorem lz_none (k : Nat) (w : World) : Lz k w none 0 0 [] := ⟨rfl, (fun r hr => by cases hr), .inl rfl, Nat.le_refl _, by omega⟩
theorem cin_z (w : World) : Cin w cz xz := ⟨⟨(fun s hs => by cases hs), lz_none 106 w⟩, ⟨(fun s hs => by cases hs), lz_none 2 w⟩, by decide, by decide, by decide⟩
theorem owx_z (b : Nat) (w : World) : Owx b w xz := ⟨.inl rfl, .inl rfl⟩
theorem rt_le {c : Cm} (h : rt c = true) : (c.nx ≤ 2147483648 ∧ c.dl ≤ 2147483648) ∧ (c.O.length ≤ 4 ∧ (c.O.length : Int) ≤ c.nx ∧ 0 ≤ c.tn ∧ c.tn < max (c.O.length : Int) 1) ∧ c.H.length ≤ 3 := by
  unfold rt outB heldB at h
  simp only [Bool.and_eq_true, decide_eq_true_eq] at h
  exact ⟨h.1, h.2.1.1, h.2.2.1⟩
theorem chk_t {c : Cm} (h : rt c = true) : chk c = 0 := by unfold chk; rw [if_pos h]
theorem chk_f {c : Cm} (h : rt c = false) : chk c = 281 := by unfold chk; rw [h]; rfl
/-- a conversation is answered, in memory of its own, and what else -/
def Rc (c' : Cm) (rest : List Value) (w : World) (r : Ending) (w' : World) : Prop := ∃ x, r = .returned (.tuple (.agg (fl (cvs c' x)) :: rest).toArray) ∧ Cin w' c' x ∧ Owx w.heap.size w' x ∧ Gr w w'
def qu (c : Cm) (B : List Int) : Cm × Int × Int :=
  if rt c = false then (cz, 0, 281) else if c.O.length = 4 ∨ c.nx = 2147483648 then (cz, 0, 6) else ({ c with nx := c.nx + 1, O := c.O ++ [⟨c.nx, B⟩] }, c.nx, 0)
theorem qu_no {c : Cm} (B : List Int) (h : rt c = false) : qu c B = (cz, 0, 281) := by unfold qu; rw [if_pos h]
theorem qu_full {c : Cm} (B : List Int) (h : rt c = true) (h2 : c.O.length = 4 ∨ c.nx = 2147483648) : qu c B = (cz, 0, 6) := by unfold qu; rw [if_neg (by rw [h]; decide), if_pos h2]
theorem qu_yes {c : Cm} (B : List Int) (h : rt c = true) (h2 : ¬ (c.O.length = 4 ∨ c.nx = 2147483648)) : qu c B = ({ c with nx := c.nx + 1, O := c.O ++ [⟨c.nx, B⟩] }, c.nx, 0) := by unfold qu; rw [if_neg (by rw [h]; decide), if_neg h2]
set_option maxHeartbeats 4000000 in
theorem queue_ok (c : Cm) (x : Lc) (B : List Int) (hY : B.length = 105 ∧ IsB B) (w : World) (hc : Cin w c x) : Calls Try.prog 15 #[.agg (fl [[.int .u32 c.nx], [.slice x.ao x.no x.co], [.int .i64 c.tn], [.int .u32 c.dl], [.slice x.ah x.nh x.ch]]), .agg (fl [bw B])] w (Rc (qu c B).1 [.int .u32 (qu c B).2.1, .int .i64 (qu c B).2.2] w) := by
  obtain ⟨T, hT⟩ : ∃ T : Ending → World → Prop, T = (Rc (qu c B).1 [.int .u32 (qu c B).2.1, .int .i64 (qu c B).2.2] w) := ⟨_, rfl⟩
  rw [← hT]
  replace hT := hide hT
  replace hY := hide hY
  have hn := hc.o.len
  have hnx := hc.nx
  replace hc := hide hc
  obtain ⟨A0_, hA0_⟩ : ∃ S_, S_ = fl [[.int .u32 c.nx], [.slice x.ao x.no x.co], [.int .i64 c.tn], [.int .u32 c.dl], [.slice x.ah x.nh x.ch]] := ⟨_, rfl⟩
  rw [← hA0_]
  replace hA0_ := hide hA0_
  obtain ⟨A1_, hA1_⟩ : ∃ S_, S_ = fl [bw B] := ⟨_, rfl⟩
  rw [← hA1_]
  replace hA1_ := hide hA1_
  go_enter Try.func15, Try.ntmps15
  go_upto_region 1 with fail
  have hB := ((((Bl.nil w).new A0_ 26).new A1_ 27).new (fl [[.int .u32 0], [.slice none 0 0], [.int .i64 0], [.int .u32 0], [.slice none 0 0]]) 26)
  simp only [size_alloc, List.nil_append, List.cons_append] at hB
  rw [unhide hA0_, unhide hA1_] at hB
  generalize hu_ : World.alloc _ _ = u0
  replace hB : Bl w [⟨w.heap.size, fl [[.int .u32 c.nx], [.slice x.ao x.no x.co], [.int .i64 c.tn], [.int .u32 c.dl], [.slice x.ah x.nh x.ch]], 26⟩, ⟨w.heap.size + 1, fl [bw B], 27⟩, ⟨w.heap.size + 1 + 1, fl [[.int .u32 0], [.slice none 0 0], [.int .i64 0], [.int .u32 0], [.slice none 0 0]], 26⟩] u0 := by
    rw [← hu_]
    rw [unhide hA0_, unhide hA1_]
    exact hB
  clear hu_ hA0_ hA1_
  cases h1 : rt c with
  | false =>
    have hk := chk_f h1
    have hv := qu_no B h1
    refine wp_region_lit ?_
    refine list_val (.agg (fl [[.int .u32 c.nx], [.slice x.ao x.no x.co], [.int .i64 c.tn], [.int .u32 c.dl], [.slice x.ah x.nh x.ch]])) (by kernel_rfl) (exec_sw _ 26 (.tmp 2) rfl (w.heap.size) (by kernel_rfl) (hB.get 0 (x := ⟨w.heap.size, fl [[.int .u32 c.nx], [.slice x.ao x.no x.co], [.int .i64 c.tn], [.int .u32 c.dl], [.slice x.ah x.nh x.ch]], 26⟩) rfl) NC (nC  _ _ _ _ _) Try.underlying26 rfl (by kernel_rfl)) ?_
    simp only [nrm]
    refine list_call 12 #[.agg (fl [[.int .u32 c.nx], [.slice x.ao x.no x.co], [.int .i64 c.tn], [.int .u32 c.dl], [.slice x.ah x.nh x.ch]])] (by kernel_rfl) (by kernel_rfl) (((show Calls Try.prog 12 #[.agg (fl [[.int .u32 c.nx], [.slice x.ao x.no x.co], [.int .i64 c.tn], [.int .u32 c.dl], [.slice x.ah x.nh x.ch]])] u0 (Vl (.int .i64 281) u0) from hk ▸ check_ok c x u0 ((unhide hc).gr hB.gr))).mono ?_)
    rintro r_ u1 ⟨rfl, hg⟩
    replace hB := hB.more hg
    clear hg
    refine ⟨_, rfl, ?_⟩
    simp only [nrm]
    (refine wpList_step fun K hK => ?_; replace hK := hide hK; go_simp; refine unhide hK _ _ ?_; clear hK K)
    refine wpList_nil ?_
    replace hB := hide hB
    go_upto_region 2 with fail
    replace hB := unhide hB
    refine wp_region_lit ?_
    refine lvk (.int .i64 281) ?_
    simp only [nrm]
    refine list_val (.bool true) (by kernel_rfl) (neq_e _ (.tmp 11) (.const (.int .i64 0)) 281 0 true rfl (by kernel_rfl) (by kernel_rfl) (by decide)) ?_
    simp only [nrm]
    refine wpList_nil ?_
    replace hB := hide hB
    go_upto_region 3 with fail
    replace hB := unhide hB
    refine wp_region_lit ?_
    refine list_val (.agg (fl [[.int .u32 0], [.slice none 0 0], [.int .i64 0], [.int .u32 0], [.slice none 0 0]])) (by kernel_rfl) (bC _ rfl) ?_
    simp only [nrm]
    refine lvk (.int .i64 281) ?_
    simp only [nrm]
    refine list_all 26 (.tmp 4) (.tmp 13) (w.heap.size + 1 + 1) (S2 := [[.int .u32 0], [.slice none 0 0], [.int .i64 0], [.int .u32 0], [.slice none 0 0]]) (by kernel_rfl) rfl (by kernel_rfl) (by kernel_rfl) hB 2 rfl NC (nC  _ _ _ _ _) (nC  _ _ _ _ _) (by kernel_rfl) (oC  rfl rfl rfl rfl rfl) ?_
    intro u2 hB_ hbt_
    clear hB
    replace hB : Bl w [⟨w.heap.size, fl [[.int .u32 c.nx], [.slice x.ao x.no x.co], [.int .i64 c.tn], [.int .u32 c.dl], [.slice x.ah x.nh x.ch]], 26⟩, ⟨w.heap.size + 1, fl [bw B], 27⟩, ⟨w.heap.size + 1 + 1, fl [[.int .u32 0], [.slice none 0 0], [.int .i64 0], [.int .u32 0], [.slice none 0 0]], 26⟩] u2 := hB_
    clear hB_
    clear hbt_
    simp only [nrm]
    (refine wpList_step fun K hK => ?_; replace hK := hide hK; go_simp; refine unhide hK _ _ ?_; clear hK K)
    (refine wpList_step fun K hK => ?_; replace hK := hide hK; go_simp; refine unhide hK _ _ ?_; clear hK K)
    refine wpList_nil ?_
    replace hB := hide hB
    go_wp2_with fail
    replace hB := unhide hB
    rw [unhide hT]
    rw [hv]
    exact bodyPost_ret (v := .tuple #[.agg (fl [[.int .u32 0], [.slice none 0 0], [.int .i64 0], [.int .u32 0], [.slice none 0 0]]), .int .u32 0, .int .i64 281]) (res3 Try.results15 (rv_cell (by kernel_rfl) (hB.get 2 (x := ⟨w.heap.size + 1 + 1, fl [[.int .u32 0], [.slice none 0 0], [.int .i64 0], [.int .u32 0], [.slice none 0 0]], 26⟩) rfl) Try.underlying26 rfl (by rw [fl_size (nC  _ _ _ _ _)]; kernel_rfl)) (rv_tmp (by kernel_rfl)) (rv_tmp (by kernel_rfl))) rfl (⟨xz, rfl, cin_z _, owx_z _ _, hB.gr⟩)
  | true =>
    have hk := chk_t h1
    have hle := rt_le h1
    rw [hn] at hle
    replace h1 := hide h1
    refine wp_region_lit ?_
    refine list_val (.agg (fl [[.int .u32 c.nx], [.slice x.ao x.no x.co], [.int .i64 c.tn], [.int .u32 c.dl], [.slice x.ah x.nh x.ch]])) (by kernel_rfl) (exec_sw _ 26 (.tmp 2) rfl (w.heap.size) (by kernel_rfl) (hB.get 0 (x := ⟨w.heap.size, fl [[.int .u32 c.nx], [.slice x.ao x.no x.co], [.int .i64 c.tn], [.int .u32 c.dl], [.slice x.ah x.nh x.ch]], 26⟩) rfl) NC (nC  _ _ _ _ _) Try.underlying26 rfl (by kernel_rfl)) ?_
    simp only [nrm]
    refine list_call 12 #[.agg (fl [[.int .u32 c.nx], [.slice x.ao x.no x.co], [.int .i64 c.tn], [.int .u32 c.dl], [.slice x.ah x.nh x.ch]])] (by kernel_rfl) (by kernel_rfl) (((show Calls Try.prog 12 #[.agg (fl [[.int .u32 c.nx], [.slice x.ao x.no x.co], [.int .i64 c.tn], [.int .u32 c.dl], [.slice x.ah x.nh x.ch]])] u0 (Vl (.int .i64 0) u0) from hk ▸ check_ok c x u0 ((unhide hc).gr hB.gr))).mono ?_)
    rintro r_ u1 ⟨rfl, hg⟩
    replace hB := hB.more hg
    clear hg
    refine ⟨_, rfl, ?_⟩
    simp only [nrm]
    (refine wpList_step fun K hK => ?_; replace hK := hide hK; go_simp; refine unhide hK _ _ ?_; clear hK K)
    refine wpList_nil ?_
    replace hB := hide hB
    go_upto_region 2 with fail
    replace hB := unhide hB
    refine wp_region_lit ?_
    refine lvk (.int .i64 0) ?_
    simp only [nrm]
    refine list_val (.bool false) (by kernel_rfl) (neq_e _ (.tmp 11) (.const (.int .i64 0)) 0 0 false rfl (by kernel_rfl) (by kernel_rfl) (by decide)) ?_
    simp only [nrm]
    refine wpList_nil ?_
    by_cases h2 : (x.no : Int) = 4
    · have hv := qu_full B (unhide h1) (.inl (by omega))
      replace hB := hide hB
      go_upto_region 4 with fail
      replace hB := unhide hB
      refine wp_region_lit ?_
      refine wpList_gen fun ops_ hops => ?_
      replace hops := hide hops
      refine list_val (.pointer (some ⟨w.heap.size, 1, none⟩)) (by rw [unhide hops]; kernel_rfl) (by kernel_rfl) ?_
      simp only [nrm]
      refine list_val (.slice x.ao x.no x.co) (by rw [unhide hops]; kernel_rfl) (exec_csO _ (.tmp 15) rfl (w.heap.size) 1 (by kernel_rfl) x.ao x.no x.co (seg_cell (nC  _ _ _ _ _) (hB.get 0 (x := ⟨w.heap.size, fl [[.int .u32 c.nx], [.slice x.ao x.no x.co], [.int .i64 c.tn], [.int .u32 c.dl], [.slice x.ah x.nh x.ch]], 26⟩) rfl) 1 (v := .slice x.ao x.no x.co) rfl rfl)) ?_
      simp only [nrm]
      refine list_val (.int .i64 (x.no : Int)) (by rw [unhide hops]; kernel_rfl) (by kernel_rfl) ?_
      simp only [nrm]
      refine list_val (.bool true) (by rw [unhide hops]; kernel_rfl) (eql_i _ (.tmp 17) (.const (.int .i64 4)) (x.no : Int) 4 true rfl (by kernel_rfl) (by kernel_rfl) (decide_eq_true h2)) ?_
      simp only [nrm]
      refine list_val (.bool true) (by rw [unhide hops]; kernel_rfl) (by kernel_rfl) ?_
      simp only [nrm]
      refine list_off (by rw [unhide hops]; kernel_rfl) ?_
      simp only [nrm]
      refine list_off (by rw [unhide hops]; kernel_rfl) ?_
      simp only [nrm]
      refine list_off (by rw [unhide hops]; kernel_rfl) ?_
      simp only [nrm]
      refine list_val (.bool true) (by rw [unhide hops]; kernel_rfl) (by kernel_rfl) ?_
      simp only [nrm]
      refine wpList_nil ?_
      replace hB := hide hB
      go_upto_region 5 with fail
      replace hB := unhide hB
      refine wp_region_lit ?_
      refine list_val (.agg (fl [[.int .u32 0], [.slice none 0 0], [.int .i64 0], [.int .u32 0], [.slice none 0 0]])) (by kernel_rfl) (bC _ rfl) ?_
      simp only [nrm]
      refine list_all 26 (.tmp 4) (.tmp 24) (w.heap.size + 1 + 1) (S2 := [[.int .u32 0], [.slice none 0 0], [.int .i64 0], [.int .u32 0], [.slice none 0 0]]) (by kernel_rfl) rfl (by kernel_rfl) (by kernel_rfl) hB 2 rfl NC (nC  _ _ _ _ _) (nC  _ _ _ _ _) (by kernel_rfl) (oC  rfl rfl rfl rfl rfl) ?_
      intro u2 hB_ hbt_
      clear hB
      replace hB : Bl w [⟨w.heap.size, fl [[.int .u32 c.nx], [.slice x.ao x.no x.co], [.int .i64 c.tn], [.int .u32 c.dl], [.slice x.ah x.nh x.ch]], 26⟩, ⟨w.heap.size + 1, fl [bw B], 27⟩, ⟨w.heap.size + 1 + 1, fl [[.int .u32 0], [.slice none 0 0], [.int .i64 0], [.int .u32 0], [.slice none 0 0]], 26⟩] u2 := hB_
      clear hB_
      clear hbt_
      simp only [nrm]
      (refine wpList_step fun K hK => ?_; replace hK := hide hK; go_simp; refine unhide hK _ _ ?_; clear hK K)
      (refine wpList_step fun K hK => ?_; replace hK := hide hK; go_simp; refine unhide hK _ _ ?_; clear hK K)
      refine wpList_nil ?_
      replace hB := hide hB
      go_wp2_with fail
      replace hB := unhide hB
      rw [unhide hT]
      rw [hv]
      exact bodyPost_ret (v := .tuple #[.agg (fl [[.int .u32 0], [.slice none 0 0], [.int .i64 0], [.int .u32 0], [.slice none 0 0]]), .int .u32 0, .int .i64 6]) (res3 Try.results15 (rv_cell (by kernel_rfl) (hB.get 2 (x := ⟨w.heap.size + 1 + 1, fl [[.int .u32 0], [.slice none 0 0], [.int .i64 0], [.int .u32 0], [.slice none 0 0]], 26⟩) rfl) Try.underlying26 rfl (by rw [fl_size (nC  _ _ _ _ _)]; kernel_rfl)) (rv_tmp (by kernel_rfl)) (rv_tmp (by kernel_rfl))) rfl (⟨xz, rfl, cin_z _, owx_z _ _, hB.gr⟩)
    by_cases h3 : c.nx = 2147483648
    · have hv := qu_full B (unhide h1) (.inr h3)
      replace h3 := hide h3
      replace hB := hide hB
      go_upto_region 4 with fail
      replace hB := unhide hB
      refine wp_region_lit ?_
      refine wpList_gen fun ops_ hops => ?_
      replace hops := hide hops
      refine list_val (.pointer (some ⟨w.heap.size, 1, none⟩)) (by rw [unhide hops]; kernel_rfl) (by kernel_rfl) ?_
      simp only [nrm]
      refine list_val (.slice x.ao x.no x.co) (by rw [unhide hops]; kernel_rfl) (exec_csO _ (.tmp 15) rfl (w.heap.size) 1 (by kernel_rfl) x.ao x.no x.co (seg_cell (nC  _ _ _ _ _) (hB.get 0 (x := ⟨w.heap.size, fl [[.int .u32 c.nx], [.slice x.ao x.no x.co], [.int .i64 c.tn], [.int .u32 c.dl], [.slice x.ah x.nh x.ch]], 26⟩) rfl) 1 (v := .slice x.ao x.no x.co) rfl rfl)) ?_
      simp only [nrm]
      refine list_val (.int .i64 (x.no : Int)) (by rw [unhide hops]; kernel_rfl) (by kernel_rfl) ?_
      simp only [nrm]
      refine list_val (.bool false) (by rw [unhide hops]; kernel_rfl) (eql_i _ (.tmp 17) (.const (.int .i64 4)) (x.no : Int) 4 false rfl (by kernel_rfl) (by kernel_rfl) (decide_eq_false h2)) ?_
      simp only [nrm]
      refine list_val (.bool false) (by rw [unhide hops]; kernel_rfl) (by kernel_rfl) ?_
      simp only [nrm]
      refine list_val (.pointer (some ⟨w.heap.size, 0, none⟩)) (by rw [unhide hops]; kernel_rfl) (by kernel_rfl) ?_
      simp only [nrm]
      refine list_val (.int .u32 c.nx) (by rw [unhide hops]; kernel_rfl) (exec_c32 _ (.tmp 20) rfl (w.heap.size) 0 (by kernel_rfl) c.nx (seg_cell (nC  _ _ _ _ _) (hB.get 0 (x := ⟨w.heap.size, fl [[.int .u32 c.nx], [.slice x.ao x.no x.co], [.int .i64 c.tn], [.int .u32 c.dl], [.slice x.ah x.nh x.ch]], 26⟩) rfl) 0 (v := .int .u32 c.nx) rfl rfl)) ?_
      simp only [nrm]
      refine list_val (.bool true) (by rw [unhide hops]; kernel_rfl) (eql_32 _ (.tmp 21) (.const (.int .u32 2147483648)) c.nx 2147483648 true rfl (by kernel_rfl) (by kernel_rfl) (decide_eq_true (unhide h3))) ?_
      simp only [nrm]
      refine list_val (.bool true) (by rw [unhide hops]; kernel_rfl) (by kernel_rfl) ?_
      simp only [nrm]
      refine wpList_nil ?_
      replace hB := hide hB
      go_upto_region 5 with fail
      replace hB := unhide hB
      refine wp_region_lit ?_
      refine list_val (.agg (fl [[.int .u32 0], [.slice none 0 0], [.int .i64 0], [.int .u32 0], [.slice none 0 0]])) (by kernel_rfl) (bC _ rfl) ?_
      simp only [nrm]
      refine list_all 26 (.tmp 4) (.tmp 24) (w.heap.size + 1 + 1) (S2 := [[.int .u32 0], [.slice none 0 0], [.int .i64 0], [.int .u32 0], [.slice none 0 0]]) (by kernel_rfl) rfl (by kernel_rfl) (by kernel_rfl) hB 2 rfl NC (nC  _ _ _ _ _) (nC  _ _ _ _ _) (by kernel_rfl) (oC  rfl rfl rfl rfl rfl) ?_
      intro u2 hB_ hbt_
      clear hB
      replace hB : Bl w [⟨w.heap.size, fl [[.int .u32 c.nx], [.slice x.ao x.no x.co], [.int .i64 c.tn], [.int .u32 c.dl], [.slice x.ah x.nh x.ch]], 26⟩, ⟨w.heap.size + 1, fl [bw B], 27⟩, ⟨w.heap.size + 1 + 1, fl [[.int .u32 0], [.slice none 0 0], [.int .i64 0], [.int .u32 0], [.slice none 0 0]], 26⟩] u2 := hB_
      clear hB_
      clear hbt_
      simp only [nrm]
      (refine wpList_step fun K hK => ?_; replace hK := hide hK; go_simp; refine unhide hK _ _ ?_; clear hK K)
      (refine wpList_step fun K hK => ?_; replace hK := hide hK; go_simp; refine unhide hK _ _ ?_; clear hK K)
      refine wpList_nil ?_
      replace hB := hide hB
      go_wp2_with fail
      replace hB := unhide hB
      rw [unhide hT]
      rw [hv]
      exact bodyPost_ret (v := .tuple #[.agg (fl [[.int .u32 0], [.slice none 0 0], [.int .i64 0], [.int .u32 0], [.slice none 0 0]]), .int .u32 0, .int .i64 6]) (res3 Try.results15 (rv_cell (by kernel_rfl) (hB.get 2 (x := ⟨w.heap.size + 1 + 1, fl [[.int .u32 0], [.slice none 0 0], [.int .i64 0], [.int .u32 0], [.slice none 0 0]], 26⟩) rfl) Try.underlying26 rfl (by rw [fl_size (nC  _ _ _ _ _)]; kernel_rfl)) (rv_tmp (by kernel_rfl)) (rv_tmp (by kernel_rfl))) rfl (⟨xz, rfl, cin_z _, owx_z _ _, hB.gr⟩)
    have hv := qu_yes B (unhide h1) (by omega)
    replace hv := hide hv
    replace hB := hide hB
    go_upto_region 4 with fail
    replace hB := unhide hB
    refine wp_region_lit ?_
    refine wpList_gen fun ops_ hops => ?_
    replace hops := hide hops
    refine list_val (.pointer (some ⟨w.heap.size, 1, none⟩)) (by rw [unhide hops]; kernel_rfl) (by kernel_rfl) ?_
    simp only [nrm]
    refine list_val (.slice x.ao x.no x.co) (by rw [unhide hops]; kernel_rfl) (exec_csO _ (.tmp 15) rfl (w.heap.size) 1 (by kernel_rfl) x.ao x.no x.co (seg_cell (nC  _ _ _ _ _) (hB.get 0 (x := ⟨w.heap.size, fl [[.int .u32 c.nx], [.slice x.ao x.no x.co], [.int .i64 c.tn], [.int .u32 c.dl], [.slice x.ah x.nh x.ch]], 26⟩) rfl) 1 (v := .slice x.ao x.no x.co) rfl rfl)) ?_
    simp only [nrm]
    refine list_val (.int .i64 (x.no : Int)) (by rw [unhide hops]; kernel_rfl) (by kernel_rfl) ?_
    simp only [nrm]
    refine list_val (.bool false) (by rw [unhide hops]; kernel_rfl) (eql_i _ (.tmp 17) (.const (.int .i64 4)) (x.no : Int) 4 false rfl (by kernel_rfl) (by kernel_rfl) (decide_eq_false h2)) ?_
    simp only [nrm]
    refine list_val (.bool false) (by rw [unhide hops]; kernel_rfl) (by kernel_rfl) ?_
    simp only [nrm]
    refine list_val (.pointer (some ⟨w.heap.size, 0, none⟩)) (by rw [unhide hops]; kernel_rfl) (by kernel_rfl) ?_
    simp only [nrm]
    refine list_val (.int .u32 c.nx) (by rw [unhide hops]; kernel_rfl) (exec_c32 _ (.tmp 20) rfl (w.heap.size) 0 (by kernel_rfl) c.nx (seg_cell (nC  _ _ _ _ _) (hB.get 0 (x := ⟨w.heap.size, fl [[.int .u32 c.nx], [.slice x.ao x.no x.co], [.int .i64 c.tn], [.int .u32 c.dl], [.slice x.ah x.nh x.ch]], 26⟩) rfl) 0 (v := .int .u32 c.nx) rfl rfl)) ?_
    simp only [nrm]
    refine list_val (.bool false) (by rw [unhide hops]; kernel_rfl) (eql_32 _ (.tmp 21) (.const (.int .u32 2147483648)) c.nx 2147483648 false rfl (by kernel_rfl) (by kernel_rfl) (decide_eq_false h3)) ?_
    simp only [nrm]
    refine list_val (.bool false) (by rw [unhide hops]; kernel_rfl) (by kernel_rfl) ?_
    simp only [nrm]
    refine wpList_nil ?_
    replace hB := hide hB
    go_upto_region 6 with fail
    replace hB := unhide hB
    refine wp_region_lit ?_
    refine lvk (.pointer (some ⟨w.heap.size, 0, none⟩)) ?_
    simp only [nrm]
    refine list_val (.int .u32 c.nx) (by kernel_rfl) (exec_c32 _ (.tmp 25) rfl (w.heap.size) 0 (by kernel_rfl) c.nx (seg_cell (nC  _ _ _ _ _) (hB.get 0 (x := ⟨w.heap.size, fl [[.int .u32 c.nx], [.slice x.ao x.no x.co], [.int .i64 c.tn], [.int .u32 c.dl], [.slice x.ah x.nh x.ch]], 26⟩) rfl) 0 (v := .int .u32 c.nx) rfl rfl)) ?_
    simp only [nrm]
    (refine wpList_step fun K hK => ?_; replace hK := hide hK; go_simp; refine unhide hK _ _ ?_; clear hK K)
    refine wpList_nil ?_
    replace hB := hide hB
    go_upto_region 7 with fail
    replace hB := unhide hB
    have hb0 : w.heap.size ≤ u1.heap.size := hB.gr.size
    refine wp_region_lit ?_
    refine list_val (.agg (fl [[.int .u32 c.nx], [.slice x.ao x.no x.co], [.int .i64 c.tn], [.int .u32 c.dl], [.slice x.ah x.nh x.ch]])) (by kernel_rfl) (exec_sw _ 26 (.tmp 2) rfl (w.heap.size) (by kernel_rfl) (hB.get 0 (x := ⟨w.heap.size, fl [[.int .u32 c.nx], [.slice x.ao x.no x.co], [.int .i64 c.tn], [.int .u32 c.dl], [.slice x.ah x.nh x.ch]], 26⟩) rfl) NC (nC  _ _ _ _ _) Try.underlying26 rfl (by kernel_rfl)) ?_
    simp only [nrm]
    refine list_call 35 #[.agg (fl [[.int .u32 c.nx], [.slice x.ao x.no x.co], [.int .i64 c.tn], [.int .u32 c.dl], [.slice x.ah x.nh x.ch]])] (by kernel_rfl) (by kernel_rfl) ((copied_ok c x u1 ((unhide hc).gr hB.gr) (by omega) (by rw [← (unhide hc).h.len]; omega)).mono ?_)
    rintro r_ u2 ⟨x1, rfl, hW, hn1, hh1, hg⟩
    replace hB := hB.more hg
    clear hg
    replace hW := hide (show Own w.heap.size u2 c x1 from ⟨or_base hW.o hb0, or_base hW.h hb0⟩)
    refine ⟨_, rfl, ?_⟩
    simp only [nrm]
    have hzz_ : Hid (u2.heap[w.heap.size]? = some (.cells (fl [[.int .u32 c.nx], [.slice x.ao x.no x.co], [.int .i64 c.tn], [.int .u32 c.dl], [.slice x.ah x.nh x.ch]]) 26 (0, 0))) := hide (hB.get 0 (x := ⟨w.heap.size, fl [[.int .u32 c.nx], [.slice x.ao x.no x.co], [.int .i64 c.tn], [.int .u32 c.dl], [.slice x.ah x.nh x.ch]], 26⟩) rfl)
    refine list_all 26 (.tmp 2) (.tmp 28) (w.heap.size) (S2 := [[.int .u32 c.nx], [.slice x1.ao x1.no x1.co], [.int .i64 c.tn], [.int .u32 c.dl], [.slice x1.ah x1.nh x1.ch]]) (by kernel_rfl) rfl (by kernel_rfl) (by kernel_rfl) hB 0 rfl NC (nC  _ _ _ _ _) (nC  _ _ _ _ _) (by kernel_rfl) (oC  rfl rfl rfl rfl rfl) ?_
    intro u3 hB_ hbt_
    clear hB
    replace hB : Bl w [⟨w.heap.size, fl [[.int .u32 c.nx], [.slice x1.ao x1.no x1.co], [.int .i64 c.tn], [.int .u32 c.dl], [.slice x1.ah x1.nh x1.ch]], 26⟩, ⟨w.heap.size + 1, fl [bw B], 27⟩, ⟨w.heap.size + 1 + 1, fl [[.int .u32 0], [.slice none 0 0], [.int .i64 0], [.int .u32 0], [.slice none 0 0]], 26⟩] u3 := hB_
    clear hB_
    replace hW := hide ((unhide hW).bz (unhide hzz_) hbt_)
    clear hbt_ hzz_
    simp only [nrm]
    refine wpList_nil ?_
    replace hB := hide hB
    go_upto_region 8 with fail
    replace hB := unhide hB
    refine wp_region_lit ?_
    refine lvk (.pointer (some ⟨w.heap.size, 1, none⟩)) ?_
    simp only [nrm]
    refine list_val (.slice x1.ao x1.no x1.co) (by kernel_rfl) (exec_csO _ (.tmp 29) rfl (w.heap.size) 1 (by kernel_rfl) x1.ao x1.no x1.co (seg_cell (nC  _ _ _ _ _) (hB.get 0 (x := ⟨w.heap.size, fl [[.int .u32 c.nx], [.slice x1.ao x1.no x1.co], [.int .i64 c.tn], [.int .u32 c.dl], [.slice x1.ah x1.nh x1.ch]], 26⟩) rfl) 1 (v := .slice x1.ao x1.no x1.co) rfl rfl)) ?_
    simp only [nrm]
    refine lvk (.int .u32 c.nx) ?_
    simp only [nrm]
    refine list_val (.agg (fl [bw B])) (by kernel_rfl) (exec_sw _ 27 (.tmp 3) rfl (w.heap.size + 1) (by kernel_rfl) (hB.get 1 (x := ⟨w.heap.size + 1, fl [bw B], 27⟩) rfl) NY (nY (unhide hY).1) Try.underlying27 rfl (by kernel_rfl)) ?_
    simp only [nrm]
    refine list_val (.agg (fl [[.int .u32 c.nx], bw B])) (by kernel_rfl) (bO01 _ (.tmp 31) (.tmp 32) rfl (unhide hY).1 (by kernel_rfl) (by kernel_rfl)) ?_
    simp only [nrm]
    refine list_valw (.slice (some ⟨u3.heap.size, 0, none⟩) 1 1) (u3.alloc (.cells (fl [[.int .u32 c.nx], bw B]) 39 (0, 0))) (by kernel_rfl) (exec_bso _ (.tmp 33) rfl ⟨c.nx, B⟩ (unhide hY).1 (by kernel_rfl)) ?_
    have hn0 := blk_new u3 (.cells (fl [[.int .u32 c.nx], bw B]) 39 (0, 0))
    have hg := (Gr.refl u3).alloc (.cells (fl [[.int .u32 c.nx], bw B]) 39 (0, 0))
    replace hW := hide ((unhide hW).gr hg)
    replace hB := hB.more hg
    clear hg
    generalize World.alloc _ _ = u4 at *
    generalize u3.heap.size = gn at *
    replace hn0 := hide hn0
    simp only [nrm]
    have hra : u4.rangeAt gn 0 (otr ⟨c.nx, B⟩) := fun t_ x_ ht_ => by
      refine cell_of (unhide hn0) ?_
      rw [Nat.zero_add]
      unfold fl
      rw [List.getElem?_toArray]
      exact ht_
    have hls : Lz 106 u4 (some ⟨gn, 0, none⟩) 1 1 [otr ⟨c.nx, B⟩] := ⟨rfl, by intro r_ hr_; obtain rfl := List.mem_singleton.1 hr_; exact otr_len ⟨hnx, unhide hY⟩, .inr ⟨gn, 0, rfl, by rw [List.flatten_cons, List.flatten_nil, List.append_nil]; exact hra⟩, by omega, by omega⟩
    refine wpList_step fun K hK => ?_
    rw [if_pos (by kernel_rfl)]
    refine app_rowsW ltO (.tmp 30) (.tmp 34) rfl w.heap.size _ (c.O.map otr) (by kernel_rfl) (unhide hW).o (some ⟨gn, 0, none⟩) 1 1 [otr ⟨c.nx, B⟩] (by kernel_rfl) hls (by
      intro r_ hr_ u_ hu_
      obtain rfl := List.mem_singleton.1 hr_
      exact otr_one _ u_ hu_) (by rw [List.length_map]; omega) hB.gr.size ?_
    intro v1 u5 hO1 hgr
    refine hK _ _ ?_
    clear hK K
    replace hB := hB.grownR (unhide hW).o (Nat.le_refl _) hgr (by intro y_ hy_; simp only [List.mem_cons, List.not_mem_nil, or_false] at hy_; rcases hy_ with rfl | rfl | rfl <;> (dsimp only; decide))
    have hH1 := or_grown (unhide hW).h (unhide hW).o hgr (by decide)
    have e1 : c.O.map otr ++ [otr ⟨c.nx, B⟩] = (c.O ++ [(⟨c.nx, B⟩ : Ot)]).map otr := by simp
    have e2 : (c.O.map otr ++ [otr ⟨c.nx, B⟩]).length = x1.no + 1 := by rw [List.length_append, List.length_map, List.length_singleton]; omega
    obtain ⟨a9, c9, rfl, hls9⟩ := hO1.lz
    rw [e2] at hO1 ⊢
    rw [e1] at hO1
    clear hls9 hls hra hn0 hgr hW e1 e2
    have hW : Hid (Own w.heap.size u5 { c with nx := c.nx + 1, O := c.O ++ [⟨c.nx, B⟩] } ⟨a9, x1.no + 1, c9, x1.ah, x1.nh, x1.ch⟩) := ⟨hO1, hH1⟩
    clear hO1 hH1
    simp only [nrm]
    refine lvk (.pointer (some ⟨w.heap.size, 1, none⟩)) ?_
    simp only [nrm]
    have hzz_ : Hid (u5.heap[w.heap.size]? = some (.cells (fl [[.int .u32 c.nx], [.slice x1.ao x1.no x1.co], [.int .i64 c.tn], [.int .u32 c.dl], [.slice x1.ah x1.nh x1.ch]]) 26 (0, 0))) := hide (hB.get 0 (x := ⟨w.heap.size, fl [[.int .u32 c.nx], [.slice x1.ao x1.no x1.co], [.int .i64 c.tn], [.int .u32 c.dl], [.slice x1.ah x1.nh x1.ch]], 26⟩) rfl)
    refine list_csO (.tmp 36) (.tmp 35) (w.heap.size) 1 a9 (x1.no + 1) c9 (by kernel_rfl) rfl (by kernel_rfl) (by kernel_rfl) hB 0 rfl NC (nC  _ _ _ _ _) 1 _ rfl rfl ?_
    intro u6 hB_ hbt_
    clear hB
    replace hB : Bl w [⟨w.heap.size, fl [[.int .u32 c.nx], [.slice a9 (x1.no + 1) c9], [.int .i64 c.tn], [.int .u32 c.dl], [.slice x1.ah x1.nh x1.ch]], 26⟩, ⟨w.heap.size + 1, fl [bw B], 27⟩, ⟨w.heap.size + 1 + 1, fl [[.int .u32 0], [.slice none 0 0], [.int .i64 0], [.int .u32 0], [.slice none 0 0]], 26⟩] u6 := hB_
    clear hB_
    replace hW := hide ((unhide hW).bz (unhide hzz_) hbt_)
    clear hbt_ hzz_
    simp only [nrm]
    refine wpList_nil ?_
    replace hB := hide hB
    go_upto_region 9 with fail
    replace hB := unhide hB
    refine wp_region_lit ?_
    refine lvk (.pointer (some ⟨w.heap.size, 0, none⟩)) ?_
    simp only [nrm]
    refine list_val (.int .u32 c.nx) (by kernel_rfl) (exec_c32 _ (.tmp 37) rfl (w.heap.size) 0 (by kernel_rfl) c.nx (seg_cell (nC  _ _ _ _ _) (hB.get 0 (x := ⟨w.heap.size, fl [[.int .u32 c.nx], [.slice a9 (x1.no + 1) c9], [.int .i64 c.tn], [.int .u32 c.dl], [.slice x1.ah x1.nh x1.ch]], 26⟩) rfl) 0 (v := .int .u32 c.nx) rfl rfl)) ?_
    simp only [nrm]
    refine list_val (.int .u32 (c.nx + 1)) (by kernel_rfl) (add_32 _ (.tmp 38) (.const (.int .u32 1)) c.nx 1 rfl (by kernel_rfl) (by kernel_rfl) _ rfl (by omega)) ?_
    simp only [nrm]
    refine lvk (.pointer (some ⟨w.heap.size, 0, none⟩)) ?_
    simp only [nrm]
    have hzz_ : Hid (u6.heap[w.heap.size]? = some (.cells (fl [[.int .u32 c.nx], [.slice a9 (x1.no + 1) c9], [.int .i64 c.tn], [.int .u32 c.dl], [.slice x1.ah x1.nh x1.ch]]) 26 (0, 0))) := hide (hB.get 0 (x := ⟨w.heap.size, fl [[.int .u32 c.nx], [.slice a9 (x1.no + 1) c9], [.int .i64 c.tn], [.int .u32 c.dl], [.slice x1.ah x1.nh x1.ch]], 26⟩) rfl)
    refine list_c32 (.tmp 40) (.tmp 39) (w.heap.size) 0 (c.nx + 1) (by kernel_rfl) rfl (by kernel_rfl) (by kernel_rfl) hB 0 rfl NC (nC  _ _ _ _ _) 0 _ rfl rfl ?_
    intro u7 hB_ hbt_
    clear hB
    replace hB : Bl w [⟨w.heap.size, fl [[.int .u32 (c.nx + 1)], [.slice a9 (x1.no + 1) c9], [.int .i64 c.tn], [.int .u32 c.dl], [.slice x1.ah x1.nh x1.ch]], 26⟩, ⟨w.heap.size + 1, fl [bw B], 27⟩, ⟨w.heap.size + 1 + 1, fl [[.int .u32 0], [.slice none 0 0], [.int .i64 0], [.int .u32 0], [.slice none 0 0]], 26⟩] u7 := hB_
    clear hB_
    replace hW := hide ((unhide hW).bz (unhide hzz_) hbt_)
    clear hbt_ hzz_
    simp only [nrm]
    refine wpList_nil ?_
    replace hB := hide hB
    go_upto_region 10 with fail
    replace hB := unhide hB
    refine wp_region_lit ?_
    refine list_val (.agg (fl [[.int .u32 (c.nx + 1)], [.slice a9 (x1.no + 1) c9], [.int .i64 c.tn], [.int .u32 c.dl], [.slice x1.ah x1.nh x1.ch]])) (by kernel_rfl) (exec_sw _ 26 (.tmp 2) rfl (w.heap.size) (by kernel_rfl) (hB.get 0 (x := ⟨w.heap.size, fl [[.int .u32 (c.nx + 1)], [.slice a9 (x1.no + 1) c9], [.int .i64 c.tn], [.int .u32 c.dl], [.slice x1.ah x1.nh x1.ch]], 26⟩) rfl) NC (nC  _ _ _ _ _) Try.underlying26 rfl (by kernel_rfl)) ?_
    simp only [nrm]
    refine lvk (.int .u32 c.nx) ?_
    simp only [nrm]
    have hzz_ : Hid (u7.heap[w.heap.size + 1 + 1]? = some (.cells (fl [[.int .u32 0], [.slice none 0 0], [.int .i64 0], [.int .u32 0], [.slice none 0 0]]) 26 (0, 0))) := hide (hB.get 2 (x := ⟨w.heap.size + 1 + 1, fl [[.int .u32 0], [.slice none 0 0], [.int .i64 0], [.int .u32 0], [.slice none 0 0]], 26⟩) rfl)
    refine list_all 26 (.tmp 4) (.tmp 41) (w.heap.size + 1 + 1) (S2 := [[.int .u32 (c.nx + 1)], [.slice a9 (x1.no + 1) c9], [.int .i64 c.tn], [.int .u32 c.dl], [.slice x1.ah x1.nh x1.ch]]) (by kernel_rfl) rfl (by kernel_rfl) (by kernel_rfl) hB 2 rfl NC (nC  _ _ _ _ _) (nC  _ _ _ _ _) (by kernel_rfl) (oC  rfl rfl rfl rfl rfl) ?_
    intro u8 hB_ hbt_
    clear hB
    replace hB : Bl w [⟨w.heap.size, fl [[.int .u32 (c.nx + 1)], [.slice a9 (x1.no + 1) c9], [.int .i64 c.tn], [.int .u32 c.dl], [.slice x1.ah x1.nh x1.ch]], 26⟩, ⟨w.heap.size + 1, fl [bw B], 27⟩, ⟨w.heap.size + 1 + 1, fl [[.int .u32 (c.nx + 1)], [.slice a9 (x1.no + 1) c9], [.int .i64 c.tn], [.int .u32 c.dl], [.slice x1.ah x1.nh x1.ch]], 26⟩] u8 := hB_
    clear hB_
    replace hW := hide ((unhide hW).bz (unhide hzz_) hbt_)
    clear hbt_ hzz_
    simp only [nrm]
    (refine wpList_step fun K hK => ?_; replace hK := hide hK; go_simp; refine unhide hK _ _ ?_; clear hK K)
    (refine wpList_step fun K hK => ?_; replace hK := hide hK; go_simp; refine unhide hK _ _ ?_; clear hK K)
    refine wpList_nil ?_
    replace hB := hide hB
    go_wp2_with fail
    replace hB := unhide hB
    rw [unhide hT]
    rw [unhide hv]
    exact bodyPost_ret (v := .tuple #[.agg (fl [[.int .u32 (c.nx + 1)], [.slice a9 (x1.no + 1) c9], [.int .i64 c.tn], [.int .u32 c.dl], [.slice x1.ah x1.nh x1.ch]]), .int .u32 c.nx, .int .i64 0]) (res3 Try.results15 (rv_cell (by kernel_rfl) (hB.get 2 (x := ⟨w.heap.size + 1 + 1, fl [[.int .u32 (c.nx + 1)], [.slice a9 (x1.no + 1) c9], [.int .i64 c.tn], [.int .u32 c.dl], [.slice x1.ah x1.nh x1.ch]], 26⟩) rfl) Try.underlying26 rfl (by rw [fl_size (nC  _ _ _ _ _)]; kernel_rfl)) (rv_tmp (by kernel_rfl)) (rv_tmp (by kernel_rfl))) rfl (⟨⟨a9, x1.no + 1, c9, x1.ah, x1.nh, x1.ch⟩, rfl, (unhide hW).cin ⟨fun s hs => (by rcases List.mem_append.1 hs with h | h; exact (unhide hc).o.1 s h; obtain rfl := List.mem_singleton.1 h; exact ⟨hnx, unhide hY⟩), (unhide hc).h.1, by dsimp only; omega, (unhide hc).tn, (unhide hc).dl⟩, (unhide hW).owx, hB.gr⟩)
end Go.Proofs.Ytcefkkoombmndaa
