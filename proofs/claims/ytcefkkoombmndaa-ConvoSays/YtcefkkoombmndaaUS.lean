/-
  The reference's Queue and Turn.
-/
import Derived.Test.YtcefkkoombmndaaUR
namespace Go.Proofs.Ytcefkkoombmndaa
open Go.RowKit
set_option maxRecDepth 100000
set_option linter.unusedSimpArgs false
set_option linter.unusedVariables false
attribute [local go_sem] zvOut
theorem Ow.far {k : Nat} {e : TypeId} {b g : Nat} {w : World} {a : Option Addr} {n : Nat} (h : Ow k e b w a n) (hg : g < b) : n = 0 ∨ blkOf a ≠ some g := by
  rcases h with h | ⟨q, o, C, rfl, h2, h3, h4⟩
  · exact .inl h
  · refine .inr fun e => ?_
    have h6 : q = g := Option.some.inj e
    omega
set_option maxHeartbeats 4000000 in
theorem rqueue_ok (c : Cm) (x : Lc) (B : List Int) (hY : B.length = 105 ∧ IsB B) (w : World) (hc : Cin w c x) : Calls Try.prog 14 #[.agg (fl [[.int .u32 c.nx], [.slice x.ao x.no x.co], [.int .i64 c.tn], [.int .u32 c.dl], [.slice x.ah x.nh x.ch]]), .agg (fl [bw B])] w (Rc (qu c B).1 [.int .u32 (qu c B).2.1, .int .i64 (qu c B).2.2] w) := by
  obtain ⟨T, hT⟩ : ∃ T : Ending → World → Prop, T = (Rc (qu c B).1 [.int .u32 (qu c B).2.1, .int .i64 (qu c B).2.2] w) := ⟨_, rfl⟩
  rw [← hT]
  replace hT := hide hT
  replace hY := hide hY
  have hn := hc.o.len
  have hnx := hc.nx
  replace hc := hide hc
  obtain ⟨A0_, hA0_⟩ : ∃ S_, S_ = fl [[.int .u32 c.nx], [.slice x.ao x.no x.co], [.int .i64 c.tn], [.int .u32 c.dl], [.slice x.ah x.nh x.ch]] := ⟨_, rfl⟩
  rw [← hA0_]
  replace hA0_ := hide hA0_
  obtain ⟨A1_, hA1_⟩ : ∃ S_, S_ = fl [bw B] := ⟨_, rfl⟩
  rw [← hA1_]
  replace hA1_ := hide hA1_
  go_enter Try.func14, Try.ntmps14
  go_upto_region 1 with fail
  have hB := ((((Bl.nil w).new A0_ 26).new A1_ 27).new (fl [[.int .u32 0], [.slice none 0 0], [.int .i64 0], [.int .u32 0], [.slice none 0 0]]) 26)
  simp only [size_alloc, List.nil_append, List.cons_append] at hB
  rw [unhide hA0_, unhide hA1_] at hB
  generalize hu_ : World.alloc _ _ = u0
  replace hB : Bl w [⟨w.heap.size, fl [[.int .u32 c.nx], [.slice x.ao x.no x.co], [.int .i64 c.tn], [.int .u32 c.dl], [.slice x.ah x.nh x.ch]], 26⟩, ⟨w.heap.size + 1, fl [bw B], 27⟩, ⟨w.heap.size + 1 + 1, fl [[.int .u32 0], [.slice none 0 0], [.int .i64 0], [.int .u32 0], [.slice none 0 0]], 26⟩] u0 := by
    rw [← hu_]
    rw [unhide hA0_, unhide hA1_]
    exact hB
  clear hu_ hA0_ hA1_
  cases h1 : rt c with
  | false =>
    have hv := qu_no B h1
    refine wp_region_lit ?_
    refine list_val (.agg (fl [[.int .u32 c.nx], [.slice x.ao x.no x.co], [.int .i64 c.tn], [.int .u32 c.dl], [.slice x.ah x.nh x.ch]])) (by kernel_rfl) (exec_sw _ 26 (.tmp 2) rfl (w.heap.size) (by kernel_rfl) (hB.get 0 (x := ⟨w.heap.size, fl [[.int .u32 c.nx], [.slice x.ao x.no x.co], [.int .i64 c.tn], [.int .u32 c.dl], [.slice x.ah x.nh x.ch]], 26⟩) rfl) NC (nC  _ _ _ _ _) Try.underlying26 rfl (by kernel_rfl)) ?_
    simp only [nrm]
    refine list_call 13 #[.agg (fl [[.int .u32 c.nx], [.slice x.ao x.no x.co], [.int .i64 c.tn], [.int .u32 c.dl], [.slice x.ah x.nh x.ch]])] (by kernel_rfl) (by kernel_rfl) (((show Calls Try.prog 13 #[.agg (fl [[.int .u32 c.nx], [.slice x.ao x.no x.co], [.int .i64 c.tn], [.int .u32 c.dl], [.slice x.ah x.nh x.ch]])] u0 (Vl (.bool false) u0) from h1 ▸ right_ok c x u0 ((unhide hc).gr hB.gr))).mono ?_)
    rintro r_ u1 ⟨rfl, hg⟩
    replace hB := hB.more hg
    clear hg
    refine ⟨_, rfl, ?_⟩
    simp only [nrm]
    refine lvk (.bool true) ?_
    simp only [nrm]
    refine wpList_nil ?_
    replace hB := hide hB
    go_upto_region 2 with fail
    replace hB := unhide hB
    refine wp_region_lit ?_
    refine list_val (.agg (fl [[.int .u32 0], [.slice none 0 0], [.int .i64 0], [.int .u32 0], [.slice none 0 0]])) (by kernel_rfl) (bC _ rfl) ?_
    simp only [nrm]
    refine list_all 26 (.tmp 4) (.tmp 10) (w.heap.size + 1 + 1) (S2 := [[.int .u32 0], [.slice none 0 0], [.int .i64 0], [.int .u32 0], [.slice none 0 0]]) (by kernel_rfl) rfl (by kernel_rfl) (by kernel_rfl) hB 2 rfl NC (nC  _ _ _ _ _) (nC  _ _ _ _ _) (by kernel_rfl) (oC  rfl rfl rfl rfl rfl) ?_
    intro u2 hB_ hbt_
    clear hB
    replace hB : Bl w [⟨w.heap.size, fl [[.int .u32 c.nx], [.slice x.ao x.no x.co], [.int .i64 c.tn], [.int .u32 c.dl], [.slice x.ah x.nh x.ch]], 26⟩, ⟨w.heap.size + 1, fl [bw B], 27⟩, ⟨w.heap.size + 1 + 1, fl [[.int .u32 0], [.slice none 0 0], [.int .i64 0], [.int .u32 0], [.slice none 0 0]], 26⟩] u2 := hB_
    clear hB_
    clear hbt_
    simp only [nrm]
    (refine wpList_step fun K hK => ?_; replace hK := hide hK; go_simp; refine unhide hK _ _ ?_; clear hK K)
    (refine wpList_step fun K hK => ?_; replace hK := hide hK; go_simp; refine unhide hK _ _ ?_; clear hK K)
    refine wpList_nil ?_
    replace hB := hide hB
    go_wp2_with fail
    replace hB := unhide hB
    rw [unhide hT]
    rw [hv]
    exact bodyPost_ret (v := .tuple #[.agg (fl [[.int .u32 0], [.slice none 0 0], [.int .i64 0], [.int .u32 0], [.slice none 0 0]]), .int .u32 0, .int .i64 281]) (res3 Try.results14 (rv_cell (by kernel_rfl) (hB.get 2 (x := ⟨w.heap.size + 1 + 1, fl [[.int .u32 0], [.slice none 0 0], [.int .i64 0], [.int .u32 0], [.slice none 0 0]], 26⟩) rfl) Try.underlying26 rfl (by rw [fl_size (nC  _ _ _ _ _)]; kernel_rfl)) (rv_tmp (by kernel_rfl)) (rv_tmp (by kernel_rfl))) rfl (⟨xz, rfl, cin_z _, owx_z _ _, hB.gr⟩)
  | true =>
    have hle := rt_le h1
    rw [hn] at hle
    replace h1 := hide h1
    refine wp_region_lit ?_
    refine list_val (.agg (fl [[.int .u32 c.nx], [.slice x.ao x.no x.co], [.int .i64 c.tn], [.int .u32 c.dl], [.slice x.ah x.nh x.ch]])) (by kernel_rfl) (exec_sw _ 26 (.tmp 2) rfl (w.heap.size) (by kernel_rfl) (hB.get 0 (x := ⟨w.heap.size, fl [[.int .u32 c.nx], [.slice x.ao x.no x.co], [.int .i64 c.tn], [.int .u32 c.dl], [.slice x.ah x.nh x.ch]], 26⟩) rfl) NC (nC  _ _ _ _ _) Try.underlying26 rfl (by kernel_rfl)) ?_
    simp only [nrm]
    refine list_call 13 #[.agg (fl [[.int .u32 c.nx], [.slice x.ao x.no x.co], [.int .i64 c.tn], [.int .u32 c.dl], [.slice x.ah x.nh x.ch]])] (by kernel_rfl) (by kernel_rfl) (((show Calls Try.prog 13 #[.agg (fl [[.int .u32 c.nx], [.slice x.ao x.no x.co], [.int .i64 c.tn], [.int .u32 c.dl], [.slice x.ah x.nh x.ch]])] u0 (Vl (.bool true) u0) from unhide h1 ▸ right_ok c x u0 ((unhide hc).gr hB.gr))).mono ?_)
    rintro r_ u1 ⟨rfl, hg⟩
    replace hB := hB.more hg
    clear hg
    refine ⟨_, rfl, ?_⟩
    simp only [nrm]
    refine lvk (.bool false) ?_
    simp only [nrm]
    refine wpList_nil ?_
    by_cases h2 : (x.no : Int) = 4
    · have hv := qu_full B (unhide h1) (.inl (by omega))
      replace h2 := hide h2
      replace hB := hide hB
      go_upto_region 3 with fail
      replace hB := unhide hB
      refine wp_region_lit ?_
      refine wpList_gen fun ops_ hops => ?_
      replace hops := hide hops
      refine list_val (.pointer (some ⟨w.heap.size, 1, none⟩)) (by rw [unhide hops]; kernel_rfl) (by kernel_rfl) ?_
      simp only [nrm]
      refine list_val (.slice x.ao x.no x.co) (by rw [unhide hops]; kernel_rfl) (exec_csO _ (.tmp 11) rfl (w.heap.size) 1 (by kernel_rfl) x.ao x.no x.co (seg_cell (nC  _ _ _ _ _) (hB.get 0 (x := ⟨w.heap.size, fl [[.int .u32 c.nx], [.slice x.ao x.no x.co], [.int .i64 c.tn], [.int .u32 c.dl], [.slice x.ah x.nh x.ch]], 26⟩) rfl) 1 (v := .slice x.ao x.no x.co) rfl rfl)) ?_
      simp only [nrm]
      refine list_val (.int .i64 (x.no : Int)) (by rw [unhide hops]; kernel_rfl) (by kernel_rfl) ?_
      simp only [nrm]
      refine list_val (.bool true) (by rw [unhide hops]; kernel_rfl) (eql_i _ (.tmp 13) (.const (.int .i64 4)) (x.no : Int) 4 true rfl (by kernel_rfl) (by kernel_rfl) (decide_eq_true (unhide h2))) ?_
      simp only [nrm]
      refine list_val (.bool true) (by rw [unhide hops]; kernel_rfl) (by kernel_rfl) ?_
      simp only [nrm]
      refine list_off (by rw [unhide hops]; kernel_rfl) ?_
      simp only [nrm]
      refine list_off (by rw [unhide hops]; kernel_rfl) ?_
      simp only [nrm]
      refine list_off (by rw [unhide hops]; kernel_rfl) ?_
      simp only [nrm]
      refine list_val (.bool true) (by rw [unhide hops]; kernel_rfl) (by kernel_rfl) ?_
      simp only [nrm]
      refine wpList_nil ?_
      replace hB := hide hB
      go_upto_region 4 with fail
      replace hB := unhide hB
      refine wp_region_lit ?_
      refine list_val (.agg (fl [[.int .u32 0], [.slice none 0 0], [.int .i64 0], [.int .u32 0], [.slice none 0 0]])) (by kernel_rfl) (bC _ rfl) ?_
      simp only [nrm]
      refine list_all 26 (.tmp 4) (.tmp 20) (w.heap.size + 1 + 1) (S2 := [[.int .u32 0], [.slice none 0 0], [.int .i64 0], [.int .u32 0], [.slice none 0 0]]) (by kernel_rfl) rfl (by kernel_rfl) (by kernel_rfl) hB 2 rfl NC (nC  _ _ _ _ _) (nC  _ _ _ _ _) (by kernel_rfl) (oC  rfl rfl rfl rfl rfl) ?_
      intro u2 hB_ hbt_
      clear hB
      replace hB : Bl w [⟨w.heap.size, fl [[.int .u32 c.nx], [.slice x.ao x.no x.co], [.int .i64 c.tn], [.int .u32 c.dl], [.slice x.ah x.nh x.ch]], 26⟩, ⟨w.heap.size + 1, fl [bw B], 27⟩, ⟨w.heap.size + 1 + 1, fl [[.int .u32 0], [.slice none 0 0], [.int .i64 0], [.int .u32 0], [.slice none 0 0]], 26⟩] u2 := hB_
      clear hB_
      clear hbt_
      simp only [nrm]
      (refine wpList_step fun K hK => ?_; replace hK := hide hK; go_simp; refine unhide hK _ _ ?_; clear hK K)
      (refine wpList_step fun K hK => ?_; replace hK := hide hK; go_simp; refine unhide hK _ _ ?_; clear hK K)
      refine wpList_nil ?_
      replace hB := hide hB
      go_wp2_with fail
      replace hB := unhide hB
      rw [unhide hT]
      rw [hv]
      exact bodyPost_ret (v := .tuple #[.agg (fl [[.int .u32 0], [.slice none 0 0], [.int .i64 0], [.int .u32 0], [.slice none 0 0]]), .int .u32 0, .int .i64 6]) (res3 Try.results14 (rv_cell (by kernel_rfl) (hB.get 2 (x := ⟨w.heap.size + 1 + 1, fl [[.int .u32 0], [.slice none 0 0], [.int .i64 0], [.int .u32 0], [.slice none 0 0]], 26⟩) rfl) Try.underlying26 rfl (by rw [fl_size (nC  _ _ _ _ _)]; kernel_rfl)) (rv_tmp (by kernel_rfl)) (rv_tmp (by kernel_rfl))) rfl (⟨xz, rfl, cin_z _, owx_z _ _, hB.gr⟩)
    by_cases h3 : c.nx = 2147483648
    · have hv := qu_full B (unhide h1) (.inr h3)
      replace h3 := hide h3
      replace hB := hide hB
      go_upto_region 3 with fail
      replace hB := unhide hB
      refine wp_region_lit ?_
      refine wpList_gen fun ops_ hops => ?_
      replace hops := hide hops
      refine list_val (.pointer (some ⟨w.heap.size, 1, none⟩)) (by rw [unhide hops]; kernel_rfl) (by kernel_rfl) ?_
      simp only [nrm]
      refine list_val (.slice x.ao x.no x.co) (by rw [unhide hops]; kernel_rfl) (exec_csO _ (.tmp 11) rfl (w.heap.size) 1 (by kernel_rfl) x.ao x.no x.co (seg_cell (nC  _ _ _ _ _) (hB.get 0 (x := ⟨w.heap.size, fl [[.int .u32 c.nx], [.slice x.ao x.no x.co], [.int .i64 c.tn], [.int .u32 c.dl], [.slice x.ah x.nh x.ch]], 26⟩) rfl) 1 (v := .slice x.ao x.no x.co) rfl rfl)) ?_
      simp only [nrm]
      refine list_val (.int .i64 (x.no : Int)) (by rw [unhide hops]; kernel_rfl) (by kernel_rfl) ?_
      simp only [nrm]
      refine list_val (.bool false) (by rw [unhide hops]; kernel_rfl) (eql_i _ (.tmp 13) (.const (.int .i64 4)) (x.no : Int) 4 false rfl (by kernel_rfl) (by kernel_rfl) (decide_eq_false h2)) ?_
      simp only [nrm]
      refine list_val (.bool false) (by rw [unhide hops]; kernel_rfl) (by kernel_rfl) ?_
      simp only [nrm]
      refine list_val (.pointer (some ⟨w.heap.size, 0, none⟩)) (by rw [unhide hops]; kernel_rfl) (by kernel_rfl) ?_
      simp only [nrm]
      refine list_val (.int .u32 c.nx) (by rw [unhide hops]; kernel_rfl) (exec_c32 _ (.tmp 16) rfl (w.heap.size) 0 (by kernel_rfl) c.nx (seg_cell (nC  _ _ _ _ _) (hB.get 0 (x := ⟨w.heap.size, fl [[.int .u32 c.nx], [.slice x.ao x.no x.co], [.int .i64 c.tn], [.int .u32 c.dl], [.slice x.ah x.nh x.ch]], 26⟩) rfl) 0 (v := .int .u32 c.nx) rfl rfl)) ?_
      simp only [nrm]
      refine list_val (.bool true) (by rw [unhide hops]; kernel_rfl) (eql_32 _ (.tmp 17) (.const (.int .u32 2147483648)) c.nx 2147483648 true rfl (by kernel_rfl) (by kernel_rfl) (decide_eq_true (unhide h3))) ?_
      simp only [nrm]
      refine list_val (.bool true) (by rw [unhide hops]; kernel_rfl) (by kernel_rfl) ?_
      simp only [nrm]
      refine wpList_nil ?_
      replace hB := hide hB
      go_upto_region 4 with fail
      replace hB := unhide hB
      refine wp_region_lit ?_
      refine list_val (.agg (fl [[.int .u32 0], [.slice none 0 0], [.int .i64 0], [.int .u32 0], [.slice none 0 0]])) (by kernel_rfl) (bC _ rfl) ?_
      simp only [nrm]
      refine list_all 26 (.tmp 4) (.tmp 20) (w.heap.size + 1 + 1) (S2 := [[.int .u32 0], [.slice none 0 0], [.int .i64 0], [.int .u32 0], [.slice none 0 0]]) (by kernel_rfl) rfl (by kernel_rfl) (by kernel_rfl) hB 2 rfl NC (nC  _ _ _ _ _) (nC  _ _ _ _ _) (by kernel_rfl) (oC  rfl rfl rfl rfl rfl) ?_
      intro u2 hB_ hbt_
      clear hB
      replace hB : Bl w [⟨w.heap.size, fl [[.int .u32 c.nx], [.slice x.ao x.no x.co], [.int .i64 c.tn], [.int .u32 c.dl], [.slice x.ah x.nh x.ch]], 26⟩, ⟨w.heap.size + 1, fl [bw B], 27⟩, ⟨w.heap.size + 1 + 1, fl [[.int .u32 0], [.slice none 0 0], [.int .i64 0], [.int .u32 0], [.slice none 0 0]], 26⟩] u2 := hB_
      clear hB_
      clear hbt_
      simp only [nrm]
      (refine wpList_step fun K hK => ?_; replace hK := hide hK; go_simp; refine unhide hK _ _ ?_; clear hK K)
      (refine wpList_step fun K hK => ?_; replace hK := hide hK; go_simp; refine unhide hK _ _ ?_; clear hK K)
      refine wpList_nil ?_
      replace hB := hide hB
      go_wp2_with fail
      replace hB := unhide hB
      rw [unhide hT]
      rw [hv]
      exact bodyPost_ret (v := .tuple #[.agg (fl [[.int .u32 0], [.slice none 0 0], [.int .i64 0], [.int .u32 0], [.slice none 0 0]]), .int .u32 0, .int .i64 6]) (res3 Try.results14 (rv_cell (by kernel_rfl) (hB.get 2 (x := ⟨w.heap.size + 1 + 1, fl [[.int .u32 0], [.slice none 0 0], [.int .i64 0], [.int .u32 0], [.slice none 0 0]], 26⟩) rfl) Try.underlying26 rfl (by rw [fl_size (nC  _ _ _ _ _)]; kernel_rfl)) (rv_tmp (by kernel_rfl)) (rv_tmp (by kernel_rfl))) rfl (⟨xz, rfl, cin_z _, owx_z _ _, hB.gr⟩)
    have hv := qu_yes B (unhide h1) (by omega)
    replace hv := hide hv
    replace hB := hide hB
    go_upto_region 3 with fail
    replace hB := unhide hB
    refine wp_region_lit ?_
    refine wpList_gen fun ops_ hops => ?_
    replace hops := hide hops
    refine list_val (.pointer (some ⟨w.heap.size, 1, none⟩)) (by rw [unhide hops]; kernel_rfl) (by kernel_rfl) ?_
    simp only [nrm]
    refine list_val (.slice x.ao x.no x.co) (by rw [unhide hops]; kernel_rfl) (exec_csO _ (.tmp 11) rfl (w.heap.size) 1 (by kernel_rfl) x.ao x.no x.co (seg_cell (nC  _ _ _ _ _) (hB.get 0 (x := ⟨w.heap.size, fl [[.int .u32 c.nx], [.slice x.ao x.no x.co], [.int .i64 c.tn], [.int .u32 c.dl], [.slice x.ah x.nh x.ch]], 26⟩) rfl) 1 (v := .slice x.ao x.no x.co) rfl rfl)) ?_
    simp only [nrm]
    refine list_val (.int .i64 (x.no : Int)) (by rw [unhide hops]; kernel_rfl) (by kernel_rfl) ?_
    simp only [nrm]
    refine list_val (.bool false) (by rw [unhide hops]; kernel_rfl) (eql_i _ (.tmp 13) (.const (.int .i64 4)) (x.no : Int) 4 false rfl (by kernel_rfl) (by kernel_rfl) (decide_eq_false h2)) ?_
    simp only [nrm]
    refine list_val (.bool false) (by rw [unhide hops]; kernel_rfl) (by kernel_rfl) ?_
    simp only [nrm]
    refine list_val (.pointer (some ⟨w.heap.size, 0, none⟩)) (by rw [unhide hops]; kernel_rfl) (by kernel_rfl) ?_
    simp only [nrm]
    refine list_val (.int .u32 c.nx) (by rw [unhide hops]; kernel_rfl) (exec_c32 _ (.tmp 16) rfl (w.heap.size) 0 (by kernel_rfl) c.nx (seg_cell (nC  _ _ _ _ _) (hB.get 0 (x := ⟨w.heap.size, fl [[.int .u32 c.nx], [.slice x.ao x.no x.co], [.int .i64 c.tn], [.int .u32 c.dl], [.slice x.ah x.nh x.ch]], 26⟩) rfl) 0 (v := .int .u32 c.nx) rfl rfl)) ?_
    simp only [nrm]
    refine list_val (.bool false) (by rw [unhide hops]; kernel_rfl) (eql_32 _ (.tmp 17) (.const (.int .u32 2147483648)) c.nx 2147483648 false rfl (by kernel_rfl) (by kernel_rfl) (decide_eq_false h3)) ?_
    simp only [nrm]
    refine list_val (.bool false) (by rw [unhide hops]; kernel_rfl) (by kernel_rfl) ?_
    simp only [nrm]
    refine wpList_nil ?_
    replace hB := hide hB
    go_upto_region 5 with fail
    replace hB := unhide hB
    have hb0 : w.heap.size ≤ u1.heap.size := hB.gr.size
    refine wp_region_lit ?_
    refine list_val (.agg (fl [[.int .u32 c.nx], [.slice x.ao x.no x.co], [.int .i64 c.tn], [.int .u32 c.dl], [.slice x.ah x.nh x.ch]])) (by kernel_rfl) (exec_sw _ 26 (.tmp 2) rfl (w.heap.size) (by kernel_rfl) (hB.get 0 (x := ⟨w.heap.size, fl [[.int .u32 c.nx], [.slice x.ao x.no x.co], [.int .i64 c.tn], [.int .u32 c.dl], [.slice x.ah x.nh x.ch]], 26⟩) rfl) NC (nC  _ _ _ _ _) Try.underlying26 rfl (by kernel_rfl)) ?_
    simp only [nrm]
    refine list_call 11 #[.agg (fl [[.int .u32 c.nx], [.slice x.ao x.no x.co], [.int .i64 c.tn], [.int .u32 c.dl], [.slice x.ah x.nh x.ch]])] (by kernel_rfl) (by kernel_rfl) ((rcopy_ok c x u1 ((unhide hc).gr hB.gr) (by omega) (by rw [← (unhide hc).h.len]; omega)).mono ?_)
    rintro r_ u2 ⟨x1, rfl, hW, hn1, hh1, hg⟩
    replace hB := hB.more hg
    clear hg
    replace hW := hide (show Own w.heap.size u2 c x1 from ⟨or_base hW.o hb0, or_base hW.h hb0⟩)
    refine ⟨_, rfl, ?_⟩
    simp only [nrm]
    have hzz_ : Hid (u2.heap[w.heap.size]? = some (.cells (fl [[.int .u32 c.nx], [.slice x.ao x.no x.co], [.int .i64 c.tn], [.int .u32 c.dl], [.slice x.ah x.nh x.ch]]) 26 (0, 0))) := hide (hB.get 0 (x := ⟨w.heap.size, fl [[.int .u32 c.nx], [.slice x.ao x.no x.co], [.int .i64 c.tn], [.int .u32 c.dl], [.slice x.ah x.nh x.ch]], 26⟩) rfl)
    refine list_all 26 (.tmp 2) (.tmp 22) (w.heap.size) (S2 := [[.int .u32 c.nx], [.slice x1.ao x1.no x1.co], [.int .i64 c.tn], [.int .u32 c.dl], [.slice x1.ah x1.nh x1.ch]]) (by kernel_rfl) rfl (by kernel_rfl) (by kernel_rfl) hB 0 rfl NC (nC  _ _ _ _ _) (nC  _ _ _ _ _) (by kernel_rfl) (oC  rfl rfl rfl rfl rfl) ?_
    intro u3 hB_ hbt_
    clear hB
    replace hB : Bl w [⟨w.heap.size, fl [[.int .u32 c.nx], [.slice x1.ao x1.no x1.co], [.int .i64 c.tn], [.int .u32 c.dl], [.slice x1.ah x1.nh x1.ch]], 26⟩, ⟨w.heap.size + 1, fl [bw B], 27⟩, ⟨w.heap.size + 1 + 1, fl [[.int .u32 0], [.slice none 0 0], [.int .i64 0], [.int .u32 0], [.slice none 0 0]], 26⟩] u3 := hB_
    clear hB_
    replace hW := hide ((unhide hW).bz (unhide hzz_) hbt_)
    clear hbt_ hzz_
    simp only [nrm]
    refine wpList_nil ?_
    replace hB := hide hB
    go_upto_region 6 with fail
    replace hB := unhide hB
    refine wp_region_lit ?_
    refine lvk (.pointer (some ⟨w.heap.size, 1, none⟩)) ?_
    simp only [nrm]
    refine list_val (.slice x1.ao x1.no x1.co) (by kernel_rfl) (exec_csO _ (.tmp 23) rfl (w.heap.size) 1 (by kernel_rfl) x1.ao x1.no x1.co (seg_cell (nC  _ _ _ _ _) (hB.get 0 (x := ⟨w.heap.size, fl [[.int .u32 c.nx], [.slice x1.ao x1.no x1.co], [.int .i64 c.tn], [.int .u32 c.dl], [.slice x1.ah x1.nh x1.ch]], 26⟩) rfl) 1 (v := .slice x1.ao x1.no x1.co) rfl rfl)) ?_
    simp only [nrm]
    refine lvk (.pointer (some ⟨w.heap.size, 0, none⟩)) ?_
    simp only [nrm]
    refine list_val (.int .u32 c.nx) (by kernel_rfl) (exec_c32 _ (.tmp 25) rfl (w.heap.size) 0 (by kernel_rfl) c.nx (seg_cell (nC  _ _ _ _ _) (hB.get 0 (x := ⟨w.heap.size, fl [[.int .u32 c.nx], [.slice x1.ao x1.no x1.co], [.int .i64 c.tn], [.int .u32 c.dl], [.slice x1.ah x1.nh x1.ch]], 26⟩) rfl) 0 (v := .int .u32 c.nx) rfl rfl)) ?_
    simp only [nrm]
    refine list_val (.agg (fl [bw B])) (by kernel_rfl) (exec_sw _ 27 (.tmp 3) rfl (w.heap.size + 1) (by kernel_rfl) (hB.get 1 (x := ⟨w.heap.size + 1, fl [bw B], 27⟩) rfl) NY (nY (unhide hY).1) Try.underlying27 rfl (by kernel_rfl)) ?_
    simp only [nrm]
    refine list_val (.agg (fl [[.int .u32 c.nx], bw B])) (by kernel_rfl) (bO01 _ (.tmp 26) (.tmp 27) rfl (unhide hY).1 (by kernel_rfl) (by kernel_rfl)) ?_
    simp only [nrm]
    refine list_valw (.slice (some ⟨u3.heap.size, 0, none⟩) 1 1) (u3.alloc (.cells (fl [[.int .u32 c.nx], bw B]) 39 (0, 0))) (by kernel_rfl) (exec_bso _ (.tmp 28) rfl ⟨c.nx, B⟩ (unhide hY).1 (by kernel_rfl)) ?_
    have hn0 := blk_new u3 (.cells (fl [[.int .u32 c.nx], bw B]) 39 (0, 0))
    have hg := (Gr.refl u3).alloc (.cells (fl [[.int .u32 c.nx], bw B]) 39 (0, 0))
    replace hW := hide ((unhide hW).gr hg)
    replace hB := hB.more hg
    clear hg
    generalize World.alloc _ _ = u4 at *
    generalize u3.heap.size = gn at *
    replace hn0 := hide hn0
    simp only [nrm]
    have hra : u4.rangeAt gn 0 (otr ⟨c.nx, B⟩) := fun t_ x_ ht_ => by
      refine cell_of (unhide hn0) ?_
      rw [Nat.zero_add]
      unfold fl
      rw [List.getElem?_toArray]
      exact ht_
    have hls : Lz 106 u4 (some ⟨gn, 0, none⟩) 1 1 [otr ⟨c.nx, B⟩] := ⟨rfl, by intro r_ hr_; obtain rfl := List.mem_singleton.1 hr_; exact otr_len ⟨hnx, unhide hY⟩, .inr ⟨gn, 0, rfl, by rw [List.flatten_cons, List.flatten_nil, List.append_nil]; exact hra⟩, by omega, by omega⟩
    refine wpList_step fun K hK => ?_
    rw [if_pos (by kernel_rfl)]
    refine app_rowsW ltO (.tmp 24) (.tmp 29) rfl w.heap.size _ (c.O.map otr) (by kernel_rfl) (unhide hW).o (some ⟨gn, 0, none⟩) 1 1 [otr ⟨c.nx, B⟩] (by kernel_rfl) hls (by
      intro r_ hr_ u_ hu_
      obtain rfl := List.mem_singleton.1 hr_
      exact otr_one _ u_ hu_) (by rw [List.length_map]; omega) hB.gr.size ?_
    intro v1 u5 hO1 hgr
    refine hK _ _ ?_
    clear hK K
    replace hB := hB.grownR (unhide hW).o (Nat.le_refl _) hgr (by intro y_ hy_; simp only [List.mem_cons, List.not_mem_nil, or_false] at hy_; rcases hy_ with rfl | rfl | rfl <;> (dsimp only; decide))
    have hH1 := or_grown (unhide hW).h (unhide hW).o hgr (by decide)
    have e1 : c.O.map otr ++ [otr ⟨c.nx, B⟩] = (c.O ++ [(⟨c.nx, B⟩ : Ot)]).map otr := by simp
    have e2 : (c.O.map otr ++ [otr ⟨c.nx, B⟩]).length = x1.no + 1 := by rw [List.length_append, List.length_map, List.length_singleton]; omega
    obtain ⟨a9, c9, rfl, hls9⟩ := hO1.lz
    rw [e2] at hO1 ⊢
    rw [e1] at hO1
    clear hls9 hls hra hn0 hgr hW e1 e2
    have hW : Hid (Own w.heap.size u5 { c with nx := c.nx + 1, O := c.O ++ [⟨c.nx, B⟩] } ⟨a9, x1.no + 1, c9, x1.ah, x1.nh, x1.ch⟩) := ⟨hO1, hH1⟩
    clear hO1 hH1
    simp only [nrm]
    refine lvk (.pointer (some ⟨w.heap.size, 1, none⟩)) ?_
    simp only [nrm]
    have hzz_ : Hid (u5.heap[w.heap.size]? = some (.cells (fl [[.int .u32 c.nx], [.slice x1.ao x1.no x1.co], [.int .i64 c.tn], [.int .u32 c.dl], [.slice x1.ah x1.nh x1.ch]]) 26 (0, 0))) := hide (hB.get 0 (x := ⟨w.heap.size, fl [[.int .u32 c.nx], [.slice x1.ao x1.no x1.co], [.int .i64 c.tn], [.int .u32 c.dl], [.slice x1.ah x1.nh x1.ch]], 26⟩) rfl)
    refine list_csO (.tmp 31) (.tmp 30) (w.heap.size) 1 a9 (x1.no + 1) c9 (by kernel_rfl) rfl (by kernel_rfl) (by kernel_rfl) hB 0 rfl NC (nC  _ _ _ _ _) 1 _ rfl rfl ?_
    intro u6 hB_ hbt_
    clear hB
    replace hB : Bl w [⟨w.heap.size, fl [[.int .u32 c.nx], [.slice a9 (x1.no + 1) c9], [.int .i64 c.tn], [.int .u32 c.dl], [.slice x1.ah x1.nh x1.ch]], 26⟩, ⟨w.heap.size + 1, fl [bw B], 27⟩, ⟨w.heap.size + 1 + 1, fl [[.int .u32 0], [.slice none 0 0], [.int .i64 0], [.int .u32 0], [.slice none 0 0]], 26⟩] u6 := hB_
    clear hB_
    replace hW := hide ((unhide hW).bz (unhide hzz_) hbt_)
    clear hbt_ hzz_
    simp only [nrm]
    refine wpList_nil ?_
    replace hB := hide hB
    go_upto_region 7 with fail
    replace hB := unhide hB
    refine wp_region_lit ?_
    refine lvk (.pointer (some ⟨w.heap.size, 0, none⟩)) ?_
    simp only [nrm]
    refine list_val (.int .u32 c.nx) (by kernel_rfl) (exec_c32 _ (.tmp 32) rfl (w.heap.size) 0 (by kernel_rfl) c.nx (seg_cell (nC  _ _ _ _ _) (hB.get 0 (x := ⟨w.heap.size, fl [[.int .u32 c.nx], [.slice a9 (x1.no + 1) c9], [.int .i64 c.tn], [.int .u32 c.dl], [.slice x1.ah x1.nh x1.ch]], 26⟩) rfl) 0 (v := .int .u32 c.nx) rfl rfl)) ?_
    simp only [nrm]
    refine list_val (.int .u32 (c.nx + 1)) (by kernel_rfl) (add_32 _ (.tmp 33) (.const (.int .u32 1)) c.nx 1 rfl (by kernel_rfl) (by kernel_rfl) _ rfl (by omega)) ?_
    simp only [nrm]
    refine lvk (.pointer (some ⟨w.heap.size, 0, none⟩)) ?_
    simp only [nrm]
    have hzz_ : Hid (u6.heap[w.heap.size]? = some (.cells (fl [[.int .u32 c.nx], [.slice a9 (x1.no + 1) c9], [.int .i64 c.tn], [.int .u32 c.dl], [.slice x1.ah x1.nh x1.ch]]) 26 (0, 0))) := hide (hB.get 0 (x := ⟨w.heap.size, fl [[.int .u32 c.nx], [.slice a9 (x1.no + 1) c9], [.int .i64 c.tn], [.int .u32 c.dl], [.slice x1.ah x1.nh x1.ch]], 26⟩) rfl)
    refine list_c32 (.tmp 35) (.tmp 34) (w.heap.size) 0 (c.nx + 1) (by kernel_rfl) rfl (by kernel_rfl) (by kernel_rfl) hB 0 rfl NC (nC  _ _ _ _ _) 0 _ rfl rfl ?_
    intro u7 hB_ hbt_
    clear hB
    replace hB : Bl w [⟨w.heap.size, fl [[.int .u32 (c.nx + 1)], [.slice a9 (x1.no + 1) c9], [.int .i64 c.tn], [.int .u32 c.dl], [.slice x1.ah x1.nh x1.ch]], 26⟩, ⟨w.heap.size + 1, fl [bw B], 27⟩, ⟨w.heap.size + 1 + 1, fl [[.int .u32 0], [.slice none 0 0], [.int .i64 0], [.int .u32 0], [.slice none 0 0]], 26⟩] u7 := hB_
    clear hB_
    replace hW := hide ((unhide hW).bz (unhide hzz_) hbt_)
    clear hbt_ hzz_
    simp only [nrm]
    refine wpList_nil ?_
    replace hB := hide hB
    go_upto_region 8 with fail
    replace hB := unhide hB
    refine any_start (S := fun v_ => v_.heap[w.heap.size]? = some (.cells (fl [[.int .u32 (c.nx + 1)], [.slice a9 (x1.no + 1) c9], [.int .i64 c.tn], [.int .u32 c.dl], [.slice x1.ah x1.nh x1.ch]]) 26 (0, 0))) (by kernel_rfl) ?_
    replace hW := hide ((unhide hW).gr ((Gr.refl u7).drew))
    replace hB := hB.drew
    generalize World.drew _ = u8 at *
    simp only [List.size_toArray, List.length_cons, List.length_nil, Array.replicate, List.replicate]
    have hS_ := hide (show (fun v_ => v_.heap[w.heap.size]? = some (.cells (fl [[.int .u32 (c.nx + 1)], [.slice a9 (x1.no + 1) c9], [.int .i64 c.tn], [.int .u32 c.dl], [.slice x1.ah x1.nh x1.ch]]) 26 (0, 0))) u8 from (hB.get 0 (x := ⟨w.heap.size, fl [[.int .u32 (c.nx + 1)], [.slice a9 (x1.no + 1) c9], [.int .i64 c.tn], [.int .u32 c.dl], [.slice x1.ah x1.nh x1.ch]], 26⟩) rfl))
    refine any_tk 0 (.agg (fl [[.int .u32 (c.nx + 1)], [.slice a9 (x1.no + 1) c9], [.int .i64 c.tn], [.int .u32 c.dl], [.slice x1.ah x1.nh x1.ch]])) (tf 7 0) rfl (fun x_ hu => exec_sw _ 26 (.tmp 2) rfl (w.heap.size) (by kernel_rfl) hu NC (nC  _ _ _ _ _) Try.underlying26 rfl (by kernel_rfl)) (unhide hS_) ?_
    simp only [nrm]
    refine any_tk 1 (.pointer (some ⟨w.heap.size, 0, none⟩)) (tf 7 1) rfl (fun x_ hu => by kernel_rfl) (unhide hS_) ?_
    simp only [nrm]
    refine any_tk 2 (.int .u32 (c.nx + 1)) (tf 7 2) rfl (fun x_ hu => exec_c32 _ (.tmp 37) rfl (w.heap.size) 0 (by kernel_rfl) (c.nx + 1) (seg_cell (nC  _ _ _ _ _) hu 0 (v := .int .u32 (c.nx + 1)) rfl rfl)) (unhide hS_) ?_
    simp only [nrm]
    refine any_tk 3 (.int .u32 c.nx) (tf 7 3) rfl (fun x_ hu => sub_32 _ (.tmp 38) (.const (.int .u32 1)) (c.nx + 1) 1 rfl (by kernel_rfl) (by kernel_rfl) _ (by omega) (by omega)) (unhide hS_) ?_
    simp only [nrm]
    refine any_one (i := 4) (by kernel_rfl) rfl (fun K hK => ?_)
    have hzz_ : Hid (u8.heap[w.heap.size + 1 + 1]? = some (.cells (fl [[.int .u32 0], [.slice none 0 0], [.int .i64 0], [.int .u32 0], [.slice none 0 0]]) 26 (0, 0))) := hide (hB.get 2 (x := ⟨w.heap.size + 1 + 1, fl [[.int .u32 0], [.slice none 0 0], [.int .i64 0], [.int .u32 0], [.slice none 0 0]], 26⟩) rfl)
    refine step_all 26 (.tmp 4) (.tmp 36) (w.heap.size + 1 + 1) (S2 := [[.int .u32 (c.nx + 1)], [.slice a9 (x1.no + 1) c9], [.int .i64 c.tn], [.int .u32 c.dl], [.slice x1.ah x1.nh x1.ch]]) (by kernel_rfl) rfl (by kernel_rfl) (by kernel_rfl) hB 2 rfl NC (nC  _ _ _ _ _) (nC  _ _ _ _ _) (by kernel_rfl) (oC  rfl rfl rfl rfl rfl) ?_
    intro u9 hB_ hbt_
    clear hB
    replace hB : Bl w [⟨w.heap.size, fl [[.int .u32 (c.nx + 1)], [.slice a9 (x1.no + 1) c9], [.int .i64 c.tn], [.int .u32 c.dl], [.slice x1.ah x1.nh x1.ch]], 26⟩, ⟨w.heap.size + 1, fl [bw B], 27⟩, ⟨w.heap.size + 1 + 1, fl [[.int .u32 (c.nx + 1)], [.slice a9 (x1.no + 1) c9], [.int .i64 c.tn], [.int .u32 c.dl], [.slice x1.ah x1.nh x1.ch]], 26⟩] u9 := hB_
    clear hB_
    replace hW := hide ((unhide hW).bz (unhide hzz_) hbt_)
    clear hbt_ hzz_
    clear hS_
    have hS_ := hide (show (fun v_ => v_.heap[w.heap.size]? = some (.cells (fl [[.int .u32 (c.nx + 1)], [.slice a9 (x1.no + 1) c9], [.int .i64 c.tn], [.int .u32 c.dl], [.slice x1.ah x1.nh x1.ch]]) 26 (0, 0))) u9 from (hB.get 0 (x := ⟨w.heap.size, fl [[.int .u32 (c.nx + 1)], [.slice a9 (x1.no + 1) c9], [.int .i64 c.tn], [.int .u32 c.dl], [.slice x1.ah x1.nh x1.ch]], 26⟩) rfl))
    refine hK.out _ _ (unhide hS_) (fun _ => ?_)
    clear hK K
    simp only [nrm]
    refine any_one (i := 5) (by kernel_rfl) rfl (fun K hK => ?_)
    replace hK := hide hK
    go_simp
    refine (unhide hK).out _ _ (unhide hS_) (fun _ => ?_)
    clear hK K
    simp only [nrm]
    refine any_one (i := 6) (by kernel_rfl) rfl (fun K hK => ?_)
    replace hK := hide hK
    go_simp
    refine (unhide hK).out _ _ (unhide hS_) (fun _ => ?_)
    clear hK K
    simp only [nrm]
    refine any_done (by kernel_rfl) ?_
    clear hS_
    replace hB := hide hB
    go_wp2_with fail
    replace hB := unhide hB
    rw [unhide hT]
    rw [unhide hv]
    exact bodyPost_ret (v := .tuple #[.agg (fl [[.int .u32 (c.nx + 1)], [.slice a9 (x1.no + 1) c9], [.int .i64 c.tn], [.int .u32 c.dl], [.slice x1.ah x1.nh x1.ch]]), .int .u32 c.nx, .int .i64 0]) (res3 Try.results14 (rv_cell (by kernel_rfl) (hB.get 2 (x := ⟨w.heap.size + 1 + 1, fl [[.int .u32 (c.nx + 1)], [.slice a9 (x1.no + 1) c9], [.int .i64 c.tn], [.int .u32 c.dl], [.slice x1.ah x1.nh x1.ch]], 26⟩) rfl) Try.underlying26 rfl (by rw [fl_size (nC  _ _ _ _ _)]; kernel_rfl)) (rv_tmp (by kernel_rfl)) (rv_tmp (by kernel_rfl))) rfl (⟨⟨a9, x1.no + 1, c9, x1.ah, x1.nh, x1.ch⟩, rfl, (unhide hW).cin ⟨fun s hs => (by rcases List.mem_append.1 hs with h | h; exact (unhide hc).o.1 s h; obtain rfl := List.mem_singleton.1 h; exact ⟨hnx, unhide hY⟩), (unhide hc).h.1, by dsimp only; omega, (unhide hc).tn, (unhide hc).dl⟩, (unhide hW).owx, hB.gr⟩)
set_option maxHeartbeats 4000000 in
theorem rturn_ok (c : Cm) (x : Lc) (w : World) (hc : Cin w c x) : Calls Try.prog 19 #[.agg (fl [[.int .u32 c.nx], [.slice x.ao x.no x.co], [.int .i64 c.tn], [.int .u32 c.dl], [.slice x.ah x.nh x.ch]])] w (Rc (tu c).1 [.agg (fl [[.int .u32 (tu c).2.1.n], bw (tu c).2.1.B]), .int .i64 (tu c).2.2] w) := by
  obtain ⟨T, hT⟩ : ∃ T : Ending → World → Prop, T = (Rc (tu c).1 [.agg (fl [[.int .u32 (tu c).2.1.n], bw (tu c).2.1.B]), .int .i64 (tu c).2.2] w) := ⟨_, rfl⟩
  rw [← hT]
  replace hT := hide hT
  have hn := hc.o.len
  replace hc := hide hc
  obtain ⟨A0_, hA0_⟩ : ∃ S_, S_ = fl [[.int .u32 c.nx], [.slice x.ao x.no x.co], [.int .i64 c.tn], [.int .u32 c.dl], [.slice x.ah x.nh x.ch]] := ⟨_, rfl⟩
  rw [← hA0_]
  replace hA0_ := hide hA0_
  go_enter Try.func19, Try.ntmps19
  go_upto_region 1 with fail
  have hB := ((((Bl.nil w).new A0_ 26).new (fl [[.int .u32 0], [.slice none 0 0], [.int .i64 0], [.int .u32 0], [.slice none 0 0]]) 26).new (fl [[.int .u32 0], bw Z105]) 39)
  simp only [size_alloc, List.nil_append, List.cons_append] at hB
  rw [unhide hA0_] at hB
  generalize hu_ : World.alloc _ _ = u0
  replace hB : Bl w [⟨w.heap.size, fl [[.int .u32 c.nx], [.slice x.ao x.no x.co], [.int .i64 c.tn], [.int .u32 c.dl], [.slice x.ah x.nh x.ch]], 26⟩, ⟨w.heap.size + 1, fl [[.int .u32 0], [.slice none 0 0], [.int .i64 0], [.int .u32 0], [.slice none 0 0]], 26⟩, ⟨w.heap.size + 1 + 1, fl [[.int .u32 0], bw Z105], 39⟩] u0 := by
    rw [← hu_]
    rw [unhide hA0_]
    exact hB
  clear hu_ hA0_
  cases h1 : rt c with
  | false =>
    have hv := tu_no h1
    refine wp_region_lit ?_
    refine list_val (.agg (fl [[.int .u32 c.nx], [.slice x.ao x.no x.co], [.int .i64 c.tn], [.int .u32 c.dl], [.slice x.ah x.nh x.ch]])) (by kernel_rfl) (exec_sw _ 26 (.tmp 1) rfl (w.heap.size) (by kernel_rfl) (hB.get 0 (x := ⟨w.heap.size, fl [[.int .u32 c.nx], [.slice x.ao x.no x.co], [.int .i64 c.tn], [.int .u32 c.dl], [.slice x.ah x.nh x.ch]], 26⟩) rfl) NC (nC  _ _ _ _ _) Try.underlying26 rfl (by kernel_rfl)) ?_
    simp only [nrm]
    refine list_call 13 #[.agg (fl [[.int .u32 c.nx], [.slice x.ao x.no x.co], [.int .i64 c.tn], [.int .u32 c.dl], [.slice x.ah x.nh x.ch]])] (by kernel_rfl) (by kernel_rfl) (((show Calls Try.prog 13 #[.agg (fl [[.int .u32 c.nx], [.slice x.ao x.no x.co], [.int .i64 c.tn], [.int .u32 c.dl], [.slice x.ah x.nh x.ch]])] u0 (Vl (.bool false) u0) from h1 ▸ right_ok c x u0 ((unhide hc).gr hB.gr))).mono ?_)
    rintro r_ u1 ⟨rfl, hg⟩
    replace hB := hB.more hg
    clear hg
    refine ⟨_, rfl, ?_⟩
    simp only [nrm]
    refine lvk (.bool true) ?_
    simp only [nrm]
    refine wpList_nil ?_
    replace hB := hide hB
    go_upto_region 2 with fail
    replace hB := unhide hB
    refine wp_region_lit ?_
    refine list_val (.agg (fl [[.int .u32 0], [.slice none 0 0], [.int .i64 0], [.int .u32 0], [.slice none 0 0]])) (by kernel_rfl) (bC _ rfl) ?_
    simp only [nrm]
    refine list_val (.agg (fl [[.int .u32 0], bw Z105])) (by kernel_rfl) (bO _ rfl) ?_
    simp only [nrm]
    refine list_all 26 (.tmp 2) (.tmp 9) (w.heap.size + 1) (S2 := [[.int .u32 0], [.slice none 0 0], [.int .i64 0], [.int .u32 0], [.slice none 0 0]]) (by kernel_rfl) rfl (by kernel_rfl) (by kernel_rfl) hB 1 rfl NC (nC  _ _ _ _ _) (nC  _ _ _ _ _) (by kernel_rfl) (oC  rfl rfl rfl rfl rfl) ?_
    intro u2 hB_ hbt_
    clear hB
    replace hB : Bl w [⟨w.heap.size, fl [[.int .u32 c.nx], [.slice x.ao x.no x.co], [.int .i64 c.tn], [.int .u32 c.dl], [.slice x.ah x.nh x.ch]], 26⟩, ⟨w.heap.size + 1, fl [[.int .u32 0], [.slice none 0 0], [.int .i64 0], [.int .u32 0], [.slice none 0 0]], 26⟩, ⟨w.heap.size + 1 + 1, fl [[.int .u32 0], bw Z105], 39⟩] u2 := hB_
    clear hB_
    clear hbt_
    simp only [nrm]
    refine list_all 39 (.tmp 3) (.tmp 10) (w.heap.size + 1 + 1) (S2 := [[.int .u32 0], bw Z105]) (by kernel_rfl) rfl (by kernel_rfl) (by kernel_rfl) hB 2 rfl NO (nO Z105_len _) (nO Z105_len _) (by kernel_rfl) (oO _ rfl) ?_
    intro u3 hB_ hbt_
    clear hB
    replace hB : Bl w [⟨w.heap.size, fl [[.int .u32 c.nx], [.slice x.ao x.no x.co], [.int .i64 c.tn], [.int .u32 c.dl], [.slice x.ah x.nh x.ch]], 26⟩, ⟨w.heap.size + 1, fl [[.int .u32 0], [.slice none 0 0], [.int .i64 0], [.int .u32 0], [.slice none 0 0]], 26⟩, ⟨w.heap.size + 1 + 1, fl [[.int .u32 0], bw Z105], 39⟩] u3 := hB_
    clear hB_
    clear hbt_
    simp only [nrm]
    (refine wpList_step fun K hK => ?_; replace hK := hide hK; go_simp; refine unhide hK _ _ ?_; clear hK K)
    refine wpList_nil ?_
    replace hB := hide hB
    go_wp2_with fail
    replace hB := unhide hB
    rw [unhide hT]
    rw [hv]
    exact bodyPost_ret (v := .tuple #[.agg (fl [[.int .u32 0], [.slice none 0 0], [.int .i64 0], [.int .u32 0], [.slice none 0 0]]), .agg (fl [[.int .u32 0], bw Z105]), .int .i64 281]) (res3 Try.results19 (rv_cell (by kernel_rfl) (hB.get 1 (x := ⟨w.heap.size + 1, fl [[.int .u32 0], [.slice none 0 0], [.int .i64 0], [.int .u32 0], [.slice none 0 0]], 26⟩) rfl) Try.underlying26 rfl (by rw [fl_size (nC  _ _ _ _ _)]; kernel_rfl)) (rv_cell (by kernel_rfl) (hB.get 2 (x := ⟨w.heap.size + 1 + 1, fl [[.int .u32 0], bw Z105], 39⟩) rfl) Try.underlying39 rfl (by rw [fl_size (nO Z105_len _)]; kernel_rfl)) (rv_tmp (by kernel_rfl))) rfl (⟨xz, rfl, cin_z _, owx_z _ _, hB.gr⟩)
  | true =>
    have hle := rt_le h1
    rw [hn] at hle
    replace h1 := hide h1
    refine wp_region_lit ?_
    refine list_val (.agg (fl [[.int .u32 c.nx], [.slice x.ao x.no x.co], [.int .i64 c.tn], [.int .u32 c.dl], [.slice x.ah x.nh x.ch]])) (by kernel_rfl) (exec_sw _ 26 (.tmp 1) rfl (w.heap.size) (by kernel_rfl) (hB.get 0 (x := ⟨w.heap.size, fl [[.int .u32 c.nx], [.slice x.ao x.no x.co], [.int .i64 c.tn], [.int .u32 c.dl], [.slice x.ah x.nh x.ch]], 26⟩) rfl) NC (nC  _ _ _ _ _) Try.underlying26 rfl (by kernel_rfl)) ?_
    simp only [nrm]
    refine list_call 13 #[.agg (fl [[.int .u32 c.nx], [.slice x.ao x.no x.co], [.int .i64 c.tn], [.int .u32 c.dl], [.slice x.ah x.nh x.ch]])] (by kernel_rfl) (by kernel_rfl) (((show Calls Try.prog 13 #[.agg (fl [[.int .u32 c.nx], [.slice x.ao x.no x.co], [.int .i64 c.tn], [.int .u32 c.dl], [.slice x.ah x.nh x.ch]])] u0 (Vl (.bool true) u0) from unhide h1 ▸ right_ok c x u0 ((unhide hc).gr hB.gr))).mono ?_)
    rintro r_ u1 ⟨rfl, hg⟩
    replace hB := hB.more hg
    clear hg
    refine ⟨_, rfl, ?_⟩
    simp only [nrm]
    refine lvk (.bool false) ?_
    simp only [nrm]
    refine wpList_nil ?_
    by_cases h2 : (x.no : Int) = 0
    · have hv := tu_none (unhide h1) (by omega)
      have h2 := hide h2
      replace hB := hide hB
      go_upto_region 3 with fail
      replace hB := unhide hB
      refine wp_region_lit ?_
      refine lvk (.pointer (some ⟨w.heap.size, 1, none⟩)) ?_
      simp only [nrm]
      refine list_val (.slice x.ao x.no x.co) (by kernel_rfl) (exec_csO _ (.tmp 11) rfl (w.heap.size) 1 (by kernel_rfl) x.ao x.no x.co (seg_cell (nC  _ _ _ _ _) (hB.get 0 (x := ⟨w.heap.size, fl [[.int .u32 c.nx], [.slice x.ao x.no x.co], [.int .i64 c.tn], [.int .u32 c.dl], [.slice x.ah x.nh x.ch]], 26⟩) rfl) 1 (v := .slice x.ao x.no x.co) rfl rfl)) ?_
      simp only [nrm]
      refine lvk (.int .i64 (x.no : Int)) ?_
      simp only [nrm]
      refine list_val (.bool true) (by kernel_rfl) (eql_i _ (.tmp 13) (.const (.int .i64 0)) (x.no : Int) 0 true rfl (by kernel_rfl) (by kernel_rfl) (decide_eq_true (unhide h2))) ?_
      simp only [nrm]
      refine wpList_nil ?_
      replace hB := hide hB
      go_upto_region 4 with fail
      replace hB := unhide hB
      refine wp_region_lit ?_
      refine list_val (.agg (fl [[.int .u32 0], [.slice none 0 0], [.int .i64 0], [.int .u32 0], [.slice none 0 0]])) (by kernel_rfl) (bC _ rfl) ?_
      simp only [nrm]
      refine list_val (.agg (fl [[.int .u32 0], bw Z105])) (by kernel_rfl) (bO _ rfl) ?_
      simp only [nrm]
      refine list_all 26 (.tmp 2) (.tmp 15) (w.heap.size + 1) (S2 := [[.int .u32 0], [.slice none 0 0], [.int .i64 0], [.int .u32 0], [.slice none 0 0]]) (by kernel_rfl) rfl (by kernel_rfl) (by kernel_rfl) hB 1 rfl NC (nC  _ _ _ _ _) (nC  _ _ _ _ _) (by kernel_rfl) (oC  rfl rfl rfl rfl rfl) ?_
      intro u2 hB_ hbt_
      clear hB
      replace hB : Bl w [⟨w.heap.size, fl [[.int .u32 c.nx], [.slice x.ao x.no x.co], [.int .i64 c.tn], [.int .u32 c.dl], [.slice x.ah x.nh x.ch]], 26⟩, ⟨w.heap.size + 1, fl [[.int .u32 0], [.slice none 0 0], [.int .i64 0], [.int .u32 0], [.slice none 0 0]], 26⟩, ⟨w.heap.size + 1 + 1, fl [[.int .u32 0], bw Z105], 39⟩] u2 := hB_
      clear hB_
      clear hbt_
      simp only [nrm]
      refine list_all 39 (.tmp 3) (.tmp 16) (w.heap.size + 1 + 1) (S2 := [[.int .u32 0], bw Z105]) (by kernel_rfl) rfl (by kernel_rfl) (by kernel_rfl) hB 2 rfl NO (nO Z105_len _) (nO Z105_len _) (by kernel_rfl) (oO _ rfl) ?_
      intro u3 hB_ hbt_
      clear hB
      replace hB : Bl w [⟨w.heap.size, fl [[.int .u32 c.nx], [.slice x.ao x.no x.co], [.int .i64 c.tn], [.int .u32 c.dl], [.slice x.ah x.nh x.ch]], 26⟩, ⟨w.heap.size + 1, fl [[.int .u32 0], [.slice none 0 0], [.int .i64 0], [.int .u32 0], [.slice none 0 0]], 26⟩, ⟨w.heap.size + 1 + 1, fl [[.int .u32 0], bw Z105], 39⟩] u3 := hB_
      clear hB_
      clear hbt_
      simp only [nrm]
      (refine wpList_step fun K hK => ?_; replace hK := hide hK; go_simp; refine unhide hK _ _ ?_; clear hK K)
      refine wpList_nil ?_
      replace hB := hide hB
      go_wp2_with fail
      replace hB := unhide hB
      rw [unhide hT]
      rw [hv]
      exact bodyPost_ret (v := .tuple #[.agg (fl [[.int .u32 0], [.slice none 0 0], [.int .i64 0], [.int .u32 0], [.slice none 0 0]]), .agg (fl [[.int .u32 0], bw Z105]), .int .i64 4]) (res3 Try.results19 (rv_cell (by kernel_rfl) (hB.get 1 (x := ⟨w.heap.size + 1, fl [[.int .u32 0], [.slice none 0 0], [.int .i64 0], [.int .u32 0], [.slice none 0 0]], 26⟩) rfl) Try.underlying26 rfl (by rw [fl_size (nC  _ _ _ _ _)]; kernel_rfl)) (rv_cell (by kernel_rfl) (hB.get 2 (x := ⟨w.heap.size + 1 + 1, fl [[.int .u32 0], bw Z105], 39⟩) rfl) Try.underlying39 rfl (by rw [fl_size (nO Z105_len _)]; kernel_rfl)) (rv_tmp (by kernel_rfl))) rfl (⟨xz, rfl, cin_z _, owx_z _ _, hB.gr⟩)
    have hv := tu_yes (unhide h1) (by omega)
    obtain ⟨t, ht⟩ : ∃ t : Nat, c.tn = (t : Int) := ⟨c.tn.toNat, by omega⟩
    have htl : t < x.no := by omega
    obtain ⟨s, hs⟩ : ∃ s, c.O[t]? = some s := ⟨_, List.getElem?_eq_getElem (by omega)⟩
    have hok := (unhide hc).o.ok t s hs
    have hok2 := hok.2.1
    have e0 : c.O.getD c.tn.toNat oZ = s := by rw [ht, Int.toNat_natCast]; simp [List.getD, hs]
    rw [e0, hn] at hv
    replace hv := hide hv; replace ht := hide ht; replace hok := hide hok; replace hs := hide hs; replace hok2 := hide hok2
    replace hB := hide hB
    go_upto_region 3 with fail
    replace hB := unhide hB
    refine wp_region_lit ?_
    refine lvk (.pointer (some ⟨w.heap.size, 1, none⟩)) ?_
    simp only [nrm]
    refine list_val (.slice x.ao x.no x.co) (by kernel_rfl) (exec_csO _ (.tmp 11) rfl (w.heap.size) 1 (by kernel_rfl) x.ao x.no x.co (seg_cell (nC  _ _ _ _ _) (hB.get 0 (x := ⟨w.heap.size, fl [[.int .u32 c.nx], [.slice x.ao x.no x.co], [.int .i64 c.tn], [.int .u32 c.dl], [.slice x.ah x.nh x.ch]], 26⟩) rfl) 1 (v := .slice x.ao x.no x.co) rfl rfl)) ?_
    simp only [nrm]
    refine lvk (.int .i64 (x.no : Int)) ?_
    simp only [nrm]
    refine list_val (.bool false) (by kernel_rfl) (eql_i _ (.tmp 13) (.const (.int .i64 0)) (x.no : Int) 0 false rfl (by kernel_rfl) (by kernel_rfl) (decide_eq_false h2)) ?_
    simp only [nrm]
    refine wpList_nil ?_
    replace hB := hide hB
    go_upto_region 5 with fail
    replace hB := unhide hB
    have hlt2 := lt_of_block (hB.get 2 (x := ⟨w.heap.size + 1 + 1, fl [[.int .u32 0], bw Z105], 39⟩) rfl)
    dsimp only at hlt2
    have hb0 : w.heap.size ≤ u1.heap.size := hB.gr.size
    refine wp_region_lit ?_
    refine list_val (.agg (fl [[.int .u32 c.nx], [.slice x.ao x.no x.co], [.int .i64 c.tn], [.int .u32 c.dl], [.slice x.ah x.nh x.ch]])) (by kernel_rfl) (exec_sw _ 26 (.tmp 1) rfl (w.heap.size) (by kernel_rfl) (hB.get 0 (x := ⟨w.heap.size, fl [[.int .u32 c.nx], [.slice x.ao x.no x.co], [.int .i64 c.tn], [.int .u32 c.dl], [.slice x.ah x.nh x.ch]], 26⟩) rfl) NC (nC  _ _ _ _ _) Try.underlying26 rfl (by kernel_rfl)) ?_
    simp only [nrm]
    refine list_call 11 #[.agg (fl [[.int .u32 c.nx], [.slice x.ao x.no x.co], [.int .i64 c.tn], [.int .u32 c.dl], [.slice x.ah x.nh x.ch]])] (by kernel_rfl) (by kernel_rfl) ((rcopy_ok c x u1 ((unhide hc).gr hB.gr) (by omega) (by rw [← (unhide hc).h.len]; omega)).mono ?_)
    rintro r_ u2 ⟨x1, rfl, hW, hn1, hh1, hg⟩
    replace hB := hB.more hg
    clear hg
    have hne2 := hW.owx.o.far hlt2
    replace hW := hide (Co.mk (hW.cin (unhide hc).nums) (hW.owx.base hb0))
    refine ⟨_, rfl, ?_⟩
    simp only [nrm]
    have hzz_ : Hid (u2.heap[w.heap.size]? = some (.cells (fl [[.int .u32 c.nx], [.slice x.ao x.no x.co], [.int .i64 c.tn], [.int .u32 c.dl], [.slice x.ah x.nh x.ch]]) 26 (0, 0))) := hide (hB.get 0 (x := ⟨w.heap.size, fl [[.int .u32 c.nx], [.slice x.ao x.no x.co], [.int .i64 c.tn], [.int .u32 c.dl], [.slice x.ah x.nh x.ch]], 26⟩) rfl)
    refine list_all 26 (.tmp 1) (.tmp 18) (w.heap.size) (S2 := [[.int .u32 c.nx], [.slice x1.ao x1.no x1.co], [.int .i64 c.tn], [.int .u32 c.dl], [.slice x1.ah x1.nh x1.ch]]) (by kernel_rfl) rfl (by kernel_rfl) (by kernel_rfl) hB 0 rfl NC (nC  _ _ _ _ _) (nC  _ _ _ _ _) (by kernel_rfl) (oC  rfl rfl rfl rfl rfl) ?_
    intro u3 hB_ hbt_
    clear hB
    replace hB : Bl w [⟨w.heap.size, fl [[.int .u32 c.nx], [.slice x1.ao x1.no x1.co], [.int .i64 c.tn], [.int .u32 c.dl], [.slice x1.ah x1.nh x1.ch]], 26⟩, ⟨w.heap.size + 1, fl [[.int .u32 0], [.slice none 0 0], [.int .i64 0], [.int .u32 0], [.slice none 0 0]], 26⟩, ⟨w.heap.size + 1 + 1, fl [[.int .u32 0], bw Z105], 39⟩] u3 := hB_
    clear hB_
    replace hW := hide ((unhide hW).bz (unhide hzz_) hbt_)
    clear hbt_ hzz_
    simp only [nrm]
    refine wpList_nil ?_
    replace hB := hide hB
    go_upto_region 6 with fail
    replace hB := unhide hB
    obtain ⟨p, o, ha, hr⟩ := (unhide hW).i.o.at_ t s (unhide hs)
    replace ha := hide ha; replace hr := hide hr
    refine wp_region_lit ?_
    refine lvk (.pointer (some ⟨w.heap.size, 1, none⟩)) ?_
    simp only [nrm]
    refine list_val (.slice x1.ao x1.no x1.co) (by kernel_rfl) (exec_csO _ (.tmp 19) rfl (w.heap.size) 1 (by kernel_rfl) x1.ao x1.no x1.co (seg_cell (nC  _ _ _ _ _) (hB.get 0 (x := ⟨w.heap.size, fl [[.int .u32 c.nx], [.slice x1.ao x1.no x1.co], [.int .i64 c.tn], [.int .u32 c.dl], [.slice x1.ah x1.nh x1.ch]], 26⟩) rfl) 1 (v := .slice x1.ao x1.no x1.co) rfl rfl)) ?_
    simp only [nrm]
    refine lvk (.pointer (some ⟨w.heap.size, 2, none⟩)) ?_
    simp only [nrm]
    refine list_val (.int .i64 c.tn) (by kernel_rfl) (exec_ci _ (.tmp 21) rfl (w.heap.size) 2 (by kernel_rfl) c.tn (seg_cell (nC  _ _ _ _ _) (hB.get 0 (x := ⟨w.heap.size, fl [[.int .u32 c.nx], [.slice x1.ao x1.no x1.co], [.int .i64 c.tn], [.int .u32 c.dl], [.slice x1.ah x1.nh x1.ch]], 26⟩) rfl) 2 (v := .int .i64 c.tn) rfl rfl)) ?_
    simp only [nrm]
    refine list_val (.pointer (some ⟨p, o + 106 * t, none⟩)) (by kernel_rfl) (exec_iso _ (.tmp 20) (.tmp 22) rfl p o x1.no x1.co t (by rw [← unhide ha]; kernel_rfl) (by rw [← unhide ht]; kernel_rfl) (by omega)) ?_
    simp only [nrm]
    refine list_val (.agg (fl [[.int .u32 s.n], bw s.B])) (by kernel_rfl) (exec_lo _ (.tmp 23) rfl p (o + 106 * t) (by kernel_rfl) s (unhide hok) (unhide hr)) ?_
    simp only [nrm]
    have hne5_hW := (unhide hW).newO
    refine list_valw (.pointer (some ⟨u3.heap.size, 0, none⟩)) (u3.alloc (.cells (fl [[.int .u32 0], bw Z105]) 39 (0, 0))) (by kernel_rfl) (by kernel_rfl) ?_
    replace hB := hB.new (fl [[.int .u32 0], bw Z105]) 39
    simp only [List.nil_append, List.cons_append] at hB
    have hg := (Gr.refl u3).alloc (.cells (fl [[.int .u32 0], bw Z105]) 39 (0, 0))
    replace hW := hide ((unhide hW).gr hg)
    clear hg
    generalize World.alloc _ _ = u4 at *
    generalize u3.heap.size = g5 at *
    simp only [nrm]
    have hzz_ : Hid (u4.heap[g5]? = some (.cells (fl [[.int .u32 0], bw Z105]) 39 (0, 0))) := hide (hB.get 3 (x := ⟨g5, fl [[.int .u32 0], bw Z105], 39⟩) rfl)
    refine list_all 39 (.tmp 5) (.tmp 24) (g5) (S2 := [[.int .u32 s.n], bw s.B]) (by kernel_rfl) rfl (by kernel_rfl) (by kernel_rfl) hB 3 rfl NO (nO Z105_len _) (nO (unhide hok2) _) (by kernel_rfl) (oO _ rfl) ?_
    intro u5 hB_ hbt_
    clear hB
    replace hB : Bl w [⟨w.heap.size, fl [[.int .u32 c.nx], [.slice x1.ao x1.no x1.co], [.int .i64 c.tn], [.int .u32 c.dl], [.slice x1.ah x1.nh x1.ch]], 26⟩, ⟨w.heap.size + 1, fl [[.int .u32 0], [.slice none 0 0], [.int .i64 0], [.int .u32 0], [.slice none 0 0]], 26⟩, ⟨w.heap.size + 1 + 1, fl [[.int .u32 0], bw Z105], 39⟩, ⟨g5, fl [[.int .u32 s.n], bw s.B], 39⟩] u5 := hB_
    clear hB_
    replace hW := hide ((unhide hW).bkO (unhide hzz_) hbt_ hne5_hW)
    clear hbt_ hzz_
    simp only [nrm]
    refine wpList_nil ?_
    clear hr
    replace hB := hide hB
    go_upto_region 7 with fail
    replace hB := unhide hB
    refine wp_region_lit ?_
    refine lvk (.pointer (some ⟨w.heap.size, 2, none⟩)) ?_
    simp only [nrm]
    refine list_val (.int .i64 c.tn) (by kernel_rfl) (exec_ci _ (.tmp 25) rfl (w.heap.size) 2 (by kernel_rfl) c.tn (seg_cell (nC  _ _ _ _ _) (hB.get 0 (x := ⟨w.heap.size, fl [[.int .u32 c.nx], [.slice x1.ao x1.no x1.co], [.int .i64 c.tn], [.int .u32 c.dl], [.slice x1.ah x1.nh x1.ch]], 26⟩) rfl) 2 (v := .int .i64 c.tn) rfl rfl)) ?_
    simp only [nrm]
    refine list_val (.int .i64 (c.tn + 1)) (by kernel_rfl) (add_i _ (.tmp 26) (.const (.int .i64 1)) c.tn 1 rfl (by kernel_rfl) (by kernel_rfl) _ rfl (by omega)) ?_
    simp only [nrm]
    refine lvk (.pointer (some ⟨w.heap.size, 2, none⟩)) ?_
    simp only [nrm]
    have hzz_ : Hid (u5.heap[w.heap.size]? = some (.cells (fl [[.int .u32 c.nx], [.slice x1.ao x1.no x1.co], [.int .i64 c.tn], [.int .u32 c.dl], [.slice x1.ah x1.nh x1.ch]]) 26 (0, 0))) := hide (hB.get 0 (x := ⟨w.heap.size, fl [[.int .u32 c.nx], [.slice x1.ao x1.no x1.co], [.int .i64 c.tn], [.int .u32 c.dl], [.slice x1.ah x1.nh x1.ch]], 26⟩) rfl)
    refine list_ci (.tmp 28) (.tmp 27) (w.heap.size) 2 (c.tn + 1) (by kernel_rfl) rfl (by kernel_rfl) (by kernel_rfl) hB 0 rfl NC (nC  _ _ _ _ _) 2 _ rfl rfl ?_
    intro u6 hB_ hbt_
    clear hB
    replace hB : Bl w [⟨w.heap.size, fl [[.int .u32 c.nx], [.slice x1.ao x1.no x1.co], [.int .i64 (c.tn + 1)], [.int .u32 c.dl], [.slice x1.ah x1.nh x1.ch]], 26⟩, ⟨w.heap.size + 1, fl [[.int .u32 0], [.slice none 0 0], [.int .i64 0], [.int .u32 0], [.slice none 0 0]], 26⟩, ⟨w.heap.size + 1 + 1, fl [[.int .u32 0], bw Z105], 39⟩, ⟨g5, fl [[.int .u32 s.n], bw s.B], 39⟩] u6 := hB_
    clear hB_
    replace hW := hide ((unhide hW).bz (unhide hzz_) hbt_)
    clear hbt_ hzz_
    simp only [nrm]
    refine wpList_nil ?_
    by_cases h3 : c.tn + 1 = (x1.no : Int)
    · have h3 := hide h3
      have hmod : (c.tn + 1) % (x.no : Int) = 0 := by have h4 := unhide h3; rw [h4, hn1]; exact Int.emod_self
      replace hmod := hide hmod
      replace hB := hide hB
      go_upto_region 8 with fail
      replace hB := unhide hB
      refine wp_region_lit ?_
      refine lvk (.pointer (some ⟨w.heap.size, 2, none⟩)) ?_
      simp only [nrm]
      refine list_val (.int .i64 (c.tn + 1)) (by kernel_rfl) (exec_ci _ (.tmp 29) rfl (w.heap.size) 2 (by kernel_rfl) (c.tn + 1) (seg_cell (nC  _ _ _ _ _) (hB.get 0 (x := ⟨w.heap.size, fl [[.int .u32 c.nx], [.slice x1.ao x1.no x1.co], [.int .i64 (c.tn + 1)], [.int .u32 c.dl], [.slice x1.ah x1.nh x1.ch]], 26⟩) rfl) 2 (v := .int .i64 (c.tn + 1)) rfl rfl)) ?_
      simp only [nrm]
      refine lvk (.pointer (some ⟨w.heap.size, 1, none⟩)) ?_
      simp only [nrm]
      refine list_val (.slice x1.ao x1.no x1.co) (by kernel_rfl) (exec_csO _ (.tmp 31) rfl (w.heap.size) 1 (by kernel_rfl) x1.ao x1.no x1.co (seg_cell (nC  _ _ _ _ _) (hB.get 0 (x := ⟨w.heap.size, fl [[.int .u32 c.nx], [.slice x1.ao x1.no x1.co], [.int .i64 (c.tn + 1)], [.int .u32 c.dl], [.slice x1.ah x1.nh x1.ch]], 26⟩) rfl) 1 (v := .slice x1.ao x1.no x1.co) rfl rfl)) ?_
      simp only [nrm]
      refine lvk (.int .i64 (x1.no : Int)) ?_
      simp only [nrm]
      refine list_val (.bool true) (by kernel_rfl) (eql_i _ (.tmp 30) (.tmp 33) (c.tn + 1) (x1.no : Int) true rfl (by kernel_rfl) (by kernel_rfl) (decide_eq_true (unhide h3))) ?_
      simp only [nrm]
      refine wpList_nil ?_
      replace hB := hide hB
      go_upto_region 9 with fail
      replace hB := unhide hB
      refine wp_region_lit ?_
      refine lvk (.pointer (some ⟨w.heap.size, 2, none⟩)) ?_
      simp only [nrm]
      have hzz_ : Hid (u6.heap[w.heap.size]? = some (.cells (fl [[.int .u32 c.nx], [.slice x1.ao x1.no x1.co], [.int .i64 (c.tn + 1)], [.int .u32 c.dl], [.slice x1.ah x1.nh x1.ch]]) 26 (0, 0))) := hide (hB.get 0 (x := ⟨w.heap.size, fl [[.int .u32 c.nx], [.slice x1.ao x1.no x1.co], [.int .i64 (c.tn + 1)], [.int .u32 c.dl], [.slice x1.ah x1.nh x1.ch]], 26⟩) rfl)
      refine list_ci (.tmp 35) (.const (.int .i64 0)) (w.heap.size) 2 0 (by kernel_rfl) rfl (by kernel_rfl) (by kernel_rfl) hB 0 rfl NC (nC  _ _ _ _ _) 2 _ rfl rfl ?_
      intro u7 hB_ hbt_
      clear hB
      replace hB : Bl w [⟨w.heap.size, fl [[.int .u32 c.nx], [.slice x1.ao x1.no x1.co], [.int .i64 0], [.int .u32 c.dl], [.slice x1.ah x1.nh x1.ch]], 26⟩, ⟨w.heap.size + 1, fl [[.int .u32 0], [.slice none 0 0], [.int .i64 0], [.int .u32 0], [.slice none 0 0]], 26⟩, ⟨w.heap.size + 1 + 1, fl [[.int .u32 0], bw Z105], 39⟩, ⟨g5, fl [[.int .u32 s.n], bw s.B], 39⟩] u7 := hB_
      clear hB_
      replace hW := hide ((unhide hW).bz (unhide hzz_) hbt_)
      clear hbt_ hzz_
      simp only [nrm]
      refine wpList_nil ?_
      replace hB := hide hB
      go_upto_region 10 with fail
      replace hB := unhide hB
      refine any_start (S := fun v_ => v_.heap[w.heap.size]? = some (.cells (fl [[.int .u32 c.nx], [.slice x1.ao x1.no x1.co], [.int .i64 0], [.int .u32 c.dl], [.slice x1.ah x1.nh x1.ch]]) 26 (0, 0)) ∧ v_.heap[g5]? = some (.cells (fl [[.int .u32 s.n], bw s.B]) 39 (0, 0))) (by kernel_rfl) ?_
      replace hW := hide ((unhide hW).gr ((Gr.refl u7).drew))
      replace hB := hB.drew
      generalize World.drew _ = u8 at *
      simp only [List.size_toArray, List.length_cons, List.length_nil, Array.replicate, List.replicate]
      have hS_ := hide (show (fun v_ => v_.heap[w.heap.size]? = some (.cells (fl [[.int .u32 c.nx], [.slice x1.ao x1.no x1.co], [.int .i64 0], [.int .u32 c.dl], [.slice x1.ah x1.nh x1.ch]]) 26 (0, 0)) ∧ v_.heap[g5]? = some (.cells (fl [[.int .u32 s.n], bw s.B]) 39 (0, 0))) u8 from ⟨(hB.get 0 (x := ⟨w.heap.size, fl [[.int .u32 c.nx], [.slice x1.ao x1.no x1.co], [.int .i64 0], [.int .u32 c.dl], [.slice x1.ah x1.nh x1.ch]], 26⟩) rfl), (hB.get 3 (x := ⟨g5, fl [[.int .u32 s.n], bw s.B], 39⟩) rfl)⟩)
      refine any_tk 0 (.agg (fl [[.int .u32 c.nx], [.slice x1.ao x1.no x1.co], [.int .i64 0], [.int .u32 c.dl], [.slice x1.ah x1.nh x1.ch]])) (tf 5 0) rfl (fun x_ hu => exec_sw _ 26 (.tmp 1) rfl (w.heap.size) (by kernel_rfl) hu.1 NC (nC  _ _ _ _ _) Try.underlying26 rfl (by kernel_rfl)) (unhide hS_) ?_
      simp only [nrm]
      refine any_tk 1 (.agg (fl [[.int .u32 s.n], bw s.B])) (tf 5 1) rfl (fun x_ hu => exec_sw _ 39 (.tmp 5) rfl (g5) (by kernel_rfl) hu.2 NO (nO (unhide hok2) _) Try.underlying39 rfl (by kernel_rfl)) (unhide hS_) ?_
      simp only [nrm]
      refine any_one (i := 2) (by kernel_rfl) rfl (fun K hK => ?_)
      have hzz_ : Hid (u8.heap[w.heap.size + 1]? = some (.cells (fl [[.int .u32 0], [.slice none 0 0], [.int .i64 0], [.int .u32 0], [.slice none 0 0]]) 26 (0, 0))) := hide (hB.get 1 (x := ⟨w.heap.size + 1, fl [[.int .u32 0], [.slice none 0 0], [.int .i64 0], [.int .u32 0], [.slice none 0 0]], 26⟩) rfl)
      refine step_all 26 (.tmp 2) (.tmp 36) (w.heap.size + 1) (S2 := [[.int .u32 c.nx], [.slice x1.ao x1.no x1.co], [.int .i64 0], [.int .u32 c.dl], [.slice x1.ah x1.nh x1.ch]]) (by kernel_rfl) rfl (by kernel_rfl) (by kernel_rfl) hB 1 rfl NC (nC  _ _ _ _ _) (nC  _ _ _ _ _) (by kernel_rfl) (oC  rfl rfl rfl rfl rfl) ?_
      intro u9 hB_ hbt_
      clear hB
      replace hB : Bl w [⟨w.heap.size, fl [[.int .u32 c.nx], [.slice x1.ao x1.no x1.co], [.int .i64 0], [.int .u32 c.dl], [.slice x1.ah x1.nh x1.ch]], 26⟩, ⟨w.heap.size + 1, fl [[.int .u32 c.nx], [.slice x1.ao x1.no x1.co], [.int .i64 0], [.int .u32 c.dl], [.slice x1.ah x1.nh x1.ch]], 26⟩, ⟨w.heap.size + 1 + 1, fl [[.int .u32 0], bw Z105], 39⟩, ⟨g5, fl [[.int .u32 s.n], bw s.B], 39⟩] u9 := hB_
      clear hB_
      replace hW := hide ((unhide hW).bz (unhide hzz_) hbt_)
      clear hbt_ hzz_
      clear hS_
      have hS_ := hide (show (fun v_ => v_.heap[w.heap.size]? = some (.cells (fl [[.int .u32 c.nx], [.slice x1.ao x1.no x1.co], [.int .i64 0], [.int .u32 c.dl], [.slice x1.ah x1.nh x1.ch]]) 26 (0, 0)) ∧ v_.heap[g5]? = some (.cells (fl [[.int .u32 s.n], bw s.B]) 39 (0, 0))) u9 from ⟨(hB.get 0 (x := ⟨w.heap.size, fl [[.int .u32 c.nx], [.slice x1.ao x1.no x1.co], [.int .i64 0], [.int .u32 c.dl], [.slice x1.ah x1.nh x1.ch]], 26⟩) rfl), (hB.get 3 (x := ⟨g5, fl [[.int .u32 s.n], bw s.B], 39⟩) rfl)⟩)
      refine hK.out _ _ (unhide hS_) (fun _ => ?_)
      clear hK K
      simp only [nrm]
      refine any_one (i := 3) (by kernel_rfl) rfl (fun K hK => ?_)
      have hzz_ : Hid (u9.heap[w.heap.size + 1 + 1]? = some (.cells (fl [[.int .u32 0], bw Z105]) 39 (0, 0))) := hide (hB.get 2 (x := ⟨w.heap.size + 1 + 1, fl [[.int .u32 0], bw Z105], 39⟩) rfl)
      refine step_all 39 (.tmp 3) (.tmp 37) (w.heap.size + 1 + 1) (S2 := [[.int .u32 s.n], bw s.B]) (by kernel_rfl) rfl (by kernel_rfl) (by kernel_rfl) hB 2 rfl NO (nO Z105_len _) (nO (unhide hok2) _) (by kernel_rfl) (oO _ rfl) ?_
      intro u10 hB_ hbt_
      clear hB
      replace hB : Bl w [⟨w.heap.size, fl [[.int .u32 c.nx], [.slice x1.ao x1.no x1.co], [.int .i64 0], [.int .u32 c.dl], [.slice x1.ah x1.nh x1.ch]], 26⟩, ⟨w.heap.size + 1, fl [[.int .u32 c.nx], [.slice x1.ao x1.no x1.co], [.int .i64 0], [.int .u32 c.dl], [.slice x1.ah x1.nh x1.ch]], 26⟩, ⟨w.heap.size + 1 + 1, fl [[.int .u32 s.n], bw s.B], 39⟩, ⟨g5, fl [[.int .u32 s.n], bw s.B], 39⟩] u10 := hB_
      clear hB_
      replace hW := hide ((unhide hW).bkO (unhide hzz_) hbt_ hne2)
      clear hbt_ hzz_
      clear hS_
      have hS_ := hide (show (fun v_ => v_.heap[w.heap.size]? = some (.cells (fl [[.int .u32 c.nx], [.slice x1.ao x1.no x1.co], [.int .i64 0], [.int .u32 c.dl], [.slice x1.ah x1.nh x1.ch]]) 26 (0, 0)) ∧ v_.heap[g5]? = some (.cells (fl [[.int .u32 s.n], bw s.B]) 39 (0, 0))) u10 from ⟨(hB.get 0 (x := ⟨w.heap.size, fl [[.int .u32 c.nx], [.slice x1.ao x1.no x1.co], [.int .i64 0], [.int .u32 c.dl], [.slice x1.ah x1.nh x1.ch]], 26⟩) rfl), (hB.get 3 (x := ⟨g5, fl [[.int .u32 s.n], bw s.B], 39⟩) rfl)⟩)
      refine hK.out _ _ (unhide hS_) (fun _ => ?_)
      clear hK K
      simp only [nrm]
      refine any_one (i := 4) (by kernel_rfl) rfl (fun K hK => ?_)
      replace hK := hide hK
      go_simp
      refine (unhide hK).out _ _ (unhide hS_) (fun _ => ?_)
      clear hK K
      simp only [nrm]
      refine any_done (by kernel_rfl) ?_
      clear hS_
      have hD := (unhide hW).tn 0 (by omega)
      replace hB := hide hB
      go_wp2_with fail
      replace hB := unhide hB
      rw [unhide hT]
      rw [unhide hv, unhide hmod]
      exact bodyPost_ret (v := .tuple #[.agg (fl [[.int .u32 c.nx], [.slice x1.ao x1.no x1.co], [.int .i64 0], [.int .u32 c.dl], [.slice x1.ah x1.nh x1.ch]]), .agg (fl [[.int .u32 s.n], bw s.B]), .int .i64 0]) (res3 Try.results19 (rv_cell (by kernel_rfl) (hB.get 1 (x := ⟨w.heap.size + 1, fl [[.int .u32 c.nx], [.slice x1.ao x1.no x1.co], [.int .i64 0], [.int .u32 c.dl], [.slice x1.ah x1.nh x1.ch]], 26⟩) rfl) Try.underlying26 rfl (by rw [fl_size (nC  _ _ _ _ _)]; kernel_rfl)) (rv_cell (by kernel_rfl) (hB.get 2 (x := ⟨w.heap.size + 1 + 1, fl [[.int .u32 s.n], bw s.B], 39⟩) rfl) Try.underlying39 rfl (by rw [fl_size (nO (unhide hok2) _)]; kernel_rfl)) (rv_tmp (by kernel_rfl))) rfl (⟨x1, rfl, hD.i, hD.o, hB.gr⟩)
    · have h3 := hide h3
      have hmod : (c.tn + 1) % (x.no : Int) = c.tn + 1 := Int.emod_eq_of_lt (by omega) (by have h4 := unhide h3; omega)
      replace hmod := hide hmod
      replace hB := hide hB
      go_upto_region 8 with fail
      replace hB := unhide hB
      refine wp_region_lit ?_
      refine lvk (.pointer (some ⟨w.heap.size, 2, none⟩)) ?_
      simp only [nrm]
      refine list_val (.int .i64 (c.tn + 1)) (by kernel_rfl) (exec_ci _ (.tmp 29) rfl (w.heap.size) 2 (by kernel_rfl) (c.tn + 1) (seg_cell (nC  _ _ _ _ _) (hB.get 0 (x := ⟨w.heap.size, fl [[.int .u32 c.nx], [.slice x1.ao x1.no x1.co], [.int .i64 (c.tn + 1)], [.int .u32 c.dl], [.slice x1.ah x1.nh x1.ch]], 26⟩) rfl) 2 (v := .int .i64 (c.tn + 1)) rfl rfl)) ?_
      simp only [nrm]
      refine lvk (.pointer (some ⟨w.heap.size, 1, none⟩)) ?_
      simp only [nrm]
      refine list_val (.slice x1.ao x1.no x1.co) (by kernel_rfl) (exec_csO _ (.tmp 31) rfl (w.heap.size) 1 (by kernel_rfl) x1.ao x1.no x1.co (seg_cell (nC  _ _ _ _ _) (hB.get 0 (x := ⟨w.heap.size, fl [[.int .u32 c.nx], [.slice x1.ao x1.no x1.co], [.int .i64 (c.tn + 1)], [.int .u32 c.dl], [.slice x1.ah x1.nh x1.ch]], 26⟩) rfl) 1 (v := .slice x1.ao x1.no x1.co) rfl rfl)) ?_
      simp only [nrm]
      refine lvk (.int .i64 (x1.no : Int)) ?_
      simp only [nrm]
      refine list_val (.bool false) (by kernel_rfl) (eql_i _ (.tmp 30) (.tmp 33) (c.tn + 1) (x1.no : Int) false rfl (by kernel_rfl) (by kernel_rfl) (decide_eq_false (unhide h3))) ?_
      simp only [nrm]
      refine wpList_nil ?_
      replace hB := hide hB
      go_upto_region 10 with fail
      replace hB := unhide hB
      refine any_start (S := fun v_ => v_.heap[w.heap.size]? = some (.cells (fl [[.int .u32 c.nx], [.slice x1.ao x1.no x1.co], [.int .i64 (c.tn + 1)], [.int .u32 c.dl], [.slice x1.ah x1.nh x1.ch]]) 26 (0, 0)) ∧ v_.heap[g5]? = some (.cells (fl [[.int .u32 s.n], bw s.B]) 39 (0, 0))) (by kernel_rfl) ?_
      replace hW := hide ((unhide hW).gr ((Gr.refl u6).drew))
      replace hB := hB.drew
      generalize World.drew _ = u7 at *
      simp only [List.size_toArray, List.length_cons, List.length_nil, Array.replicate, List.replicate]
      have hS_ := hide (show (fun v_ => v_.heap[w.heap.size]? = some (.cells (fl [[.int .u32 c.nx], [.slice x1.ao x1.no x1.co], [.int .i64 (c.tn + 1)], [.int .u32 c.dl], [.slice x1.ah x1.nh x1.ch]]) 26 (0, 0)) ∧ v_.heap[g5]? = some (.cells (fl [[.int .u32 s.n], bw s.B]) 39 (0, 0))) u7 from ⟨(hB.get 0 (x := ⟨w.heap.size, fl [[.int .u32 c.nx], [.slice x1.ao x1.no x1.co], [.int .i64 (c.tn + 1)], [.int .u32 c.dl], [.slice x1.ah x1.nh x1.ch]], 26⟩) rfl), (hB.get 3 (x := ⟨g5, fl [[.int .u32 s.n], bw s.B], 39⟩) rfl)⟩)
      refine any_tk 0 (.agg (fl [[.int .u32 c.nx], [.slice x1.ao x1.no x1.co], [.int .i64 (c.tn + 1)], [.int .u32 c.dl], [.slice x1.ah x1.nh x1.ch]])) (tf 5 0) rfl (fun x_ hu => exec_sw _ 26 (.tmp 1) rfl (w.heap.size) (by kernel_rfl) hu.1 NC (nC  _ _ _ _ _) Try.underlying26 rfl (by kernel_rfl)) (unhide hS_) ?_
      simp only [nrm]
      refine any_tk 1 (.agg (fl [[.int .u32 s.n], bw s.B])) (tf 5 1) rfl (fun x_ hu => exec_sw _ 39 (.tmp 5) rfl (g5) (by kernel_rfl) hu.2 NO (nO (unhide hok2) _) Try.underlying39 rfl (by kernel_rfl)) (unhide hS_) ?_
      simp only [nrm]
      refine any_one (i := 2) (by kernel_rfl) rfl (fun K hK => ?_)
      have hzz_ : Hid (u7.heap[w.heap.size + 1]? = some (.cells (fl [[.int .u32 0], [.slice none 0 0], [.int .i64 0], [.int .u32 0], [.slice none 0 0]]) 26 (0, 0))) := hide (hB.get 1 (x := ⟨w.heap.size + 1, fl [[.int .u32 0], [.slice none 0 0], [.int .i64 0], [.int .u32 0], [.slice none 0 0]], 26⟩) rfl)
      refine step_all 26 (.tmp 2) (.tmp 36) (w.heap.size + 1) (S2 := [[.int .u32 c.nx], [.slice x1.ao x1.no x1.co], [.int .i64 (c.tn + 1)], [.int .u32 c.dl], [.slice x1.ah x1.nh x1.ch]]) (by kernel_rfl) rfl (by kernel_rfl) (by kernel_rfl) hB 1 rfl NC (nC  _ _ _ _ _) (nC  _ _ _ _ _) (by kernel_rfl) (oC  rfl rfl rfl rfl rfl) ?_
      intro u8 hB_ hbt_
      clear hB
      replace hB : Bl w [⟨w.heap.size, fl [[.int .u32 c.nx], [.slice x1.ao x1.no x1.co], [.int .i64 (c.tn + 1)], [.int .u32 c.dl], [.slice x1.ah x1.nh x1.ch]], 26⟩, ⟨w.heap.size + 1, fl [[.int .u32 c.nx], [.slice x1.ao x1.no x1.co], [.int .i64 (c.tn + 1)], [.int .u32 c.dl], [.slice x1.ah x1.nh x1.ch]], 26⟩, ⟨w.heap.size + 1 + 1, fl [[.int .u32 0], bw Z105], 39⟩, ⟨g5, fl [[.int .u32 s.n], bw s.B], 39⟩] u8 := hB_
      clear hB_
      replace hW := hide ((unhide hW).bz (unhide hzz_) hbt_)
      clear hbt_ hzz_
      clear hS_
      have hS_ := hide (show (fun v_ => v_.heap[w.heap.size]? = some (.cells (fl [[.int .u32 c.nx], [.slice x1.ao x1.no x1.co], [.int .i64 (c.tn + 1)], [.int .u32 c.dl], [.slice x1.ah x1.nh x1.ch]]) 26 (0, 0)) ∧ v_.heap[g5]? = some (.cells (fl [[.int .u32 s.n], bw s.B]) 39 (0, 0))) u8 from ⟨(hB.get 0 (x := ⟨w.heap.size, fl [[.int .u32 c.nx], [.slice x1.ao x1.no x1.co], [.int .i64 (c.tn + 1)], [.int .u32 c.dl], [.slice x1.ah x1.nh x1.ch]], 26⟩) rfl), (hB.get 3 (x := ⟨g5, fl [[.int .u32 s.n], bw s.B], 39⟩) rfl)⟩)
      refine hK.out _ _ (unhide hS_) (fun _ => ?_)
      clear hK K
      simp only [nrm]
      refine any_one (i := 3) (by kernel_rfl) rfl (fun K hK => ?_)
      have hzz_ : Hid (u8.heap[w.heap.size + 1 + 1]? = some (.cells (fl [[.int .u32 0], bw Z105]) 39 (0, 0))) := hide (hB.get 2 (x := ⟨w.heap.size + 1 + 1, fl [[.int .u32 0], bw Z105], 39⟩) rfl)
      refine step_all 39 (.tmp 3) (.tmp 37) (w.heap.size + 1 + 1) (S2 := [[.int .u32 s.n], bw s.B]) (by kernel_rfl) rfl (by kernel_rfl) (by kernel_rfl) hB 2 rfl NO (nO Z105_len _) (nO (unhide hok2) _) (by kernel_rfl) (oO _ rfl) ?_
      intro u9 hB_ hbt_
      clear hB
      replace hB : Bl w [⟨w.heap.size, fl [[.int .u32 c.nx], [.slice x1.ao x1.no x1.co], [.int .i64 (c.tn + 1)], [.int .u32 c.dl], [.slice x1.ah x1.nh x1.ch]], 26⟩, ⟨w.heap.size + 1, fl [[.int .u32 c.nx], [.slice x1.ao x1.no x1.co], [.int .i64 (c.tn + 1)], [.int .u32 c.dl], [.slice x1.ah x1.nh x1.ch]], 26⟩, ⟨w.heap.size + 1 + 1, fl [[.int .u32 s.n], bw s.B], 39⟩, ⟨g5, fl [[.int .u32 s.n], bw s.B], 39⟩] u9 := hB_
      clear hB_
      replace hW := hide ((unhide hW).bkO (unhide hzz_) hbt_ hne2)
      clear hbt_ hzz_
      clear hS_
      have hS_ := hide (show (fun v_ => v_.heap[w.heap.size]? = some (.cells (fl [[.int .u32 c.nx], [.slice x1.ao x1.no x1.co], [.int .i64 (c.tn + 1)], [.int .u32 c.dl], [.slice x1.ah x1.nh x1.ch]]) 26 (0, 0)) ∧ v_.heap[g5]? = some (.cells (fl [[.int .u32 s.n], bw s.B]) 39 (0, 0))) u9 from ⟨(hB.get 0 (x := ⟨w.heap.size, fl [[.int .u32 c.nx], [.slice x1.ao x1.no x1.co], [.int .i64 (c.tn + 1)], [.int .u32 c.dl], [.slice x1.ah x1.nh x1.ch]], 26⟩) rfl), (hB.get 3 (x := ⟨g5, fl [[.int .u32 s.n], bw s.B], 39⟩) rfl)⟩)
      refine hK.out _ _ (unhide hS_) (fun _ => ?_)
      clear hK K
      simp only [nrm]
      refine any_one (i := 4) (by kernel_rfl) rfl (fun K hK => ?_)
      replace hK := hide hK
      go_simp
      refine (unhide hK).out _ _ (unhide hS_) (fun _ => ?_)
      clear hK K
      simp only [nrm]
      refine any_done (by kernel_rfl) ?_
      clear hS_
      have hD := (unhide hW).tn (c.tn + 1) (by omega)
      replace hB := hide hB
      go_wp2_with fail
      replace hB := unhide hB
      rw [unhide hT]
      rw [unhide hv, unhide hmod]
      exact bodyPost_ret (v := .tuple #[.agg (fl [[.int .u32 c.nx], [.slice x1.ao x1.no x1.co], [.int .i64 (c.tn + 1)], [.int .u32 c.dl], [.slice x1.ah x1.nh x1.ch]]), .agg (fl [[.int .u32 s.n], bw s.B]), .int .i64 0]) (res3 Try.results19 (rv_cell (by kernel_rfl) (hB.get 1 (x := ⟨w.heap.size + 1, fl [[.int .u32 c.nx], [.slice x1.ao x1.no x1.co], [.int .i64 (c.tn + 1)], [.int .u32 c.dl], [.slice x1.ah x1.nh x1.ch]], 26⟩) rfl) Try.underlying26 rfl (by rw [fl_size (nC  _ _ _ _ _)]; kernel_rfl)) (rv_cell (by kernel_rfl) (hB.get 2 (x := ⟨w.heap.size + 1 + 1, fl [[.int .u32 s.n], bw s.B], 39⟩) rfl) Try.underlying39 rfl (by rw [fl_size (nO (unhide hok2) _)]; kernel_rfl)) (rv_tmp (by kernel_rfl))) rfl (⟨x1, rfl, hD.i, hD.o, hB.gr⟩)
end Go.Proofs.Ytcefkkoombmndaa
