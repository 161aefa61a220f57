/-
  The reference's Copy and Same; the law's spoil and whole.
-/
import Derived.Test.YtcefkkoombmndaaUN
import Derived.Test.YtcefkkoombmndaaUJ
namespace Go.Proofs.Ytcefkkoombmndaa
open Go.RowKit
set_option maxRecDepth 100000
set_option linter.unusedSimpArgs false
set_option linter.unusedVariables false
set_option maxHeartbeats 4000000 in
theorem rcopy_ok (c : Cm) (x : Lc) (w : World) (hc : Cin w c x) (hno : x.no ≤ 1000) (hnh : x.nh ≤ 1000) : Calls Try.prog 11 #[.agg (fl [[.int .u32 c.nx], [.slice x.ao x.no x.co], [.int .i64 c.tn], [.int .u32 c.dl], [.slice x.ah x.nh x.ch]])] w (fun r w' => ∃ x', r = .returned (.agg (fl (cvs c x'))) ∧ Own w.heap.size w' c x' ∧ x'.no = x.no ∧ x'.nh = x.nh ∧ Gr w w') := by
  obtain ⟨T, hT⟩ : ∃ T : Ending → World → Prop, T = (fun r w' => ∃ x', r = .returned (.agg (fl (cvs c x'))) ∧ Own w.heap.size w' c x' ∧ x'.no = x.no ∧ x'.nh = x.nh ∧ Gr w w') := ⟨_, rfl⟩
  rw [← hT]
  replace hT := hide hT
  have hol := hc.o.len
  have hhl := hc.h.len
  replace hc := hide hc
  obtain ⟨A0_, hA0_⟩ : ∃ S_, S_ = fl [[.int .u32 c.nx], [.slice x.ao x.no x.co], [.int .i64 c.tn], [.int .u32 c.dl], [.slice x.ah x.nh x.ch]] := ⟨_, rfl⟩
  rw [← hA0_]
  replace hA0_ := hide hA0_
  go_enter Try.func11, Try.ntmps11
  go_upto_region 1 with fail
  have hB := (((Bl.nil w).new A0_ 26).new (fl [[.int .u32 0], [.slice none 0 0], [.int .i64 0], [.int .u32 0], [.slice none 0 0]]) 26)
  simp only [size_alloc, List.nil_append, List.cons_append] at hB
  rw [unhide hA0_] at hB
  generalize hu_ : World.alloc _ _ = u0
  replace hB : Bl w [⟨w.heap.size, fl [[.int .u32 c.nx], [.slice x.ao x.no x.co], [.int .i64 c.tn], [.int .u32 c.dl], [.slice x.ah x.nh x.ch]], 26⟩, ⟨w.heap.size + 1, fl [[.int .u32 0], [.slice none 0 0], [.int .i64 0], [.int .u32 0], [.slice none 0 0]], 26⟩] u0 := by
    rw [← hu_]
    rw [unhide hA0_]
    exact hB
  clear hu_ hA0_
  refine wp_region_lit ?_
  refine list_valw (.slice (some ⟨u0.heap.size, 0, none⟩) 0 0) (u0.alloc (.cells #[] 39 (0, 0))) (by kernel_rfl) (exec_b0o _ rfl) ?_
  have hO := or_mt (k := 106) (b := w.heap.size) (blk_new u0 (.cells #[] 39 (0, 0))) hB.gr.size
  have hg := (Gr.refl u0).alloc (.cells #[] 39 (0, 0))
  replace hB := hB.more hg
  clear hg
  generalize World.alloc _ _ = u1 at *
  generalize u0.heap.size = gO at *
  replace hO := hide hO
  simp only [nrm]
  refine lvk (.pointer (some ⟨w.heap.size, 1, none⟩)) ?_
  simp only [nrm]
  refine list_val (.slice x.ao x.no x.co) (by kernel_rfl) (exec_csO _ (.tmp 4) rfl (w.heap.size) 1 (by kernel_rfl) x.ao x.no x.co (seg_cell (nC  _ _ _ _ _) (hB.get 0 (x := ⟨w.heap.size, fl [[.int .u32 c.nx], [.slice x.ao x.no x.co], [.int .i64 c.tn], [.int .u32 c.dl], [.slice x.ah x.nh x.ch]], 26⟩) rfl) 1 (v := .slice x.ao x.no x.co) rfl rfl)) ?_
  simp only [nrm]
  refine wpList_step fun K hK => ?_
  rw [if_pos (by kernel_rfl)]
  refine app_rowsW ltO (.tmp 3) (.tmp 5) rfl w.heap.size _ [] (by kernel_rfl) (unhide hO) x.ao x.no x.co (c.O.map otr) (by kernel_rfl) ((unhide hc).o.gr hB.gr).2 (fun r_ hr_ u_ hu_ => by
    obtain ⟨s_, _, rfl⟩ := List.mem_map.1 hr_
    exact otr_one _ u_ hu_) (by rw [List.length_nil]; omega) hB.gr.size ?_
  intro v1 u2 hO1 hgr
  refine hK _ _ ?_
  clear hK K
  replace hB := hB.grownR (unhide hO) (Nat.le_refl _) hgr (by intro y_ hy_; simp only [List.mem_cons, List.not_mem_nil, or_false] at hy_; rcases hy_ with rfl | rfl <;> (dsimp only; decide))
  clear hO hgr
  rw [List.nil_append] at hO1
  obtain ⟨aO, cO, rfl, hls1⟩ := hO1.lz
  have e1 : (c.O.map otr).length = x.no := by rw [List.length_map, hol]
  rw [e1] at hO1 ⊢
  clear hls1 e1
  have hO := hide hO1
  clear hO1
  simp only [nrm]
  refine lvk (.pointer (some ⟨w.heap.size, 1, none⟩)) ?_
  simp only [nrm]
  have hzz_ : Hid (u2.heap[w.heap.size]? = some (.cells (fl [[.int .u32 c.nx], [.slice x.ao x.no x.co], [.int .i64 c.tn], [.int .u32 c.dl], [.slice x.ah x.nh x.ch]]) 26 (0, 0))) := hide (hB.get 0 (x := ⟨w.heap.size, fl [[.int .u32 c.nx], [.slice x.ao x.no x.co], [.int .i64 c.tn], [.int .u32 c.dl], [.slice x.ah x.nh x.ch]], 26⟩) rfl)
  refine list_csO (.tmp 7) (.tmp 6) (w.heap.size) 1 aO x.no cO (by kernel_rfl) rfl (by kernel_rfl) (by kernel_rfl) hB 0 rfl NC (nC  _ _ _ _ _) 1 _ rfl rfl ?_
  intro u3 hB_ hbt_
  clear hB
  replace hB : Bl w [⟨w.heap.size, fl [[.int .u32 c.nx], [.slice aO x.no cO], [.int .i64 c.tn], [.int .u32 c.dl], [.slice x.ah x.nh x.ch]], 26⟩, ⟨w.heap.size + 1, fl [[.int .u32 0], [.slice none 0 0], [.int .i64 0], [.int .u32 0], [.slice none 0 0]], 26⟩] u3 := hB_
  clear hB_
  replace hO := hide ((unhide hO).bz (unhide hzz_) hbt_)
  clear hbt_ hzz_
  simp only [nrm]
  refine wpList_nil ?_
  replace hB := hide hB
  go_upto_region 2 with fail
  replace hB := unhide hB
  refine wp_region_lit ?_
  refine list_valw (.slice (some ⟨u3.heap.size, 0, none⟩) 0 0) (u3.alloc (.cells #[] 47 (0, 0))) (by kernel_rfl) (exec_b0i _ rfl) ?_
  have hH := or_mt (k := 2) (b := w.heap.size) (blk_new u3 (.cells #[] 47 (0, 0))) hB.gr.size
  have hg := (Gr.refl u3).alloc (.cells #[] 47 (0, 0))
  replace hO := hide ((unhide hO).gr hg)
  replace hB := hB.more hg
  clear hg
  generalize World.alloc _ _ = u4 at *
  generalize u3.heap.size = gH at *
  replace hH := hide hH
  simp only [nrm]
  refine lvk (.pointer (some ⟨w.heap.size, 4, none⟩)) ?_
  simp only [nrm]
  refine list_val (.slice x.ah x.nh x.ch) (by kernel_rfl) (exec_csI _ (.tmp 9) rfl (w.heap.size) 4 (by kernel_rfl) x.ah x.nh x.ch (seg_cell (nC  _ _ _ _ _) (hB.get 0 (x := ⟨w.heap.size, fl [[.int .u32 c.nx], [.slice aO x.no cO], [.int .i64 c.tn], [.int .u32 c.dl], [.slice x.ah x.nh x.ch]], 26⟩) rfl) 4 (v := .slice x.ah x.nh x.ch) rfl rfl)) ?_
  simp only [nrm]
  refine wpList_step fun K hK => ?_
  rw [if_pos (by kernel_rfl)]
  refine app_rowsW ltI (.tmp 8) (.tmp 10) rfl w.heap.size _ [] (by kernel_rfl) (unhide hH) x.ah x.nh x.ch (c.H.map itr) (by kernel_rfl) ((unhide hc).h.gr hB.gr).2 (fun r_ hr_ u_ hu_ => by
    obtain ⟨s_, _, rfl⟩ := List.mem_map.1 hr_
    exact itr_one _ u_ hu_) (by rw [List.length_nil]; omega) hB.gr.size ?_
  intro v1 u5 hO1 hgr
  refine hK _ _ ?_
  clear hK K
  replace hB := hB.grownR (unhide hH) (Nat.le_refl _) hgr (by intro y_ hy_; simp only [List.mem_cons, List.not_mem_nil, or_false] at hy_; rcases hy_ with rfl | rfl <;> (dsimp only; decide))
  replace hO := hide (or_grown (unhide hO) (unhide hH) hgr (by decide))
  clear hH hgr
  rw [List.nil_append] at hO1
  obtain ⟨aH, cH, rfl, hls1⟩ := hO1.lz
  have e1 : (c.H.map itr).length = x.nh := by rw [List.length_map, hhl]
  rw [e1] at hO1 ⊢
  clear hls1 e1
  have hH := hide hO1
  clear hO1
  simp only [nrm]
  refine lvk (.pointer (some ⟨w.heap.size, 4, none⟩)) ?_
  simp only [nrm]
  have hzz_ : Hid (u5.heap[w.heap.size]? = some (.cells (fl [[.int .u32 c.nx], [.slice aO x.no cO], [.int .i64 c.tn], [.int .u32 c.dl], [.slice x.ah x.nh x.ch]]) 26 (0, 0))) := hide (hB.get 0 (x := ⟨w.heap.size, fl [[.int .u32 c.nx], [.slice aO x.no cO], [.int .i64 c.tn], [.int .u32 c.dl], [.slice x.ah x.nh x.ch]], 26⟩) rfl)
  refine list_csI (.tmp 12) (.tmp 11) (w.heap.size) 4 aH x.nh cH (by kernel_rfl) rfl (by kernel_rfl) (by kernel_rfl) hB 0 rfl NC (nC  _ _ _ _ _) 4 _ rfl rfl ?_
  intro u6 hB_ hbt_
  clear hB
  replace hB : Bl w [⟨w.heap.size, fl [[.int .u32 c.nx], [.slice aO x.no cO], [.int .i64 c.tn], [.int .u32 c.dl], [.slice aH x.nh cH]], 26⟩, ⟨w.heap.size + 1, fl [[.int .u32 0], [.slice none 0 0], [.int .i64 0], [.int .u32 0], [.slice none 0 0]], 26⟩] u6 := hB_
  clear hB_
  replace hO := hide ((unhide hO).bz (unhide hzz_) hbt_)
  replace hH := hide ((unhide hH).bz (unhide hzz_) hbt_)
  clear hbt_ hzz_
  simp only [nrm]
  refine wpList_nil ?_
  replace hB := hide hB
  go_upto_region 3 with fail
  replace hB := unhide hB
  refine wp_region_lit ?_
  refine list_val (.agg (fl [[.int .u32 c.nx], [.slice aO x.no cO], [.int .i64 c.tn], [.int .u32 c.dl], [.slice aH x.nh cH]])) (by kernel_rfl) (exec_sw _ 26 (.tmp 1) rfl (w.heap.size) (by kernel_rfl) (hB.get 0 (x := ⟨w.heap.size, fl [[.int .u32 c.nx], [.slice aO x.no cO], [.int .i64 c.tn], [.int .u32 c.dl], [.slice aH x.nh cH]], 26⟩) rfl) NC (nC  _ _ _ _ _) Try.underlying26 rfl (by kernel_rfl)) ?_
  simp only [nrm]
  have hzz_ : Hid (u6.heap[w.heap.size + 1]? = some (.cells (fl [[.int .u32 0], [.slice none 0 0], [.int .i64 0], [.int .u32 0], [.slice none 0 0]]) 26 (0, 0))) := hide (hB.get 1 (x := ⟨w.heap.size + 1, fl [[.int .u32 0], [.slice none 0 0], [.int .i64 0], [.int .u32 0], [.slice none 0 0]], 26⟩) rfl)
  refine list_all 26 (.tmp 2) (.tmp 13) (w.heap.size + 1) (S2 := [[.int .u32 c.nx], [.slice aO x.no cO], [.int .i64 c.tn], [.int .u32 c.dl], [.slice aH x.nh cH]]) (by kernel_rfl) rfl (by kernel_rfl) (by kernel_rfl) hB 1 rfl NC (nC  _ _ _ _ _) (nC  _ _ _ _ _) (by kernel_rfl) (oC  rfl rfl rfl rfl rfl) ?_
  intro u7 hB_ hbt_
  clear hB
  replace hB : Bl w [⟨w.heap.size, fl [[.int .u32 c.nx], [.slice aO x.no cO], [.int .i64 c.tn], [.int .u32 c.dl], [.slice aH x.nh cH]], 26⟩, ⟨w.heap.size + 1, fl [[.int .u32 c.nx], [.slice aO x.no cO], [.int .i64 c.tn], [.int .u32 c.dl], [.slice aH x.nh cH]], 26⟩] u7 := hB_
  clear hB_
  replace hO := hide ((unhide hO).bz (unhide hzz_) hbt_)
  replace hH := hide ((unhide hH).bz (unhide hzz_) hbt_)
  clear hbt_ hzz_
  simp only [nrm]
  refine wpList_nil ?_
  replace hB := hide hB
  go_wp2_with fail
  replace hB := unhide hB
  rw [unhide hT]
  exact bodyPost_ret (v := .agg (fl [[.int .u32 c.nx], [.slice aO x.no cO], [.int .i64 c.tn], [.int .u32 c.dl], [.slice aH x.nh cH]])) (res1 Try.results11 (rv_cell (by kernel_rfl) (hB.get 1 (x := ⟨w.heap.size + 1, fl [[.int .u32 c.nx], [.slice aO x.no cO], [.int .i64 c.tn], [.int .u32 c.dl], [.slice aH x.nh cH]], 26⟩) rfl) Try.underlying26 rfl (by rw [fl_size (nC  _ _ _ _ _)]; kernel_rfl))) rfl (⟨⟨aO, x.no, cO, aH, x.nh, cH⟩, rfl, ⟨unhide hO, unhide hH⟩, rfl, rfl, hB.gr⟩)
set_option maxHeartbeats 4000000 in
theorem rsame_ok (c d : Cm) (x y : Lc) (w : World) (hc : Cin w c x) (hd : Cin w d y) : Calls Try.prog 16 #[.agg (fl [[.int .u32 c.nx], [.slice x.ao x.no x.co], [.int .i64 c.tn], [.int .u32 c.dl], [.slice x.ah x.nh x.ch]]), .agg (fl [[.int .u32 d.nx], [.slice y.ao y.no y.co], [.int .i64 d.tn], [.int .u32 d.dl], [.slice y.ah y.nh y.ch]])] w (Vl (.bool (decide (c = d))) w) := by
  obtain ⟨T, hT⟩ : ∃ T : Ending → World → Prop, T = (Vl (.bool (decide (c = d))) w) := ⟨_, rfl⟩
  rw [← hT]
  replace hT := hide hT
  have hcn := hc.o.len
  have hdn := hd.o.len
  have hcm := hc.h.len
  have hdm := hd.h.len
  have hb1 := hc.o.2.cap
  have hb2 := hc.o.2.max
  have hb3 := hc.h.2.cap
  have hb4 := hc.h.2.max
  replace hc := hide hc
  replace hd := hide hd
  obtain ⟨A0_, hA0_⟩ : ∃ S_, S_ = fl [[.int .u32 c.nx], [.slice x.ao x.no x.co], [.int .i64 c.tn], [.int .u32 c.dl], [.slice x.ah x.nh x.ch]] := ⟨_, rfl⟩
  rw [← hA0_]
  replace hA0_ := hide hA0_
  obtain ⟨A1_, hA1_⟩ : ∃ S_, S_ = fl [[.int .u32 d.nx], [.slice y.ao y.no y.co], [.int .i64 d.tn], [.int .u32 d.dl], [.slice y.ah y.nh y.ch]] := ⟨_, rfl⟩
  rw [← hA1_]
  replace hA1_ := hide hA1_
  go_enter Try.func16, Try.ntmps16
  go_upto_region 1 with fail
  have hB := (((Bl.nil w).new A0_ 26).new A1_ 26)
  simp only [size_alloc, List.nil_append, List.cons_append] at hB
  rw [unhide hA0_, unhide hA1_] at hB
  generalize hu_ : World.alloc _ _ = u0
  replace hB : Bl w [⟨w.heap.size, fl [[.int .u32 c.nx], [.slice x.ao x.no x.co], [.int .i64 c.tn], [.int .u32 c.dl], [.slice x.ah x.nh x.ch]], 26⟩, ⟨w.heap.size + 1, fl [[.int .u32 d.nx], [.slice y.ao y.no y.co], [.int .i64 d.tn], [.int .u32 d.dl], [.slice y.ah y.nh y.ch]], 26⟩] u0 := by
    rw [← hu_]
    rw [unhide hA0_, unhide hA1_]
    exact hB
  clear hu_ hA0_ hA1_
  by_cases h1 : c.nx = d.nx
  rotate_left
  · have hv : decide (c = d) = false := decide_eq_false (fun e0 => by have e := cm_eq.1 e0; exact h1 e.1)
    replace h1 := hide h1
    refine wp_region_lit ?_
    refine wpList_gen fun ops_ hops => ?_
    replace hops := hide hops
    refine list_val (.pointer (some ⟨w.heap.size, 0, none⟩)) (by rw [unhide hops]; kernel_rfl) (by kernel_rfl) ?_
    simp only [nrm]
    refine list_val (.int .u32 c.nx) (by rw [unhide hops]; kernel_rfl) (exec_c32 _ (.tmp 7) rfl (w.heap.size) 0 (by kernel_rfl) c.nx (seg_cell (nC  _ _ _ _ _) (hB.get 0 (x := ⟨w.heap.size, fl [[.int .u32 c.nx], [.slice x.ao x.no x.co], [.int .i64 c.tn], [.int .u32 c.dl], [.slice x.ah x.nh x.ch]], 26⟩) rfl) 0 (v := .int .u32 c.nx) rfl rfl)) ?_
    simp only [nrm]
    refine list_val (.pointer (some ⟨w.heap.size + 1, 0, none⟩)) (by rw [unhide hops]; kernel_rfl) (by kernel_rfl) ?_
    simp only [nrm]
    refine list_val (.int .u32 d.nx) (by rw [unhide hops]; kernel_rfl) (exec_c32 _ (.tmp 9) rfl (w.heap.size + 1) 0 (by kernel_rfl) d.nx (seg_cell (nC  _ _ _ _ _) (hB.get 1 (x := ⟨w.heap.size + 1, fl [[.int .u32 d.nx], [.slice y.ao y.no y.co], [.int .i64 d.tn], [.int .u32 d.dl], [.slice y.ah y.nh y.ch]], 26⟩) rfl) 0 (v := .int .u32 d.nx) rfl rfl)) ?_
    simp only [nrm]
    refine list_val (.bool true) (by rw [unhide hops]; kernel_rfl) (neq_32 _ (.tmp 8) (.tmp 10) c.nx d.nx true rfl (by kernel_rfl) (by kernel_rfl) (decide_eq_true (by have := unhide h1; omega))) ?_
    simp only [nrm]
    refine list_val (.bool true) (by rw [unhide hops]; kernel_rfl) (by kernel_rfl) ?_
    simp only [nrm]
    refine list_off (by rw [unhide hops]; kernel_rfl) ?_
    simp only [nrm]
    refine list_off (by rw [unhide hops]; kernel_rfl) ?_
    simp only [nrm]
    refine list_off (by rw [unhide hops]; kernel_rfl) ?_
    simp only [nrm]
    refine list_off (by rw [unhide hops]; kernel_rfl) ?_
    simp only [nrm]
    refine list_off (by rw [unhide hops]; kernel_rfl) ?_
    simp only [nrm]
    refine list_val (.bool true) (by rw [unhide hops]; kernel_rfl) (by kernel_rfl) ?_
    simp only [nrm]
    refine list_val (.bool true) (by rw [unhide hops]; kernel_rfl) (by kernel_rfl) ?_
    simp only [nrm]
    refine list_off (by rw [unhide hops]; kernel_rfl) ?_
    simp only [nrm]
    refine list_off (by rw [unhide hops]; kernel_rfl) ?_
    simp only [nrm]
    refine list_off (by rw [unhide hops]; kernel_rfl) ?_
    simp only [nrm]
    refine list_off (by rw [unhide hops]; kernel_rfl) ?_
    simp only [nrm]
    refine list_off (by rw [unhide hops]; kernel_rfl) ?_
    simp only [nrm]
    refine list_val (.bool true) (by rw [unhide hops]; kernel_rfl) (by kernel_rfl) ?_
    simp only [nrm]
    refine list_val (.bool true) (by rw [unhide hops]; kernel_rfl) (by kernel_rfl) ?_
    simp only [nrm]
    refine list_off (by rw [unhide hops]; kernel_rfl) ?_
    simp only [nrm]
    refine list_off (by rw [unhide hops]; kernel_rfl) ?_
    simp only [nrm]
    refine list_off (by rw [unhide hops]; kernel_rfl) ?_
    simp only [nrm]
    refine list_off (by rw [unhide hops]; kernel_rfl) ?_
    simp only [nrm]
    refine list_off (by rw [unhide hops]; kernel_rfl) ?_
    simp only [nrm]
    refine list_off (by rw [unhide hops]; kernel_rfl) ?_
    simp only [nrm]
    refine list_off (by rw [unhide hops]; kernel_rfl) ?_
    simp only [nrm]
    refine list_val (.bool true) (by rw [unhide hops]; kernel_rfl) (by kernel_rfl) ?_
    simp only [nrm]
    refine list_val (.bool true) (by rw [unhide hops]; kernel_rfl) (by kernel_rfl) ?_
    simp only [nrm]
    refine list_off (by rw [unhide hops]; kernel_rfl) ?_
    simp only [nrm]
    refine list_off (by rw [unhide hops]; kernel_rfl) ?_
    simp only [nrm]
    refine list_off (by rw [unhide hops]; kernel_rfl) ?_
    simp only [nrm]
    refine list_off (by rw [unhide hops]; kernel_rfl) ?_
    simp only [nrm]
    refine list_off (by rw [unhide hops]; kernel_rfl) ?_
    simp only [nrm]
    refine list_off (by rw [unhide hops]; kernel_rfl) ?_
    simp only [nrm]
    refine list_off (by rw [unhide hops]; kernel_rfl) ?_
    simp only [nrm]
    refine list_val (.bool true) (by rw [unhide hops]; kernel_rfl) (by kernel_rfl) ?_
    simp only [nrm]
    refine wpList_nil ?_
    replace hB := hide hB
    go_upto_region 2 with fail
    replace hB := unhide hB
    refine wp_region_lit ?_
    (refine wpList_step fun K hK => ?_; replace hK := hide hK; go_simp; refine unhide hK _ _ ?_; clear hK K)
    refine wpList_nil ?_
    replace hB := hide hB
    go_wp2_with fail
    replace hB := unhide hB
    rw [unhide hT]
    exact (⟨by rw [hv] <;> rfl, hB.gr⟩)
  replace h1 := hide h1
  by_cases h2 : c.tn = d.tn
  rotate_left
  · have hv : decide (c = d) = false := decide_eq_false (fun e0 => by have e := cm_eq.1 e0; exact h2 e.2.1)
    replace h2 := hide h2
    refine wp_region_lit ?_
    refine wpList_gen fun ops_ hops => ?_
    replace hops := hide hops
    refine list_val (.pointer (some ⟨w.heap.size, 0, none⟩)) (by rw [unhide hops]; kernel_rfl) (by kernel_rfl) ?_
    simp only [nrm]
    refine list_val (.int .u32 c.nx) (by rw [unhide hops]; kernel_rfl) (exec_c32 _ (.tmp 7) rfl (w.heap.size) 0 (by kernel_rfl) c.nx (seg_cell (nC  _ _ _ _ _) (hB.get 0 (x := ⟨w.heap.size, fl [[.int .u32 c.nx], [.slice x.ao x.no x.co], [.int .i64 c.tn], [.int .u32 c.dl], [.slice x.ah x.nh x.ch]], 26⟩) rfl) 0 (v := .int .u32 c.nx) rfl rfl)) ?_
    simp only [nrm]
    refine list_val (.pointer (some ⟨w.heap.size + 1, 0, none⟩)) (by rw [unhide hops]; kernel_rfl) (by kernel_rfl) ?_
    simp only [nrm]
    refine list_val (.int .u32 d.nx) (by rw [unhide hops]; kernel_rfl) (exec_c32 _ (.tmp 9) rfl (w.heap.size + 1) 0 (by kernel_rfl) d.nx (seg_cell (nC  _ _ _ _ _) (hB.get 1 (x := ⟨w.heap.size + 1, fl [[.int .u32 d.nx], [.slice y.ao y.no y.co], [.int .i64 d.tn], [.int .u32 d.dl], [.slice y.ah y.nh y.ch]], 26⟩) rfl) 0 (v := .int .u32 d.nx) rfl rfl)) ?_
    simp only [nrm]
    refine list_val (.bool false) (by rw [unhide hops]; kernel_rfl) (neq_32 _ (.tmp 8) (.tmp 10) c.nx d.nx false rfl (by kernel_rfl) (by kernel_rfl) (decide_eq_false (by have := unhide h1; omega))) ?_
    simp only [nrm]
    refine list_val (.bool false) (by rw [unhide hops]; kernel_rfl) (by kernel_rfl) ?_
    simp only [nrm]
    refine list_val (.pointer (some ⟨w.heap.size, 2, none⟩)) (by rw [unhide hops]; kernel_rfl) (by kernel_rfl) ?_
    simp only [nrm]
    refine list_val (.int .i64 c.tn) (by rw [unhide hops]; kernel_rfl) (exec_ci _ (.tmp 13) rfl (w.heap.size) 2 (by kernel_rfl) c.tn (seg_cell (nC  _ _ _ _ _) (hB.get 0 (x := ⟨w.heap.size, fl [[.int .u32 c.nx], [.slice x.ao x.no x.co], [.int .i64 c.tn], [.int .u32 c.dl], [.slice x.ah x.nh x.ch]], 26⟩) rfl) 2 (v := .int .i64 c.tn) rfl rfl)) ?_
    simp only [nrm]
    refine list_val (.pointer (some ⟨w.heap.size + 1, 2, none⟩)) (by rw [unhide hops]; kernel_rfl) (by kernel_rfl) ?_
    simp only [nrm]
    refine list_val (.int .i64 d.tn) (by rw [unhide hops]; kernel_rfl) (exec_ci _ (.tmp 15) rfl (w.heap.size + 1) 2 (by kernel_rfl) d.tn (seg_cell (nC  _ _ _ _ _) (hB.get 1 (x := ⟨w.heap.size + 1, fl [[.int .u32 d.nx], [.slice y.ao y.no y.co], [.int .i64 d.tn], [.int .u32 d.dl], [.slice y.ah y.nh y.ch]], 26⟩) rfl) 2 (v := .int .i64 d.tn) rfl rfl)) ?_
    simp only [nrm]
    refine list_val (.bool true) (by rw [unhide hops]; kernel_rfl) (neq_i _ (.tmp 14) (.tmp 16) c.tn d.tn true rfl (by kernel_rfl) (by kernel_rfl) (decide_eq_true (by have := unhide h2; omega))) ?_
    simp only [nrm]
    refine list_val (.bool true) (by rw [unhide hops]; kernel_rfl) (by kernel_rfl) ?_
    simp only [nrm]
    refine list_val (.bool true) (by rw [unhide hops]; kernel_rfl) (by kernel_rfl) ?_
    simp only [nrm]
    refine list_off (by rw [unhide hops]; kernel_rfl) ?_
    simp only [nrm]
    refine list_off (by rw [unhide hops]; kernel_rfl) ?_
    simp only [nrm]
    refine list_off (by rw [unhide hops]; kernel_rfl) ?_
    simp only [nrm]
    refine list_off (by rw [unhide hops]; kernel_rfl) ?_
    simp only [nrm]
    refine list_off (by rw [unhide hops]; kernel_rfl) ?_
    simp only [nrm]
    refine list_val (.bool true) (by rw [unhide hops]; kernel_rfl) (by kernel_rfl) ?_
    simp only [nrm]
    refine list_val (.bool true) (by rw [unhide hops]; kernel_rfl) (by kernel_rfl) ?_
    simp only [nrm]
    refine list_off (by rw [unhide hops]; kernel_rfl) ?_
    simp only [nrm]
    refine list_off (by rw [unhide hops]; kernel_rfl) ?_
    simp only [nrm]
    refine list_off (by rw [unhide hops]; kernel_rfl) ?_
    simp only [nrm]
    refine list_off (by rw [unhide hops]; kernel_rfl) ?_
    simp only [nrm]
    refine list_off (by rw [unhide hops]; kernel_rfl) ?_
    simp only [nrm]
    refine list_off (by rw [unhide hops]; kernel_rfl) ?_
    simp only [nrm]
    refine list_off (by rw [unhide hops]; kernel_rfl) ?_
    simp only [nrm]
    refine list_val (.bool true) (by rw [unhide hops]; kernel_rfl) (by kernel_rfl) ?_
    simp only [nrm]
    refine list_val (.bool true) (by rw [unhide hops]; kernel_rfl) (by kernel_rfl) ?_
    simp only [nrm]
    refine list_off (by rw [unhide hops]; kernel_rfl) ?_
    simp only [nrm]
    refine list_off (by rw [unhide hops]; kernel_rfl) ?_
    simp only [nrm]
    refine list_off (by rw [unhide hops]; kernel_rfl) ?_
    simp only [nrm]
    refine list_off (by rw [unhide hops]; kernel_rfl) ?_
    simp only [nrm]
    refine list_off (by rw [unhide hops]; kernel_rfl) ?_
    simp only [nrm]
    refine list_off (by rw [unhide hops]; kernel_rfl) ?_
    simp only [nrm]
    refine list_off (by rw [unhide hops]; kernel_rfl) ?_
    simp only [nrm]
    refine list_val (.bool true) (by rw [unhide hops]; kernel_rfl) (by kernel_rfl) ?_
    simp only [nrm]
    refine wpList_nil ?_
    replace hB := hide hB
    go_upto_region 2 with fail
    replace hB := unhide hB
    refine wp_region_lit ?_
    (refine wpList_step fun K hK => ?_; replace hK := hide hK; go_simp; refine unhide hK _ _ ?_; clear hK K)
    refine wpList_nil ?_
    replace hB := hide hB
    go_wp2_with fail
    replace hB := unhide hB
    rw [unhide hT]
    exact (⟨by rw [hv] <;> rfl, hB.gr⟩)
  replace h2 := hide h2
  by_cases h3 : c.dl = d.dl
  rotate_left
  · have hv : decide (c = d) = false := decide_eq_false (fun e0 => by have e := cm_eq.1 e0; exact h3 e.2.2.1)
    replace h3 := hide h3
    refine wp_region_lit ?_
    refine wpList_gen fun ops_ hops => ?_
    replace hops := hide hops
    refine list_val (.pointer (some ⟨w.heap.size, 0, none⟩)) (by rw [unhide hops]; kernel_rfl) (by kernel_rfl) ?_
    simp only [nrm]
    refine list_val (.int .u32 c.nx) (by rw [unhide hops]; kernel_rfl) (exec_c32 _ (.tmp 7) rfl (w.heap.size) 0 (by kernel_rfl) c.nx (seg_cell (nC  _ _ _ _ _) (hB.get 0 (x := ⟨w.heap.size, fl [[.int .u32 c.nx], [.slice x.ao x.no x.co], [.int .i64 c.tn], [.int .u32 c.dl], [.slice x.ah x.nh x.ch]], 26⟩) rfl) 0 (v := .int .u32 c.nx) rfl rfl)) ?_
    simp only [nrm]
    refine list_val (.pointer (some ⟨w.heap.size + 1, 0, none⟩)) (by rw [unhide hops]; kernel_rfl) (by kernel_rfl) ?_
    simp only [nrm]
    refine list_val (.int .u32 d.nx) (by rw [unhide hops]; kernel_rfl) (exec_c32 _ (.tmp 9) rfl (w.heap.size + 1) 0 (by kernel_rfl) d.nx (seg_cell (nC  _ _ _ _ _) (hB.get 1 (x := ⟨w.heap.size + 1, fl [[.int .u32 d.nx], [.slice y.ao y.no y.co], [.int .i64 d.tn], [.int .u32 d.dl], [.slice y.ah y.nh y.ch]], 26⟩) rfl) 0 (v := .int .u32 d.nx) rfl rfl)) ?_
    simp only [nrm]
    refine list_val (.bool false) (by rw [unhide hops]; kernel_rfl) (neq_32 _ (.tmp 8) (.tmp 10) c.nx d.nx false rfl (by kernel_rfl) (by kernel_rfl) (decide_eq_false (by have := unhide h1; omega))) ?_
    simp only [nrm]
    refine list_val (.bool false) (by rw [unhide hops]; kernel_rfl) (by kernel_rfl) ?_
    simp only [nrm]
    refine list_val (.pointer (some ⟨w.heap.size, 2, none⟩)) (by rw [unhide hops]; kernel_rfl) (by kernel_rfl) ?_
    simp only [nrm]
    refine list_val (.int .i64 c.tn) (by rw [unhide hops]; kernel_rfl) (exec_ci _ (.tmp 13) rfl (w.heap.size) 2 (by kernel_rfl) c.tn (seg_cell (nC  _ _ _ _ _) (hB.get 0 (x := ⟨w.heap.size, fl [[.int .u32 c.nx], [.slice x.ao x.no x.co], [.int .i64 c.tn], [.int .u32 c.dl], [.slice x.ah x.nh x.ch]], 26⟩) rfl) 2 (v := .int .i64 c.tn) rfl rfl)) ?_
    simp only [nrm]
    refine list_val (.pointer (some ⟨w.heap.size + 1, 2, none⟩)) (by rw [unhide hops]; kernel_rfl) (by kernel_rfl) ?_
    simp only [nrm]
    refine list_val (.int .i64 d.tn) (by rw [unhide hops]; kernel_rfl) (exec_ci _ (.tmp 15) rfl (w.heap.size + 1) 2 (by kernel_rfl) d.tn (seg_cell (nC  _ _ _ _ _) (hB.get 1 (x := ⟨w.heap.size + 1, fl [[.int .u32 d.nx], [.slice y.ao y.no y.co], [.int .i64 d.tn], [.int .u32 d.dl], [.slice y.ah y.nh y.ch]], 26⟩) rfl) 2 (v := .int .i64 d.tn) rfl rfl)) ?_
    simp only [nrm]
    refine list_val (.bool false) (by rw [unhide hops]; kernel_rfl) (neq_i _ (.tmp 14) (.tmp 16) c.tn d.tn false rfl (by kernel_rfl) (by kernel_rfl) (decide_eq_false (by have := unhide h2; omega))) ?_
    simp only [nrm]
    refine list_val (.bool false) (by rw [unhide hops]; kernel_rfl) (by kernel_rfl) ?_
    simp only [nrm]
    refine list_val (.bool false) (by rw [unhide hops]; kernel_rfl) (by kernel_rfl) ?_
    simp only [nrm]
    refine list_val (.pointer (some ⟨w.heap.size, 3, none⟩)) (by rw [unhide hops]; kernel_rfl) (by kernel_rfl) ?_
    simp only [nrm]
    refine list_val (.int .u32 c.dl) (by rw [unhide hops]; kernel_rfl) (exec_c32 _ (.tmp 20) rfl (w.heap.size) 3 (by kernel_rfl) c.dl (seg_cell (nC  _ _ _ _ _) (hB.get 0 (x := ⟨w.heap.size, fl [[.int .u32 c.nx], [.slice x.ao x.no x.co], [.int .i64 c.tn], [.int .u32 c.dl], [.slice x.ah x.nh x.ch]], 26⟩) rfl) 3 (v := .int .u32 c.dl) rfl rfl)) ?_
    simp only [nrm]
    refine list_val (.pointer (some ⟨w.heap.size + 1, 3, none⟩)) (by rw [unhide hops]; kernel_rfl) (by kernel_rfl) ?_
    simp only [nrm]
    refine list_val (.int .u32 d.dl) (by rw [unhide hops]; kernel_rfl) (exec_c32 _ (.tmp 22) rfl (w.heap.size + 1) 3 (by kernel_rfl) d.dl (seg_cell (nC  _ _ _ _ _) (hB.get 1 (x := ⟨w.heap.size + 1, fl [[.int .u32 d.nx], [.slice y.ao y.no y.co], [.int .i64 d.tn], [.int .u32 d.dl], [.slice y.ah y.nh y.ch]], 26⟩) rfl) 3 (v := .int .u32 d.dl) rfl rfl)) ?_
    simp only [nrm]
    refine list_val (.bool true) (by rw [unhide hops]; kernel_rfl) (neq_32 _ (.tmp 21) (.tmp 23) c.dl d.dl true rfl (by kernel_rfl) (by kernel_rfl) (decide_eq_true (by have := unhide h3; omega))) ?_
    simp only [nrm]
    refine list_val (.bool true) (by rw [unhide hops]; kernel_rfl) (by kernel_rfl) ?_
    simp only [nrm]
    refine list_val (.bool true) (by rw [unhide hops]; kernel_rfl) (by kernel_rfl) ?_
    simp only [nrm]
    refine list_off (by rw [unhide hops]; kernel_rfl) ?_
    simp only [nrm]
    refine list_off (by rw [unhide hops]; kernel_rfl) ?_
    simp only [nrm]
    refine list_off (by rw [unhide hops]; kernel_rfl) ?_
    simp only [nrm]
    refine list_off (by rw [unhide hops]; kernel_rfl) ?_
    simp only [nrm]
    refine list_off (by rw [unhide hops]; kernel_rfl) ?_
    simp only [nrm]
    refine list_off (by rw [unhide hops]; kernel_rfl) ?_
    simp only [nrm]
    refine list_off (by rw [unhide hops]; kernel_rfl) ?_
    simp only [nrm]
    refine list_val (.bool true) (by rw [unhide hops]; kernel_rfl) (by kernel_rfl) ?_
    simp only [nrm]
    refine list_val (.bool true) (by rw [unhide hops]; kernel_rfl) (by kernel_rfl) ?_
    simp only [nrm]
    refine list_off (by rw [unhide hops]; kernel_rfl) ?_
    simp only [nrm]
    refine list_off (by rw [unhide hops]; kernel_rfl) ?_
    simp only [nrm]
    refine list_off (by rw [unhide hops]; kernel_rfl) ?_
    simp only [nrm]
    refine list_off (by rw [unhide hops]; kernel_rfl) ?_
    simp only [nrm]
    refine list_off (by rw [unhide hops]; kernel_rfl) ?_
    simp only [nrm]
    refine list_off (by rw [unhide hops]; kernel_rfl) ?_
    simp only [nrm]
    refine list_off (by rw [unhide hops]; kernel_rfl) ?_
    simp only [nrm]
    refine list_val (.bool true) (by rw [unhide hops]; kernel_rfl) (by kernel_rfl) ?_
    simp only [nrm]
    refine wpList_nil ?_
    replace hB := hide hB
    go_upto_region 2 with fail
    replace hB := unhide hB
    refine wp_region_lit ?_
    (refine wpList_step fun K hK => ?_; replace hK := hide hK; go_simp; refine unhide hK _ _ ?_; clear hK K)
    refine wpList_nil ?_
    replace hB := hide hB
    go_wp2_with fail
    replace hB := unhide hB
    rw [unhide hT]
    exact (⟨by rw [hv] <;> rfl, hB.gr⟩)
  replace h3 := hide h3
  by_cases h4 : x.no = y.no
  rotate_left
  · have hv : decide (c = d) = false := decide_eq_false (fun e0 => by have e := cm_eq.1 e0; exact h4 (by rw [← hcn, ← hdn, e.2.2.2.1]))
    replace h4 := hide h4
    refine wp_region_lit ?_
    refine wpList_gen fun ops_ hops => ?_
    replace hops := hide hops
    refine list_val (.pointer (some ⟨w.heap.size, 0, none⟩)) (by rw [unhide hops]; kernel_rfl) (by kernel_rfl) ?_
    simp only [nrm]
    refine list_val (.int .u32 c.nx) (by rw [unhide hops]; kernel_rfl) (exec_c32 _ (.tmp 7) rfl (w.heap.size) 0 (by kernel_rfl) c.nx (seg_cell (nC  _ _ _ _ _) (hB.get 0 (x := ⟨w.heap.size, fl [[.int .u32 c.nx], [.slice x.ao x.no x.co], [.int .i64 c.tn], [.int .u32 c.dl], [.slice x.ah x.nh x.ch]], 26⟩) rfl) 0 (v := .int .u32 c.nx) rfl rfl)) ?_
    simp only [nrm]
    refine list_val (.pointer (some ⟨w.heap.size + 1, 0, none⟩)) (by rw [unhide hops]; kernel_rfl) (by kernel_rfl) ?_
    simp only [nrm]
    refine list_val (.int .u32 d.nx) (by rw [unhide hops]; kernel_rfl) (exec_c32 _ (.tmp 9) rfl (w.heap.size + 1) 0 (by kernel_rfl) d.nx (seg_cell (nC  _ _ _ _ _) (hB.get 1 (x := ⟨w.heap.size + 1, fl [[.int .u32 d.nx], [.slice y.ao y.no y.co], [.int .i64 d.tn], [.int .u32 d.dl], [.slice y.ah y.nh y.ch]], 26⟩) rfl) 0 (v := .int .u32 d.nx) rfl rfl)) ?_
    simp only [nrm]
    refine list_val (.bool false) (by rw [unhide hops]; kernel_rfl) (neq_32 _ (.tmp 8) (.tmp 10) c.nx d.nx false rfl (by kernel_rfl) (by kernel_rfl) (decide_eq_false (by have := unhide h1; omega))) ?_
    simp only [nrm]
    refine list_val (.bool false) (by rw [unhide hops]; kernel_rfl) (by kernel_rfl) ?_
    simp only [nrm]
    refine list_val (.pointer (some ⟨w.heap.size, 2, none⟩)) (by rw [unhide hops]; kernel_rfl) (by kernel_rfl) ?_
    simp only [nrm]
    refine list_val (.int .i64 c.tn) (by rw [unhide hops]; kernel_rfl) (exec_ci _ (.tmp 13) rfl (w.heap.size) 2 (by kernel_rfl) c.tn (seg_cell (nC  _ _ _ _ _) (hB.get 0 (x := ⟨w.heap.size, fl [[.int .u32 c.nx], [.slice x.ao x.no x.co], [.int .i64 c.tn], [.int .u32 c.dl], [.slice x.ah x.nh x.ch]], 26⟩) rfl) 2 (v := .int .i64 c.tn) rfl rfl)) ?_
    simp only [nrm]
    refine list_val (.pointer (some ⟨w.heap.size + 1, 2, none⟩)) (by rw [unhide hops]; kernel_rfl) (by kernel_rfl) ?_
    simp only [nrm]
    refine list_val (.int .i64 d.tn) (by rw [unhide hops]; kernel_rfl) (exec_ci _ (.tmp 15) rfl (w.heap.size + 1) 2 (by kernel_rfl) d.tn (seg_cell (nC  _ _ _ _ _) (hB.get 1 (x := ⟨w.heap.size + 1, fl [[.int .u32 d.nx], [.slice y.ao y.no y.co], [.int .i64 d.tn], [.int .u32 d.dl], [.slice y.ah y.nh y.ch]], 26⟩) rfl) 2 (v := .int .i64 d.tn) rfl rfl)) ?_
    simp only [nrm]
    refine list_val (.bool false) (by rw [unhide hops]; kernel_rfl) (neq_i _ (.tmp 14) (.tmp 16) c.tn d.tn false rfl (by kernel_rfl) (by kernel_rfl) (decide_eq_false (by have := unhide h2; omega))) ?_
    simp only [nrm]
    refine list_val (.bool false) (by rw [unhide hops]; kernel_rfl) (by kernel_rfl) ?_
    simp only [nrm]
    refine list_val (.bool false) (by rw [unhide hops]; kernel_rfl) (by kernel_rfl) ?_
    simp only [nrm]
    refine list_val (.pointer (some ⟨w.heap.size, 3, none⟩)) (by rw [unhide hops]; kernel_rfl) (by kernel_rfl) ?_
    simp only [nrm]
    refine list_val (.int .u32 c.dl) (by rw [unhide hops]; kernel_rfl) (exec_c32 _ (.tmp 20) rfl (w.heap.size) 3 (by kernel_rfl) c.dl (seg_cell (nC  _ _ _ _ _) (hB.get 0 (x := ⟨w.heap.size, fl [[.int .u32 c.nx], [.slice x.ao x.no x.co], [.int .i64 c.tn], [.int .u32 c.dl], [.slice x.ah x.nh x.ch]], 26⟩) rfl) 3 (v := .int .u32 c.dl) rfl rfl)) ?_
    simp only [nrm]
    refine list_val (.pointer (some ⟨w.heap.size + 1, 3, none⟩)) (by rw [unhide hops]; kernel_rfl) (by kernel_rfl) ?_
    simp only [nrm]
    refine list_val (.int .u32 d.dl) (by rw [unhide hops]; kernel_rfl) (exec_c32 _ (.tmp 22) rfl (w.heap.size + 1) 3 (by kernel_rfl) d.dl (seg_cell (nC  _ _ _ _ _) (hB.get 1 (x := ⟨w.heap.size + 1, fl [[.int .u32 d.nx], [.slice y.ao y.no y.co], [.int .i64 d.tn], [.int .u32 d.dl], [.slice y.ah y.nh y.ch]], 26⟩) rfl) 3 (v := .int .u32 d.dl) rfl rfl)) ?_
    simp only [nrm]
    refine list_val (.bool false) (by rw [unhide hops]; kernel_rfl) (neq_32 _ (.tmp 21) (.tmp 23) c.dl d.dl false rfl (by kernel_rfl) (by kernel_rfl) (decide_eq_false (by have := unhide h3; omega))) ?_
    simp only [nrm]
    refine list_val (.bool false) (by rw [unhide hops]; kernel_rfl) (by kernel_rfl) ?_
    simp only [nrm]
    refine list_val (.bool false) (by rw [unhide hops]; kernel_rfl) (by kernel_rfl) ?_
    simp only [nrm]
    refine list_val (.pointer (some ⟨w.heap.size, 1, none⟩)) (by rw [unhide hops]; kernel_rfl) (by kernel_rfl) ?_
    simp only [nrm]
    refine list_val (.slice x.ao x.no x.co) (by rw [unhide hops]; kernel_rfl) (exec_csO _ (.tmp 27) rfl (w.heap.size) 1 (by kernel_rfl) x.ao x.no x.co (seg_cell (nC  _ _ _ _ _) (hB.get 0 (x := ⟨w.heap.size, fl [[.int .u32 c.nx], [.slice x.ao x.no x.co], [.int .i64 c.tn], [.int .u32 c.dl], [.slice x.ah x.nh x.ch]], 26⟩) rfl) 1 (v := .slice x.ao x.no x.co) rfl rfl)) ?_
    simp only [nrm]
    refine list_val (.int .i64 (x.no : Int)) (by rw [unhide hops]; kernel_rfl) (by kernel_rfl) ?_
    simp only [nrm]
    refine list_val (.pointer (some ⟨w.heap.size + 1, 1, none⟩)) (by rw [unhide hops]; kernel_rfl) (by kernel_rfl) ?_
    simp only [nrm]
    refine list_val (.slice y.ao y.no y.co) (by rw [unhide hops]; kernel_rfl) (exec_csO _ (.tmp 30) rfl (w.heap.size + 1) 1 (by kernel_rfl) y.ao y.no y.co (seg_cell (nC  _ _ _ _ _) (hB.get 1 (x := ⟨w.heap.size + 1, fl [[.int .u32 d.nx], [.slice y.ao y.no y.co], [.int .i64 d.tn], [.int .u32 d.dl], [.slice y.ah y.nh y.ch]], 26⟩) rfl) 1 (v := .slice y.ao y.no y.co) rfl rfl)) ?_
    simp only [nrm]
    refine list_val (.int .i64 (y.no : Int)) (by rw [unhide hops]; kernel_rfl) (by kernel_rfl) ?_
    simp only [nrm]
    refine list_val (.bool true) (by rw [unhide hops]; kernel_rfl) (neq_i _ (.tmp 29) (.tmp 32) (x.no : Int) (y.no : Int) true rfl (by kernel_rfl) (by kernel_rfl) (decide_eq_true (by have := unhide h4; omega))) ?_
    simp only [nrm]
    refine list_val (.bool true) (by rw [unhide hops]; kernel_rfl) (by kernel_rfl) ?_
    simp only [nrm]
    refine list_val (.bool true) (by rw [unhide hops]; kernel_rfl) (by kernel_rfl) ?_
    simp only [nrm]
    refine list_off (by rw [unhide hops]; kernel_rfl) ?_
    simp only [nrm]
    refine list_off (by rw [unhide hops]; kernel_rfl) ?_
    simp only [nrm]
    refine list_off (by rw [unhide hops]; kernel_rfl) ?_
    simp only [nrm]
    refine list_off (by rw [unhide hops]; kernel_rfl) ?_
    simp only [nrm]
    refine list_off (by rw [unhide hops]; kernel_rfl) ?_
    simp only [nrm]
    refine list_off (by rw [unhide hops]; kernel_rfl) ?_
    simp only [nrm]
    refine list_off (by rw [unhide hops]; kernel_rfl) ?_
    simp only [nrm]
    refine list_val (.bool true) (by rw [unhide hops]; kernel_rfl) (by kernel_rfl) ?_
    simp only [nrm]
    refine wpList_nil ?_
    replace hB := hide hB
    go_upto_region 2 with fail
    replace hB := unhide hB
    refine wp_region_lit ?_
    (refine wpList_step fun K hK => ?_; replace hK := hide hK; go_simp; refine unhide hK _ _ ?_; clear hK K)
    refine wpList_nil ?_
    replace hB := hide hB
    go_wp2_with fail
    replace hB := unhide hB
    rw [unhide hT]
    exact (⟨by rw [hv] <;> rfl, hB.gr⟩)
  replace h4 := hide h4
  by_cases h5 : x.nh = y.nh
  rotate_left
  · have hv : decide (c = d) = false := decide_eq_false (fun e0 => by have e := cm_eq.1 e0; exact h5 (by rw [← hcm, ← hdm, e.2.2.2.2]))
    replace h5 := hide h5
    refine wp_region_lit ?_
    refine wpList_gen fun ops_ hops => ?_
    replace hops := hide hops
    refine list_val (.pointer (some ⟨w.heap.size, 0, none⟩)) (by rw [unhide hops]; kernel_rfl) (by kernel_rfl) ?_
    simp only [nrm]
    refine list_val (.int .u32 c.nx) (by rw [unhide hops]; kernel_rfl) (exec_c32 _ (.tmp 7) rfl (w.heap.size) 0 (by kernel_rfl) c.nx (seg_cell (nC  _ _ _ _ _) (hB.get 0 (x := ⟨w.heap.size, fl [[.int .u32 c.nx], [.slice x.ao x.no x.co], [.int .i64 c.tn], [.int .u32 c.dl], [.slice x.ah x.nh x.ch]], 26⟩) rfl) 0 (v := .int .u32 c.nx) rfl rfl)) ?_
    simp only [nrm]
    refine list_val (.pointer (some ⟨w.heap.size + 1, 0, none⟩)) (by rw [unhide hops]; kernel_rfl) (by kernel_rfl) ?_
    simp only [nrm]
    refine list_val (.int .u32 d.nx) (by rw [unhide hops]; kernel_rfl) (exec_c32 _ (.tmp 9) rfl (w.heap.size + 1) 0 (by kernel_rfl) d.nx (seg_cell (nC  _ _ _ _ _) (hB.get 1 (x := ⟨w.heap.size + 1, fl [[.int .u32 d.nx], [.slice y.ao y.no y.co], [.int .i64 d.tn], [.int .u32 d.dl], [.slice y.ah y.nh y.ch]], 26⟩) rfl) 0 (v := .int .u32 d.nx) rfl rfl)) ?_
    simp only [nrm]
    refine list_val (.bool false) (by rw [unhide hops]; kernel_rfl) (neq_32 _ (.tmp 8) (.tmp 10) c.nx d.nx false rfl (by kernel_rfl) (by kernel_rfl) (decide_eq_false (by have := unhide h1; omega))) ?_
    simp only [nrm]
    refine list_val (.bool false) (by rw [unhide hops]; kernel_rfl) (by kernel_rfl) ?_
    simp only [nrm]
    refine list_val (.pointer (some ⟨w.heap.size, 2, none⟩)) (by rw [unhide hops]; kernel_rfl) (by kernel_rfl) ?_
    simp only [nrm]
    refine list_val (.int .i64 c.tn) (by rw [unhide hops]; kernel_rfl) (exec_ci _ (.tmp 13) rfl (w.heap.size) 2 (by kernel_rfl) c.tn (seg_cell (nC  _ _ _ _ _) (hB.get 0 (x := ⟨w.heap.size, fl [[.int .u32 c.nx], [.slice x.ao x.no x.co], [.int .i64 c.tn], [.int .u32 c.dl], [.slice x.ah x.nh x.ch]], 26⟩) rfl) 2 (v := .int .i64 c.tn) rfl rfl)) ?_
    simp only [nrm]
    refine list_val (.pointer (some ⟨w.heap.size + 1, 2, none⟩)) (by rw [unhide hops]; kernel_rfl) (by kernel_rfl) ?_
    simp only [nrm]
    refine list_val (.int .i64 d.tn) (by rw [unhide hops]; kernel_rfl) (exec_ci _ (.tmp 15) rfl (w.heap.size + 1) 2 (by kernel_rfl) d.tn (seg_cell (nC  _ _ _ _ _) (hB.get 1 (x := ⟨w.heap.size + 1, fl [[.int .u32 d.nx], [.slice y.ao y.no y.co], [.int .i64 d.tn], [.int .u32 d.dl], [.slice y.ah y.nh y.ch]], 26⟩) rfl) 2 (v := .int .i64 d.tn) rfl rfl)) ?_
    simp only [nrm]
    refine list_val (.bool false) (by rw [unhide hops]; kernel_rfl) (neq_i _ (.tmp 14) (.tmp 16) c.tn d.tn false rfl (by kernel_rfl) (by kernel_rfl) (decide_eq_false (by have := unhide h2; omega))) ?_
    simp only [nrm]
    refine list_val (.bool false) (by rw [unhide hops]; kernel_rfl) (by kernel_rfl) ?_
    simp only [nrm]
    refine list_val (.bool false) (by rw [unhide hops]; kernel_rfl) (by kernel_rfl) ?_
    simp only [nrm]
    refine list_val (.pointer (some ⟨w.heap.size, 3, none⟩)) (by rw [unhide hops]; kernel_rfl) (by kernel_rfl) ?_
    simp only [nrm]
    refine list_val (.int .u32 c.dl) (by rw [unhide hops]; kernel_rfl) (exec_c32 _ (.tmp 20) rfl (w.heap.size) 3 (by kernel_rfl) c.dl (seg_cell (nC  _ _ _ _ _) (hB.get 0 (x := ⟨w.heap.size, fl [[.int .u32 c.nx], [.slice x.ao x.no x.co], [.int .i64 c.tn], [.int .u32 c.dl], [.slice x.ah x.nh x.ch]], 26⟩) rfl) 3 (v := .int .u32 c.dl) rfl rfl)) ?_
    simp only [nrm]
    refine list_val (.pointer (some ⟨w.heap.size + 1, 3, none⟩)) (by rw [unhide hops]; kernel_rfl) (by kernel_rfl) ?_
    simp only [nrm]
    refine list_val (.int .u32 d.dl) (by rw [unhide hops]; kernel_rfl) (exec_c32 _ (.tmp 22) rfl (w.heap.size + 1) 3 (by kernel_rfl) d.dl (seg_cell (nC  _ _ _ _ _) (hB.get 1 (x := ⟨w.heap.size + 1, fl [[.int .u32 d.nx], [.slice y.ao y.no y.co], [.int .i64 d.tn], [.int .u32 d.dl], [.slice y.ah y.nh y.ch]], 26⟩) rfl) 3 (v := .int .u32 d.dl) rfl rfl)) ?_
    simp only [nrm]
    refine list_val (.bool false) (by rw [unhide hops]; kernel_rfl) (neq_32 _ (.tmp 21) (.tmp 23) c.dl d.dl false rfl (by kernel_rfl) (by kernel_rfl) (decide_eq_false (by have := unhide h3; omega))) ?_
    simp only [nrm]
    refine list_val (.bool false) (by rw [unhide hops]; kernel_rfl) (by kernel_rfl) ?_
    simp only [nrm]
    refine list_val (.bool false) (by rw [unhide hops]; kernel_rfl) (by kernel_rfl) ?_
    simp only [nrm]
    refine list_val (.pointer (some ⟨w.heap.size, 1, none⟩)) (by rw [unhide hops]; kernel_rfl) (by kernel_rfl) ?_
    simp only [nrm]
    refine list_val (.slice x.ao x.no x.co) (by rw [unhide hops]; kernel_rfl) (exec_csO _ (.tmp 27) rfl (w.heap.size) 1 (by kernel_rfl) x.ao x.no x.co (seg_cell (nC  _ _ _ _ _) (hB.get 0 (x := ⟨w.heap.size, fl [[.int .u32 c.nx], [.slice x.ao x.no x.co], [.int .i64 c.tn], [.int .u32 c.dl], [.slice x.ah x.nh x.ch]], 26⟩) rfl) 1 (v := .slice x.ao x.no x.co) rfl rfl)) ?_
    simp only [nrm]
    refine list_val (.int .i64 (x.no : Int)) (by rw [unhide hops]; kernel_rfl) (by kernel_rfl) ?_
    simp only [nrm]
    refine list_val (.pointer (some ⟨w.heap.size + 1, 1, none⟩)) (by rw [unhide hops]; kernel_rfl) (by kernel_rfl) ?_
    simp only [nrm]
    refine list_val (.slice y.ao y.no y.co) (by rw [unhide hops]; kernel_rfl) (exec_csO _ (.tmp 30) rfl (w.heap.size + 1) 1 (by kernel_rfl) y.ao y.no y.co (seg_cell (nC  _ _ _ _ _) (hB.get 1 (x := ⟨w.heap.size + 1, fl [[.int .u32 d.nx], [.slice y.ao y.no y.co], [.int .i64 d.tn], [.int .u32 d.dl], [.slice y.ah y.nh y.ch]], 26⟩) rfl) 1 (v := .slice y.ao y.no y.co) rfl rfl)) ?_
    simp only [nrm]
    refine list_val (.int .i64 (y.no : Int)) (by rw [unhide hops]; kernel_rfl) (by kernel_rfl) ?_
    simp only [nrm]
    refine list_val (.bool false) (by rw [unhide hops]; kernel_rfl) (neq_i _ (.tmp 29) (.tmp 32) (x.no : Int) (y.no : Int) false rfl (by kernel_rfl) (by kernel_rfl) (decide_eq_false (by have := unhide h4; omega))) ?_
    simp only [nrm]
    refine list_val (.bool false) (by rw [unhide hops]; kernel_rfl) (by kernel_rfl) ?_
    simp only [nrm]
    refine list_val (.bool false) (by rw [unhide hops]; kernel_rfl) (by kernel_rfl) ?_
    simp only [nrm]
    refine list_val (.pointer (some ⟨w.heap.size, 4, none⟩)) (by rw [unhide hops]; kernel_rfl) (by kernel_rfl) ?_
    simp only [nrm]
    refine list_val (.slice x.ah x.nh x.ch) (by rw [unhide hops]; kernel_rfl) (exec_csI _ (.tmp 36) rfl (w.heap.size) 4 (by kernel_rfl) x.ah x.nh x.ch (seg_cell (nC  _ _ _ _ _) (hB.get 0 (x := ⟨w.heap.size, fl [[.int .u32 c.nx], [.slice x.ao x.no x.co], [.int .i64 c.tn], [.int .u32 c.dl], [.slice x.ah x.nh x.ch]], 26⟩) rfl) 4 (v := .slice x.ah x.nh x.ch) rfl rfl)) ?_
    simp only [nrm]
    refine list_val (.int .i64 (x.nh : Int)) (by rw [unhide hops]; kernel_rfl) (by kernel_rfl) ?_
    simp only [nrm]
    refine list_val (.pointer (some ⟨w.heap.size + 1, 4, none⟩)) (by rw [unhide hops]; kernel_rfl) (by kernel_rfl) ?_
    simp only [nrm]
    refine list_val (.slice y.ah y.nh y.ch) (by rw [unhide hops]; kernel_rfl) (exec_csI _ (.tmp 39) rfl (w.heap.size + 1) 4 (by kernel_rfl) y.ah y.nh y.ch (seg_cell (nC  _ _ _ _ _) (hB.get 1 (x := ⟨w.heap.size + 1, fl [[.int .u32 d.nx], [.slice y.ao y.no y.co], [.int .i64 d.tn], [.int .u32 d.dl], [.slice y.ah y.nh y.ch]], 26⟩) rfl) 4 (v := .slice y.ah y.nh y.ch) rfl rfl)) ?_
    simp only [nrm]
    refine list_val (.int .i64 (y.nh : Int)) (by rw [unhide hops]; kernel_rfl) (by kernel_rfl) ?_
    simp only [nrm]
    refine list_val (.bool true) (by rw [unhide hops]; kernel_rfl) (neq_i _ (.tmp 38) (.tmp 41) (x.nh : Int) (y.nh : Int) true rfl (by kernel_rfl) (by kernel_rfl) (decide_eq_true (by have := unhide h5; omega))) ?_
    simp only [nrm]
    refine list_val (.bool true) (by rw [unhide hops]; kernel_rfl) (by kernel_rfl) ?_
    simp only [nrm]
    refine wpList_nil ?_
    replace hB := hide hB
    go_upto_region 2 with fail
    replace hB := unhide hB
    refine wp_region_lit ?_
    (refine wpList_step fun K hK => ?_; replace hK := hide hK; go_simp; refine unhide hK _ _ ?_; clear hK K)
    refine wpList_nil ?_
    replace hB := hide hB
    go_wp2_with fail
    replace hB := unhide hB
    rw [unhide hT]
    exact (⟨by rw [hv] <;> rfl, hB.gr⟩)
  replace h5 := hide h5
  refine wp_region_lit ?_
  refine wpList_gen fun ops_ hops => ?_
  replace hops := hide hops
  refine list_val (.pointer (some ⟨w.heap.size, 0, none⟩)) (by rw [unhide hops]; kernel_rfl) (by kernel_rfl) ?_
  simp only [nrm]
  refine list_val (.int .u32 c.nx) (by rw [unhide hops]; kernel_rfl) (exec_c32 _ (.tmp 7) rfl (w.heap.size) 0 (by kernel_rfl) c.nx (seg_cell (nC  _ _ _ _ _) (hB.get 0 (x := ⟨w.heap.size, fl [[.int .u32 c.nx], [.slice x.ao x.no x.co], [.int .i64 c.tn], [.int .u32 c.dl], [.slice x.ah x.nh x.ch]], 26⟩) rfl) 0 (v := .int .u32 c.nx) rfl rfl)) ?_
  simp only [nrm]
  refine list_val (.pointer (some ⟨w.heap.size + 1, 0, none⟩)) (by rw [unhide hops]; kernel_rfl) (by kernel_rfl) ?_
  simp only [nrm]
  refine list_val (.int .u32 d.nx) (by rw [unhide hops]; kernel_rfl) (exec_c32 _ (.tmp 9) rfl (w.heap.size + 1) 0 (by kernel_rfl) d.nx (seg_cell (nC  _ _ _ _ _) (hB.get 1 (x := ⟨w.heap.size + 1, fl [[.int .u32 d.nx], [.slice y.ao y.no y.co], [.int .i64 d.tn], [.int .u32 d.dl], [.slice y.ah y.nh y.ch]], 26⟩) rfl) 0 (v := .int .u32 d.nx) rfl rfl)) ?_
  simp only [nrm]
  refine list_val (.bool false) (by rw [unhide hops]; kernel_rfl) (neq_32 _ (.tmp 8) (.tmp 10) c.nx d.nx false rfl (by kernel_rfl) (by kernel_rfl) (decide_eq_false (by have := unhide h1; omega))) ?_
  simp only [nrm]
  refine list_val (.bool false) (by rw [unhide hops]; kernel_rfl) (by kernel_rfl) ?_
  simp only [nrm]
  refine list_val (.pointer (some ⟨w.heap.size, 2, none⟩)) (by rw [unhide hops]; kernel_rfl) (by kernel_rfl) ?_
  simp only [nrm]
  refine list_val (.int .i64 c.tn) (by rw [unhide hops]; kernel_rfl) (exec_ci _ (.tmp 13) rfl (w.heap.size) 2 (by kernel_rfl) c.tn (seg_cell (nC  _ _ _ _ _) (hB.get 0 (x := ⟨w.heap.size, fl [[.int .u32 c.nx], [.slice x.ao x.no x.co], [.int .i64 c.tn], [.int .u32 c.dl], [.slice x.ah x.nh x.ch]], 26⟩) rfl) 2 (v := .int .i64 c.tn) rfl rfl)) ?_
  simp only [nrm]
  refine list_val (.pointer (some ⟨w.heap.size + 1, 2, none⟩)) (by rw [unhide hops]; kernel_rfl) (by kernel_rfl) ?_
  simp only [nrm]
  refine list_val (.int .i64 d.tn) (by rw [unhide hops]; kernel_rfl) (exec_ci _ (.tmp 15) rfl (w.heap.size + 1) 2 (by kernel_rfl) d.tn (seg_cell (nC  _ _ _ _ _) (hB.get 1 (x := ⟨w.heap.size + 1, fl [[.int .u32 d.nx], [.slice y.ao y.no y.co], [.int .i64 d.tn], [.int .u32 d.dl], [.slice y.ah y.nh y.ch]], 26⟩) rfl) 2 (v := .int .i64 d.tn) rfl rfl)) ?_
  simp only [nrm]
  refine list_val (.bool false) (by rw [unhide hops]; kernel_rfl) (neq_i _ (.tmp 14) (.tmp 16) c.tn d.tn false rfl (by kernel_rfl) (by kernel_rfl) (decide_eq_false (by have := unhide h2; omega))) ?_
  simp only [nrm]
  refine list_val (.bool false) (by rw [unhide hops]; kernel_rfl) (by kernel_rfl) ?_
  simp only [nrm]
  refine list_val (.bool false) (by rw [unhide hops]; kernel_rfl) (by kernel_rfl) ?_
  simp only [nrm]
  refine list_val (.pointer (some ⟨w.heap.size, 3, none⟩)) (by rw [unhide hops]; kernel_rfl) (by kernel_rfl) ?_
  simp only [nrm]
  refine list_val (.int .u32 c.dl) (by rw [unhide hops]; kernel_rfl) (exec_c32 _ (.tmp 20) rfl (w.heap.size) 3 (by kernel_rfl) c.dl (seg_cell (nC  _ _ _ _ _) (hB.get 0 (x := ⟨w.heap.size, fl [[.int .u32 c.nx], [.slice x.ao x.no x.co], [.int .i64 c.tn], [.int .u32 c.dl], [.slice x.ah x.nh x.ch]], 26⟩) rfl) 3 (v := .int .u32 c.dl) rfl rfl)) ?_
  simp only [nrm]
  refine list_val (.pointer (some ⟨w.heap.size + 1, 3, none⟩)) (by rw [unhide hops]; kernel_rfl) (by kernel_rfl) ?_
  simp only [nrm]
  refine list_val (.int .u32 d.dl) (by rw [unhide hops]; kernel_rfl) (exec_c32 _ (.tmp 22) rfl (w.heap.size + 1) 3 (by kernel_rfl) d.dl (seg_cell (nC  _ _ _ _ _) (hB.get 1 (x := ⟨w.heap.size + 1, fl [[.int .u32 d.nx], [.slice y.ao y.no y.co], [.int .i64 d.tn], [.int .u32 d.dl], [.slice y.ah y.nh y.ch]], 26⟩) rfl) 3 (v := .int .u32 d.dl) rfl rfl)) ?_
  simp only [nrm]
  refine list_val (.bool false) (by rw [unhide hops]; kernel_rfl) (neq_32 _ (.tmp 21) (.tmp 23) c.dl d.dl false rfl (by kernel_rfl) (by kernel_rfl) (decide_eq_false (by have := unhide h3; omega))) ?_
  simp only [nrm]
  refine list_val (.bool false) (by rw [unhide hops]; kernel_rfl) (by kernel_rfl) ?_
  simp only [nrm]
  refine list_val (.bool false) (by rw [unhide hops]; kernel_rfl) (by kernel_rfl) ?_
  simp only [nrm]
  refine list_val (.pointer (some ⟨w.heap.size, 1, none⟩)) (by rw [unhide hops]; kernel_rfl) (by kernel_rfl) ?_
  simp only [nrm]
  refine list_val (.slice x.ao x.no x.co) (by rw [unhide hops]; kernel_rfl) (exec_csO _ (.tmp 27) rfl (w.heap.size) 1 (by kernel_rfl) x.ao x.no x.co (seg_cell (nC  _ _ _ _ _) (hB.get 0 (x := ⟨w.heap.size, fl [[.int .u32 c.nx], [.slice x.ao x.no x.co], [.int .i64 c.tn], [.int .u32 c.dl], [.slice x.ah x.nh x.ch]], 26⟩) rfl) 1 (v := .slice x.ao x.no x.co) rfl rfl)) ?_
  simp only [nrm]
  refine list_val (.int .i64 (x.no : Int)) (by rw [unhide hops]; kernel_rfl) (by kernel_rfl) ?_
  simp only [nrm]
  refine list_val (.pointer (some ⟨w.heap.size + 1, 1, none⟩)) (by rw [unhide hops]; kernel_rfl) (by kernel_rfl) ?_
  simp only [nrm]
  refine list_val (.slice y.ao y.no y.co) (by rw [unhide hops]; kernel_rfl) (exec_csO _ (.tmp 30) rfl (w.heap.size + 1) 1 (by kernel_rfl) y.ao y.no y.co (seg_cell (nC  _ _ _ _ _) (hB.get 1 (x := ⟨w.heap.size + 1, fl [[.int .u32 d.nx], [.slice y.ao y.no y.co], [.int .i64 d.tn], [.int .u32 d.dl], [.slice y.ah y.nh y.ch]], 26⟩) rfl) 1 (v := .slice y.ao y.no y.co) rfl rfl)) ?_
  simp only [nrm]
  refine list_val (.int .i64 (y.no : Int)) (by rw [unhide hops]; kernel_rfl) (by kernel_rfl) ?_
  simp only [nrm]
  refine list_val (.bool false) (by rw [unhide hops]; kernel_rfl) (neq_i _ (.tmp 29) (.tmp 32) (x.no : Int) (y.no : Int) false rfl (by kernel_rfl) (by kernel_rfl) (decide_eq_false (by have := unhide h4; omega))) ?_
  simp only [nrm]
  refine list_val (.bool false) (by rw [unhide hops]; kernel_rfl) (by kernel_rfl) ?_
  simp only [nrm]
  refine list_val (.bool false) (by rw [unhide hops]; kernel_rfl) (by kernel_rfl) ?_
  simp only [nrm]
  refine list_val (.pointer (some ⟨w.heap.size, 4, none⟩)) (by rw [unhide hops]; kernel_rfl) (by kernel_rfl) ?_
  simp only [nrm]
  refine list_val (.slice x.ah x.nh x.ch) (by rw [unhide hops]; kernel_rfl) (exec_csI _ (.tmp 36) rfl (w.heap.size) 4 (by kernel_rfl) x.ah x.nh x.ch (seg_cell (nC  _ _ _ _ _) (hB.get 0 (x := ⟨w.heap.size, fl [[.int .u32 c.nx], [.slice x.ao x.no x.co], [.int .i64 c.tn], [.int .u32 c.dl], [.slice x.ah x.nh x.ch]], 26⟩) rfl) 4 (v := .slice x.ah x.nh x.ch) rfl rfl)) ?_
  simp only [nrm]
  refine list_val (.int .i64 (x.nh : Int)) (by rw [unhide hops]; kernel_rfl) (by kernel_rfl) ?_
  simp only [nrm]
  refine list_val (.pointer (some ⟨w.heap.size + 1, 4, none⟩)) (by rw [unhide hops]; kernel_rfl) (by kernel_rfl) ?_
  simp only [nrm]
  refine list_val (.slice y.ah y.nh y.ch) (by rw [unhide hops]; kernel_rfl) (exec_csI _ (.tmp 39) rfl (w.heap.size + 1) 4 (by kernel_rfl) y.ah y.nh y.ch (seg_cell (nC  _ _ _ _ _) (hB.get 1 (x := ⟨w.heap.size + 1, fl [[.int .u32 d.nx], [.slice y.ao y.no y.co], [.int .i64 d.tn], [.int .u32 d.dl], [.slice y.ah y.nh y.ch]], 26⟩) rfl) 4 (v := .slice y.ah y.nh y.ch) rfl rfl)) ?_
  simp only [nrm]
  refine list_val (.int .i64 (y.nh : Int)) (by rw [unhide hops]; kernel_rfl) (by kernel_rfl) ?_
  simp only [nrm]
  refine list_val (.bool false) (by rw [unhide hops]; kernel_rfl) (neq_i _ (.tmp 38) (.tmp 41) (x.nh : Int) (y.nh : Int) false rfl (by kernel_rfl) (by kernel_rfl) (decide_eq_false (by have := unhide h5; omega))) ?_
  simp only [nrm]
  refine list_val (.bool false) (by rw [unhide hops]; kernel_rfl) (by kernel_rfl) ?_
  simp only [nrm]
  refine wpList_nil ?_
  replace hB := hide hB
  go_upto_region 3 with fail
  replace hB := unhide hB
  refine wp_region_lit ?_
  refine lvk (.pointer (some ⟨w.heap.size, 1, none⟩)) ?_
  simp only [nrm]
  refine list_val (.slice x.ao x.no x.co) (by kernel_rfl) (exec_csO _ (.tmp 44) rfl (w.heap.size) 1 (by kernel_rfl) x.ao x.no x.co (seg_cell (nC  _ _ _ _ _) (hB.get 0 (x := ⟨w.heap.size, fl [[.int .u32 c.nx], [.slice x.ao x.no x.co], [.int .i64 c.tn], [.int .u32 c.dl], [.slice x.ah x.nh x.ch]], 26⟩) rfl) 1 (v := .slice x.ao x.no x.co) rfl rfl)) ?_
  simp only [nrm]
  refine lvk (.int .i64 (x.no : Int)) ?_
  simp only [nrm]
  refine lvk (.int .i64 0) ?_
  simp only [nrm]
  refine wpList_nil ?_
  have hI : Hid (c.O.take 0 = d.O.take 0) := hide (by simp)
  have hB0 := hide hB
  clear hB
  go_wp2_with fail
  go_loopw [47] (fun i wr => ∃ j : Nat, j ≤ x.no ∧ i = .int .i64 (j : Int) ∧ Hid (c.O.take j = d.O.take j) ∧ Hid (Bl w [⟨w.heap.size, fl [[.int .u32 c.nx], [.slice x.ao x.no x.co], [.int .i64 c.tn], [.int .u32 c.dl], [.slice x.ah x.nh x.ch]], 26⟩, ⟨w.heap.size + 1, fl [[.int .u32 d.nx], [.slice y.ao y.no y.co], [.int .i64 d.tn], [.int .u32 d.dl], [.slice y.ah y.nh y.ch]], 26⟩] wr)) (fun i _ => x.no - (intOf i).toNat)
  case atStart => exact ⟨0, by omega, rfl, hI, hB0⟩
  case round =>
  clear hI hB0
  obtain ⟨j, hj, rfl, hI, hB0⟩ := hrel
  have hB := unhide hB0
  clear hB0
  by_cases hlt : j < x.no
  · have jI : (j : Int) < (x.no : Int) := by omega
    have jJ : j < y.no := by have := unhide h4; omega
    obtain ⟨s, hsj⟩ : ∃ s, c.O[j]? = some s := ⟨_, List.getElem?_eq_getElem (by omega)⟩
    obtain ⟨t, htj⟩ : ∃ t, d.O[j]? = some t := ⟨_, List.getElem?_eq_getElem (by omega)⟩
    have hok := ((unhide hc).o).ok j s hsj
    have hok2 := ((unhide hd).o).ok j t htj
    obtain ⟨p, o, ha, hr⟩ := ((unhide hc).o.gr hB.gr).at_ j s hsj
    obtain ⟨p2, o2, ha2, hr2⟩ := ((unhide hd).o.gr hB.gr).at_ j t htj
    replace hok := hide hok; replace hok2 := hide hok2
    replace hr := hide hr; replace hr2 := hide hr2; replace hsj := hide hsj; replace htj := hide htj; replace ha := hide ha; replace ha2 := hide ha2
    have hG := hide (Gr.refl wr)
    obtain ⟨q, hq⟩ : ∃ q, q = decide (s = t) := ⟨_, rfl⟩
    replace hq := hide hq
    replace hB := hide hB
    go_upto_region 5 with fail
    replace hB := unhide hB
    refine wp_region_lit ?_
    refine lvk (.int .i64 (j : Int)) ?_
    simp only [nrm]
    (refine wpList_step fun K hK => ?_; replace hK := hide hK; go_simp; refine unhide hK _ _ ?_; clear hK K)
    refine wpList_nil ?_
    replace hB := hide hB
    go_upto_region 6 with fail
    replace hB := unhide hB
    refine any_start (S := fun v_ => v_.heap[w.heap.size]? = some (.cells (fl [[.int .u32 c.nx], [.slice x.ao x.no x.co], [.int .i64 c.tn], [.int .u32 c.dl], [.slice x.ah x.nh x.ch]]) 26 (0, 0)) ∧ v_.heap[w.heap.size + 1]? = some (.cells (fl [[.int .u32 d.nx], [.slice y.ao y.no y.co], [.int .i64 d.tn], [.int .u32 d.dl], [.slice y.ah y.nh y.ch]]) 26 (0, 0)) ∧ Gr wr v_) (by kernel_rfl) ?_
    replace hG := hide ((unhide hG).gr ((Gr.refl wr).drew))
    replace hB := hB.drew
    generalize World.drew _ = u1 at *
    simp only [List.size_toArray, List.length_cons, List.length_nil, Array.replicate, List.replicate]
    have hS_ := hide (show (fun v_ => v_.heap[w.heap.size]? = some (.cells (fl [[.int .u32 c.nx], [.slice x.ao x.no x.co], [.int .i64 c.tn], [.int .u32 c.dl], [.slice x.ah x.nh x.ch]]) 26 (0, 0)) ∧ v_.heap[w.heap.size + 1]? = some (.cells (fl [[.int .u32 d.nx], [.slice y.ao y.no y.co], [.int .i64 d.tn], [.int .u32 d.dl], [.slice y.ah y.nh y.ch]]) 26 (0, 0)) ∧ Gr wr v_) u1 from ⟨(hB.get 0 (x := ⟨w.heap.size, fl [[.int .u32 c.nx], [.slice x.ao x.no x.co], [.int .i64 c.tn], [.int .u32 c.dl], [.slice x.ah x.nh x.ch]], 26⟩) rfl), (hB.get 1 (x := ⟨w.heap.size + 1, fl [[.int .u32 d.nx], [.slice y.ao y.no y.co], [.int .i64 d.tn], [.int .u32 d.dl], [.slice y.ah y.nh y.ch]], 26⟩) rfl), (unhide hG)⟩)
    refine any_tk 0 (.pointer (some ⟨w.heap.size, 1, none⟩)) (tf 11 0) rfl (fun x_ hu => by kernel_rfl) (unhide hS_) ?_
    simp only [nrm]
    refine any_tk 1 (.slice x.ao x.no x.co) (tf 11 1) rfl (fun x_ hu => exec_csO _ (.tmp 50) rfl (w.heap.size) 1 (by kernel_rfl) x.ao x.no x.co (seg_cell (nC  _ _ _ _ _) hu.1 1 (v := .slice x.ao x.no x.co) rfl rfl)) (unhide hS_) ?_
    simp only [nrm]
    refine any_tk 2 (.int .i64 (j : Int)) (tf 11 2) rfl (fun x_ hu => by kernel_rfl) (unhide hS_) ?_
    simp only [nrm]
    refine any_tk 3 (.pointer (some ⟨p, o + 106 * j, none⟩)) (tf 11 3) rfl (fun x_ hu => exec_iso _ (.tmp 51) (.tmp 52) rfl p o x.no x.co j (by rw [← unhide ha]; kernel_rfl) (by kernel_rfl) hlt) (unhide hS_) ?_
    simp only [nrm]
    refine any_tk 4 (.agg (fl [[.int .u32 s.n], bw s.B])) (tf 11 4) rfl (fun x_ hu => exec_lo _ (.tmp 53) rfl p (o + 106 * j) (by kernel_rfl) s (unhide hok) (range_gr (unhide hr) hu.2.2)) (unhide hS_) ?_
    simp only [nrm]
    refine any_tk 5 (.pointer (some ⟨w.heap.size + 1, 1, none⟩)) (tf 11 5) rfl (fun x_ hu => by kernel_rfl) (unhide hS_) ?_
    simp only [nrm]
    refine any_tk 6 (.slice y.ao y.no y.co) (tf 11 6) rfl (fun x_ hu => exec_csO _ (.tmp 55) rfl (w.heap.size + 1) 1 (by kernel_rfl) y.ao y.no y.co (seg_cell (nC  _ _ _ _ _) hu.2.1 1 (v := .slice y.ao y.no y.co) rfl rfl)) (unhide hS_) ?_
    simp only [nrm]
    refine any_tk 7 (.int .i64 (j : Int)) (tf 11 7) rfl (fun x_ hu => by kernel_rfl) (unhide hS_) ?_
    simp only [nrm]
    refine any_tk 8 (.pointer (some ⟨p2, o2 + 106 * j, none⟩)) (tf 11 8) rfl (fun x_ hu => exec_iso _ (.tmp 56) (.tmp 57) rfl p2 o2 y.no y.co j (by rw [← unhide ha2]; kernel_rfl) (by kernel_rfl) jJ) (unhide hS_) ?_
    simp only [nrm]
    refine any_tk 9 (.agg (fl [[.int .u32 t.n], bw t.B])) (tf 11 9) rfl (fun x_ hu => exec_lo _ (.tmp 58) rfl p2 (o2 + 106 * j) (by kernel_rfl) t (unhide hok2) (range_gr (unhide hr2) hu.2.2)) (unhide hS_) ?_
    simp only [nrm]
    refine any_tk 10 (.bool (!q)) (tf 11 10) rfl (fun x_ hu => exec_neO _ (.tmp 54) (.tmp 59) rfl s t (unhide hok).2.1 (unhide hok2).2.1 (by kernel_rfl) (by kernel_rfl) q (unhide hq).symm) (unhide hS_) ?_
    simp only [nrm]
    refine any_done (by kernel_rfl) ?_
    clear hS_
    clear hr hr2 hG
    cases q with
    | false =>
      have hne : ¬ s = t := of_decide_eq_false (unhide hq).symm
      have hv : decide (c = d) = false := decide_eq_false (fun e => hne (by
        have h1 := unhide hsj
        rw [e] at h1
        exact Option.some.inj (h1.symm.trans (unhide htj))))
      replace hB := hide hB
      go_upto_region 7 with fail
      replace hB := unhide hB
      refine wp_region_lit ?_
      (refine wpList_step fun K hK => ?_; replace hK := hide hK; go_simp; refine unhide hK _ _ ?_; clear hK K)
      refine wpList_nil ?_
      replace hB := hide hB
      go_wp2_with fail
      replace hB := unhide hB
      rw [unhide hT]
      exact (⟨by rw [hv] <;> rfl, hB.gr⟩)
    | true =>
      have he : s = t := of_decide_eq_true (unhide hq).symm
      have hI2 : Hid (c.O.take (j + 1) = d.O.take (j + 1)) := hide ((take_all (by have := unhide h4; omega) j (by omega) s t (unhide hsj) (unhide htj)).2 ⟨unhide hI, he⟩)
      clear hI hsj htj hok hok2 ha ha2 he hq
      have jw : IntKind.i64.wrap ((j : Int) + 1) = (j : Int) + 1 := by rw [IntKind.wrap_i64]; omega
      replace hB := hide hB
      go_wp2_with fail
      go_roundw
      case rel => exact ⟨j + 1, by omega, by simp, hI2, hB⟩
      case measure => simp [intOf]; omega
  · have jI : ¬ (j : Int) < (x.no : Int) := by omega
    have hEO : Hid (c.O = d.O) := hide (by
      have h1 := unhide hI
      have := unhide h4
      rwa [List.take_of_length_le (by omega), List.take_of_length_le (by omega)] at h1)
    clear hI
    replace hB := hide hB
    go_upto_region 9 with fail
    replace hB := unhide hB
    refine wp_region_lit ?_
    refine lvk (.pointer (some ⟨w.heap.size, 4, none⟩)) ?_
    simp only [nrm]
    refine list_val (.slice x.ah x.nh x.ch) (by kernel_rfl) (exec_csI _ (.tmp 62) rfl (w.heap.size) 4 (by kernel_rfl) x.ah x.nh x.ch (seg_cell (nC  _ _ _ _ _) (hB.get 0 (x := ⟨w.heap.size, fl [[.int .u32 c.nx], [.slice x.ao x.no x.co], [.int .i64 c.tn], [.int .u32 c.dl], [.slice x.ah x.nh x.ch]], 26⟩) rfl) 4 (v := .slice x.ah x.nh x.ch) rfl rfl)) ?_
    simp only [nrm]
    refine lvk (.int .i64 (x.nh : Int)) ?_
    simp only [nrm]
    refine lvk (.int .i64 0) ?_
    simp only [nrm]
    refine wpList_nil ?_
    clear hj jI
    have hBq := hide hB
    clear hBq
    obtain ⟨w9, hw9⟩ : ∃ w9, w9 = wr := ⟨_, rfl⟩
    rw [← hw9] at hB ⊢
    clear hw9
    have hI : Hid (c.H.take 0 = d.H.take 0) := hide (by simp)
    have hB0 := hide hB
    clear hB
    go_wp2_with fail
    go_loopw [65] (fun i wr => ∃ j : Nat, j ≤ x.nh ∧ i = .int .i64 (j : Int) ∧ Hid (c.H.take j = d.H.take j) ∧ Hid (Bl w [⟨w.heap.size, fl [[.int .u32 c.nx], [.slice x.ao x.no x.co], [.int .i64 c.tn], [.int .u32 c.dl], [.slice x.ah x.nh x.ch]], 26⟩, ⟨w.heap.size + 1, fl [[.int .u32 d.nx], [.slice y.ao y.no y.co], [.int .i64 d.tn], [.int .u32 d.dl], [.slice y.ah y.nh y.ch]], 26⟩] wr)) (fun i _ => x.nh - (intOf i).toNat)
    case atStart => exact ⟨0, by omega, rfl, hI, hB0⟩
    case round =>
    clear hI hB0
    obtain ⟨j, hj, rfl, hI, hB0⟩ := hrel
    have hB := unhide hB0
    clear hB0
    by_cases hlt : j < x.nh
    · have jI : (j : Int) < (x.nh : Int) := by omega
      have jJ : j < y.nh := by have := unhide h5; omega
      obtain ⟨s, hsj⟩ : ∃ s, c.H[j]? = some s := ⟨_, List.getElem?_eq_getElem (by omega)⟩
      obtain ⟨t, htj⟩ : ∃ t, d.H[j]? = some t := ⟨_, List.getElem?_eq_getElem (by omega)⟩
      have hok := ((unhide hc).h).ok j s hsj
      have hok2 := ((unhide hd).h).ok j t htj
      obtain ⟨p, o, ha, hr⟩ := ((unhide hc).h.gr hB.gr).at_ j s hsj
      obtain ⟨p2, o2, ha2, hr2⟩ := ((unhide hd).h.gr hB.gr).at_ j t htj
      replace hok := hide hok; replace hok2 := hide hok2
      replace hr := hide hr; replace hr2 := hide hr2; replace hsj := hide hsj; replace htj := hide htj; replace ha := hide ha; replace ha2 := hide ha2
      have hG := hide (Gr.refl wr)
      obtain ⟨q, hq⟩ : ∃ q, q = decide (s = t) := ⟨_, rfl⟩
      replace hq := hide hq
      replace hB := hide hB
      go_upto_region 11 with fail
      replace hB := unhide hB
      refine wp_region_lit ?_
      refine lvk (.int .i64 (j : Int)) ?_
      simp only [nrm]
      (refine wpList_step fun K hK => ?_; replace hK := hide hK; go_simp; refine unhide hK _ _ ?_; clear hK K)
      refine wpList_nil ?_
      replace hB := hide hB
      go_upto_region 12 with fail
      replace hB := unhide hB
      refine any_start (S := fun v_ => v_.heap[w.heap.size]? = some (.cells (fl [[.int .u32 c.nx], [.slice x.ao x.no x.co], [.int .i64 c.tn], [.int .u32 c.dl], [.slice x.ah x.nh x.ch]]) 26 (0, 0)) ∧ v_.heap[w.heap.size + 1]? = some (.cells (fl [[.int .u32 d.nx], [.slice y.ao y.no y.co], [.int .i64 d.tn], [.int .u32 d.dl], [.slice y.ah y.nh y.ch]]) 26 (0, 0)) ∧ Gr wr v_) (by kernel_rfl) ?_
      replace hG := hide ((unhide hG).gr ((Gr.refl wr).drew))
      replace hB := hB.drew
      generalize World.drew _ = u2 at *
      simp only [List.size_toArray, List.length_cons, List.length_nil, Array.replicate, List.replicate]
      have hS_ := hide (show (fun v_ => v_.heap[w.heap.size]? = some (.cells (fl [[.int .u32 c.nx], [.slice x.ao x.no x.co], [.int .i64 c.tn], [.int .u32 c.dl], [.slice x.ah x.nh x.ch]]) 26 (0, 0)) ∧ v_.heap[w.heap.size + 1]? = some (.cells (fl [[.int .u32 d.nx], [.slice y.ao y.no y.co], [.int .i64 d.tn], [.int .u32 d.dl], [.slice y.ah y.nh y.ch]]) 26 (0, 0)) ∧ Gr wr v_) u2 from ⟨(hB.get 0 (x := ⟨w.heap.size, fl [[.int .u32 c.nx], [.slice x.ao x.no x.co], [.int .i64 c.tn], [.int .u32 c.dl], [.slice x.ah x.nh x.ch]], 26⟩) rfl), (hB.get 1 (x := ⟨w.heap.size + 1, fl [[.int .u32 d.nx], [.slice y.ao y.no y.co], [.int .i64 d.tn], [.int .u32 d.dl], [.slice y.ah y.nh y.ch]], 26⟩) rfl), (unhide hG)⟩)
      refine any_tk 0 (.pointer (some ⟨w.heap.size, 4, none⟩)) (tf 11 0) rfl (fun x_ hu => by kernel_rfl) (unhide hS_) ?_
      simp only [nrm]
      refine any_tk 1 (.slice x.ah x.nh x.ch) (tf 11 1) rfl (fun x_ hu => exec_csI _ (.tmp 68) rfl (w.heap.size) 4 (by kernel_rfl) x.ah x.nh x.ch (seg_cell (nC  _ _ _ _ _) hu.1 4 (v := .slice x.ah x.nh x.ch) rfl rfl)) (unhide hS_) ?_
      simp only [nrm]
      refine any_tk 2 (.int .i64 (j : Int)) (tf 11 2) rfl (fun x_ hu => by kernel_rfl) (unhide hS_) ?_
      simp only [nrm]
      refine any_tk 3 (.pointer (some ⟨p, o + 2 * j, none⟩)) (tf 11 3) rfl (fun x_ hu => exec_isi _ (.tmp 69) (.tmp 70) rfl p o x.nh x.ch j (by rw [← unhide ha]; kernel_rfl) (by kernel_rfl) hlt) (unhide hS_) ?_
      simp only [nrm]
      refine any_tk 4 (.agg (fl [[.int .u32 s.n], [.string s.s]])) (tf 11 4) rfl (fun x_ hu => exec_li _ (.tmp 71) rfl p (o + 2 * j) (by kernel_rfl) s (range_gr (unhide hr) hu.2.2)) (unhide hS_) ?_
      simp only [nrm]
      refine any_tk 5 (.pointer (some ⟨w.heap.size + 1, 4, none⟩)) (tf 11 5) rfl (fun x_ hu => by kernel_rfl) (unhide hS_) ?_
      simp only [nrm]
      refine any_tk 6 (.slice y.ah y.nh y.ch) (tf 11 6) rfl (fun x_ hu => exec_csI _ (.tmp 73) rfl (w.heap.size + 1) 4 (by kernel_rfl) y.ah y.nh y.ch (seg_cell (nC  _ _ _ _ _) hu.2.1 4 (v := .slice y.ah y.nh y.ch) rfl rfl)) (unhide hS_) ?_
      simp only [nrm]
      refine any_tk 7 (.int .i64 (j : Int)) (tf 11 7) rfl (fun x_ hu => by kernel_rfl) (unhide hS_) ?_
      simp only [nrm]
      refine any_tk 8 (.pointer (some ⟨p2, o2 + 2 * j, none⟩)) (tf 11 8) rfl (fun x_ hu => exec_isi _ (.tmp 74) (.tmp 75) rfl p2 o2 y.nh y.ch j (by rw [← unhide ha2]; kernel_rfl) (by kernel_rfl) jJ) (unhide hS_) ?_
      simp only [nrm]
      refine any_tk 9 (.agg (fl [[.int .u32 t.n], [.string t.s]])) (tf 11 9) rfl (fun x_ hu => exec_li _ (.tmp 76) rfl p2 (o2 + 2 * j) (by kernel_rfl) t (range_gr (unhide hr2) hu.2.2)) (unhide hS_) ?_
      simp only [nrm]
      refine any_tk 10 (.bool (!q)) (tf 11 10) rfl (fun x_ hu => exec_neI _ (.tmp 72) (.tmp 77) rfl s t (by kernel_rfl) (by kernel_rfl) q (unhide hq).symm) (unhide hS_) ?_
      simp only [nrm]
      refine any_done (by kernel_rfl) ?_
      clear hS_
      clear hr hr2 hG
      cases q with
      | false =>
        have hne : ¬ s = t := of_decide_eq_false (unhide hq).symm
        have hv : decide (c = d) = false := decide_eq_false (fun e => hne (by
          have h1 := unhide hsj
          rw [e] at h1
          exact Option.some.inj (h1.symm.trans (unhide htj))))
        replace hB := hide hB
        go_upto_region 13 with fail
        replace hB := unhide hB
        refine wp_region_lit ?_
        (refine wpList_step fun K hK => ?_; replace hK := hide hK; go_simp; refine unhide hK _ _ ?_; clear hK K)
        refine wpList_nil ?_
        replace hB := hide hB
        go_wp2_with fail
        replace hB := unhide hB
        rw [unhide hT]
        exact (⟨by rw [hv] <;> rfl, hB.gr⟩)
      | true =>
        have he : s = t := of_decide_eq_true (unhide hq).symm
        have hI2 : Hid (c.H.take (j + 1) = d.H.take (j + 1)) := hide ((take_all (by have := unhide h5; omega) j (by omega) s t (unhide hsj) (unhide htj)).2 ⟨unhide hI, he⟩)
        clear hI hsj htj hok hok2 ha ha2 he hq
        have jw : IntKind.i64.wrap ((j : Int) + 1) = (j : Int) + 1 := by rw [IntKind.wrap_i64]; omega
        replace hB := hide hB
        go_wp2_with fail
        go_roundw
        case rel => exact ⟨j + 1, by omega, by simp, hI2, hB⟩
        case measure => simp [intOf]; omega
    · have jI : ¬ (j : Int) < (x.nh : Int) := by omega
      have hEH : Hid (c.H = d.H) := hide (by
        have h1 := unhide hI
        have := unhide h5
        rwa [List.take_of_length_le (by omega), List.take_of_length_le (by omega)] at h1)
      clear hI
      have hv : decide (c = d) = true := decide_eq_true (cm_eq.2 ⟨unhide h1, unhide h2, unhide h3, unhide hEO, unhide hEH⟩)
      replace hB := hide hB
      go_upto_region 15 with fail
      replace hB := unhide hB
      refine wp_region_lit ?_
      (refine wpList_step fun K hK => ?_; replace hK := hide hK; go_simp; refine unhide hK _ _ ?_; clear hK K)
      refine wpList_nil ?_
      replace hB := hide hB
      go_wp2_with fail
      replace hB := unhide hB
      rw [unhide hT]
      exact (⟨by rw [hv] <;> rfl, hB.gr⟩)
end Go.Proofs.Ytcefkkoombmndaa
