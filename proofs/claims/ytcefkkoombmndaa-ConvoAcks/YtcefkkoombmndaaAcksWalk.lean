/-
  ConvoAcks.
-/
import Derived.Test.YtcefkkoombmndaaUR
namespace Go.Proofs.Ytcefkkoombmndaa
open Go.RowKit
set_option maxRecDepth 100000
set_option linter.unusedSimpArgs false
set_option linter.unusedVariables false
set_option maxHeartbeats 4000000 in
theorem acks_law (c : Cm) (x : Lc) (n : Int) (w : World) (hc : Cin w c x) (hn9 : 0 ≤ n ∧ n < 4294967296) : Calls Try.prog 4 #[.agg (fl [[.int .u32 c.nx], [.slice x.ao x.no x.co], [.int .i64 c.tn], [.int .u32 c.dl], [.slice x.ah x.nh x.ch]]), .int .u32 n] w (Vl (.bool true) w) := by
  obtain ⟨T, hT⟩ : ∃ T : Ending → World → Prop, T = (Vl (.bool true) w) := ⟨_, rfl⟩
  rw [← hT]
  replace hT := hide hT
  replace hc := hide hc
  obtain ⟨A0_, hA0_⟩ : ∃ S_, S_ = fl [[.int .u32 c.nx], [.slice x.ao x.no x.co], [.int .i64 c.tn], [.int .u32 c.dl], [.slice x.ah x.nh x.ch]] := ⟨_, rfl⟩
  rw [← hA0_]
  replace hA0_ := hide hA0_
  go_enter Try.func4, Try.ntmps4
  go_upto_region 1 with fail
  have hB := ((Bl.nil w).new A0_ 26)
  simp only [size_alloc, List.nil_append, List.cons_append] at hB
  rw [unhide hA0_] at hB
  generalize hu_ : World.alloc _ _ = u0
  replace hB : Bl w [⟨w.heap.size, fl [[.int .u32 c.nx], [.slice x.ao x.no x.co], [.int .i64 c.tn], [.int .u32 c.dl], [.slice x.ah x.nh x.ch]], 26⟩] u0 := by
    rw [← hu_]
    rw [unhide hA0_]
    exact hB
  clear hu_ hA0_
  refine wp_region_lit ?_
  refine list_call 9 #[] (by kernel_rfl) (by kernel_rfl) ((wakes_ok u0).mono ?_)
  rintro r_ u1 ⟨rfl, hg⟩
  replace hB := hB.more hg
  clear hg
  refine ⟨_, rfl, ?_⟩
  simp only [nrm]
  refine lvk (.bool false) ?_
  simp only [nrm]
  refine wpList_nil ?_
  obtain ⟨e, he⟩ : ∃ e, e = ct c := ⟨_, rfl⟩
  have hnm := (unhide hc).nums.ct
  have e8o := ct_o c
  have e8h := ct_h c
  rw [← he] at hnm e8o e8h
  replace he := hide he; replace hnm := hide hnm
  replace hB := hide hB
  go_upto_region 3 with fail
  replace hB := unhide hB
  refine wp_region_lit ?_
  refine list_val (.agg (fl [[.int .u32 c.nx], [.slice x.ao x.no x.co], [.int .i64 c.tn], [.int .u32 c.dl], [.slice x.ah x.nh x.ch]])) (by kernel_rfl) (exec_sw _ 26 (.tmp 2) rfl (w.heap.size) (by kernel_rfl) (hB.get 0 (x := ⟨w.heap.size, fl [[.int .u32 c.nx], [.slice x.ao x.no x.co], [.int .i64 c.tn], [.int .u32 c.dl], [.slice x.ah x.nh x.ch]], 26⟩) rfl) NC (nC  _ _ _ _ _) Try.underlying26 rfl (by kernel_rfl)) ?_
  simp only [nrm]
  refine list_call 10 #[.agg (fl [[.int .u32 c.nx], [.slice x.ao x.no x.co], [.int .i64 c.tn], [.int .u32 c.dl], [.slice x.ah x.nh x.ch]])] (by kernel_rfl) (by kernel_rfl) (((show Calls Try.prog 10 #[.agg (fl [[.int .u32 c.nx], [.slice x.ao x.no x.co], [.int .i64 c.tn], [.int .u32 c.dl], [.slice x.ah x.nh x.ch]])] u1 (fun r w' => ∃ x', r = .returned (.agg (fl (cvs e x'))) ∧ Sh w.heap.size w' e x' ∧ Gr u1 w') from by have h := short_ok c x u1 ((unhide hc).gr hB.gr); rw [← unhide he] at h; exact h.mono fun r w' h9 => (by obtain ⟨x', h1, h2, h3⟩ := h9; exact ⟨x', h1, h2.base hB.gr.size, h3⟩))).mono ?_)
  rintro r_ u2 ⟨x1, rfl, hSe, hg⟩
  replace hB := hB.more hg
  clear hg
  have hC1 := hide (hSe.co (unhide hnm))
  replace hSe := hide hSe
  refine ⟨_, rfl, ?_⟩
  simp only [nrm]
  have hzz_ : Hid (u2.heap[w.heap.size]? = some (.cells (fl [[.int .u32 c.nx], [.slice x.ao x.no x.co], [.int .i64 c.tn], [.int .u32 c.dl], [.slice x.ah x.nh x.ch]]) 26 (0, 0))) := hide (hB.get 0 (x := ⟨w.heap.size, fl [[.int .u32 c.nx], [.slice x.ao x.no x.co], [.int .i64 c.tn], [.int .u32 c.dl], [.slice x.ah x.nh x.ch]], 26⟩) rfl)
  refine list_all 26 (.tmp 2) (.tmp 15) (w.heap.size) (S2 := [[.int .u32 e.nx], [.slice x1.ao x1.no x1.co], [.int .i64 e.tn], [.int .u32 e.dl], [.slice x1.ah x1.nh x1.ch]]) (by kernel_rfl) rfl (by kernel_rfl) (by kernel_rfl) hB 0 rfl NC (nC  _ _ _ _ _) (nC  _ _ _ _ _) (by kernel_rfl) (oC  rfl rfl rfl rfl rfl) ?_
  intro u3 hB_ hbt_
  clear hB
  replace hB : Bl w [⟨w.heap.size, fl [[.int .u32 e.nx], [.slice x1.ao x1.no x1.co], [.int .i64 e.tn], [.int .u32 e.dl], [.slice x1.ah x1.nh x1.ch]], 26⟩] u3 := hB_
  clear hB_
  replace hC1 := hide ((unhide hC1).bz (unhide hzz_) hbt_)
  replace hSe := hide ((unhide hSe).bz (unhide hzz_) hbt_)
  clear hbt_ hzz_
  simp only [nrm]
  refine wpList_nil ?_
  replace hB := hide hB
  go_upto_region 4 with fail
  replace hB := unhide hB
  refine wp_region_lit ?_
  refine list_val (.agg (fl [[.int .u32 e.nx], [.slice x1.ao x1.no x1.co], [.int .i64 e.tn], [.int .u32 e.dl], [.slice x1.ah x1.nh x1.ch]])) (by kernel_rfl) (exec_sw _ 26 (.tmp 2) rfl (w.heap.size) (by kernel_rfl) (hB.get 0 (x := ⟨w.heap.size, fl [[.int .u32 e.nx], [.slice x1.ao x1.no x1.co], [.int .i64 e.tn], [.int .u32 e.dl], [.slice x1.ah x1.nh x1.ch]], 26⟩) rfl) NC (nC  _ _ _ _ _) Try.underlying26 rfl (by kernel_rfl)) ?_
  simp only [nrm]
  refine list_call 11 #[.agg (fl [[.int .u32 e.nx], [.slice x1.ao x1.no x1.co], [.int .i64 e.tn], [.int .u32 e.dl], [.slice x1.ah x1.nh x1.ch]])] (by kernel_rfl) (by kernel_rfl) (((show Calls Try.prog 11 #[.agg (fl [[.int .u32 e.nx], [.slice x1.ao x1.no x1.co], [.int .i64 e.tn], [.int .u32 e.dl], [.slice x1.ah x1.nh x1.ch]])] u3 (fun r w' => ∃ x', r = .returned (.agg (fl (cvs e x'))) ∧ Co w.heap.size w' e x' ∧ Gr u3 w') from (rcopy_ok e x1 u3 (unhide hC1).i (by have := (unhide hC1).i.o.len; omega) (by have := (unhide hC1).i.h.len; omega)).mono fun r w' h9 => (by obtain ⟨x', h1, h2, _, _, h3⟩ := h9; exact ⟨x', h1, ⟨h2.cin (unhide hnm), h2.owx.base hB.gr.size⟩, h3⟩))).mono ?_)
  rintro r_ u4 ⟨y, rfl, hY, hg⟩
  replace hC1 := hide ((unhide hC1).gr hg)
  replace hSe := hide ((unhide hSe).gr hg)
  replace hB := hB.more hg
  clear hg
  replace hY := hide hY
  refine ⟨_, rfl, ?_⟩
  simp only [nrm]
  refine list_valw (.pointer (some ⟨u4.heap.size, 0, none⟩)) (u4.alloc (.cells (fl [[.int .u32 0], [.slice none 0 0], [.int .i64 0], [.int .u32 0], [.slice none 0 0]]) 26 (0, 0))) (by kernel_rfl) (by kernel_rfl) ?_
  replace hB := hB.new (fl [[.int .u32 0], [.slice none 0 0], [.int .i64 0], [.int .u32 0], [.slice none 0 0]]) 26
  simp only [List.nil_append, List.cons_append] at hB
  have hg := (Gr.refl u4).alloc (.cells (fl [[.int .u32 0], [.slice none 0 0], [.int .i64 0], [.int .u32 0], [.slice none 0 0]]) 26 (0, 0))
  replace hC1 := hide ((unhide hC1).gr hg)
  replace hSe := hide ((unhide hSe).gr hg)
  replace hY := hide ((unhide hY).gr hg)
  clear hg
  generalize World.alloc _ _ = u5 at *
  generalize u4.heap.size = g5 at *
  simp only [nrm]
  have hzz_ : Hid (u5.heap[g5]? = some (.cells (fl [[.int .u32 0], [.slice none 0 0], [.int .i64 0], [.int .u32 0], [.slice none 0 0]]) 26 (0, 0))) := hide (hB.get 1 (x := ⟨g5, fl [[.int .u32 0], [.slice none 0 0], [.int .i64 0], [.int .u32 0], [.slice none 0 0]], 26⟩) rfl)
  refine list_all 26 (.tmp 5) (.tmp 17) (g5) (S2 := [[.int .u32 e.nx], [.slice y.ao y.no y.co], [.int .i64 e.tn], [.int .u32 e.dl], [.slice y.ah y.nh y.ch]]) (by kernel_rfl) rfl (by kernel_rfl) (by kernel_rfl) hB 1 rfl NC (nC  _ _ _ _ _) (nC  _ _ _ _ _) (by kernel_rfl) (oC  rfl rfl rfl rfl rfl) ?_
  intro u6 hB_ hbt_
  clear hB
  replace hB : Bl w [⟨w.heap.size, fl [[.int .u32 e.nx], [.slice x1.ao x1.no x1.co], [.int .i64 e.tn], [.int .u32 e.dl], [.slice x1.ah x1.nh x1.ch]], 26⟩, ⟨g5, fl [[.int .u32 e.nx], [.slice y.ao y.no y.co], [.int .i64 e.tn], [.int .u32 e.dl], [.slice y.ah y.nh y.ch]], 26⟩] u6 := hB_
  clear hB_
  replace hC1 := hide ((unhide hC1).bz (unhide hzz_) hbt_)
  replace hSe := hide ((unhide hSe).bz (unhide hzz_) hbt_)
  replace hY := hide ((unhide hY).bz (unhide hzz_) hbt_)
  clear hbt_ hzz_
  simp only [nrm]
  refine wpList_nil ?_
  obtain ⟨d, g, er, hak⟩ : ∃ d g er, ak e n = (d, g, er) := ⟨_, _, _, rfl⟩
  replace hak := hide hak
  replace hB := hide hB
  go_upto_region 5 with fail
  replace hB := unhide hB
  refine wp_region_lit ?_
  refine list_val (.agg (fl [[.int .u32 e.nx], [.slice x1.ao x1.no x1.co], [.int .i64 e.tn], [.int .u32 e.dl], [.slice x1.ah x1.nh x1.ch]])) (by kernel_rfl) (exec_sw _ 26 (.tmp 2) rfl (w.heap.size) (by kernel_rfl) (hB.get 0 (x := ⟨w.heap.size, fl [[.int .u32 e.nx], [.slice x1.ao x1.no x1.co], [.int .i64 e.tn], [.int .u32 e.dl], [.slice x1.ah x1.nh x1.ch]], 26⟩) rfl) NC (nC  _ _ _ _ _) Try.underlying26 rfl (by kernel_rfl)) ?_
  simp only [nrm]
  refine lvk (.int .u32 n) ?_
  simp only [nrm]
  refine list_call 21 #[.agg (fl [[.int .u32 e.nx], [.slice x1.ao x1.no x1.co], [.int .i64 e.tn], [.int .u32 e.dl], [.slice x1.ah x1.nh x1.ch]]), .int .u32 n] (by kernel_rfl) (by kernel_rfl) (((show Calls Try.prog 21 #[.agg (fl [[.int .u32 e.nx], [.slice x1.ao x1.no x1.co], [.int .i64 e.tn], [.int .u32 e.dl], [.slice x1.ah x1.nh x1.ch]]), .int .u32 n] u6 (fun r w' => ∃ x', r = .returned (.tuple (.agg (fl (cvs d x')) :: [.int .i64 g, .int .i64 er]).toArray) ∧ Co w.heap.size w' d x' ∧ Gr u6 w') from by have h := racked_ok e x1 n hn9 u6 (unhide hC1).i; rw [unhide hak] at h; exact h.mono fun r w' h9 => (by obtain ⟨x', h1, h2, h3, h4⟩ := h9; exact ⟨x', h1, ⟨h2, h3.base (hB.gr.size)⟩, h4⟩))).mono ?_)
  rintro r_ u7 ⟨x3, rfl, hC3, hg⟩
  replace hC1 := hide ((unhide hC1).gr hg)
  replace hSe := hide ((unhide hSe).gr hg)
  replace hY := hide ((unhide hY).gr hg)
  replace hB := hB.more hg
  clear hg
  replace hC3 := hide hC3
  refine ⟨_, rfl, ?_⟩
  simp only [nrm]
  refine lvk (.tuple #[.agg (fl [[.int .u32 d.nx], [.slice x3.ao x3.no x3.co], [.int .i64 d.tn], [.int .u32 d.dl], [.slice x3.ah x3.nh x3.ch]]), .int .i64 g, .int .i64 er]) ?_
  simp only [nrm]
  refine lvk (.agg (fl [[.int .u32 d.nx], [.slice x3.ao x3.no x3.co], [.int .i64 d.tn], [.int .u32 d.dl], [.slice x3.ah x3.nh x3.ch]])) ?_
  simp only [nrm]
  refine lvk (.int .i64 g) ?_
  simp only [nrm]
  refine lvk (.int .i64 er) ?_
  simp only [nrm]
  refine list_valw (.pointer (some ⟨u7.heap.size, 0, none⟩)) (u7.alloc (.cells (fl [[.int .u32 0], [.slice none 0 0], [.int .i64 0], [.int .u32 0], [.slice none 0 0]]) 26 (0, 0))) (by kernel_rfl) (by kernel_rfl) ?_
  replace hB := hB.new (fl [[.int .u32 0], [.slice none 0 0], [.int .i64 0], [.int .u32 0], [.slice none 0 0]]) 26
  simp only [List.nil_append, List.cons_append] at hB
  have hg := (Gr.refl u7).alloc (.cells (fl [[.int .u32 0], [.slice none 0 0], [.int .i64 0], [.int .u32 0], [.slice none 0 0]]) 26 (0, 0))
  replace hC1 := hide ((unhide hC1).gr hg)
  replace hSe := hide ((unhide hSe).gr hg)
  replace hY := hide ((unhide hY).gr hg)
  replace hC3 := hide ((unhide hC3).gr hg)
  clear hg
  generalize World.alloc _ _ = u8 at *
  generalize u7.heap.size = g6 at *
  simp only [nrm]
  have hzz_ : Hid (u8.heap[g6]? = some (.cells (fl [[.int .u32 0], [.slice none 0 0], [.int .i64 0], [.int .u32 0], [.slice none 0 0]]) 26 (0, 0))) := hide (hB.get 2 (x := ⟨g6, fl [[.int .u32 0], [.slice none 0 0], [.int .i64 0], [.int .u32 0], [.slice none 0 0]], 26⟩) rfl)
  refine list_all 26 (.tmp 6) (.tmp 22) (g6) (S2 := [[.int .u32 d.nx], [.slice x3.ao x3.no x3.co], [.int .i64 d.tn], [.int .u32 d.dl], [.slice x3.ah x3.nh x3.ch]]) (by kernel_rfl) rfl (by kernel_rfl) (by kernel_rfl) hB 2 rfl NC (nC  _ _ _ _ _) (nC  _ _ _ _ _) (by kernel_rfl) (oC  rfl rfl rfl rfl rfl) ?_
  intro u9 hB_ hbt_
  clear hB
  replace hB : Bl w [⟨w.heap.size, fl [[.int .u32 e.nx], [.slice x1.ao x1.no x1.co], [.int .i64 e.tn], [.int .u32 e.dl], [.slice x1.ah x1.nh x1.ch]], 26⟩, ⟨g5, fl [[.int .u32 e.nx], [.slice y.ao y.no y.co], [.int .i64 e.tn], [.int .u32 e.dl], [.slice y.ah y.nh y.ch]], 26⟩, ⟨g6, fl [[.int .u32 d.nx], [.slice x3.ao x3.no x3.co], [.int .i64 d.tn], [.int .u32 d.dl], [.slice x3.ah x3.nh x3.ch]], 26⟩] u9 := hB_
  clear hB_
  replace hC1 := hide ((unhide hC1).bz (unhide hzz_) hbt_)
  replace hSe := hide ((unhide hSe).bz (unhide hzz_) hbt_)
  replace hY := hide ((unhide hY).bz (unhide hzz_) hbt_)
  replace hC3 := hide ((unhide hC3).bz (unhide hzz_) hbt_)
  clear hbt_ hzz_
  simp only [nrm]
  (refine wpList_step fun K hK => ?_; replace hK := hide hK; go_simp; refine unhide hK _ _ ?_; clear hK K)
  (refine wpList_step fun K hK => ?_; replace hK := hide hK; go_simp; refine unhide hK _ _ ?_; clear hK K)
  refine wpList_nil ?_
  replace hB := hide hB
  go_upto_region 6 with fail
  replace hB := unhide hB
  obtain ⟨b, hb⟩ : ∃ b, b = u9.heap.size := ⟨_, rfl⟩
  have hbw : Hid (w.heap.size ≤ b) := hide (by rw [hb]; exact hB.gr.size)
  have hlS := hide (unhide hSe).lt
  have hlY := hide (unhide hY).o.lt
  rw [← hb] at hlS hlY
  have hbs : Hid (Bz b u9) := hide (Nat.le_of_eq hb)
  refine wp_region_lit ?_
  refine list_val (.agg (fl [[.int .u32 e.nx], [.slice x1.ao x1.no x1.co], [.int .i64 e.tn], [.int .u32 e.dl], [.slice x1.ah x1.nh x1.ch]])) (by kernel_rfl) (exec_sw _ 26 (.tmp 2) rfl (w.heap.size) (by kernel_rfl) (hB.get 0 (x := ⟨w.heap.size, fl [[.int .u32 e.nx], [.slice x1.ao x1.no x1.co], [.int .i64 e.tn], [.int .u32 e.dl], [.slice x1.ah x1.nh x1.ch]], 26⟩) rfl) NC (nC  _ _ _ _ _) Try.underlying26 rfl (by kernel_rfl)) ?_
  simp only [nrm]
  refine lvk (.int .u32 n) ?_
  simp only [nrm]
  refine list_call 22 #[.agg (fl [[.int .u32 e.nx], [.slice x1.ao x1.no x1.co], [.int .i64 e.tn], [.int .u32 e.dl], [.slice x1.ah x1.nh x1.ch]]), .int .u32 n] (by kernel_rfl) (by kernel_rfl) (((show Calls Try.prog 22 #[.agg (fl [[.int .u32 e.nx], [.slice x1.ao x1.no x1.co], [.int .i64 e.tn], [.int .u32 e.dl], [.slice x1.ah x1.nh x1.ch]]), .int .u32 n] u9 (fun r w' => ∃ x', r = .returned (.tuple (.agg (fl (cvs d x')) :: [.int .i64 g, .int .i64 er]).toArray) ∧ Co b w' d x' ∧ Gr u9 w') from by have h := packed_ok e x1 n hn9 u9 (unhide hC1).i; rw [unhide hak] at h; exact h.mono fun r w' h9 => (by obtain ⟨x', h1, h2, h3, h4⟩ := h9; exact ⟨x', h1, ⟨h2, h3.base (by rw [hb]; exact Nat.le_refl _)⟩, h4⟩))).mono ?_)
  rintro r_ u10 ⟨x4, rfl, hC4, hg⟩
  replace hC1 := hide ((unhide hC1).gr hg)
  replace hSe := hide ((unhide hSe).gr hg)
  replace hY := hide ((unhide hY).gr hg)
  replace hC3 := hide ((unhide hC3).gr hg)
  replace hbs := hide ((unhide hbs).gr hg)
  replace hB := hB.more hg
  clear hg
  replace hC4 := hide hC4
  refine ⟨_, rfl, ?_⟩
  simp only [nrm]
  refine lvk (.tuple #[.agg (fl [[.int .u32 d.nx], [.slice x4.ao x4.no x4.co], [.int .i64 d.tn], [.int .u32 d.dl], [.slice x4.ah x4.nh x4.ch]]), .int .i64 g, .int .i64 er]) ?_
  simp only [nrm]
  refine lvk (.agg (fl [[.int .u32 d.nx], [.slice x4.ao x4.no x4.co], [.int .i64 d.tn], [.int .u32 d.dl], [.slice x4.ah x4.nh x4.ch]])) ?_
  simp only [nrm]
  refine lvk (.int .i64 g) ?_
  simp only [nrm]
  refine lvk (.int .i64 er) ?_
  simp only [nrm]
  refine list_valw (.pointer (some ⟨u10.heap.size, 0, none⟩)) (u10.alloc (.cells (fl [[.int .u32 0], [.slice none 0 0], [.int .i64 0], [.int .u32 0], [.slice none 0 0]]) 26 (0, 0))) (by kernel_rfl) (by kernel_rfl) ?_
  replace hB := hB.new (fl [[.int .u32 0], [.slice none 0 0], [.int .i64 0], [.int .u32 0], [.slice none 0 0]]) 26
  simp only [List.nil_append, List.cons_append] at hB
  have hg := (Gr.refl u10).alloc (.cells (fl [[.int .u32 0], [.slice none 0 0], [.int .i64 0], [.int .u32 0], [.slice none 0 0]]) 26 (0, 0))
  replace hC1 := hide ((unhide hC1).gr hg)
  replace hSe := hide ((unhide hSe).gr hg)
  replace hY := hide ((unhide hY).gr hg)
  replace hC3 := hide ((unhide hC3).gr hg)
  replace hbs := hide ((unhide hbs).gr hg)
  replace hC4 := hide ((unhide hC4).gr hg)
  clear hg
  generalize World.alloc _ _ = u11 at *
  generalize u10.heap.size = g9 at *
  simp only [nrm]
  have hzz_ : Hid (u11.heap[g9]? = some (.cells (fl [[.int .u32 0], [.slice none 0 0], [.int .i64 0], [.int .u32 0], [.slice none 0 0]]) 26 (0, 0))) := hide (hB.get 3 (x := ⟨g9, fl [[.int .u32 0], [.slice none 0 0], [.int .i64 0], [.int .u32 0], [.slice none 0 0]], 26⟩) rfl)
  refine list_all 26 (.tmp 9) (.tmp 29) (g9) (S2 := [[.int .u32 d.nx], [.slice x4.ao x4.no x4.co], [.int .i64 d.tn], [.int .u32 d.dl], [.slice x4.ah x4.nh x4.ch]]) (by kernel_rfl) rfl (by kernel_rfl) (by kernel_rfl) hB 3 rfl NC (nC  _ _ _ _ _) (nC  _ _ _ _ _) (by kernel_rfl) (oC  rfl rfl rfl rfl rfl) ?_
  intro u12 hB_ hbt_
  clear hB
  replace hB : Bl w [⟨w.heap.size, fl [[.int .u32 e.nx], [.slice x1.ao x1.no x1.co], [.int .i64 e.tn], [.int .u32 e.dl], [.slice x1.ah x1.nh x1.ch]], 26⟩, ⟨g5, fl [[.int .u32 e.nx], [.slice y.ao y.no y.co], [.int .i64 e.tn], [.int .u32 e.dl], [.slice y.ah y.nh y.ch]], 26⟩, ⟨g6, fl [[.int .u32 d.nx], [.slice x3.ao x3.no x3.co], [.int .i64 d.tn], [.int .u32 d.dl], [.slice x3.ah x3.nh x3.ch]], 26⟩, ⟨g9, fl [[.int .u32 d.nx], [.slice x4.ao x4.no x4.co], [.int .i64 d.tn], [.int .u32 d.dl], [.slice x4.ah x4.nh x4.ch]], 26⟩] u12 := hB_
  clear hB_
  replace hC1 := hide ((unhide hC1).bz (unhide hzz_) hbt_)
  replace hSe := hide ((unhide hSe).bz (unhide hzz_) hbt_)
  replace hY := hide ((unhide hY).bz (unhide hzz_) hbt_)
  replace hC3 := hide ((unhide hC3).bz (unhide hzz_) hbt_)
  replace hbs := hide ((unhide hbs).bz (unhide hzz_) hbt_)
  replace hC4 := hide ((unhide hC4).bz (unhide hzz_) hbt_)
  clear hbt_ hzz_
  simp only [nrm]
  (refine wpList_step fun K hK => ?_; replace hK := hide hK; go_simp; refine unhide hK _ _ ?_; clear hK K)
  (refine wpList_step fun K hK => ?_; replace hK := hide hK; go_simp; refine unhide hK _ _ ?_; clear hK K)
  refine wpList_nil ?_
  replace hB := hide hB
  go_upto_region 7 with fail
  replace hB := unhide hB
  refine wp_region_lit ?_
  refine wpList_gen fun ops_ hops => ?_
  replace hops := hide hops
  refine list_val (.int .i64 er) (by rw [unhide hops]; kernel_rfl) (by kernel_rfl) ?_
  simp only [nrm]
  refine list_val (.int .i64 er) (by rw [unhide hops]; kernel_rfl) (by kernel_rfl) ?_
  simp only [nrm]
  refine list_val (.bool false) (by rw [unhide hops]; kernel_rfl) (neq_e _ (.tmp 32) (.tmp 33) er er false rfl (by kernel_rfl) (by kernel_rfl) (by simp)) ?_
  simp only [nrm]
  refine list_val (.bool false) (by rw [unhide hops]; kernel_rfl) (by kernel_rfl) ?_
  simp only [nrm]
  refine list_val (.int .i64 g) (by rw [unhide hops]; kernel_rfl) (by kernel_rfl) ?_
  simp only [nrm]
  refine list_val (.int .i64 g) (by rw [unhide hops]; kernel_rfl) (by kernel_rfl) ?_
  simp only [nrm]
  refine list_val (.bool false) (by rw [unhide hops]; kernel_rfl) (neq_i _ (.tmp 36) (.tmp 37) g g false rfl (by kernel_rfl) (by kernel_rfl) (by simp)) ?_
  simp only [nrm]
  refine list_val (.bool false) (by rw [unhide hops]; kernel_rfl) (by kernel_rfl) ?_
  simp only [nrm]
  refine list_val (.bool false) (by rw [unhide hops]; kernel_rfl) (by kernel_rfl) ?_
  simp only [nrm]
  refine list_val (.agg (fl [[.int .u32 d.nx], [.slice x4.ao x4.no x4.co], [.int .i64 d.tn], [.int .u32 d.dl], [.slice x4.ah x4.nh x4.ch]])) (by rw [unhide hops]; kernel_rfl) (exec_sw _ 26 (.tmp 9) rfl (g9) (by kernel_rfl) (hB.get 3 (x := ⟨g9, fl [[.int .u32 d.nx], [.slice x4.ao x4.no x4.co], [.int .i64 d.tn], [.int .u32 d.dl], [.slice x4.ah x4.nh x4.ch]], 26⟩) rfl) NC (nC  _ _ _ _ _) Try.underlying26 rfl (by kernel_rfl)) ?_
  simp only [nrm]
  refine list_val (.agg (fl [[.int .u32 d.nx], [.slice x3.ao x3.no x3.co], [.int .i64 d.tn], [.int .u32 d.dl], [.slice x3.ah x3.nh x3.ch]])) (by rw [unhide hops]; kernel_rfl) (exec_sw _ 26 (.tmp 6) rfl (g6) (by kernel_rfl) (hB.get 2 (x := ⟨g6, fl [[.int .u32 d.nx], [.slice x3.ao x3.no x3.co], [.int .i64 d.tn], [.int .u32 d.dl], [.slice x3.ah x3.nh x3.ch]], 26⟩) rfl) NC (nC  _ _ _ _ _) Try.underlying26 rfl (by kernel_rfl)) ?_
  simp only [nrm]
  refine list_call 16 #[.agg (fl [[.int .u32 d.nx], [.slice x4.ao x4.no x4.co], [.int .i64 d.tn], [.int .u32 d.dl], [.slice x4.ah x4.nh x4.ch]]), .agg (fl [[.int .u32 d.nx], [.slice x3.ao x3.no x3.co], [.int .i64 d.tn], [.int .u32 d.dl], [.slice x3.ah x3.nh x3.ch]])] (by rw [unhide hops]; kernel_rfl) (by kernel_rfl) (((show Calls Try.prog 16 #[.agg (fl [[.int .u32 d.nx], [.slice x4.ao x4.no x4.co], [.int .i64 d.tn], [.int .u32 d.dl], [.slice x4.ah x4.nh x4.ch]]), .agg (fl [[.int .u32 d.nx], [.slice x3.ao x3.no x3.co], [.int .i64 d.tn], [.int .u32 d.dl], [.slice x3.ah x3.nh x3.ch]])] u12 (Vl (.bool true) u12) from by have h := rsame_ok d d x4 x3 u12 (unhide hC4).i (unhide hC3).i; rw [decide_eq_true rfl] at h; exact h)).mono ?_)
  rintro r_ u13 ⟨rfl, hg⟩
  replace hC1 := hide ((unhide hC1).gr hg)
  replace hSe := hide ((unhide hSe).gr hg)
  replace hY := hide ((unhide hY).gr hg)
  replace hC3 := hide ((unhide hC3).gr hg)
  replace hbs := hide ((unhide hbs).gr hg)
  replace hC4 := hide ((unhide hC4).gr hg)
  replace hB := hB.more hg
  clear hg
  refine ⟨_, rfl, ?_⟩
  simp only [nrm]
  refine list_val (.bool false) (by rw [unhide hops]; kernel_rfl) (by kernel_rfl) ?_
  simp only [nrm]
  refine list_val (.bool false) (by rw [unhide hops]; kernel_rfl) (by kernel_rfl) ?_
  simp only [nrm]
  refine wpList_nil ?_
  replace hB := hide hB
  go_upto_region 9 with fail
  replace hB := unhide hB
  replace hB := hide hB
  go_upto_region 9 with fail
  replace hB := unhide hB
  refine wp_region_lit ?_
  refine list_val (.agg (fl [[.int .u32 d.nx], [.slice x4.ao x4.no x4.co], [.int .i64 d.tn], [.int .u32 d.dl], [.slice x4.ah x4.nh x4.ch]])) (by kernel_rfl) (exec_sw _ 26 (.tmp 9) rfl (g9) (by kernel_rfl) (hB.get 3 (x := ⟨g9, fl [[.int .u32 d.nx], [.slice x4.ao x4.no x4.co], [.int .i64 d.tn], [.int .u32 d.dl], [.slice x4.ah x4.nh x4.ch]], 26⟩) rfl) NC (nC  _ _ _ _ _) Try.underlying26 rfl (by kernel_rfl)) ?_
  simp only [nrm]
  refine list_call 17 #[.agg (fl [[.int .u32 d.nx], [.slice x4.ao x4.no x4.co], [.int .i64 d.tn], [.int .u32 d.dl], [.slice x4.ah x4.nh x4.ch]])] (by kernel_rfl) (by kernel_rfl) ((spoil_ok d x4 b u13 (unhide hbs) (unhide hC4).i (unhide hC4).o).mono ?_)
  rintro r_ u14 ⟨rfl, hsp⟩
  replace hB := hB.sp hsp (unhide hbw) (by intro y_ hy_; simp only [List.mem_cons, List.not_mem_nil, or_false] at hy_; rcases hy_ with rfl | rfl | rfl | rfl <;> (dsimp only; decide))
  clear hC4
  replace hSe := hide ((unhide hSe).sp hsp (unhide hlS))
  replace hY := hide ((unhide hY).sp hsp (unhide hlY))
  clear hsp
  refine ⟨_, rfl, ?_⟩
  simp only [nrm]
  refine wpList_nil ?_
  replace hB := hide hB
  go_upto_region 10 with fail
  replace hB := unhide hB
  refine wp_region_lit ?_
  refine list_val (.agg (fl [[.int .u32 e.nx], [.slice x1.ao x1.no x1.co], [.int .i64 e.tn], [.int .u32 e.dl], [.slice x1.ah x1.nh x1.ch]])) (by kernel_rfl) (exec_sw _ 26 (.tmp 2) rfl (w.heap.size) (by kernel_rfl) (hB.get 0 (x := ⟨w.heap.size, fl [[.int .u32 e.nx], [.slice x1.ao x1.no x1.co], [.int .i64 e.tn], [.int .u32 e.dl], [.slice x1.ah x1.nh x1.ch]], 26⟩) rfl) NC (nC  _ _ _ _ _) Try.underlying26 rfl (by kernel_rfl)) ?_
  simp only [nrm]
  refine list_val (.agg (fl [[.int .u32 e.nx], [.slice y.ao y.no y.co], [.int .i64 e.tn], [.int .u32 e.dl], [.slice y.ah y.nh y.ch]])) (by kernel_rfl) (exec_sw _ 26 (.tmp 5) rfl (g5) (by kernel_rfl) (hB.get 1 (x := ⟨g5, fl [[.int .u32 e.nx], [.slice y.ao y.no y.co], [.int .i64 e.tn], [.int .u32 e.dl], [.slice y.ah y.nh y.ch]], 26⟩) rfl) NC (nC  _ _ _ _ _) Try.underlying26 rfl (by kernel_rfl)) ?_
  simp only [nrm]
  refine list_call 18 #[.agg (fl [[.int .u32 e.nx], [.slice x1.ao x1.no x1.co], [.int .i64 e.tn], [.int .u32 e.dl], [.slice x1.ah x1.nh x1.ch]]), .agg (fl [[.int .u32 e.nx], [.slice y.ao y.no y.co], [.int .i64 e.tn], [.int .u32 e.dl], [.slice y.ah y.nh y.ch]])] (by kernel_rfl) (by kernel_rfl) ((whole_ok e x1 y w.heap.size u14 (unhide hSe) (unhide hnm) (unhide hY).i).mono ?_)
  rintro r_ u15 ⟨rfl, hg⟩
  replace hSe := hide ((unhide hSe).gr hg)
  replace hY := hide ((unhide hY).gr hg)
  replace hB := hB.more hg
  clear hg
  refine ⟨_, rfl, ?_⟩
  simp only [nrm]
  (refine wpList_step fun K hK => ?_; replace hK := hide hK; go_simp; refine unhide hK _ _ ?_; clear hK K)
  refine wpList_nil ?_
  replace hB := hide hB
  go_wp2_with fail
  replace hB := unhide hB
  rw [unhide hT]
  exact (⟨rfl, hB.gr⟩)
end Go.Proofs.Ytcefkkoombmndaa
