/-
  ConvoSays.
-/
import Derived.Test.YtcefkkoombmndaaUS
namespace Go.Proofs.Ytcefkkoombmndaa
open Go.RowKit
set_option maxRecDepth 100000
set_option linter.unusedSimpArgs false
set_option linter.unusedVariables false
theorem tu_ok {c : Cm} (n : Nums c) : (tu c).2.1.B.length = 105 ∧ IsB (tu c).2.1.B := by
  unfold tu
  split
  · exact s77_ok.2
  · split
    · exact s77_ok.2
    · dsimp only
      by_cases h : c.tn.toNat < c.O.length
      · rw [show c.O.getD c.tn.toNat oZ = c.O[c.tn.toNat] by simp [List.getD, h]]
        exact (n.O _ (List.getElem_mem h)).2
      · rw [show c.O.getD c.tn.toNat oZ = oZ by simp [List.getD, h]]
        exact s77_ok.2
set_option maxHeartbeats 4000000 in
theorem says_law (c : Cm) (x : Lc) (B : List Int) (w : World) (hc : Cin w c x) (hY9 : B.length = 105 ∧ IsB B) : Calls Try.prog 3 #[.agg (fl [[.int .u32 c.nx], [.slice x.ao x.no x.co], [.int .i64 c.tn], [.int .u32 c.dl], [.slice x.ah x.nh x.ch]]), .agg (fl [bw B])] w (Vl (.bool true) w) := by
  obtain ⟨T, hT⟩ : ∃ T : Ending → World → Prop, T = (Vl (.bool true) w) := ⟨_, rfl⟩
  rw [← hT]
  replace hT := hide hT
  replace hc := hide hc; replace hY9 := hide hY9
  obtain ⟨A0_, hA0_⟩ : ∃ S_, S_ = fl [[.int .u32 c.nx], [.slice x.ao x.no x.co], [.int .i64 c.tn], [.int .u32 c.dl], [.slice x.ah x.nh x.ch]] := ⟨_, rfl⟩
  rw [← hA0_]
  replace hA0_ := hide hA0_
  obtain ⟨A1_, hA1_⟩ : ∃ S_, S_ = fl [bw B] := ⟨_, rfl⟩
  rw [← hA1_]
  replace hA1_ := hide hA1_
  go_enter Try.func3, Try.ntmps3
  go_upto_region 1 with fail
  have hB := (((Bl.nil w).new A0_ 26).new A1_ 28)
  simp only [size_alloc, List.nil_append, List.cons_append] at hB
  rw [unhide hA0_, unhide hA1_] at hB
  generalize hu_ : World.alloc _ _ = u0
  replace hB : Bl w [⟨w.heap.size, fl [[.int .u32 c.nx], [.slice x.ao x.no x.co], [.int .i64 c.tn], [.int .u32 c.dl], [.slice x.ah x.nh x.ch]], 26⟩, ⟨w.heap.size + 1, fl [bw B], 28⟩] u0 := by
    rw [← hu_]
    rw [unhide hA0_, unhide hA1_]
    exact hB
  clear hu_ hA0_ hA1_
  refine wp_region_lit ?_
  refine list_call 9 #[] (by kernel_rfl) (by kernel_rfl) ((wakes_ok u0).mono ?_)
  rintro r_ u1 ⟨rfl, hg⟩
  replace hB := hB.more hg
  clear hg
  refine ⟨_, rfl, ?_⟩
  simp only [nrm]
  refine lvk (.bool false) ?_
  simp only [nrm]
  refine wpList_nil ?_
  obtain ⟨e, he⟩ : ∃ e, e = ct c := ⟨_, rfl⟩
  have hnm := (unhide hc).nums.ct
  have e8o := ct_o c
  have e8h := ct_h c
  rw [← he] at hnm e8o e8h
  replace he := hide he; replace hnm := hide hnm
  replace hB := hide hB
  go_upto_region 3 with fail
  replace hB := unhide hB
  refine wp_region_lit ?_
  refine list_val (.agg (fl [[.int .u32 c.nx], [.slice x.ao x.no x.co], [.int .i64 c.tn], [.int .u32 c.dl], [.slice x.ah x.nh x.ch]])) (by kernel_rfl) (exec_sw _ 26 (.tmp 2) rfl (w.heap.size) (by kernel_rfl) (hB.get 0 (x := ⟨w.heap.size, fl [[.int .u32 c.nx], [.slice x.ao x.no x.co], [.int .i64 c.tn], [.int .u32 c.dl], [.slice x.ah x.nh x.ch]], 26⟩) rfl) NC (nC  _ _ _ _ _) Try.underlying26 rfl (by kernel_rfl)) ?_
  simp only [nrm]
  refine list_call 10 #[.agg (fl [[.int .u32 c.nx], [.slice x.ao x.no x.co], [.int .i64 c.tn], [.int .u32 c.dl], [.slice x.ah x.nh x.ch]])] (by kernel_rfl) (by kernel_rfl) (((show Calls Try.prog 10 #[.agg (fl [[.int .u32 c.nx], [.slice x.ao x.no x.co], [.int .i64 c.tn], [.int .u32 c.dl], [.slice x.ah x.nh x.ch]])] u1 (fun r w' => ∃ x', r = .returned (.agg (fl (cvs e x'))) ∧ Sh w.heap.size w' e x' ∧ Gr u1 w') from by have h := short_ok c x u1 ((unhide hc).gr hB.gr); rw [← unhide he] at h; exact h.mono fun r w' h9 => (by obtain ⟨x', h1, h2, h3⟩ := h9; exact ⟨x', h1, h2.base hB.gr.size, h3⟩))).mono ?_)
  rintro r_ u2 ⟨x1, rfl, hSe, hg⟩
  replace hB := hB.more hg
  clear hg
  have hC1 := hide (hSe.co (unhide hnm))
  replace hSe := hide hSe
  refine ⟨_, rfl, ?_⟩
  simp only [nrm]
  have hzz_ : Hid (u2.heap[w.heap.size]? = some (.cells (fl [[.int .u32 c.nx], [.slice x.ao x.no x.co], [.int .i64 c.tn], [.int .u32 c.dl], [.slice x.ah x.nh x.ch]]) 26 (0, 0))) := hide (hB.get 0 (x := ⟨w.heap.size, fl [[.int .u32 c.nx], [.slice x.ao x.no x.co], [.int .i64 c.tn], [.int .u32 c.dl], [.slice x.ah x.nh x.ch]], 26⟩) rfl)
  refine list_all 26 (.tmp 2) (.tmp 17) (w.heap.size) (S2 := [[.int .u32 e.nx], [.slice x1.ao x1.no x1.co], [.int .i64 e.tn], [.int .u32 e.dl], [.slice x1.ah x1.nh x1.ch]]) (by kernel_rfl) rfl (by kernel_rfl) (by kernel_rfl) hB 0 rfl NC (nC  _ _ _ _ _) (nC  _ _ _ _ _) (by kernel_rfl) (oC  rfl rfl rfl rfl rfl) ?_
  intro u3 hB_ hbt_
  clear hB
  replace hB : Bl w [⟨w.heap.size, fl [[.int .u32 e.nx], [.slice x1.ao x1.no x1.co], [.int .i64 e.tn], [.int .u32 e.dl], [.slice x1.ah x1.nh x1.ch]], 26⟩, ⟨w.heap.size + 1, fl [bw B], 28⟩] u3 := hB_
  clear hB_
  replace hC1 := hide ((unhide hC1).bz (unhide hzz_) hbt_)
  replace hSe := hide ((unhide hSe).bz (unhide hzz_) hbt_)
  clear hbt_ hzz_
  simp only [nrm]
  refine wpList_nil ?_
  replace hB := hide hB
  go_upto_region 4 with fail
  replace hB := unhide hB
  refine wp_region_lit ?_
  refine list_val (.agg (fl [[.int .u32 e.nx], [.slice x1.ao x1.no x1.co], [.int .i64 e.tn], [.int .u32 e.dl], [.slice x1.ah x1.nh x1.ch]])) (by kernel_rfl) (exec_sw _ 26 (.tmp 2) rfl (w.heap.size) (by kernel_rfl) (hB.get 0 (x := ⟨w.heap.size, fl [[.int .u32 e.nx], [.slice x1.ao x1.no x1.co], [.int .i64 e.tn], [.int .u32 e.dl], [.slice x1.ah x1.nh x1.ch]], 26⟩) rfl) NC (nC  _ _ _ _ _) Try.underlying26 rfl (by kernel_rfl)) ?_
  simp only [nrm]
  refine list_call 11 #[.agg (fl [[.int .u32 e.nx], [.slice x1.ao x1.no x1.co], [.int .i64 e.tn], [.int .u32 e.dl], [.slice x1.ah x1.nh x1.ch]])] (by kernel_rfl) (by kernel_rfl) (((show Calls Try.prog 11 #[.agg (fl [[.int .u32 e.nx], [.slice x1.ao x1.no x1.co], [.int .i64 e.tn], [.int .u32 e.dl], [.slice x1.ah x1.nh x1.ch]])] u3 (fun r w' => ∃ x', r = .returned (.agg (fl (cvs e x'))) ∧ Co w.heap.size w' e x' ∧ Gr u3 w') from (rcopy_ok e x1 u3 (unhide hC1).i (by have := (unhide hC1).i.o.len; omega) (by have := (unhide hC1).i.h.len; omega)).mono fun r w' h9 => (by obtain ⟨x', h1, h2, _, _, h3⟩ := h9; exact ⟨x', h1, ⟨h2.cin (unhide hnm), h2.owx.base hB.gr.size⟩, h3⟩))).mono ?_)
  rintro r_ u4 ⟨y, rfl, hY, hg⟩
  replace hC1 := hide ((unhide hC1).gr hg)
  replace hSe := hide ((unhide hSe).gr hg)
  replace hB := hB.more hg
  clear hg
  replace hY := hide hY
  refine ⟨_, rfl, ?_⟩
  simp only [nrm]
  refine list_valw (.pointer (some ⟨u4.heap.size, 0, none⟩)) (u4.alloc (.cells (fl [[.int .u32 0], [.slice none 0 0], [.int .i64 0], [.int .u32 0], [.slice none 0 0]]) 26 (0, 0))) (by kernel_rfl) (by kernel_rfl) ?_
  replace hB := hB.new (fl [[.int .u32 0], [.slice none 0 0], [.int .i64 0], [.int .u32 0], [.slice none 0 0]]) 26
  simp only [List.nil_append, List.cons_append] at hB
  have hg := (Gr.refl u4).alloc (.cells (fl [[.int .u32 0], [.slice none 0 0], [.int .i64 0], [.int .u32 0], [.slice none 0 0]]) 26 (0, 0))
  replace hC1 := hide ((unhide hC1).gr hg)
  replace hSe := hide ((unhide hSe).gr hg)
  replace hY := hide ((unhide hY).gr hg)
  clear hg
  generalize World.alloc _ _ = u5 at *
  generalize u4.heap.size = g5 at *
  simp only [nrm]
  have hzz_ : Hid (u5.heap[g5]? = some (.cells (fl [[.int .u32 0], [.slice none 0 0], [.int .i64 0], [.int .u32 0], [.slice none 0 0]]) 26 (0, 0))) := hide (hB.get 2 (x := ⟨g5, fl [[.int .u32 0], [.slice none 0 0], [.int .i64 0], [.int .u32 0], [.slice none 0 0]], 26⟩) rfl)
  refine list_all 26 (.tmp 5) (.tmp 19) (g5) (S2 := [[.int .u32 e.nx], [.slice y.ao y.no y.co], [.int .i64 e.tn], [.int .u32 e.dl], [.slice y.ah y.nh y.ch]]) (by kernel_rfl) rfl (by kernel_rfl) (by kernel_rfl) hB 2 rfl NC (nC  _ _ _ _ _) (nC  _ _ _ _ _) (by kernel_rfl) (oC  rfl rfl rfl rfl rfl) ?_
  intro u6 hB_ hbt_
  clear hB
  replace hB : Bl w [⟨w.heap.size, fl [[.int .u32 e.nx], [.slice x1.ao x1.no x1.co], [.int .i64 e.tn], [.int .u32 e.dl], [.slice x1.ah x1.nh x1.ch]], 26⟩, ⟨w.heap.size + 1, fl [bw B], 28⟩, ⟨g5, fl [[.int .u32 e.nx], [.slice y.ao y.no y.co], [.int .i64 e.tn], [.int .u32 e.dl], [.slice y.ah y.nh y.ch]], 26⟩] u6 := hB_
  clear hB_
  replace hC1 := hide ((unhide hC1).bz (unhide hzz_) hbt_)
  replace hSe := hide ((unhide hSe).bz (unhide hzz_) hbt_)
  replace hY := hide ((unhide hY).bz (unhide hzz_) hbt_)
  clear hbt_ hzz_
  simp only [nrm]
  refine wpList_nil ?_
  cases h1 : rt e with
  | false =>
    have hk := chk_f h1
    replace h1 := hide h1; replace hk := hide hk
    replace hB := hide hB
    go_upto_region 5 with fail
    replace hB := unhide hB
    refine any_start (S := fun v_ => v_.heap[w.heap.size]? = some (.cells (fl [[.int .u32 e.nx], [.slice x1.ao x1.no x1.co], [.int .i64 e.tn], [.int .u32 e.dl], [.slice x1.ah x1.nh x1.ch]]) 26 (0, 0))) (by kernel_rfl) ?_
    replace hC1 := hide ((unhide hC1).gr ((Gr.refl u6).drew))
    replace hSe := hide ((unhide hSe).gr ((Gr.refl u6).drew))
    replace hY := hide ((unhide hY).gr ((Gr.refl u6).drew))
    replace hB := hB.drew
    generalize World.drew _ = u7 at *
    simp only [List.size_toArray, List.length_cons, List.length_nil, Array.replicate, List.replicate]
    have hS_ := hide (show (fun v_ => v_.heap[w.heap.size]? = some (.cells (fl [[.int .u32 e.nx], [.slice x1.ao x1.no x1.co], [.int .i64 e.tn], [.int .u32 e.dl], [.slice x1.ah x1.nh x1.ch]]) 26 (0, 0))) u7 from (hB.get 0 (x := ⟨w.heap.size, fl [[.int .u32 e.nx], [.slice x1.ao x1.no x1.co], [.int .i64 e.tn], [.int .u32 e.dl], [.slice x1.ah x1.nh x1.ch]], 26⟩) rfl))
    refine any_tk 0 (.agg (fl [[.int .u32 e.nx], [.slice x1.ao x1.no x1.co], [.int .i64 e.tn], [.int .u32 e.dl], [.slice x1.ah x1.nh x1.ch]])) (tf 16 0) rfl (fun x_ hu => exec_sw _ 26 (.tmp 2) rfl (w.heap.size) (by kernel_rfl) hu NC (nC  _ _ _ _ _) Try.underlying26 rfl (by kernel_rfl)) (unhide hS_) ?_
    simp only [nrm]
    refine any_tk 3 (.agg (fl [[.int .u32 e.nx], [.slice x1.ao x1.no x1.co], [.int .i64 e.tn], [.int .u32 e.dl], [.slice x1.ah x1.nh x1.ch]])) (tf 16 1) rfl (fun x_ hu => exec_sw _ 26 (.tmp 2) rfl (w.heap.size) (by kernel_rfl) hu NC (nC  _ _ _ _ _) Try.underlying26 rfl (by kernel_rfl)) (unhide hS_) ?_
    simp only [nrm]
    refine any_one (i := 1) (by kernel_rfl) rfl (fun K hK => ?_)
    refine step_callw (by kernel_rfl) 12 #[.agg (fl [[.int .u32 e.nx], [.slice x1.ao x1.no x1.co], [.int .i64 e.tn], [.int .u32 e.dl], [.slice x1.ah x1.nh x1.ch]])] (by kernel_rfl) (((show Calls Try.prog 12 #[.agg (fl [[.int .u32 e.nx], [.slice x1.ao x1.no x1.co], [.int .i64 e.tn], [.int .u32 e.dl], [.slice x1.ah x1.nh x1.ch]])] u7 (Vl (.int .i64 281) u7) from unhide hk ▸ check_ok e x1 u7 (unhide hC1).i)).mono ?_)
    rintro r_ u8 ⟨rfl, hg⟩
    replace hC1 := hide ((unhide hC1).gr hg)
    replace hSe := hide ((unhide hSe).gr hg)
    replace hY := hide ((unhide hY).gr hg)
    replace hB := hB.more hg
    clear hg
    refine ⟨_, rfl, ?_⟩
    clear hS_
    have hS_ := hide (show (fun v_ => v_.heap[w.heap.size]? = some (.cells (fl [[.int .u32 e.nx], [.slice x1.ao x1.no x1.co], [.int .i64 e.tn], [.int .u32 e.dl], [.slice x1.ah x1.nh x1.ch]]) 26 (0, 0))) u8 from (hB.get 0 (x := ⟨w.heap.size, fl [[.int .u32 e.nx], [.slice x1.ao x1.no x1.co], [.int .i64 e.tn], [.int .u32 e.dl], [.slice x1.ah x1.nh x1.ch]], 26⟩) rfl))
    refine hK.out _ _ (unhide hS_) (fun _ => ?_)
    clear hK K
    simp only [nrm]
    refine any_tk 2 (.bool false) #[true, true, false, true, false, false, false, false, false, false, false, false, false, false, false, false] rfl (fun x_ hu => eql_e _ (.tmp 21) (.const (.int .i64 0)) 281 0 false rfl (by kernel_rfl) (by kernel_rfl) (by decide)) (unhide hS_) ?_
    simp only [nrm]
    refine any_one (i := 4) (by kernel_rfl) rfl (fun K hK => ?_)
    refine step_callw (by kernel_rfl) 13 #[.agg (fl [[.int .u32 e.nx], [.slice x1.ao x1.no x1.co], [.int .i64 e.tn], [.int .u32 e.dl], [.slice x1.ah x1.nh x1.ch]])] (by kernel_rfl) (((show Calls Try.prog 13 #[.agg (fl [[.int .u32 e.nx], [.slice x1.ao x1.no x1.co], [.int .i64 e.tn], [.int .u32 e.dl], [.slice x1.ah x1.nh x1.ch]])] u8 (Vl (.bool false) u8) from unhide h1 ▸ right_ok e x1 u8 (unhide hC1).i)).mono ?_)
    rintro r_ u9 ⟨rfl, hg⟩
    replace hC1 := hide ((unhide hC1).gr hg)
    replace hSe := hide ((unhide hSe).gr hg)
    replace hY := hide ((unhide hY).gr hg)
    replace hB := hB.more hg
    clear hg
    refine ⟨_, rfl, ?_⟩
    clear hS_
    have hS_ := hide (show (fun v_ => v_.heap[w.heap.size]? = some (.cells (fl [[.int .u32 e.nx], [.slice x1.ao x1.no x1.co], [.int .i64 e.tn], [.int .u32 e.dl], [.slice x1.ah x1.nh x1.ch]]) 26 (0, 0))) u9 from (hB.get 0 (x := ⟨w.heap.size, fl [[.int .u32 e.nx], [.slice x1.ao x1.no x1.co], [.int .i64 e.tn], [.int .u32 e.dl], [.slice x1.ah x1.nh x1.ch]], 26⟩) rfl))
    refine hK.out _ _ (unhide hS_) (fun _ => ?_)
    clear hK K
    simp only [nrm]
    refine any_tk 5 (.bool false) (tf 16 5) rfl (fun x_ hu => by kernel_rfl) (unhide hS_) ?_
    simp only [nrm]
    refine any_tk 6 (.bool false) (tf 16 6) rfl (fun x_ hu => by kernel_rfl) (unhide hS_) ?_
    simp only [nrm]
    refine any_tk 7 (.agg (fl [[.int .u32 e.nx], [.slice x1.ao x1.no x1.co], [.int .i64 e.tn], [.int .u32 e.dl], [.slice x1.ah x1.nh x1.ch]])) (tf 16 7) rfl (fun x_ hu => exec_sw _ 26 (.tmp 2) rfl (w.heap.size) (by kernel_rfl) hu NC (nC  _ _ _ _ _) Try.underlying26 rfl (by kernel_rfl)) (unhide hS_) ?_
    simp only [nrm]
    refine any_one (i := 8) (by kernel_rfl) rfl (fun K hK => ?_)
    refine step_callw (by kernel_rfl) 12 #[.agg (fl [[.int .u32 e.nx], [.slice x1.ao x1.no x1.co], [.int .i64 e.tn], [.int .u32 e.dl], [.slice x1.ah x1.nh x1.ch]])] (by kernel_rfl) (((show Calls Try.prog 12 #[.agg (fl [[.int .u32 e.nx], [.slice x1.ao x1.no x1.co], [.int .i64 e.tn], [.int .u32 e.dl], [.slice x1.ah x1.nh x1.ch]])] u9 (Vl (.int .i64 281) u9) from unhide hk ▸ check_ok e x1 u9 (unhide hC1).i)).mono ?_)
    rintro r_ u10 ⟨rfl, hg⟩
    replace hC1 := hide ((unhide hC1).gr hg)
    replace hSe := hide ((unhide hSe).gr hg)
    replace hY := hide ((unhide hY).gr hg)
    replace hB := hB.more hg
    clear hg
    refine ⟨_, rfl, ?_⟩
    clear hS_
    have hS_ := hide (show (fun v_ => v_.heap[w.heap.size]? = some (.cells (fl [[.int .u32 e.nx], [.slice x1.ao x1.no x1.co], [.int .i64 e.tn], [.int .u32 e.dl], [.slice x1.ah x1.nh x1.ch]]) 26 (0, 0))) u10 from (hB.get 0 (x := ⟨w.heap.size, fl [[.int .u32 e.nx], [.slice x1.ao x1.no x1.co], [.int .i64 e.tn], [.int .u32 e.dl], [.slice x1.ah x1.nh x1.ch]], 26⟩) rfl))
    refine hK.out _ _ (unhide hS_) (fun _ => ?_)
    clear hK K
    simp only [nrm]
    refine any_tk 9 (.bool true) (tf 16 9) rfl (fun x_ hu => neq_e _ (.tmp 28) (.const (.int .i64 0)) 281 0 true rfl (by kernel_rfl) (by kernel_rfl) (by decide)) (unhide hS_) ?_
    simp only [nrm]
    refine any_tk 10 (.bool true) (tf 16 10) rfl (fun x_ hu => by kernel_rfl) (unhide hS_) ?_
    simp only [nrm]
    refine any_tk 11 (.agg (fl [[.int .u32 e.nx], [.slice x1.ao x1.no x1.co], [.int .i64 e.tn], [.int .u32 e.dl], [.slice x1.ah x1.nh x1.ch]])) (tf 16 11) rfl (fun x_ hu => exec_sw _ 26 (.tmp 2) rfl (w.heap.size) (by kernel_rfl) hu NC (nC  _ _ _ _ _) Try.underlying26 rfl (by kernel_rfl)) (unhide hS_) ?_
    simp only [nrm]
    refine any_one (i := 12) (by kernel_rfl) rfl (fun K hK => ?_)
    refine step_callw (by kernel_rfl) 12 #[.agg (fl [[.int .u32 e.nx], [.slice x1.ao x1.no x1.co], [.int .i64 e.tn], [.int .u32 e.dl], [.slice x1.ah x1.nh x1.ch]])] (by kernel_rfl) (((show Calls Try.prog 12 #[.agg (fl [[.int .u32 e.nx], [.slice x1.ao x1.no x1.co], [.int .i64 e.tn], [.int .u32 e.dl], [.slice x1.ah x1.nh x1.ch]])] u10 (Vl (.int .i64 281) u10) from unhide hk ▸ check_ok e x1 u10 (unhide hC1).i)).mono ?_)
    rintro r_ u11 ⟨rfl, hg⟩
    replace hC1 := hide ((unhide hC1).gr hg)
    replace hSe := hide ((unhide hSe).gr hg)
    replace hY := hide ((unhide hY).gr hg)
    replace hB := hB.more hg
    clear hg
    refine ⟨_, rfl, ?_⟩
    clear hS_
    have hS_ := hide (show (fun v_ => v_.heap[w.heap.size]? = some (.cells (fl [[.int .u32 e.nx], [.slice x1.ao x1.no x1.co], [.int .i64 e.tn], [.int .u32 e.dl], [.slice x1.ah x1.nh x1.ch]]) 26 (0, 0))) u11 from (hB.get 0 (x := ⟨w.heap.size, fl [[.int .u32 e.nx], [.slice x1.ao x1.no x1.co], [.int .i64 e.tn], [.int .u32 e.dl], [.slice x1.ah x1.nh x1.ch]], 26⟩) rfl))
    refine hK.out _ _ (unhide hS_) (fun _ => ?_)
    clear hK K
    simp only [nrm]
    refine any_tk 13 (.bool false) (tf 16 13) rfl (fun x_ hu => neq_e _ (.tmp 32) (.const (.int .i64 281)) 281 281 false rfl (by kernel_rfl) (by kernel_rfl) (by decide)) (unhide hS_) ?_
    simp only [nrm]
    refine any_tk 14 (.bool false) (tf 16 14) rfl (fun x_ hu => by kernel_rfl) (unhide hS_) ?_
    simp only [nrm]
    refine any_tk 15 (.bool false) (tf 16 15) rfl (fun x_ hu => by kernel_rfl) (unhide hS_) ?_
    simp only [nrm]
    refine any_done (by kernel_rfl) ?_
    clear hS_
    obtain ⟨d, g, er, hak⟩ : ∃ d g er, qu e B = (d, g, er) := ⟨_, _, _, rfl⟩
    replace hak := hide hak
    replace hB := hide hB
    go_upto_region 7 with fail
    replace hB := unhide hB
    refine wp_region_lit ?_
    refine list_val (.agg (fl [[.int .u32 e.nx], [.slice x1.ao x1.no x1.co], [.int .i64 e.tn], [.int .u32 e.dl], [.slice x1.ah x1.nh x1.ch]])) (by kernel_rfl) (exec_sw _ 26 (.tmp 2) rfl (w.heap.size) (by kernel_rfl) (hB.get 0 (x := ⟨w.heap.size, fl [[.int .u32 e.nx], [.slice x1.ao x1.no x1.co], [.int .i64 e.tn], [.int .u32 e.dl], [.slice x1.ah x1.nh x1.ch]], 26⟩) rfl) NC (nC  _ _ _ _ _) Try.underlying26 rfl (by kernel_rfl)) ?_
    simp only [nrm]
    refine list_val (.agg (fl [bw B])) (by kernel_rfl) (exec_sw _ 28 (.tmp 3) rfl (w.heap.size + 1) (by kernel_rfl) (hB.get 1 (x := ⟨w.heap.size + 1, fl [bw B], 28⟩) rfl) NY (nY (unhide hY9).1) Try.underlying28 rfl (by kernel_rfl)) ?_
    simp only [nrm]
    refine list_call 14 #[.agg (fl [[.int .u32 e.nx], [.slice x1.ao x1.no x1.co], [.int .i64 e.tn], [.int .u32 e.dl], [.slice x1.ah x1.nh x1.ch]]), .agg (fl [bw B])] (by kernel_rfl) (by kernel_rfl) (((show Calls Try.prog 14 #[.agg (fl [[.int .u32 e.nx], [.slice x1.ao x1.no x1.co], [.int .i64 e.tn], [.int .u32 e.dl], [.slice x1.ah x1.nh x1.ch]]), .agg (fl [bw B])] u11 (fun r w' => ∃ x', r = .returned (.tuple (.agg (fl (cvs d x')) :: [.int .u32 g, .int .i64 er]).toArray) ∧ Co w.heap.size w' d x' ∧ Gr u11 w') from by have h := rqueue_ok e x1 B (unhide hY9) u11 (unhide hC1).i; rw [unhide hak] at h; exact h.mono fun r w' h9 => (by obtain ⟨x', h1, h2, h3, h4⟩ := h9; exact ⟨x', h1, ⟨h2, h3.base (hB.gr.size)⟩, h4⟩))).mono ?_)
    rintro r_ u12 ⟨x3, rfl, hC3, hg⟩
    replace hC1 := hide ((unhide hC1).gr hg)
    replace hSe := hide ((unhide hSe).gr hg)
    replace hY := hide ((unhide hY).gr hg)
    replace hB := hB.more hg
    clear hg
    replace hC3 := hide hC3
    refine ⟨_, rfl, ?_⟩
    simp only [nrm]
    refine lvk (.tuple #[.agg (fl [[.int .u32 d.nx], [.slice x3.ao x3.no x3.co], [.int .i64 d.tn], [.int .u32 d.dl], [.slice x3.ah x3.nh x3.ch]]), .int .u32 g, .int .i64 er]) ?_
    simp only [nrm]
    refine lvk (.agg (fl [[.int .u32 d.nx], [.slice x3.ao x3.no x3.co], [.int .i64 d.tn], [.int .u32 d.dl], [.slice x3.ah x3.nh x3.ch]])) ?_
    simp only [nrm]
    refine lvk (.int .u32 g) ?_
    simp only [nrm]
    refine lvk (.int .i64 er) ?_
    simp only [nrm]
    refine list_valw (.pointer (some ⟨u12.heap.size, 0, none⟩)) (u12.alloc (.cells (fl [[.int .u32 0], [.slice none 0 0], [.int .i64 0], [.int .u32 0], [.slice none 0 0]]) 26 (0, 0))) (by kernel_rfl) (by kernel_rfl) ?_
    replace hB := hB.new (fl [[.int .u32 0], [.slice none 0 0], [.int .i64 0], [.int .u32 0], [.slice none 0 0]]) 26
    simp only [List.nil_append, List.cons_append] at hB
    have hg := (Gr.refl u12).alloc (.cells (fl [[.int .u32 0], [.slice none 0 0], [.int .i64 0], [.int .u32 0], [.slice none 0 0]]) 26 (0, 0))
    replace hC1 := hide ((unhide hC1).gr hg)
    replace hSe := hide ((unhide hSe).gr hg)
    replace hY := hide ((unhide hY).gr hg)
    replace hC3 := hide ((unhide hC3).gr hg)
    clear hg
    generalize World.alloc _ _ = u13 at *
    generalize u12.heap.size = g6 at *
    simp only [nrm]
    have hzz_ : Hid (u13.heap[g6]? = some (.cells (fl [[.int .u32 0], [.slice none 0 0], [.int .i64 0], [.int .u32 0], [.slice none 0 0]]) 26 (0, 0))) := hide (hB.get 3 (x := ⟨g6, fl [[.int .u32 0], [.slice none 0 0], [.int .i64 0], [.int .u32 0], [.slice none 0 0]], 26⟩) rfl)
    refine list_all 26 (.tmp 6) (.tmp 40) (g6) (S2 := [[.int .u32 d.nx], [.slice x3.ao x3.no x3.co], [.int .i64 d.tn], [.int .u32 d.dl], [.slice x3.ah x3.nh x3.ch]]) (by kernel_rfl) rfl (by kernel_rfl) (by kernel_rfl) hB 3 rfl NC (nC  _ _ _ _ _) (nC  _ _ _ _ _) (by kernel_rfl) (oC  rfl rfl rfl rfl rfl) ?_
    intro u14 hB_ hbt_
    clear hB
    replace hB : Bl w [⟨w.heap.size, fl [[.int .u32 e.nx], [.slice x1.ao x1.no x1.co], [.int .i64 e.tn], [.int .u32 e.dl], [.slice x1.ah x1.nh x1.ch]], 26⟩, ⟨w.heap.size + 1, fl [bw B], 28⟩, ⟨g5, fl [[.int .u32 e.nx], [.slice y.ao y.no y.co], [.int .i64 e.tn], [.int .u32 e.dl], [.slice y.ah y.nh y.ch]], 26⟩, ⟨g6, fl [[.int .u32 d.nx], [.slice x3.ao x3.no x3.co], [.int .i64 d.tn], [.int .u32 d.dl], [.slice x3.ah x3.nh x3.ch]], 26⟩] u14 := hB_
    clear hB_
    replace hC1 := hide ((unhide hC1).bz (unhide hzz_) hbt_)
    replace hSe := hide ((unhide hSe).bz (unhide hzz_) hbt_)
    replace hY := hide ((unhide hY).bz (unhide hzz_) hbt_)
    replace hC3 := hide ((unhide hC3).bz (unhide hzz_) hbt_)
    clear hbt_ hzz_
    simp only [nrm]
    (refine wpList_step fun K hK => ?_; replace hK := hide hK; go_simp; refine unhide hK _ _ ?_; clear hK K)
    (refine wpList_step fun K hK => ?_; replace hK := hide hK; go_simp; refine unhide hK _ _ ?_; clear hK K)
    refine wpList_nil ?_
    replace hB := hide hB
    go_upto_region 8 with fail
    replace hB := unhide hB
    obtain ⟨b, hb⟩ : ∃ b_, b_ = u14.heap.size := ⟨_, rfl⟩
    have hbw : Hid (w.heap.size ≤ b) := hide (by rw [hb]; exact hB.gr.size)
    have hlSb := hide (unhide hSe).lt
    have hlYb := hide (unhide hY).o.lt
    rw [← hb] at hlSb hlYb
    have hbs : Hid (Bz b u14) := hide (Nat.le_of_eq hb)
    refine wp_region_lit ?_
    refine list_val (.agg (fl [[.int .u32 e.nx], [.slice x1.ao x1.no x1.co], [.int .i64 e.tn], [.int .u32 e.dl], [.slice x1.ah x1.nh x1.ch]])) (by kernel_rfl) (exec_sw _ 26 (.tmp 2) rfl (w.heap.size) (by kernel_rfl) (hB.get 0 (x := ⟨w.heap.size, fl [[.int .u32 e.nx], [.slice x1.ao x1.no x1.co], [.int .i64 e.tn], [.int .u32 e.dl], [.slice x1.ah x1.nh x1.ch]], 26⟩) rfl) NC (nC  _ _ _ _ _) Try.underlying26 rfl (by kernel_rfl)) ?_
    simp only [nrm]
    refine list_val (.agg (fl [bw B])) (by kernel_rfl) (exec_sw _ 28 (.tmp 3) rfl (w.heap.size + 1) (by kernel_rfl) (hB.get 1 (x := ⟨w.heap.size + 1, fl [bw B], 28⟩) rfl) NY (nY (unhide hY9).1) Try.underlying28 rfl (by kernel_rfl)) ?_
    simp only [nrm]
    refine list_call 15 #[.agg (fl [[.int .u32 e.nx], [.slice x1.ao x1.no x1.co], [.int .i64 e.tn], [.int .u32 e.dl], [.slice x1.ah x1.nh x1.ch]]), .agg (fl [bw B])] (by kernel_rfl) (by kernel_rfl) (((show Calls Try.prog 15 #[.agg (fl [[.int .u32 e.nx], [.slice x1.ao x1.no x1.co], [.int .i64 e.tn], [.int .u32 e.dl], [.slice x1.ah x1.nh x1.ch]]), .agg (fl [bw B])] u14 (fun r w' => ∃ x', r = .returned (.tuple (.agg (fl (cvs d x')) :: [.int .u32 g, .int .i64 er]).toArray) ∧ Co b w' d x' ∧ Gr u14 w') from by have h := queue_ok e x1 B (unhide hY9) u14 (unhide hC1).i; rw [unhide hak] at h; exact h.mono fun r w' h9 => (by obtain ⟨x', h1, h2, h3, h4⟩ := h9; exact ⟨x', h1, ⟨h2, h3.base (by rw [hb]; exact Nat.le_refl _)⟩, h4⟩))).mono ?_)
    rintro r_ u15 ⟨x4, rfl, hC4, hg⟩
    replace hC1 := hide ((unhide hC1).gr hg)
    replace hSe := hide ((unhide hSe).gr hg)
    replace hY := hide ((unhide hY).gr hg)
    replace hC3 := hide ((unhide hC3).gr hg)
    replace hbs := hide ((unhide hbs).gr hg)
    replace hB := hB.more hg
    clear hg
    replace hC4 := hide hC4
    refine ⟨_, rfl, ?_⟩
    simp only [nrm]
    refine lvk (.tuple #[.agg (fl [[.int .u32 d.nx], [.slice x4.ao x4.no x4.co], [.int .i64 d.tn], [.int .u32 d.dl], [.slice x4.ah x4.nh x4.ch]]), .int .u32 g, .int .i64 er]) ?_
    simp only [nrm]
    refine lvk (.agg (fl [[.int .u32 d.nx], [.slice x4.ao x4.no x4.co], [.int .i64 d.tn], [.int .u32 d.dl], [.slice x4.ah x4.nh x4.ch]])) ?_
    simp only [nrm]
    refine lvk (.int .u32 g) ?_
    simp only [nrm]
    refine lvk (.int .i64 er) ?_
    simp only [nrm]
    refine list_valw (.pointer (some ⟨u15.heap.size, 0, none⟩)) (u15.alloc (.cells (fl [[.int .u32 0], [.slice none 0 0], [.int .i64 0], [.int .u32 0], [.slice none 0 0]]) 26 (0, 0))) (by kernel_rfl) (by kernel_rfl) ?_
    replace hB := hB.new (fl [[.int .u32 0], [.slice none 0 0], [.int .i64 0], [.int .u32 0], [.slice none 0 0]]) 26
    simp only [List.nil_append, List.cons_append] at hB
    have hg := (Gr.refl u15).alloc (.cells (fl [[.int .u32 0], [.slice none 0 0], [.int .i64 0], [.int .u32 0], [.slice none 0 0]]) 26 (0, 0))
    replace hC1 := hide ((unhide hC1).gr hg)
    replace hSe := hide ((unhide hSe).gr hg)
    replace hY := hide ((unhide hY).gr hg)
    replace hC3 := hide ((unhide hC3).gr hg)
    replace hbs := hide ((unhide hbs).gr hg)
    replace hC4 := hide ((unhide hC4).gr hg)
    clear hg
    generalize World.alloc _ _ = u16 at *
    generalize u15.heap.size = g9 at *
    simp only [nrm]
    have hzz_ : Hid (u16.heap[g9]? = some (.cells (fl [[.int .u32 0], [.slice none 0 0], [.int .i64 0], [.int .u32 0], [.slice none 0 0]]) 26 (0, 0))) := hide (hB.get 4 (x := ⟨g9, fl [[.int .u32 0], [.slice none 0 0], [.int .i64 0], [.int .u32 0], [.slice none 0 0]], 26⟩) rfl)
    refine list_all 26 (.tmp 9) (.tmp 47) (g9) (S2 := [[.int .u32 d.nx], [.slice x4.ao x4.no x4.co], [.int .i64 d.tn], [.int .u32 d.dl], [.slice x4.ah x4.nh x4.ch]]) (by kernel_rfl) rfl (by kernel_rfl) (by kernel_rfl) hB 4 rfl NC (nC  _ _ _ _ _) (nC  _ _ _ _ _) (by kernel_rfl) (oC  rfl rfl rfl rfl rfl) ?_
    intro u17 hB_ hbt_
    clear hB
    replace hB : Bl w [⟨w.heap.size, fl [[.int .u32 e.nx], [.slice x1.ao x1.no x1.co], [.int .i64 e.tn], [.int .u32 e.dl], [.slice x1.ah x1.nh x1.ch]], 26⟩, ⟨w.heap.size + 1, fl [bw B], 28⟩, ⟨g5, fl [[.int .u32 e.nx], [.slice y.ao y.no y.co], [.int .i64 e.tn], [.int .u32 e.dl], [.slice y.ah y.nh y.ch]], 26⟩, ⟨g6, fl [[.int .u32 d.nx], [.slice x3.ao x3.no x3.co], [.int .i64 d.tn], [.int .u32 d.dl], [.slice x3.ah x3.nh x3.ch]], 26⟩, ⟨g9, fl [[.int .u32 d.nx], [.slice x4.ao x4.no x4.co], [.int .i64 d.tn], [.int .u32 d.dl], [.slice x4.ah x4.nh x4.ch]], 26⟩] u17 := hB_
    clear hB_
    replace hC1 := hide ((unhide hC1).bz (unhide hzz_) hbt_)
    replace hSe := hide ((unhide hSe).bz (unhide hzz_) hbt_)
    replace hY := hide ((unhide hY).bz (unhide hzz_) hbt_)
    replace hC3 := hide ((unhide hC3).bz (unhide hzz_) hbt_)
    replace hbs := hide ((unhide hbs).bz (unhide hzz_) hbt_)
    replace hC4 := hide ((unhide hC4).bz (unhide hzz_) hbt_)
    clear hbt_ hzz_
    simp only [nrm]
    (refine wpList_step fun K hK => ?_; replace hK := hide hK; go_simp; refine unhide hK _ _ ?_; clear hK K)
    (refine wpList_step fun K hK => ?_; replace hK := hide hK; go_simp; refine unhide hK _ _ ?_; clear hK K)
    refine wpList_nil ?_
    replace hB := hide hB
    go_upto_region 9 with fail
    replace hB := unhide hB
    refine wp_region_lit ?_
    refine wpList_gen fun ops_ hops => ?_
    replace hops := hide hops
    refine list_val (.int .i64 er) (by rw [unhide hops]; kernel_rfl) (by kernel_rfl) ?_
    simp only [nrm]
    refine list_val (.int .i64 er) (by rw [unhide hops]; kernel_rfl) (by kernel_rfl) ?_
    simp only [nrm]
    refine list_val (.bool false) (by rw [unhide hops]; kernel_rfl) (neq_e _ (.tmp 50) (.tmp 51) er er false rfl (by kernel_rfl) (by kernel_rfl) (by simp)) ?_
    simp only [nrm]
    refine list_val (.bool false) (by rw [unhide hops]; kernel_rfl) (by kernel_rfl) ?_
    simp only [nrm]
    refine list_val (.int .u32 g) (by rw [unhide hops]; kernel_rfl) (by kernel_rfl) ?_
    simp only [nrm]
    refine list_val (.int .u32 g) (by rw [unhide hops]; kernel_rfl) (by kernel_rfl) ?_
    simp only [nrm]
    refine list_val (.bool false) (by rw [unhide hops]; kernel_rfl) (neq_32 _ (.tmp 54) (.tmp 55) g g false rfl (by kernel_rfl) (by kernel_rfl) (by simp)) ?_
    simp only [nrm]
    refine list_val (.bool false) (by rw [unhide hops]; kernel_rfl) (by kernel_rfl) ?_
    simp only [nrm]
    refine list_val (.bool false) (by rw [unhide hops]; kernel_rfl) (by kernel_rfl) ?_
    simp only [nrm]
    refine list_val (.agg (fl [[.int .u32 d.nx], [.slice x4.ao x4.no x4.co], [.int .i64 d.tn], [.int .u32 d.dl], [.slice x4.ah x4.nh x4.ch]])) (by rw [unhide hops]; kernel_rfl) (exec_sw _ 26 (.tmp 9) rfl (g9) (by kernel_rfl) (hB.get 4 (x := ⟨g9, fl [[.int .u32 d.nx], [.slice x4.ao x4.no x4.co], [.int .i64 d.tn], [.int .u32 d.dl], [.slice x4.ah x4.nh x4.ch]], 26⟩) rfl) NC (nC  _ _ _ _ _) Try.underlying26 rfl (by kernel_rfl)) ?_
    simp only [nrm]
    refine list_val (.agg (fl [[.int .u32 d.nx], [.slice x3.ao x3.no x3.co], [.int .i64 d.tn], [.int .u32 d.dl], [.slice x3.ah x3.nh x3.ch]])) (by rw [unhide hops]; kernel_rfl) (exec_sw _ 26 (.tmp 6) rfl (g6) (by kernel_rfl) (hB.get 3 (x := ⟨g6, fl [[.int .u32 d.nx], [.slice x3.ao x3.no x3.co], [.int .i64 d.tn], [.int .u32 d.dl], [.slice x3.ah x3.nh x3.ch]], 26⟩) rfl) NC (nC  _ _ _ _ _) Try.underlying26 rfl (by kernel_rfl)) ?_
    simp only [nrm]
    refine list_call 16 #[.agg (fl [[.int .u32 d.nx], [.slice x4.ao x4.no x4.co], [.int .i64 d.tn], [.int .u32 d.dl], [.slice x4.ah x4.nh x4.ch]]), .agg (fl [[.int .u32 d.nx], [.slice x3.ao x3.no x3.co], [.int .i64 d.tn], [.int .u32 d.dl], [.slice x3.ah x3.nh x3.ch]])] (by rw [unhide hops]; kernel_rfl) (by kernel_rfl) (((show Calls Try.prog 16 #[.agg (fl [[.int .u32 d.nx], [.slice x4.ao x4.no x4.co], [.int .i64 d.tn], [.int .u32 d.dl], [.slice x4.ah x4.nh x4.ch]]), .agg (fl [[.int .u32 d.nx], [.slice x3.ao x3.no x3.co], [.int .i64 d.tn], [.int .u32 d.dl], [.slice x3.ah x3.nh x3.ch]])] u17 (Vl (.bool true) u17) from by have h := rsame_ok d d x4 x3 u17 (unhide hC4).i (unhide hC3).i; rw [decide_eq_true rfl] at h; exact h)).mono ?_)
    rintro r_ u18 ⟨rfl, hg⟩
    replace hC1 := hide ((unhide hC1).gr hg)
    replace hSe := hide ((unhide hSe).gr hg)
    replace hY := hide ((unhide hY).gr hg)
    replace hC3 := hide ((unhide hC3).gr hg)
    replace hbs := hide ((unhide hbs).gr hg)
    replace hC4 := hide ((unhide hC4).gr hg)
    replace hB := hB.more hg
    clear hg
    refine ⟨_, rfl, ?_⟩
    simp only [nrm]
    refine list_val (.bool false) (by rw [unhide hops]; kernel_rfl) (by kernel_rfl) ?_
    simp only [nrm]
    refine list_val (.bool false) (by rw [unhide hops]; kernel_rfl) (by kernel_rfl) ?_
    simp only [nrm]
    refine wpList_nil ?_
    replace hB := hide hB
    go_upto_region 11 with fail
    replace hB := unhide hB
    refine wp_region_lit ?_
    refine list_val (.agg (fl [[.int .u32 d.nx], [.slice x4.ao x4.no x4.co], [.int .i64 d.tn], [.int .u32 d.dl], [.slice x4.ah x4.nh x4.ch]])) (by kernel_rfl) (exec_sw _ 26 (.tmp 9) rfl (g9) (by kernel_rfl) (hB.get 4 (x := ⟨g9, fl [[.int .u32 d.nx], [.slice x4.ao x4.no x4.co], [.int .i64 d.tn], [.int .u32 d.dl], [.slice x4.ah x4.nh x4.ch]], 26⟩) rfl) NC (nC  _ _ _ _ _) Try.underlying26 rfl (by kernel_rfl)) ?_
    simp only [nrm]
    refine list_call 17 #[.agg (fl [[.int .u32 d.nx], [.slice x4.ao x4.no x4.co], [.int .i64 d.tn], [.int .u32 d.dl], [.slice x4.ah x4.nh x4.ch]])] (by kernel_rfl) (by kernel_rfl) ((spoil_ok d x4 b u18 (unhide hbs) (unhide hC4).i (unhide hC4).o).mono ?_)
    rintro r_ u19 ⟨rfl, hsp⟩
    replace hB := hB.sp hsp (unhide hbw) (by intro y_ hy_; simp only [List.mem_cons, List.not_mem_nil, or_false] at hy_; rcases hy_ with rfl | rfl | rfl | rfl | rfl <;> (dsimp only; decide))
    clear hC4
    replace hSe := hide ((unhide hSe).sp hsp (unhide hlSb))
    replace hY := hide ((unhide hY).sp hsp (unhide hlYb))
    clear hsp
    refine ⟨_, rfl, ?_⟩
    simp only [nrm]
    refine wpList_nil ?_
    replace hB := hide hB
    go_upto_region 12 with fail
    replace hB := unhide hB
    refine wp_region_lit ?_
    refine list_val (.agg (fl [[.int .u32 e.nx], [.slice x1.ao x1.no x1.co], [.int .i64 e.tn], [.int .u32 e.dl], [.slice x1.ah x1.nh x1.ch]])) (by kernel_rfl) (exec_sw _ 26 (.tmp 2) rfl (w.heap.size) (by kernel_rfl) (hB.get 0 (x := ⟨w.heap.size, fl [[.int .u32 e.nx], [.slice x1.ao x1.no x1.co], [.int .i64 e.tn], [.int .u32 e.dl], [.slice x1.ah x1.nh x1.ch]], 26⟩) rfl) NC (nC  _ _ _ _ _) Try.underlying26 rfl (by kernel_rfl)) ?_
    simp only [nrm]
    refine list_val (.agg (fl [[.int .u32 e.nx], [.slice y.ao y.no y.co], [.int .i64 e.tn], [.int .u32 e.dl], [.slice y.ah y.nh y.ch]])) (by kernel_rfl) (exec_sw _ 26 (.tmp 5) rfl (g5) (by kernel_rfl) (hB.get 2 (x := ⟨g5, fl [[.int .u32 e.nx], [.slice y.ao y.no y.co], [.int .i64 e.tn], [.int .u32 e.dl], [.slice y.ah y.nh y.ch]], 26⟩) rfl) NC (nC  _ _ _ _ _) Try.underlying26 rfl (by kernel_rfl)) ?_
    simp only [nrm]
    refine list_call 18 #[.agg (fl [[.int .u32 e.nx], [.slice x1.ao x1.no x1.co], [.int .i64 e.tn], [.int .u32 e.dl], [.slice x1.ah x1.nh x1.ch]]), .agg (fl [[.int .u32 e.nx], [.slice y.ao y.no y.co], [.int .i64 e.tn], [.int .u32 e.dl], [.slice y.ah y.nh y.ch]])] (by kernel_rfl) (by kernel_rfl) ((whole_ok e x1 y w.heap.size u19 (unhide hSe) (unhide hnm) (unhide hY).i).mono ?_)
    rintro r_ u20 ⟨rfl, hg⟩
    replace hSe := hide ((unhide hSe).gr hg)
    replace hY := hide ((unhide hY).gr hg)
    replace hB := hB.more hg
    clear hg
    refine ⟨_, rfl, ?_⟩
    simp only [nrm]
    refine lvk (.bool false) ?_
    simp only [nrm]
    refine wpList_nil ?_
    replace hC1 := hide ((unhide hSe).co (unhide hnm))
    clear hC3 hak
    obtain ⟨d2, s, er2, hak⟩ : ∃ d2 s er2, tu e = (d2, s, er2) := ⟨_, _, _, rfl⟩
    have hsl := (tu_ok (unhide hnm)).1
    rw [hak] at hsl
    replace hak := hide hak; replace hsl := hide hsl
    replace hB := hide hB
    go_upto_region 14 with fail
    replace hB := unhide hB
    refine wp_region_lit ?_
    refine list_val (.agg (fl [[.int .u32 e.nx], [.slice x1.ao x1.no x1.co], [.int .i64 e.tn], [.int .u32 e.dl], [.slice x1.ah x1.nh x1.ch]])) (by kernel_rfl) (exec_sw _ 26 (.tmp 2) rfl (w.heap.size) (by kernel_rfl) (hB.get 0 (x := ⟨w.heap.size, fl [[.int .u32 e.nx], [.slice x1.ao x1.no x1.co], [.int .i64 e.tn], [.int .u32 e.dl], [.slice x1.ah x1.nh x1.ch]], 26⟩) rfl) NC (nC  _ _ _ _ _) Try.underlying26 rfl (by kernel_rfl)) ?_
    simp only [nrm]
    refine list_call 19 #[.agg (fl [[.int .u32 e.nx], [.slice x1.ao x1.no x1.co], [.int .i64 e.tn], [.int .u32 e.dl], [.slice x1.ah x1.nh x1.ch]])] (by kernel_rfl) (by kernel_rfl) (((show Calls Try.prog 19 #[.agg (fl [[.int .u32 e.nx], [.slice x1.ao x1.no x1.co], [.int .i64 e.tn], [.int .u32 e.dl], [.slice x1.ah x1.nh x1.ch]])] u20 (fun r w' => ∃ x', r = .returned (.tuple (.agg (fl (cvs d2 x')) :: [.agg (fl [[.int .u32 s.n], bw s.B]), .int .i64 er2]).toArray) ∧ Co w.heap.size w' d2 x' ∧ Gr u20 w') from by have h := rturn_ok e x1 u20 (unhide hC1).i; rw [unhide hak] at h; exact h.mono fun r w' h9 => (by obtain ⟨x', h1, h2, h3, h4⟩ := h9; exact ⟨x', h1, ⟨h2, h3.base (hB.gr.size)⟩, h4⟩))).mono ?_)
    rintro r_ u21 ⟨x5, rfl, hC5, hg⟩
    replace hSe := hide ((unhide hSe).gr hg)
    replace hY := hide ((unhide hY).gr hg)
    replace hC1 := hide ((unhide hC1).gr hg)
    replace hB := hB.more hg
    clear hg
    replace hC5 := hide hC5
    refine ⟨_, rfl, ?_⟩
    simp only [nrm]
    refine lvk (.tuple #[.agg (fl [[.int .u32 d2.nx], [.slice x5.ao x5.no x5.co], [.int .i64 d2.tn], [.int .u32 d2.dl], [.slice x5.ah x5.nh x5.ch]]), .agg (fl [[.int .u32 s.n], bw s.B]), .int .i64 er2]) ?_
    simp only [nrm]
    refine lvk (.agg (fl [[.int .u32 d2.nx], [.slice x5.ao x5.no x5.co], [.int .i64 d2.tn], [.int .u32 d2.dl], [.slice x5.ah x5.nh x5.ch]])) ?_
    simp only [nrm]
    refine lvk (.agg (fl [[.int .u32 s.n], bw s.B])) ?_
    simp only [nrm]
    refine lvk (.int .i64 er2) ?_
    simp only [nrm]
    have hne12_hSe := (unhide hSe).newO
    have hne12_hY := (unhide hY).newO
    have hne12_hC1 := (unhide hC1).newO
    have hne12_hC5 := (unhide hC5).newO
    refine list_valw (.pointer (some ⟨u21.heap.size, 0, none⟩)) (u21.alloc (.cells (fl [[.int .u32 0], bw Z105]) 39 (0, 0))) (by kernel_rfl) (by kernel_rfl) ?_
    replace hB := hB.new (fl [[.int .u32 0], bw Z105]) 39
    simp only [List.nil_append, List.cons_append] at hB
    have hg := (Gr.refl u21).alloc (.cells (fl [[.int .u32 0], bw Z105]) 39 (0, 0))
    replace hSe := hide ((unhide hSe).gr hg)
    replace hY := hide ((unhide hY).gr hg)
    replace hC1 := hide ((unhide hC1).gr hg)
    replace hC5 := hide ((unhide hC5).gr hg)
    clear hg
    generalize World.alloc _ _ = u22 at *
    generalize u21.heap.size = g12 at *
    simp only [nrm]
    have hzz_ : Hid (u22.heap[g6]? = some (.cells (fl [[.int .u32 d.nx], [.slice x3.ao x3.no x3.co], [.int .i64 d.tn], [.int .u32 d.dl], [.slice x3.ah x3.nh x3.ch]]) 26 (0, 0))) := hide (hB.get 3 (x := ⟨g6, fl [[.int .u32 d.nx], [.slice x3.ao x3.no x3.co], [.int .i64 d.tn], [.int .u32 d.dl], [.slice x3.ah x3.nh x3.ch]], 26⟩) rfl)
    refine list_all 26 (.tmp 6) (.tmp 73) (g6) (S2 := [[.int .u32 d2.nx], [.slice x5.ao x5.no x5.co], [.int .i64 d2.tn], [.int .u32 d2.dl], [.slice x5.ah x5.nh x5.ch]]) (by kernel_rfl) rfl (by kernel_rfl) (by kernel_rfl) hB 3 rfl NC (nC  _ _ _ _ _) (nC  _ _ _ _ _) (by kernel_rfl) (oC  rfl rfl rfl rfl rfl) ?_
    intro u23 hB_ hbt_
    clear hB
    replace hB : Bl w [⟨w.heap.size, fl [[.int .u32 e.nx], [.slice x1.ao x1.no x1.co], [.int .i64 e.tn], [.int .u32 e.dl], [.slice x1.ah x1.nh x1.ch]], 26⟩, ⟨w.heap.size + 1, fl [bw B], 28⟩, ⟨g5, fl [[.int .u32 e.nx], [.slice y.ao y.no y.co], [.int .i64 e.tn], [.int .u32 e.dl], [.slice y.ah y.nh y.ch]], 26⟩, ⟨g6, fl [[.int .u32 d2.nx], [.slice x5.ao x5.no x5.co], [.int .i64 d2.tn], [.int .u32 d2.dl], [.slice x5.ah x5.nh x5.ch]], 26⟩, ⟨g9, fl [[.int .u32 d.nx], [.slice x4.ao x4.no x4.co], [.int .i64 d.tn], [.int .u32 d.dl], [.slice x4.ah x4.nh x4.ch]], 26⟩, ⟨g12, fl [[.int .u32 0], bw Z105], 39⟩] u23 := hB_
    clear hB_
    replace hSe := hide ((unhide hSe).bz (unhide hzz_) hbt_)
    replace hY := hide ((unhide hY).bz (unhide hzz_) hbt_)
    replace hC1 := hide ((unhide hC1).bz (unhide hzz_) hbt_)
    replace hC5 := hide ((unhide hC5).bz (unhide hzz_) hbt_)
    clear hbt_ hzz_
    simp only [nrm]
    have hzz_ : Hid (u23.heap[g12]? = some (.cells (fl [[.int .u32 0], bw Z105]) 39 (0, 0))) := hide (hB.get 5 (x := ⟨g12, fl [[.int .u32 0], bw Z105], 39⟩) rfl)
    refine list_all 39 (.tmp 12) (.tmp 74) (g12) (S2 := [[.int .u32 s.n], bw s.B]) (by kernel_rfl) rfl (by kernel_rfl) (by kernel_rfl) hB 5 rfl NO (nO Z105_len _) (nO (unhide hsl) _) (by kernel_rfl) (oO _ rfl) ?_
    intro u24 hB_ hbt_
    clear hB
    replace hB : Bl w [⟨w.heap.size, fl [[.int .u32 e.nx], [.slice x1.ao x1.no x1.co], [.int .i64 e.tn], [.int .u32 e.dl], [.slice x1.ah x1.nh x1.ch]], 26⟩, ⟨w.heap.size + 1, fl [bw B], 28⟩, ⟨g5, fl [[.int .u32 e.nx], [.slice y.ao y.no y.co], [.int .i64 e.tn], [.int .u32 e.dl], [.slice y.ah y.nh y.ch]], 26⟩, ⟨g6, fl [[.int .u32 d2.nx], [.slice x5.ao x5.no x5.co], [.int .i64 d2.tn], [.int .u32 d2.dl], [.slice x5.ah x5.nh x5.ch]], 26⟩, ⟨g9, fl [[.int .u32 d.nx], [.slice x4.ao x4.no x4.co], [.int .i64 d.tn], [.int .u32 d.dl], [.slice x4.ah x4.nh x4.ch]], 26⟩, ⟨g12, fl [[.int .u32 s.n], bw s.B], 39⟩] u24 := hB_
    clear hB_
    replace hSe := hide ((unhide hSe).bkO (unhide hzz_) hbt_ hne12_hSe)
    replace hY := hide ((unhide hY).bkO (unhide hzz_) hbt_ hne12_hY)
    replace hC1 := hide ((unhide hC1).bkO (unhide hzz_) hbt_ hne12_hC1)
    replace hC5 := hide ((unhide hC5).bkO (unhide hzz_) hbt_ hne12_hC5)
    clear hbt_ hzz_
    simp only [nrm]
    (refine wpList_step fun K hK => ?_; replace hK := hide hK; go_simp; refine unhide hK _ _ ?_; clear hK K)
    refine wpList_nil ?_
    replace hB := hide hB
    go_upto_region 15 with fail
    replace hB := unhide hB
    obtain ⟨b2, hb2⟩ : ∃ b_, b_ = u24.heap.size := ⟨_, rfl⟩
    have hb2w : Hid (w.heap.size ≤ b2) := hide (by rw [hb2]; exact hB.gr.size)
    have hlSb2 := hide (unhide hSe).lt
    have hlYb2 := hide (unhide hY).o.lt
    rw [← hb2] at hlSb2 hlYb2
    have hb2s : Hid (Bz b2 u24) := hide (Nat.le_of_eq hb2)
    refine wp_region_lit ?_
    refine list_val (.agg (fl [[.int .u32 e.nx], [.slice x1.ao x1.no x1.co], [.int .i64 e.tn], [.int .u32 e.dl], [.slice x1.ah x1.nh x1.ch]])) (by kernel_rfl) (exec_sw _ 26 (.tmp 2) rfl (w.heap.size) (by kernel_rfl) (hB.get 0 (x := ⟨w.heap.size, fl [[.int .u32 e.nx], [.slice x1.ao x1.no x1.co], [.int .i64 e.tn], [.int .u32 e.dl], [.slice x1.ah x1.nh x1.ch]], 26⟩) rfl) NC (nC  _ _ _ _ _) Try.underlying26 rfl (by kernel_rfl)) ?_
    simp only [nrm]
    refine list_call 20 #[.agg (fl [[.int .u32 e.nx], [.slice x1.ao x1.no x1.co], [.int .i64 e.tn], [.int .u32 e.dl], [.slice x1.ah x1.nh x1.ch]])] (by kernel_rfl) (by kernel_rfl) (((show Calls Try.prog 20 #[.agg (fl [[.int .u32 e.nx], [.slice x1.ao x1.no x1.co], [.int .i64 e.tn], [.int .u32 e.dl], [.slice x1.ah x1.nh x1.ch]])] u24 (fun r w' => ∃ x', r = .returned (.tuple (.agg (fl (cvs d2 x')) :: [.agg (fl [[.int .u32 s.n], bw s.B]), .int .i64 er2]).toArray) ∧ Co b2 w' d2 x' ∧ Gr u24 w') from by have h := turn_ok e x1 u24 (unhide hC1).i; rw [unhide hak] at h; exact h.mono fun r w' h9 => (by obtain ⟨x', h1, h2, h3, h4⟩ := h9; exact ⟨x', h1, ⟨h2, h3.base (by rw [hb2]; exact Nat.le_refl _)⟩, h4⟩))).mono ?_)
    rintro r_ u25 ⟨x6, rfl, hC6, hg⟩
    replace hSe := hide ((unhide hSe).gr hg)
    replace hY := hide ((unhide hY).gr hg)
    replace hC1 := hide ((unhide hC1).gr hg)
    replace hC5 := hide ((unhide hC5).gr hg)
    replace hb2s := hide ((unhide hb2s).gr hg)
    replace hB := hB.more hg
    clear hg
    replace hC6 := hide hC6
    refine ⟨_, rfl, ?_⟩
    simp only [nrm]
    refine lvk (.tuple #[.agg (fl [[.int .u32 d2.nx], [.slice x6.ao x6.no x6.co], [.int .i64 d2.tn], [.int .u32 d2.dl], [.slice x6.ah x6.nh x6.ch]]), .agg (fl [[.int .u32 s.n], bw s.B]), .int .i64 er2]) ?_
    simp only [nrm]
    refine lvk (.agg (fl [[.int .u32 d2.nx], [.slice x6.ao x6.no x6.co], [.int .i64 d2.tn], [.int .u32 d2.dl], [.slice x6.ah x6.nh x6.ch]])) ?_
    simp only [nrm]
    refine lvk (.agg (fl [[.int .u32 s.n], bw s.B])) ?_
    simp only [nrm]
    refine lvk (.int .i64 er2) ?_
    simp only [nrm]
    have hne13_hSe := (unhide hSe).newO
    have hne13_hY := (unhide hY).newO
    have hne13_hC1 := (unhide hC1).newO
    have hne13_hC5 := (unhide hC5).newO
    have hne13_hC6 := (unhide hC6).newO
    refine list_valw (.pointer (some ⟨u25.heap.size, 0, none⟩)) (u25.alloc (.cells (fl [[.int .u32 0], bw Z105]) 39 (0, 0))) (by kernel_rfl) (by kernel_rfl) ?_
    replace hB := hB.new (fl [[.int .u32 0], bw Z105]) 39
    simp only [List.nil_append, List.cons_append] at hB
    have hg := (Gr.refl u25).alloc (.cells (fl [[.int .u32 0], bw Z105]) 39 (0, 0))
    replace hSe := hide ((unhide hSe).gr hg)
    replace hY := hide ((unhide hY).gr hg)
    replace hC1 := hide ((unhide hC1).gr hg)
    replace hC5 := hide ((unhide hC5).gr hg)
    replace hb2s := hide ((unhide hb2s).gr hg)
    replace hC6 := hide ((unhide hC6).gr hg)
    clear hg
    generalize World.alloc _ _ = u26 at *
    generalize u25.heap.size = g13 at *
    simp only [nrm]
    have hzz_ : Hid (u26.heap[g9]? = some (.cells (fl [[.int .u32 d.nx], [.slice x4.ao x4.no x4.co], [.int .i64 d.tn], [.int .u32 d.dl], [.slice x4.ah x4.nh x4.ch]]) 26 (0, 0))) := hide (hB.get 4 (x := ⟨g9, fl [[.int .u32 d.nx], [.slice x4.ao x4.no x4.co], [.int .i64 d.tn], [.int .u32 d.dl], [.slice x4.ah x4.nh x4.ch]], 26⟩) rfl)
    refine list_all 26 (.tmp 9) (.tmp 79) (g9) (S2 := [[.int .u32 d2.nx], [.slice x6.ao x6.no x6.co], [.int .i64 d2.tn], [.int .u32 d2.dl], [.slice x6.ah x6.nh x6.ch]]) (by kernel_rfl) rfl (by kernel_rfl) (by kernel_rfl) hB 4 rfl NC (nC  _ _ _ _ _) (nC  _ _ _ _ _) (by kernel_rfl) (oC  rfl rfl rfl rfl rfl) ?_
    intro u27 hB_ hbt_
    clear hB
    replace hB : Bl w [⟨w.heap.size, fl [[.int .u32 e.nx], [.slice x1.ao x1.no x1.co], [.int .i64 e.tn], [.int .u32 e.dl], [.slice x1.ah x1.nh x1.ch]], 26⟩, ⟨w.heap.size + 1, fl [bw B], 28⟩, ⟨g5, fl [[.int .u32 e.nx], [.slice y.ao y.no y.co], [.int .i64 e.tn], [.int .u32 e.dl], [.slice y.ah y.nh y.ch]], 26⟩, ⟨g6, fl [[.int .u32 d2.nx], [.slice x5.ao x5.no x5.co], [.int .i64 d2.tn], [.int .u32 d2.dl], [.slice x5.ah x5.nh x5.ch]], 26⟩, ⟨g9, fl [[.int .u32 d2.nx], [.slice x6.ao x6.no x6.co], [.int .i64 d2.tn], [.int .u32 d2.dl], [.slice x6.ah x6.nh x6.ch]], 26⟩, ⟨g12, fl [[.int .u32 s.n], bw s.B], 39⟩, ⟨g13, fl [[.int .u32 0], bw Z105], 39⟩] u27 := hB_
    clear hB_
    replace hSe := hide ((unhide hSe).bz (unhide hzz_) hbt_)
    replace hY := hide ((unhide hY).bz (unhide hzz_) hbt_)
    replace hC1 := hide ((unhide hC1).bz (unhide hzz_) hbt_)
    replace hC5 := hide ((unhide hC5).bz (unhide hzz_) hbt_)
    replace hb2s := hide ((unhide hb2s).bz (unhide hzz_) hbt_)
    replace hC6 := hide ((unhide hC6).bz (unhide hzz_) hbt_)
    clear hbt_ hzz_
    simp only [nrm]
    have hzz_ : Hid (u27.heap[g13]? = some (.cells (fl [[.int .u32 0], bw Z105]) 39 (0, 0))) := hide (hB.get 6 (x := ⟨g13, fl [[.int .u32 0], bw Z105], 39⟩) rfl)
    refine list_all 39 (.tmp 13) (.tmp 80) (g13) (S2 := [[.int .u32 s.n], bw s.B]) (by kernel_rfl) rfl (by kernel_rfl) (by kernel_rfl) hB 6 rfl NO (nO Z105_len _) (nO (unhide hsl) _) (by kernel_rfl) (oO _ rfl) ?_
    intro u28 hB_ hbt_
    clear hB
    replace hB : Bl w [⟨w.heap.size, fl [[.int .u32 e.nx], [.slice x1.ao x1.no x1.co], [.int .i64 e.tn], [.int .u32 e.dl], [.slice x1.ah x1.nh x1.ch]], 26⟩, ⟨w.heap.size + 1, fl [bw B], 28⟩, ⟨g5, fl [[.int .u32 e.nx], [.slice y.ao y.no y.co], [.int .i64 e.tn], [.int .u32 e.dl], [.slice y.ah y.nh y.ch]], 26⟩, ⟨g6, fl [[.int .u32 d2.nx], [.slice x5.ao x5.no x5.co], [.int .i64 d2.tn], [.int .u32 d2.dl], [.slice x5.ah x5.nh x5.ch]], 26⟩, ⟨g9, fl [[.int .u32 d2.nx], [.slice x6.ao x6.no x6.co], [.int .i64 d2.tn], [.int .u32 d2.dl], [.slice x6.ah x6.nh x6.ch]], 26⟩, ⟨g12, fl [[.int .u32 s.n], bw s.B], 39⟩, ⟨g13, fl [[.int .u32 s.n], bw s.B], 39⟩] u28 := hB_
    clear hB_
    replace hSe := hide ((unhide hSe).bkO (unhide hzz_) hbt_ hne13_hSe)
    replace hY := hide ((unhide hY).bkO (unhide hzz_) hbt_ hne13_hY)
    replace hC1 := hide ((unhide hC1).bkO (unhide hzz_) hbt_ hne13_hC1)
    replace hC5 := hide ((unhide hC5).bkO (unhide hzz_) hbt_ hne13_hC5)
    replace hb2s := hide ((unhide hb2s).bz (unhide hzz_) hbt_)
    replace hC6 := hide ((unhide hC6).bkO (unhide hzz_) hbt_ hne13_hC6)
    clear hbt_ hzz_
    simp only [nrm]
    (refine wpList_step fun K hK => ?_; replace hK := hide hK; go_simp; refine unhide hK _ _ ?_; clear hK K)
    refine wpList_nil ?_
    replace hB := hide hB
    go_upto_region 16 with fail
    replace hB := unhide hB
    refine wp_region_lit ?_
    refine wpList_gen fun ops_ hops => ?_
    replace hops := hide hops
    refine list_val (.int .i64 er2) (by rw [unhide hops]; kernel_rfl) (by kernel_rfl) ?_
    simp only [nrm]
    refine list_val (.int .i64 er2) (by rw [unhide hops]; kernel_rfl) (by kernel_rfl) ?_
    simp only [nrm]
    refine list_val (.bool false) (by rw [unhide hops]; kernel_rfl) (neq_e _ (.tmp 82) (.tmp 83) er2 er2 false rfl (by kernel_rfl) (by kernel_rfl) (by simp)) ?_
    simp only [nrm]
    refine list_val (.bool false) (by rw [unhide hops]; kernel_rfl) (by kernel_rfl) ?_
    simp only [nrm]
    refine list_val (.agg (fl [[.int .u32 s.n], bw s.B])) (by rw [unhide hops]; kernel_rfl) (exec_sw _ 39 (.tmp 13) rfl (g13) (by kernel_rfl) (hB.get 6 (x := ⟨g13, fl [[.int .u32 s.n], bw s.B], 39⟩) rfl) NO (nO (unhide hsl) _) Try.underlying39 rfl (by kernel_rfl)) ?_
    simp only [nrm]
    refine list_val (.agg (fl [[.int .u32 s.n], bw s.B])) (by rw [unhide hops]; kernel_rfl) (exec_sw _ 39 (.tmp 12) rfl (g12) (by kernel_rfl) (hB.get 5 (x := ⟨g12, fl [[.int .u32 s.n], bw s.B], 39⟩) rfl) NO (nO (unhide hsl) _) Try.underlying39 rfl (by kernel_rfl)) ?_
    simp only [nrm]
    refine list_val (.bool false) (by rw [unhide hops]; kernel_rfl) (exec_neO _ (.tmp 86) (.tmp 87) rfl s s (unhide hsl) (unhide hsl) (by kernel_rfl) (by kernel_rfl) true (by simp)) ?_
    simp only [nrm]
    refine list_val (.bool false) (by rw [unhide hops]; kernel_rfl) (by kernel_rfl) ?_
    simp only [nrm]
    refine list_val (.bool false) (by rw [unhide hops]; kernel_rfl) (by kernel_rfl) ?_
    simp only [nrm]
    refine list_val (.agg (fl [[.int .u32 d2.nx], [.slice x6.ao x6.no x6.co], [.int .i64 d2.tn], [.int .u32 d2.dl], [.slice x6.ah x6.nh x6.ch]])) (by rw [unhide hops]; kernel_rfl) (exec_sw _ 26 (.tmp 9) rfl (g9) (by kernel_rfl) (hB.get 4 (x := ⟨g9, fl [[.int .u32 d2.nx], [.slice x6.ao x6.no x6.co], [.int .i64 d2.tn], [.int .u32 d2.dl], [.slice x6.ah x6.nh x6.ch]], 26⟩) rfl) NC (nC  _ _ _ _ _) Try.underlying26 rfl (by kernel_rfl)) ?_
    simp only [nrm]
    refine list_val (.agg (fl [[.int .u32 d2.nx], [.slice x5.ao x5.no x5.co], [.int .i64 d2.tn], [.int .u32 d2.dl], [.slice x5.ah x5.nh x5.ch]])) (by rw [unhide hops]; kernel_rfl) (exec_sw _ 26 (.tmp 6) rfl (g6) (by kernel_rfl) (hB.get 3 (x := ⟨g6, fl [[.int .u32 d2.nx], [.slice x5.ao x5.no x5.co], [.int .i64 d2.tn], [.int .u32 d2.dl], [.slice x5.ah x5.nh x5.ch]], 26⟩) rfl) NC (nC  _ _ _ _ _) Try.underlying26 rfl (by kernel_rfl)) ?_
    simp only [nrm]
    refine list_call 16 #[.agg (fl [[.int .u32 d2.nx], [.slice x6.ao x6.no x6.co], [.int .i64 d2.tn], [.int .u32 d2.dl], [.slice x6.ah x6.nh x6.ch]]), .agg (fl [[.int .u32 d2.nx], [.slice x5.ao x5.no x5.co], [.int .i64 d2.tn], [.int .u32 d2.dl], [.slice x5.ah x5.nh x5.ch]])] (by rw [unhide hops]; kernel_rfl) (by kernel_rfl) (((show Calls Try.prog 16 #[.agg (fl [[.int .u32 d2.nx], [.slice x6.ao x6.no x6.co], [.int .i64 d2.tn], [.int .u32 d2.dl], [.slice x6.ah x6.nh x6.ch]]), .agg (fl [[.int .u32 d2.nx], [.slice x5.ao x5.no x5.co], [.int .i64 d2.tn], [.int .u32 d2.dl], [.slice x5.ah x5.nh x5.ch]])] u28 (Vl (.bool true) u28) from by have h := rsame_ok d2 d2 x6 x5 u28 (unhide hC6).i (unhide hC5).i; rw [decide_eq_true rfl] at h; exact h)).mono ?_)
    rintro r_ u29 ⟨rfl, hg⟩
    replace hSe := hide ((unhide hSe).gr hg)
    replace hY := hide ((unhide hY).gr hg)
    replace hC1 := hide ((unhide hC1).gr hg)
    replace hC5 := hide ((unhide hC5).gr hg)
    replace hb2s := hide ((unhide hb2s).gr hg)
    replace hC6 := hide ((unhide hC6).gr hg)
    replace hB := hB.more hg
    clear hg
    refine ⟨_, rfl, ?_⟩
    simp only [nrm]
    refine list_val (.bool false) (by rw [unhide hops]; kernel_rfl) (by kernel_rfl) ?_
    simp only [nrm]
    refine list_val (.bool false) (by rw [unhide hops]; kernel_rfl) (by kernel_rfl) ?_
    simp only [nrm]
    refine wpList_nil ?_
    replace hB := Bl.left (L := [⟨w.heap.size, fl [[.int .u32 e.nx], [.slice x1.ao x1.no x1.co], [.int .i64 e.tn], [.int .u32 e.dl], [.slice x1.ah x1.nh x1.ch]], 26⟩, ⟨w.heap.size + 1, fl [bw B], 28⟩, ⟨g5, fl [[.int .u32 e.nx], [.slice y.ao y.no y.co], [.int .i64 e.tn], [.int .u32 e.dl], [.slice y.ah y.nh y.ch]], 26⟩, ⟨g6, fl [[.int .u32 d2.nx], [.slice x5.ao x5.no x5.co], [.int .i64 d2.tn], [.int .u32 d2.dl], [.slice x5.ah x5.nh x5.ch]], 26⟩, ⟨g9, fl [[.int .u32 d2.nx], [.slice x6.ao x6.no x6.co], [.int .i64 d2.tn], [.int .u32 d2.dl], [.slice x6.ah x6.nh x6.ch]], 26⟩]) (M := [⟨g12, fl [[.int .u32 s.n], bw s.B], 39⟩, ⟨g13, fl [[.int .u32 s.n], bw s.B], 39⟩]) hB
    replace hB := hide hB
    go_upto_region 18 with fail
    replace hB := unhide hB
    refine wp_region_lit ?_
    refine list_val (.agg (fl [[.int .u32 d2.nx], [.slice x6.ao x6.no x6.co], [.int .i64 d2.tn], [.int .u32 d2.dl], [.slice x6.ah x6.nh x6.ch]])) (by kernel_rfl) (exec_sw _ 26 (.tmp 9) rfl (g9) (by kernel_rfl) (hB.get 4 (x := ⟨g9, fl [[.int .u32 d2.nx], [.slice x6.ao x6.no x6.co], [.int .i64 d2.tn], [.int .u32 d2.dl], [.slice x6.ah x6.nh x6.ch]], 26⟩) rfl) NC (nC  _ _ _ _ _) Try.underlying26 rfl (by kernel_rfl)) ?_
    simp only [nrm]
    refine list_call 17 #[.agg (fl [[.int .u32 d2.nx], [.slice x6.ao x6.no x6.co], [.int .i64 d2.tn], [.int .u32 d2.dl], [.slice x6.ah x6.nh x6.ch]])] (by kernel_rfl) (by kernel_rfl) ((spoil_ok d2 x6 b2 u29 (unhide hb2s) (unhide hC6).i (unhide hC6).o).mono ?_)
    rintro r_ u30 ⟨rfl, hsp⟩
    replace hB := hB.sp hsp (unhide hb2w) (by intro y_ hy_; simp only [List.mem_cons, List.not_mem_nil, or_false] at hy_; rcases hy_ with rfl | rfl | rfl | rfl | rfl <;> (dsimp only; decide))
    clear hC6
    replace hSe := hide ((unhide hSe).sp hsp (unhide hlSb2))
    replace hY := hide ((unhide hY).sp hsp (unhide hlYb2))
    clear hsp
    refine ⟨_, rfl, ?_⟩
    simp only [nrm]
    refine wpList_nil ?_
    replace hB := hide hB
    go_upto_region 19 with fail
    replace hB := unhide hB
    refine wp_region_lit ?_
    refine list_val (.agg (fl [[.int .u32 e.nx], [.slice x1.ao x1.no x1.co], [.int .i64 e.tn], [.int .u32 e.dl], [.slice x1.ah x1.nh x1.ch]])) (by kernel_rfl) (exec_sw _ 26 (.tmp 2) rfl (w.heap.size) (by kernel_rfl) (hB.get 0 (x := ⟨w.heap.size, fl [[.int .u32 e.nx], [.slice x1.ao x1.no x1.co], [.int .i64 e.tn], [.int .u32 e.dl], [.slice x1.ah x1.nh x1.ch]], 26⟩) rfl) NC (nC  _ _ _ _ _) Try.underlying26 rfl (by kernel_rfl)) ?_
    simp only [nrm]
    refine list_val (.agg (fl [[.int .u32 e.nx], [.slice y.ao y.no y.co], [.int .i64 e.tn], [.int .u32 e.dl], [.slice y.ah y.nh y.ch]])) (by kernel_rfl) (exec_sw _ 26 (.tmp 5) rfl (g5) (by kernel_rfl) (hB.get 2 (x := ⟨g5, fl [[.int .u32 e.nx], [.slice y.ao y.no y.co], [.int .i64 e.tn], [.int .u32 e.dl], [.slice y.ah y.nh y.ch]], 26⟩) rfl) NC (nC  _ _ _ _ _) Try.underlying26 rfl (by kernel_rfl)) ?_
    simp only [nrm]
    refine list_call 18 #[.agg (fl [[.int .u32 e.nx], [.slice x1.ao x1.no x1.co], [.int .i64 e.tn], [.int .u32 e.dl], [.slice x1.ah x1.nh x1.ch]]), .agg (fl [[.int .u32 e.nx], [.slice y.ao y.no y.co], [.int .i64 e.tn], [.int .u32 e.dl], [.slice y.ah y.nh y.ch]])] (by kernel_rfl) (by kernel_rfl) ((whole_ok e x1 y w.heap.size u30 (unhide hSe) (unhide hnm) (unhide hY).i).mono ?_)
    rintro r_ u31 ⟨rfl, hg⟩
    replace hSe := hide ((unhide hSe).gr hg)
    replace hY := hide ((unhide hY).gr hg)
    replace hB := hB.more hg
    clear hg
    refine ⟨_, rfl, ?_⟩
    simp only [nrm]
    (refine wpList_step fun K hK => ?_; replace hK := hide hK; go_simp; refine unhide hK _ _ ?_; clear hK K)
    refine wpList_nil ?_
    replace hB := hide hB
    go_wp2_with fail
    replace hB := unhide hB
    rw [unhide hT]
    exact (⟨rfl, hB.gr⟩)
  | true =>
    have hk := chk_t h1
    replace h1 := hide h1; replace hk := hide hk
    replace hB := hide hB
    go_upto_region 5 with fail
    replace hB := unhide hB
    refine any_start (S := fun v_ => v_.heap[w.heap.size]? = some (.cells (fl [[.int .u32 e.nx], [.slice x1.ao x1.no x1.co], [.int .i64 e.tn], [.int .u32 e.dl], [.slice x1.ah x1.nh x1.ch]]) 26 (0, 0))) (by kernel_rfl) ?_
    replace hC1 := hide ((unhide hC1).gr ((Gr.refl u6).drew))
    replace hSe := hide ((unhide hSe).gr ((Gr.refl u6).drew))
    replace hY := hide ((unhide hY).gr ((Gr.refl u6).drew))
    replace hB := hB.drew
    generalize World.drew _ = u7 at *
    simp only [List.size_toArray, List.length_cons, List.length_nil, Array.replicate, List.replicate]
    have hS_ := hide (show (fun v_ => v_.heap[w.heap.size]? = some (.cells (fl [[.int .u32 e.nx], [.slice x1.ao x1.no x1.co], [.int .i64 e.tn], [.int .u32 e.dl], [.slice x1.ah x1.nh x1.ch]]) 26 (0, 0))) u7 from (hB.get 0 (x := ⟨w.heap.size, fl [[.int .u32 e.nx], [.slice x1.ao x1.no x1.co], [.int .i64 e.tn], [.int .u32 e.dl], [.slice x1.ah x1.nh x1.ch]], 26⟩) rfl))
    refine any_tk 0 (.agg (fl [[.int .u32 e.nx], [.slice x1.ao x1.no x1.co], [.int .i64 e.tn], [.int .u32 e.dl], [.slice x1.ah x1.nh x1.ch]])) (tf 16 0) rfl (fun x_ hu => exec_sw _ 26 (.tmp 2) rfl (w.heap.size) (by kernel_rfl) hu NC (nC  _ _ _ _ _) Try.underlying26 rfl (by kernel_rfl)) (unhide hS_) ?_
    simp only [nrm]
    refine any_tk 3 (.agg (fl [[.int .u32 e.nx], [.slice x1.ao x1.no x1.co], [.int .i64 e.tn], [.int .u32 e.dl], [.slice x1.ah x1.nh x1.ch]])) (tf 16 1) rfl (fun x_ hu => exec_sw _ 26 (.tmp 2) rfl (w.heap.size) (by kernel_rfl) hu NC (nC  _ _ _ _ _) Try.underlying26 rfl (by kernel_rfl)) (unhide hS_) ?_
    simp only [nrm]
    refine any_one (i := 1) (by kernel_rfl) rfl (fun K hK => ?_)
    refine step_callw (by kernel_rfl) 12 #[.agg (fl [[.int .u32 e.nx], [.slice x1.ao x1.no x1.co], [.int .i64 e.tn], [.int .u32 e.dl], [.slice x1.ah x1.nh x1.ch]])] (by kernel_rfl) (((show Calls Try.prog 12 #[.agg (fl [[.int .u32 e.nx], [.slice x1.ao x1.no x1.co], [.int .i64 e.tn], [.int .u32 e.dl], [.slice x1.ah x1.nh x1.ch]])] u7 (Vl (.int .i64 0) u7) from unhide hk ▸ check_ok e x1 u7 (unhide hC1).i)).mono ?_)
    rintro r_ u8 ⟨rfl, hg⟩
    replace hC1 := hide ((unhide hC1).gr hg)
    replace hSe := hide ((unhide hSe).gr hg)
    replace hY := hide ((unhide hY).gr hg)
    replace hB := hB.more hg
    clear hg
    refine ⟨_, rfl, ?_⟩
    clear hS_
    have hS_ := hide (show (fun v_ => v_.heap[w.heap.size]? = some (.cells (fl [[.int .u32 e.nx], [.slice x1.ao x1.no x1.co], [.int .i64 e.tn], [.int .u32 e.dl], [.slice x1.ah x1.nh x1.ch]]) 26 (0, 0))) u8 from (hB.get 0 (x := ⟨w.heap.size, fl [[.int .u32 e.nx], [.slice x1.ao x1.no x1.co], [.int .i64 e.tn], [.int .u32 e.dl], [.slice x1.ah x1.nh x1.ch]], 26⟩) rfl))
    refine hK.out _ _ (unhide hS_) (fun _ => ?_)
    clear hK K
    simp only [nrm]
    refine any_tk 2 (.bool true) #[true, true, false, true, false, false, false, false, false, false, false, false, false, false, false, false] rfl (fun x_ hu => eql_e _ (.tmp 21) (.const (.int .i64 0)) 0 0 true rfl (by kernel_rfl) (by kernel_rfl) (by decide)) (unhide hS_) ?_
    simp only [nrm]
    refine any_one (i := 4) (by kernel_rfl) rfl (fun K hK => ?_)
    refine step_callw (by kernel_rfl) 13 #[.agg (fl [[.int .u32 e.nx], [.slice x1.ao x1.no x1.co], [.int .i64 e.tn], [.int .u32 e.dl], [.slice x1.ah x1.nh x1.ch]])] (by kernel_rfl) (((show Calls Try.prog 13 #[.agg (fl [[.int .u32 e.nx], [.slice x1.ao x1.no x1.co], [.int .i64 e.tn], [.int .u32 e.dl], [.slice x1.ah x1.nh x1.ch]])] u8 (Vl (.bool true) u8) from unhide h1 ▸ right_ok e x1 u8 (unhide hC1).i)).mono ?_)
    rintro r_ u9 ⟨rfl, hg⟩
    replace hC1 := hide ((unhide hC1).gr hg)
    replace hSe := hide ((unhide hSe).gr hg)
    replace hY := hide ((unhide hY).gr hg)
    replace hB := hB.more hg
    clear hg
    refine ⟨_, rfl, ?_⟩
    clear hS_
    have hS_ := hide (show (fun v_ => v_.heap[w.heap.size]? = some (.cells (fl [[.int .u32 e.nx], [.slice x1.ao x1.no x1.co], [.int .i64 e.tn], [.int .u32 e.dl], [.slice x1.ah x1.nh x1.ch]]) 26 (0, 0))) u9 from (hB.get 0 (x := ⟨w.heap.size, fl [[.int .u32 e.nx], [.slice x1.ao x1.no x1.co], [.int .i64 e.tn], [.int .u32 e.dl], [.slice x1.ah x1.nh x1.ch]], 26⟩) rfl))
    refine hK.out _ _ (unhide hS_) (fun _ => ?_)
    clear hK K
    simp only [nrm]
    refine any_tk 5 (.bool false) (tf 16 5) rfl (fun x_ hu => by kernel_rfl) (unhide hS_) ?_
    simp only [nrm]
    refine any_tk 6 (.bool false) (tf 16 6) rfl (fun x_ hu => by kernel_rfl) (unhide hS_) ?_
    simp only [nrm]
    refine any_tk 7 (.agg (fl [[.int .u32 e.nx], [.slice x1.ao x1.no x1.co], [.int .i64 e.tn], [.int .u32 e.dl], [.slice x1.ah x1.nh x1.ch]])) (tf 16 7) rfl (fun x_ hu => exec_sw _ 26 (.tmp 2) rfl (w.heap.size) (by kernel_rfl) hu NC (nC  _ _ _ _ _) Try.underlying26 rfl (by kernel_rfl)) (unhide hS_) ?_
    simp only [nrm]
    refine any_one (i := 8) (by kernel_rfl) rfl (fun K hK => ?_)
    refine step_callw (by kernel_rfl) 12 #[.agg (fl [[.int .u32 e.nx], [.slice x1.ao x1.no x1.co], [.int .i64 e.tn], [.int .u32 e.dl], [.slice x1.ah x1.nh x1.ch]])] (by kernel_rfl) (((show Calls Try.prog 12 #[.agg (fl [[.int .u32 e.nx], [.slice x1.ao x1.no x1.co], [.int .i64 e.tn], [.int .u32 e.dl], [.slice x1.ah x1.nh x1.ch]])] u9 (Vl (.int .i64 0) u9) from unhide hk ▸ check_ok e x1 u9 (unhide hC1).i)).mono ?_)
    rintro r_ u10 ⟨rfl, hg⟩
    replace hC1 := hide ((unhide hC1).gr hg)
    replace hSe := hide ((unhide hSe).gr hg)
    replace hY := hide ((unhide hY).gr hg)
    replace hB := hB.more hg
    clear hg
    refine ⟨_, rfl, ?_⟩
    clear hS_
    have hS_ := hide (show (fun v_ => v_.heap[w.heap.size]? = some (.cells (fl [[.int .u32 e.nx], [.slice x1.ao x1.no x1.co], [.int .i64 e.tn], [.int .u32 e.dl], [.slice x1.ah x1.nh x1.ch]]) 26 (0, 0))) u10 from (hB.get 0 (x := ⟨w.heap.size, fl [[.int .u32 e.nx], [.slice x1.ao x1.no x1.co], [.int .i64 e.tn], [.int .u32 e.dl], [.slice x1.ah x1.nh x1.ch]], 26⟩) rfl))
    refine hK.out _ _ (unhide hS_) (fun _ => ?_)
    clear hK K
    simp only [nrm]
    refine any_tk 9 (.bool false) (tf 16 9) rfl (fun x_ hu => neq_e _ (.tmp 28) (.const (.int .i64 0)) 0 0 false rfl (by kernel_rfl) (by kernel_rfl) (by decide)) (unhide hS_) ?_
    simp only [nrm]
    refine any_tk 10 (.bool false) (tf 16 10) rfl (fun x_ hu => by kernel_rfl) (unhide hS_) ?_
    simp only [nrm]
    refine any_to 11 (tf 16 11) rfl (unhide hS_) ?_
    simp only [nrm]
    refine any_to 12 (tf 16 12) rfl (unhide hS_) ?_
    simp only [nrm]
    refine any_to 13 (tf 16 13) rfl (unhide hS_) ?_
    simp only [nrm]
    refine any_tk 14 (.bool false) (tf 16 14) rfl (fun x_ hu => by kernel_rfl) (unhide hS_) ?_
    simp only [nrm]
    refine any_tk 15 (.bool false) (tf 16 15) rfl (fun x_ hu => by kernel_rfl) (unhide hS_) ?_
    simp only [nrm]
    refine any_done (by kernel_rfl) ?_
    clear hS_
    obtain ⟨d, g, er, hak⟩ : ∃ d g er, qu e B = (d, g, er) := ⟨_, _, _, rfl⟩
    replace hak := hide hak
    replace hB := hide hB
    go_upto_region 7 with fail
    replace hB := unhide hB
    refine wp_region_lit ?_
    refine list_val (.agg (fl [[.int .u32 e.nx], [.slice x1.ao x1.no x1.co], [.int .i64 e.tn], [.int .u32 e.dl], [.slice x1.ah x1.nh x1.ch]])) (by kernel_rfl) (exec_sw _ 26 (.tmp 2) rfl (w.heap.size) (by kernel_rfl) (hB.get 0 (x := ⟨w.heap.size, fl [[.int .u32 e.nx], [.slice x1.ao x1.no x1.co], [.int .i64 e.tn], [.int .u32 e.dl], [.slice x1.ah x1.nh x1.ch]], 26⟩) rfl) NC (nC  _ _ _ _ _) Try.underlying26 rfl (by kernel_rfl)) ?_
    simp only [nrm]
    refine list_val (.agg (fl [bw B])) (by kernel_rfl) (exec_sw _ 28 (.tmp 3) rfl (w.heap.size + 1) (by kernel_rfl) (hB.get 1 (x := ⟨w.heap.size + 1, fl [bw B], 28⟩) rfl) NY (nY (unhide hY9).1) Try.underlying28 rfl (by kernel_rfl)) ?_
    simp only [nrm]
    refine list_call 14 #[.agg (fl [[.int .u32 e.nx], [.slice x1.ao x1.no x1.co], [.int .i64 e.tn], [.int .u32 e.dl], [.slice x1.ah x1.nh x1.ch]]), .agg (fl [bw B])] (by kernel_rfl) (by kernel_rfl) (((show Calls Try.prog 14 #[.agg (fl [[.int .u32 e.nx], [.slice x1.ao x1.no x1.co], [.int .i64 e.tn], [.int .u32 e.dl], [.slice x1.ah x1.nh x1.ch]]), .agg (fl [bw B])] u10 (fun r w' => ∃ x', r = .returned (.tuple (.agg (fl (cvs d x')) :: [.int .u32 g, .int .i64 er]).toArray) ∧ Co w.heap.size w' d x' ∧ Gr u10 w') from by have h := rqueue_ok e x1 B (unhide hY9) u10 (unhide hC1).i; rw [unhide hak] at h; exact h.mono fun r w' h9 => (by obtain ⟨x', h1, h2, h3, h4⟩ := h9; exact ⟨x', h1, ⟨h2, h3.base (hB.gr.size)⟩, h4⟩))).mono ?_)
    rintro r_ u11 ⟨x3, rfl, hC3, hg⟩
    replace hC1 := hide ((unhide hC1).gr hg)
    replace hSe := hide ((unhide hSe).gr hg)
    replace hY := hide ((unhide hY).gr hg)
    replace hB := hB.more hg
    clear hg
    replace hC3 := hide hC3
    refine ⟨_, rfl, ?_⟩
    simp only [nrm]
    refine lvk (.tuple #[.agg (fl [[.int .u32 d.nx], [.slice x3.ao x3.no x3.co], [.int .i64 d.tn], [.int .u32 d.dl], [.slice x3.ah x3.nh x3.ch]]), .int .u32 g, .int .i64 er]) ?_
    simp only [nrm]
    refine lvk (.agg (fl [[.int .u32 d.nx], [.slice x3.ao x3.no x3.co], [.int .i64 d.tn], [.int .u32 d.dl], [.slice x3.ah x3.nh x3.ch]])) ?_
    simp only [nrm]
    refine lvk (.int .u32 g) ?_
    simp only [nrm]
    refine lvk (.int .i64 er) ?_
    simp only [nrm]
    refine list_valw (.pointer (some ⟨u11.heap.size, 0, none⟩)) (u11.alloc (.cells (fl [[.int .u32 0], [.slice none 0 0], [.int .i64 0], [.int .u32 0], [.slice none 0 0]]) 26 (0, 0))) (by kernel_rfl) (by kernel_rfl) ?_
    replace hB := hB.new (fl [[.int .u32 0], [.slice none 0 0], [.int .i64 0], [.int .u32 0], [.slice none 0 0]]) 26
    simp only [List.nil_append, List.cons_append] at hB
    have hg := (Gr.refl u11).alloc (.cells (fl [[.int .u32 0], [.slice none 0 0], [.int .i64 0], [.int .u32 0], [.slice none 0 0]]) 26 (0, 0))
    replace hC1 := hide ((unhide hC1).gr hg)
    replace hSe := hide ((unhide hSe).gr hg)
    replace hY := hide ((unhide hY).gr hg)
    replace hC3 := hide ((unhide hC3).gr hg)
    clear hg
    generalize World.alloc _ _ = u12 at *
    generalize u11.heap.size = g6 at *
    simp only [nrm]
    have hzz_ : Hid (u12.heap[g6]? = some (.cells (fl [[.int .u32 0], [.slice none 0 0], [.int .i64 0], [.int .u32 0], [.slice none 0 0]]) 26 (0, 0))) := hide (hB.get 3 (x := ⟨g6, fl [[.int .u32 0], [.slice none 0 0], [.int .i64 0], [.int .u32 0], [.slice none 0 0]], 26⟩) rfl)
    refine list_all 26 (.tmp 6) (.tmp 40) (g6) (S2 := [[.int .u32 d.nx], [.slice x3.ao x3.no x3.co], [.int .i64 d.tn], [.int .u32 d.dl], [.slice x3.ah x3.nh x3.ch]]) (by kernel_rfl) rfl (by kernel_rfl) (by kernel_rfl) hB 3 rfl NC (nC  _ _ _ _ _) (nC  _ _ _ _ _) (by kernel_rfl) (oC  rfl rfl rfl rfl rfl) ?_
    intro u13 hB_ hbt_
    clear hB
    replace hB : Bl w [⟨w.heap.size, fl [[.int .u32 e.nx], [.slice x1.ao x1.no x1.co], [.int .i64 e.tn], [.int .u32 e.dl], [.slice x1.ah x1.nh x1.ch]], 26⟩, ⟨w.heap.size + 1, fl [bw B], 28⟩, ⟨g5, fl [[.int .u32 e.nx], [.slice y.ao y.no y.co], [.int .i64 e.tn], [.int .u32 e.dl], [.slice y.ah y.nh y.ch]], 26⟩, ⟨g6, fl [[.int .u32 d.nx], [.slice x3.ao x3.no x3.co], [.int .i64 d.tn], [.int .u32 d.dl], [.slice x3.ah x3.nh x3.ch]], 26⟩] u13 := hB_
    clear hB_
    replace hC1 := hide ((unhide hC1).bz (unhide hzz_) hbt_)
    replace hSe := hide ((unhide hSe).bz (unhide hzz_) hbt_)
    replace hY := hide ((unhide hY).bz (unhide hzz_) hbt_)
    replace hC3 := hide ((unhide hC3).bz (unhide hzz_) hbt_)
    clear hbt_ hzz_
    simp only [nrm]
    (refine wpList_step fun K hK => ?_; replace hK := hide hK; go_simp; refine unhide hK _ _ ?_; clear hK K)
    (refine wpList_step fun K hK => ?_; replace hK := hide hK; go_simp; refine unhide hK _ _ ?_; clear hK K)
    refine wpList_nil ?_
    replace hB := hide hB
    go_upto_region 8 with fail
    replace hB := unhide hB
    obtain ⟨b, hb⟩ : ∃ b_, b_ = u13.heap.size := ⟨_, rfl⟩
    have hbw : Hid (w.heap.size ≤ b) := hide (by rw [hb]; exact hB.gr.size)
    have hlSb := hide (unhide hSe).lt
    have hlYb := hide (unhide hY).o.lt
    rw [← hb] at hlSb hlYb
    have hbs : Hid (Bz b u13) := hide (Nat.le_of_eq hb)
    refine wp_region_lit ?_
    refine list_val (.agg (fl [[.int .u32 e.nx], [.slice x1.ao x1.no x1.co], [.int .i64 e.tn], [.int .u32 e.dl], [.slice x1.ah x1.nh x1.ch]])) (by kernel_rfl) (exec_sw _ 26 (.tmp 2) rfl (w.heap.size) (by kernel_rfl) (hB.get 0 (x := ⟨w.heap.size, fl [[.int .u32 e.nx], [.slice x1.ao x1.no x1.co], [.int .i64 e.tn], [.int .u32 e.dl], [.slice x1.ah x1.nh x1.ch]], 26⟩) rfl) NC (nC  _ _ _ _ _) Try.underlying26 rfl (by kernel_rfl)) ?_
    simp only [nrm]
    refine list_val (.agg (fl [bw B])) (by kernel_rfl) (exec_sw _ 28 (.tmp 3) rfl (w.heap.size + 1) (by kernel_rfl) (hB.get 1 (x := ⟨w.heap.size + 1, fl [bw B], 28⟩) rfl) NY (nY (unhide hY9).1) Try.underlying28 rfl (by kernel_rfl)) ?_
    simp only [nrm]
    refine list_call 15 #[.agg (fl [[.int .u32 e.nx], [.slice x1.ao x1.no x1.co], [.int .i64 e.tn], [.int .u32 e.dl], [.slice x1.ah x1.nh x1.ch]]), .agg (fl [bw B])] (by kernel_rfl) (by kernel_rfl) (((show Calls Try.prog 15 #[.agg (fl [[.int .u32 e.nx], [.slice x1.ao x1.no x1.co], [.int .i64 e.tn], [.int .u32 e.dl], [.slice x1.ah x1.nh x1.ch]]), .agg (fl [bw B])] u13 (fun r w' => ∃ x', r = .returned (.tuple (.agg (fl (cvs d x')) :: [.int .u32 g, .int .i64 er]).toArray) ∧ Co b w' d x' ∧ Gr u13 w') from by have h := queue_ok e x1 B (unhide hY9) u13 (unhide hC1).i; rw [unhide hak] at h; exact h.mono fun r w' h9 => (by obtain ⟨x', h1, h2, h3, h4⟩ := h9; exact ⟨x', h1, ⟨h2, h3.base (by rw [hb]; exact Nat.le_refl _)⟩, h4⟩))).mono ?_)
    rintro r_ u14 ⟨x4, rfl, hC4, hg⟩
    replace hC1 := hide ((unhide hC1).gr hg)
    replace hSe := hide ((unhide hSe).gr hg)
    replace hY := hide ((unhide hY).gr hg)
    replace hC3 := hide ((unhide hC3).gr hg)
    replace hbs := hide ((unhide hbs).gr hg)
    replace hB := hB.more hg
    clear hg
    replace hC4 := hide hC4
    refine ⟨_, rfl, ?_⟩
    simp only [nrm]
    refine lvk (.tuple #[.agg (fl [[.int .u32 d.nx], [.slice x4.ao x4.no x4.co], [.int .i64 d.tn], [.int .u32 d.dl], [.slice x4.ah x4.nh x4.ch]]), .int .u32 g, .int .i64 er]) ?_
    simp only [nrm]
    refine lvk (.agg (fl [[.int .u32 d.nx], [.slice x4.ao x4.no x4.co], [.int .i64 d.tn], [.int .u32 d.dl], [.slice x4.ah x4.nh x4.ch]])) ?_
    simp only [nrm]
    refine lvk (.int .u32 g) ?_
    simp only [nrm]
    refine lvk (.int .i64 er) ?_
    simp only [nrm]
    refine list_valw (.pointer (some ⟨u14.heap.size, 0, none⟩)) (u14.alloc (.cells (fl [[.int .u32 0], [.slice none 0 0], [.int .i64 0], [.int .u32 0], [.slice none 0 0]]) 26 (0, 0))) (by kernel_rfl) (by kernel_rfl) ?_
    replace hB := hB.new (fl [[.int .u32 0], [.slice none 0 0], [.int .i64 0], [.int .u32 0], [.slice none 0 0]]) 26
    simp only [List.nil_append, List.cons_append] at hB
    have hg := (Gr.refl u14).alloc (.cells (fl [[.int .u32 0], [.slice none 0 0], [.int .i64 0], [.int .u32 0], [.slice none 0 0]]) 26 (0, 0))
    replace hC1 := hide ((unhide hC1).gr hg)
    replace hSe := hide ((unhide hSe).gr hg)
    replace hY := hide ((unhide hY).gr hg)
    replace hC3 := hide ((unhide hC3).gr hg)
    replace hbs := hide ((unhide hbs).gr hg)
    replace hC4 := hide ((unhide hC4).gr hg)
    clear hg
    generalize World.alloc _ _ = u15 at *
    generalize u14.heap.size = g9 at *
    simp only [nrm]
    have hzz_ : Hid (u15.heap[g9]? = some (.cells (fl [[.int .u32 0], [.slice none 0 0], [.int .i64 0], [.int .u32 0], [.slice none 0 0]]) 26 (0, 0))) := hide (hB.get 4 (x := ⟨g9, fl [[.int .u32 0], [.slice none 0 0], [.int .i64 0], [.int .u32 0], [.slice none 0 0]], 26⟩) rfl)
    refine list_all 26 (.tmp 9) (.tmp 47) (g9) (S2 := [[.int .u32 d.nx], [.slice x4.ao x4.no x4.co], [.int .i64 d.tn], [.int .u32 d.dl], [.slice x4.ah x4.nh x4.ch]]) (by kernel_rfl) rfl (by kernel_rfl) (by kernel_rfl) hB 4 rfl NC (nC  _ _ _ _ _) (nC  _ _ _ _ _) (by kernel_rfl) (oC  rfl rfl rfl rfl rfl) ?_
    intro u16 hB_ hbt_
    clear hB
    replace hB : Bl w [⟨w.heap.size, fl [[.int .u32 e.nx], [.slice x1.ao x1.no x1.co], [.int .i64 e.tn], [.int .u32 e.dl], [.slice x1.ah x1.nh x1.ch]], 26⟩, ⟨w.heap.size + 1, fl [bw B], 28⟩, ⟨g5, fl [[.int .u32 e.nx], [.slice y.ao y.no y.co], [.int .i64 e.tn], [.int .u32 e.dl], [.slice y.ah y.nh y.ch]], 26⟩, ⟨g6, fl [[.int .u32 d.nx], [.slice x3.ao x3.no x3.co], [.int .i64 d.tn], [.int .u32 d.dl], [.slice x3.ah x3.nh x3.ch]], 26⟩, ⟨g9, fl [[.int .u32 d.nx], [.slice x4.ao x4.no x4.co], [.int .i64 d.tn], [.int .u32 d.dl], [.slice x4.ah x4.nh x4.ch]], 26⟩] u16 := hB_
    clear hB_
    replace hC1 := hide ((unhide hC1).bz (unhide hzz_) hbt_)
    replace hSe := hide ((unhide hSe).bz (unhide hzz_) hbt_)
    replace hY := hide ((unhide hY).bz (unhide hzz_) hbt_)
    replace hC3 := hide ((unhide hC3).bz (unhide hzz_) hbt_)
    replace hbs := hide ((unhide hbs).bz (unhide hzz_) hbt_)
    replace hC4 := hide ((unhide hC4).bz (unhide hzz_) hbt_)
    clear hbt_ hzz_
    simp only [nrm]
    (refine wpList_step fun K hK => ?_; replace hK := hide hK; go_simp; refine unhide hK _ _ ?_; clear hK K)
    (refine wpList_step fun K hK => ?_; replace hK := hide hK; go_simp; refine unhide hK _ _ ?_; clear hK K)
    refine wpList_nil ?_
    replace hB := hide hB
    go_upto_region 9 with fail
    replace hB := unhide hB
    refine wp_region_lit ?_
    refine wpList_gen fun ops_ hops => ?_
    replace hops := hide hops
    refine list_val (.int .i64 er) (by rw [unhide hops]; kernel_rfl) (by kernel_rfl) ?_
    simp only [nrm]
    refine list_val (.int .i64 er) (by rw [unhide hops]; kernel_rfl) (by kernel_rfl) ?_
    simp only [nrm]
    refine list_val (.bool false) (by rw [unhide hops]; kernel_rfl) (neq_e _ (.tmp 50) (.tmp 51) er er false rfl (by kernel_rfl) (by kernel_rfl) (by simp)) ?_
    simp only [nrm]
    refine list_val (.bool false) (by rw [unhide hops]; kernel_rfl) (by kernel_rfl) ?_
    simp only [nrm]
    refine list_val (.int .u32 g) (by rw [unhide hops]; kernel_rfl) (by kernel_rfl) ?_
    simp only [nrm]
    refine list_val (.int .u32 g) (by rw [unhide hops]; kernel_rfl) (by kernel_rfl) ?_
    simp only [nrm]
    refine list_val (.bool false) (by rw [unhide hops]; kernel_rfl) (neq_32 _ (.tmp 54) (.tmp 55) g g false rfl (by kernel_rfl) (by kernel_rfl) (by simp)) ?_
    simp only [nrm]
    refine list_val (.bool false) (by rw [unhide hops]; kernel_rfl) (by kernel_rfl) ?_
    simp only [nrm]
    refine list_val (.bool false) (by rw [unhide hops]; kernel_rfl) (by kernel_rfl) ?_
    simp only [nrm]
    refine list_val (.agg (fl [[.int .u32 d.nx], [.slice x4.ao x4.no x4.co], [.int .i64 d.tn], [.int .u32 d.dl], [.slice x4.ah x4.nh x4.ch]])) (by rw [unhide hops]; kernel_rfl) (exec_sw _ 26 (.tmp 9) rfl (g9) (by kernel_rfl) (hB.get 4 (x := ⟨g9, fl [[.int .u32 d.nx], [.slice x4.ao x4.no x4.co], [.int .i64 d.tn], [.int .u32 d.dl], [.slice x4.ah x4.nh x4.ch]], 26⟩) rfl) NC (nC  _ _ _ _ _) Try.underlying26 rfl (by kernel_rfl)) ?_
    simp only [nrm]
    refine list_val (.agg (fl [[.int .u32 d.nx], [.slice x3.ao x3.no x3.co], [.int .i64 d.tn], [.int .u32 d.dl], [.slice x3.ah x3.nh x3.ch]])) (by rw [unhide hops]; kernel_rfl) (exec_sw _ 26 (.tmp 6) rfl (g6) (by kernel_rfl) (hB.get 3 (x := ⟨g6, fl [[.int .u32 d.nx], [.slice x3.ao x3.no x3.co], [.int .i64 d.tn], [.int .u32 d.dl], [.slice x3.ah x3.nh x3.ch]], 26⟩) rfl) NC (nC  _ _ _ _ _) Try.underlying26 rfl (by kernel_rfl)) ?_
    simp only [nrm]
    refine list_call 16 #[.agg (fl [[.int .u32 d.nx], [.slice x4.ao x4.no x4.co], [.int .i64 d.tn], [.int .u32 d.dl], [.slice x4.ah x4.nh x4.ch]]), .agg (fl [[.int .u32 d.nx], [.slice x3.ao x3.no x3.co], [.int .i64 d.tn], [.int .u32 d.dl], [.slice x3.ah x3.nh x3.ch]])] (by rw [unhide hops]; kernel_rfl) (by kernel_rfl) (((show Calls Try.prog 16 #[.agg (fl [[.int .u32 d.nx], [.slice x4.ao x4.no x4.co], [.int .i64 d.tn], [.int .u32 d.dl], [.slice x4.ah x4.nh x4.ch]]), .agg (fl [[.int .u32 d.nx], [.slice x3.ao x3.no x3.co], [.int .i64 d.tn], [.int .u32 d.dl], [.slice x3.ah x3.nh x3.ch]])] u16 (Vl (.bool true) u16) from by have h := rsame_ok d d x4 x3 u16 (unhide hC4).i (unhide hC3).i; rw [decide_eq_true rfl] at h; exact h)).mono ?_)
    rintro r_ u17 ⟨rfl, hg⟩
    replace hC1 := hide ((unhide hC1).gr hg)
    replace hSe := hide ((unhide hSe).gr hg)
    replace hY := hide ((unhide hY).gr hg)
    replace hC3 := hide ((unhide hC3).gr hg)
    replace hbs := hide ((unhide hbs).gr hg)
    replace hC4 := hide ((unhide hC4).gr hg)
    replace hB := hB.more hg
    clear hg
    refine ⟨_, rfl, ?_⟩
    simp only [nrm]
    refine list_val (.bool false) (by rw [unhide hops]; kernel_rfl) (by kernel_rfl) ?_
    simp only [nrm]
    refine list_val (.bool false) (by rw [unhide hops]; kernel_rfl) (by kernel_rfl) ?_
    simp only [nrm]
    refine wpList_nil ?_
    replace hB := hide hB
    go_upto_region 11 with fail
    replace hB := unhide hB
    refine wp_region_lit ?_
    refine list_val (.agg (fl [[.int .u32 d.nx], [.slice x4.ao x4.no x4.co], [.int .i64 d.tn], [.int .u32 d.dl], [.slice x4.ah x4.nh x4.ch]])) (by kernel_rfl) (exec_sw _ 26 (.tmp 9) rfl (g9) (by kernel_rfl) (hB.get 4 (x := ⟨g9, fl [[.int .u32 d.nx], [.slice x4.ao x4.no x4.co], [.int .i64 d.tn], [.int .u32 d.dl], [.slice x4.ah x4.nh x4.ch]], 26⟩) rfl) NC (nC  _ _ _ _ _) Try.underlying26 rfl (by kernel_rfl)) ?_
    simp only [nrm]
    refine list_call 17 #[.agg (fl [[.int .u32 d.nx], [.slice x4.ao x4.no x4.co], [.int .i64 d.tn], [.int .u32 d.dl], [.slice x4.ah x4.nh x4.ch]])] (by kernel_rfl) (by kernel_rfl) ((spoil_ok d x4 b u17 (unhide hbs) (unhide hC4).i (unhide hC4).o).mono ?_)
    rintro r_ u18 ⟨rfl, hsp⟩
    replace hB := hB.sp hsp (unhide hbw) (by intro y_ hy_; simp only [List.mem_cons, List.not_mem_nil, or_false] at hy_; rcases hy_ with rfl | rfl | rfl | rfl | rfl <;> (dsimp only; decide))
    clear hC4
    replace hSe := hide ((unhide hSe).sp hsp (unhide hlSb))
    replace hY := hide ((unhide hY).sp hsp (unhide hlYb))
    clear hsp
    refine ⟨_, rfl, ?_⟩
    simp only [nrm]
    refine wpList_nil ?_
    replace hB := hide hB
    go_upto_region 12 with fail
    replace hB := unhide hB
    refine wp_region_lit ?_
    refine list_val (.agg (fl [[.int .u32 e.nx], [.slice x1.ao x1.no x1.co], [.int .i64 e.tn], [.int .u32 e.dl], [.slice x1.ah x1.nh x1.ch]])) (by kernel_rfl) (exec_sw _ 26 (.tmp 2) rfl (w.heap.size) (by kernel_rfl) (hB.get 0 (x := ⟨w.heap.size, fl [[.int .u32 e.nx], [.slice x1.ao x1.no x1.co], [.int .i64 e.tn], [.int .u32 e.dl], [.slice x1.ah x1.nh x1.ch]], 26⟩) rfl) NC (nC  _ _ _ _ _) Try.underlying26 rfl (by kernel_rfl)) ?_
    simp only [nrm]
    refine list_val (.agg (fl [[.int .u32 e.nx], [.slice y.ao y.no y.co], [.int .i64 e.tn], [.int .u32 e.dl], [.slice y.ah y.nh y.ch]])) (by kernel_rfl) (exec_sw _ 26 (.tmp 5) rfl (g5) (by kernel_rfl) (hB.get 2 (x := ⟨g5, fl [[.int .u32 e.nx], [.slice y.ao y.no y.co], [.int .i64 e.tn], [.int .u32 e.dl], [.slice y.ah y.nh y.ch]], 26⟩) rfl) NC (nC  _ _ _ _ _) Try.underlying26 rfl (by kernel_rfl)) ?_
    simp only [nrm]
    refine list_call 18 #[.agg (fl [[.int .u32 e.nx], [.slice x1.ao x1.no x1.co], [.int .i64 e.tn], [.int .u32 e.dl], [.slice x1.ah x1.nh x1.ch]]), .agg (fl [[.int .u32 e.nx], [.slice y.ao y.no y.co], [.int .i64 e.tn], [.int .u32 e.dl], [.slice y.ah y.nh y.ch]])] (by kernel_rfl) (by kernel_rfl) ((whole_ok e x1 y w.heap.size u18 (unhide hSe) (unhide hnm) (unhide hY).i).mono ?_)
    rintro r_ u19 ⟨rfl, hg⟩
    replace hSe := hide ((unhide hSe).gr hg)
    replace hY := hide ((unhide hY).gr hg)
    replace hB := hB.more hg
    clear hg
    refine ⟨_, rfl, ?_⟩
    simp only [nrm]
    refine lvk (.bool false) ?_
    simp only [nrm]
    refine wpList_nil ?_
    replace hC1 := hide ((unhide hSe).co (unhide hnm))
    clear hC3 hak
    obtain ⟨d2, s, er2, hak⟩ : ∃ d2 s er2, tu e = (d2, s, er2) := ⟨_, _, _, rfl⟩
    have hsl := (tu_ok (unhide hnm)).1
    rw [hak] at hsl
    replace hak := hide hak; replace hsl := hide hsl
    replace hB := hide hB
    go_upto_region 14 with fail
    replace hB := unhide hB
    refine wp_region_lit ?_
    refine list_val (.agg (fl [[.int .u32 e.nx], [.slice x1.ao x1.no x1.co], [.int .i64 e.tn], [.int .u32 e.dl], [.slice x1.ah x1.nh x1.ch]])) (by kernel_rfl) (exec_sw _ 26 (.tmp 2) rfl (w.heap.size) (by kernel_rfl) (hB.get 0 (x := ⟨w.heap.size, fl [[.int .u32 e.nx], [.slice x1.ao x1.no x1.co], [.int .i64 e.tn], [.int .u32 e.dl], [.slice x1.ah x1.nh x1.ch]], 26⟩) rfl) NC (nC  _ _ _ _ _) Try.underlying26 rfl (by kernel_rfl)) ?_
    simp only [nrm]
    refine list_call 19 #[.agg (fl [[.int .u32 e.nx], [.slice x1.ao x1.no x1.co], [.int .i64 e.tn], [.int .u32 e.dl], [.slice x1.ah x1.nh x1.ch]])] (by kernel_rfl) (by kernel_rfl) (((show Calls Try.prog 19 #[.agg (fl [[.int .u32 e.nx], [.slice x1.ao x1.no x1.co], [.int .i64 e.tn], [.int .u32 e.dl], [.slice x1.ah x1.nh x1.ch]])] u19 (fun r w' => ∃ x', r = .returned (.tuple (.agg (fl (cvs d2 x')) :: [.agg (fl [[.int .u32 s.n], bw s.B]), .int .i64 er2]).toArray) ∧ Co w.heap.size w' d2 x' ∧ Gr u19 w') from by have h := rturn_ok e x1 u19 (unhide hC1).i; rw [unhide hak] at h; exact h.mono fun r w' h9 => (by obtain ⟨x', h1, h2, h3, h4⟩ := h9; exact ⟨x', h1, ⟨h2, h3.base (hB.gr.size)⟩, h4⟩))).mono ?_)
    rintro r_ u20 ⟨x5, rfl, hC5, hg⟩
    replace hSe := hide ((unhide hSe).gr hg)
    replace hY := hide ((unhide hY).gr hg)
    replace hC1 := hide ((unhide hC1).gr hg)
    replace hB := hB.more hg
    clear hg
    replace hC5 := hide hC5
    refine ⟨_, rfl, ?_⟩
    simp only [nrm]
    refine lvk (.tuple #[.agg (fl [[.int .u32 d2.nx], [.slice x5.ao x5.no x5.co], [.int .i64 d2.tn], [.int .u32 d2.dl], [.slice x5.ah x5.nh x5.ch]]), .agg (fl [[.int .u32 s.n], bw s.B]), .int .i64 er2]) ?_
    simp only [nrm]
    refine lvk (.agg (fl [[.int .u32 d2.nx], [.slice x5.ao x5.no x5.co], [.int .i64 d2.tn], [.int .u32 d2.dl], [.slice x5.ah x5.nh x5.ch]])) ?_
    simp only [nrm]
    refine lvk (.agg (fl [[.int .u32 s.n], bw s.B])) ?_
    simp only [nrm]
    refine lvk (.int .i64 er2) ?_
    simp only [nrm]
    have hne12_hSe := (unhide hSe).newO
    have hne12_hY := (unhide hY).newO
    have hne12_hC1 := (unhide hC1).newO
    have hne12_hC5 := (unhide hC5).newO
    refine list_valw (.pointer (some ⟨u20.heap.size, 0, none⟩)) (u20.alloc (.cells (fl [[.int .u32 0], bw Z105]) 39 (0, 0))) (by kernel_rfl) (by kernel_rfl) ?_
    replace hB := hB.new (fl [[.int .u32 0], bw Z105]) 39
    simp only [List.nil_append, List.cons_append] at hB
    have hg := (Gr.refl u20).alloc (.cells (fl [[.int .u32 0], bw Z105]) 39 (0, 0))
    replace hSe := hide ((unhide hSe).gr hg)
    replace hY := hide ((unhide hY).gr hg)
    replace hC1 := hide ((unhide hC1).gr hg)
    replace hC5 := hide ((unhide hC5).gr hg)
    clear hg
    generalize World.alloc _ _ = u21 at *
    generalize u20.heap.size = g12 at *
    simp only [nrm]
    have hzz_ : Hid (u21.heap[g6]? = some (.cells (fl [[.int .u32 d.nx], [.slice x3.ao x3.no x3.co], [.int .i64 d.tn], [.int .u32 d.dl], [.slice x3.ah x3.nh x3.ch]]) 26 (0, 0))) := hide (hB.get 3 (x := ⟨g6, fl [[.int .u32 d.nx], [.slice x3.ao x3.no x3.co], [.int .i64 d.tn], [.int .u32 d.dl], [.slice x3.ah x3.nh x3.ch]], 26⟩) rfl)
    refine list_all 26 (.tmp 6) (.tmp 73) (g6) (S2 := [[.int .u32 d2.nx], [.slice x5.ao x5.no x5.co], [.int .i64 d2.tn], [.int .u32 d2.dl], [.slice x5.ah x5.nh x5.ch]]) (by kernel_rfl) rfl (by kernel_rfl) (by kernel_rfl) hB 3 rfl NC (nC  _ _ _ _ _) (nC  _ _ _ _ _) (by kernel_rfl) (oC  rfl rfl rfl rfl rfl) ?_
    intro u22 hB_ hbt_
    clear hB
    replace hB : Bl w [⟨w.heap.size, fl [[.int .u32 e.nx], [.slice x1.ao x1.no x1.co], [.int .i64 e.tn], [.int .u32 e.dl], [.slice x1.ah x1.nh x1.ch]], 26⟩, ⟨w.heap.size + 1, fl [bw B], 28⟩, ⟨g5, fl [[.int .u32 e.nx], [.slice y.ao y.no y.co], [.int .i64 e.tn], [.int .u32 e.dl], [.slice y.ah y.nh y.ch]], 26⟩, ⟨g6, fl [[.int .u32 d2.nx], [.slice x5.ao x5.no x5.co], [.int .i64 d2.tn], [.int .u32 d2.dl], [.slice x5.ah x5.nh x5.ch]], 26⟩, ⟨g9, fl [[.int .u32 d.nx], [.slice x4.ao x4.no x4.co], [.int .i64 d.tn], [.int .u32 d.dl], [.slice x4.ah x4.nh x4.ch]], 26⟩, ⟨g12, fl [[.int .u32 0], bw Z105], 39⟩] u22 := hB_
    clear hB_
    replace hSe := hide ((unhide hSe).bz (unhide hzz_) hbt_)
    replace hY := hide ((unhide hY).bz (unhide hzz_) hbt_)
    replace hC1 := hide ((unhide hC1).bz (unhide hzz_) hbt_)
    replace hC5 := hide ((unhide hC5).bz (unhide hzz_) hbt_)
    clear hbt_ hzz_
    simp only [nrm]
    have hzz_ : Hid (u22.heap[g12]? = some (.cells (fl [[.int .u32 0], bw Z105]) 39 (0, 0))) := hide (hB.get 5 (x := ⟨g12, fl [[.int .u32 0], bw Z105], 39⟩) rfl)
    refine list_all 39 (.tmp 12) (.tmp 74) (g12) (S2 := [[.int .u32 s.n], bw s.B]) (by kernel_rfl) rfl (by kernel_rfl) (by kernel_rfl) hB 5 rfl NO (nO Z105_len _) (nO (unhide hsl) _) (by kernel_rfl) (oO _ rfl) ?_
    intro u23 hB_ hbt_
    clear hB
    replace hB : Bl w [⟨w.heap.size, fl [[.int .u32 e.nx], [.slice x1.ao x1.no x1.co], [.int .i64 e.tn], [.int .u32 e.dl], [.slice x1.ah x1.nh x1.ch]], 26⟩, ⟨w.heap.size + 1, fl [bw B], 28⟩, ⟨g5, fl [[.int .u32 e.nx], [.slice y.ao y.no y.co], [.int .i64 e.tn], [.int .u32 e.dl], [.slice y.ah y.nh y.ch]], 26⟩, ⟨g6, fl [[.int .u32 d2.nx], [.slice x5.ao x5.no x5.co], [.int .i64 d2.tn], [.int .u32 d2.dl], [.slice x5.ah x5.nh x5.ch]], 26⟩, ⟨g9, fl [[.int .u32 d.nx], [.slice x4.ao x4.no x4.co], [.int .i64 d.tn], [.int .u32 d.dl], [.slice x4.ah x4.nh x4.ch]], 26⟩, ⟨g12, fl [[.int .u32 s.n], bw s.B], 39⟩] u23 := hB_
    clear hB_
    replace hSe := hide ((unhide hSe).bkO (unhide hzz_) hbt_ hne12_hSe)
    replace hY := hide ((unhide hY).bkO (unhide hzz_) hbt_ hne12_hY)
    replace hC1 := hide ((unhide hC1).bkO (unhide hzz_) hbt_ hne12_hC1)
    replace hC5 := hide ((unhide hC5).bkO (unhide hzz_) hbt_ hne12_hC5)
    clear hbt_ hzz_
    simp only [nrm]
    (refine wpList_step fun K hK => ?_; replace hK := hide hK; go_simp; refine unhide hK _ _ ?_; clear hK K)
    refine wpList_nil ?_
    replace hB := hide hB
    go_upto_region 15 with fail
    replace hB := unhide hB
    obtain ⟨b2, hb2⟩ : ∃ b_, b_ = u23.heap.size := ⟨_, rfl⟩
    have hb2w : Hid (w.heap.size ≤ b2) := hide (by rw [hb2]; exact hB.gr.size)
    have hlSb2 := hide (unhide hSe).lt
    have hlYb2 := hide (unhide hY).o.lt
    rw [← hb2] at hlSb2 hlYb2
    have hb2s : Hid (Bz b2 u23) := hide (Nat.le_of_eq hb2)
    refine wp_region_lit ?_
    refine list_val (.agg (fl [[.int .u32 e.nx], [.slice x1.ao x1.no x1.co], [.int .i64 e.tn], [.int .u32 e.dl], [.slice x1.ah x1.nh x1.ch]])) (by kernel_rfl) (exec_sw _ 26 (.tmp 2) rfl (w.heap.size) (by kernel_rfl) (hB.get 0 (x := ⟨w.heap.size, fl [[.int .u32 e.nx], [.slice x1.ao x1.no x1.co], [.int .i64 e.tn], [.int .u32 e.dl], [.slice x1.ah x1.nh x1.ch]], 26⟩) rfl) NC (nC  _ _ _ _ _) Try.underlying26 rfl (by kernel_rfl)) ?_
    simp only [nrm]
    refine list_call 20 #[.agg (fl [[.int .u32 e.nx], [.slice x1.ao x1.no x1.co], [.int .i64 e.tn], [.int .u32 e.dl], [.slice x1.ah x1.nh x1.ch]])] (by kernel_rfl) (by kernel_rfl) (((show Calls Try.prog 20 #[.agg (fl [[.int .u32 e.nx], [.slice x1.ao x1.no x1.co], [.int .i64 e.tn], [.int .u32 e.dl], [.slice x1.ah x1.nh x1.ch]])] u23 (fun r w' => ∃ x', r = .returned (.tuple (.agg (fl (cvs d2 x')) :: [.agg (fl [[.int .u32 s.n], bw s.B]), .int .i64 er2]).toArray) ∧ Co b2 w' d2 x' ∧ Gr u23 w') from by have h := turn_ok e x1 u23 (unhide hC1).i; rw [unhide hak] at h; exact h.mono fun r w' h9 => (by obtain ⟨x', h1, h2, h3, h4⟩ := h9; exact ⟨x', h1, ⟨h2, h3.base (by rw [hb2]; exact Nat.le_refl _)⟩, h4⟩))).mono ?_)
    rintro r_ u24 ⟨x6, rfl, hC6, hg⟩
    replace hSe := hide ((unhide hSe).gr hg)
    replace hY := hide ((unhide hY).gr hg)
    replace hC1 := hide ((unhide hC1).gr hg)
    replace hC5 := hide ((unhide hC5).gr hg)
    replace hb2s := hide ((unhide hb2s).gr hg)
    replace hB := hB.more hg
    clear hg
    replace hC6 := hide hC6
    refine ⟨_, rfl, ?_⟩
    simp only [nrm]
    refine lvk (.tuple #[.agg (fl [[.int .u32 d2.nx], [.slice x6.ao x6.no x6.co], [.int .i64 d2.tn], [.int .u32 d2.dl], [.slice x6.ah x6.nh x6.ch]]), .agg (fl [[.int .u32 s.n], bw s.B]), .int .i64 er2]) ?_
    simp only [nrm]
    refine lvk (.agg (fl [[.int .u32 d2.nx], [.slice x6.ao x6.no x6.co], [.int .i64 d2.tn], [.int .u32 d2.dl], [.slice x6.ah x6.nh x6.ch]])) ?_
    simp only [nrm]
    refine lvk (.agg (fl [[.int .u32 s.n], bw s.B])) ?_
    simp only [nrm]
    refine lvk (.int .i64 er2) ?_
    simp only [nrm]
    have hne13_hSe := (unhide hSe).newO
    have hne13_hY := (unhide hY).newO
    have hne13_hC1 := (unhide hC1).newO
    have hne13_hC5 := (unhide hC5).newO
    have hne13_hC6 := (unhide hC6).newO
    refine list_valw (.pointer (some ⟨u24.heap.size, 0, none⟩)) (u24.alloc (.cells (fl [[.int .u32 0], bw Z105]) 39 (0, 0))) (by kernel_rfl) (by kernel_rfl) ?_
    replace hB := hB.new (fl [[.int .u32 0], bw Z105]) 39
    simp only [List.nil_append, List.cons_append] at hB
    have hg := (Gr.refl u24).alloc (.cells (fl [[.int .u32 0], bw Z105]) 39 (0, 0))
    replace hSe := hide ((unhide hSe).gr hg)
    replace hY := hide ((unhide hY).gr hg)
    replace hC1 := hide ((unhide hC1).gr hg)
    replace hC5 := hide ((unhide hC5).gr hg)
    replace hb2s := hide ((unhide hb2s).gr hg)
    replace hC6 := hide ((unhide hC6).gr hg)
    clear hg
    generalize World.alloc _ _ = u25 at *
    generalize u24.heap.size = g13 at *
    simp only [nrm]
    have hzz_ : Hid (u25.heap[g9]? = some (.cells (fl [[.int .u32 d.nx], [.slice x4.ao x4.no x4.co], [.int .i64 d.tn], [.int .u32 d.dl], [.slice x4.ah x4.nh x4.ch]]) 26 (0, 0))) := hide (hB.get 4 (x := ⟨g9, fl [[.int .u32 d.nx], [.slice x4.ao x4.no x4.co], [.int .i64 d.tn], [.int .u32 d.dl], [.slice x4.ah x4.nh x4.ch]], 26⟩) rfl)
    refine list_all 26 (.tmp 9) (.tmp 79) (g9) (S2 := [[.int .u32 d2.nx], [.slice x6.ao x6.no x6.co], [.int .i64 d2.tn], [.int .u32 d2.dl], [.slice x6.ah x6.nh x6.ch]]) (by kernel_rfl) rfl (by kernel_rfl) (by kernel_rfl) hB 4 rfl NC (nC  _ _ _ _ _) (nC  _ _ _ _ _) (by kernel_rfl) (oC  rfl rfl rfl rfl rfl) ?_
    intro u26 hB_ hbt_
    clear hB
    replace hB : Bl w [⟨w.heap.size, fl [[.int .u32 e.nx], [.slice x1.ao x1.no x1.co], [.int .i64 e.tn], [.int .u32 e.dl], [.slice x1.ah x1.nh x1.ch]], 26⟩, ⟨w.heap.size + 1, fl [bw B], 28⟩, ⟨g5, fl [[.int .u32 e.nx], [.slice y.ao y.no y.co], [.int .i64 e.tn], [.int .u32 e.dl], [.slice y.ah y.nh y.ch]], 26⟩, ⟨g6, fl [[.int .u32 d2.nx], [.slice x5.ao x5.no x5.co], [.int .i64 d2.tn], [.int .u32 d2.dl], [.slice x5.ah x5.nh x5.ch]], 26⟩, ⟨g9, fl [[.int .u32 d2.nx], [.slice x6.ao x6.no x6.co], [.int .i64 d2.tn], [.int .u32 d2.dl], [.slice x6.ah x6.nh x6.ch]], 26⟩, ⟨g12, fl [[.int .u32 s.n], bw s.B], 39⟩, ⟨g13, fl [[.int .u32 0], bw Z105], 39⟩] u26 := hB_
    clear hB_
    replace hSe := hide ((unhide hSe).bz (unhide hzz_) hbt_)
    replace hY := hide ((unhide hY).bz (unhide hzz_) hbt_)
    replace hC1 := hide ((unhide hC1).bz (unhide hzz_) hbt_)
    replace hC5 := hide ((unhide hC5).bz (unhide hzz_) hbt_)
    replace hb2s := hide ((unhide hb2s).bz (unhide hzz_) hbt_)
    replace hC6 := hide ((unhide hC6).bz (unhide hzz_) hbt_)
    clear hbt_ hzz_
    simp only [nrm]
    have hzz_ : Hid (u26.heap[g13]? = some (.cells (fl [[.int .u32 0], bw Z105]) 39 (0, 0))) := hide (hB.get 6 (x := ⟨g13, fl [[.int .u32 0], bw Z105], 39⟩) rfl)
    refine list_all 39 (.tmp 13) (.tmp 80) (g13) (S2 := [[.int .u32 s.n], bw s.B]) (by kernel_rfl) rfl (by kernel_rfl) (by kernel_rfl) hB 6 rfl NO (nO Z105_len _) (nO (unhide hsl) _) (by kernel_rfl) (oO _ rfl) ?_
    intro u27 hB_ hbt_
    clear hB
    replace hB : Bl w [⟨w.heap.size, fl [[.int .u32 e.nx], [.slice x1.ao x1.no x1.co], [.int .i64 e.tn], [.int .u32 e.dl], [.slice x1.ah x1.nh x1.ch]], 26⟩, ⟨w.heap.size + 1, fl [bw B], 28⟩, ⟨g5, fl [[.int .u32 e.nx], [.slice y.ao y.no y.co], [.int .i64 e.tn], [.int .u32 e.dl], [.slice y.ah y.nh y.ch]], 26⟩, ⟨g6, fl [[.int .u32 d2.nx], [.slice x5.ao x5.no x5.co], [.int .i64 d2.tn], [.int .u32 d2.dl], [.slice x5.ah x5.nh x5.ch]], 26⟩, ⟨g9, fl [[.int .u32 d2.nx], [.slice x6.ao x6.no x6.co], [.int .i64 d2.tn], [.int .u32 d2.dl], [.slice x6.ah x6.nh x6.ch]], 26⟩, ⟨g12, fl [[.int .u32 s.n], bw s.B], 39⟩, ⟨g13, fl [[.int .u32 s.n], bw s.B], 39⟩] u27 := hB_
    clear hB_
    replace hSe := hide ((unhide hSe).bkO (unhide hzz_) hbt_ hne13_hSe)
    replace hY := hide ((unhide hY).bkO (unhide hzz_) hbt_ hne13_hY)
    replace hC1 := hide ((unhide hC1).bkO (unhide hzz_) hbt_ hne13_hC1)
    replace hC5 := hide ((unhide hC5).bkO (unhide hzz_) hbt_ hne13_hC5)
    replace hb2s := hide ((unhide hb2s).bz (unhide hzz_) hbt_)
    replace hC6 := hide ((unhide hC6).bkO (unhide hzz_) hbt_ hne13_hC6)
    clear hbt_ hzz_
    simp only [nrm]
    (refine wpList_step fun K hK => ?_; replace hK := hide hK; go_simp; refine unhide hK _ _ ?_; clear hK K)
    refine wpList_nil ?_
    replace hB := hide hB
    go_upto_region 16 with fail
    replace hB := unhide hB
    refine wp_region_lit ?_
    refine wpList_gen fun ops_ hops => ?_
    replace hops := hide hops
    refine list_val (.int .i64 er2) (by rw [unhide hops]; kernel_rfl) (by kernel_rfl) ?_
    simp only [nrm]
    refine list_val (.int .i64 er2) (by rw [unhide hops]; kernel_rfl) (by kernel_rfl) ?_
    simp only [nrm]
    refine list_val (.bool false) (by rw [unhide hops]; kernel_rfl) (neq_e _ (.tmp 82) (.tmp 83) er2 er2 false rfl (by kernel_rfl) (by kernel_rfl) (by simp)) ?_
    simp only [nrm]
    refine list_val (.bool false) (by rw [unhide hops]; kernel_rfl) (by kernel_rfl) ?_
    simp only [nrm]
    refine list_val (.agg (fl [[.int .u32 s.n], bw s.B])) (by rw [unhide hops]; kernel_rfl) (exec_sw _ 39 (.tmp 13) rfl (g13) (by kernel_rfl) (hB.get 6 (x := ⟨g13, fl [[.int .u32 s.n], bw s.B], 39⟩) rfl) NO (nO (unhide hsl) _) Try.underlying39 rfl (by kernel_rfl)) ?_
    simp only [nrm]
    refine list_val (.agg (fl [[.int .u32 s.n], bw s.B])) (by rw [unhide hops]; kernel_rfl) (exec_sw _ 39 (.tmp 12) rfl (g12) (by kernel_rfl) (hB.get 5 (x := ⟨g12, fl [[.int .u32 s.n], bw s.B], 39⟩) rfl) NO (nO (unhide hsl) _) Try.underlying39 rfl (by kernel_rfl)) ?_
    simp only [nrm]
    refine list_val (.bool false) (by rw [unhide hops]; kernel_rfl) (exec_neO _ (.tmp 86) (.tmp 87) rfl s s (unhide hsl) (unhide hsl) (by kernel_rfl) (by kernel_rfl) true (by simp)) ?_
    simp only [nrm]
    refine list_val (.bool false) (by rw [unhide hops]; kernel_rfl) (by kernel_rfl) ?_
    simp only [nrm]
    refine list_val (.bool false) (by rw [unhide hops]; kernel_rfl) (by kernel_rfl) ?_
    simp only [nrm]
    refine list_val (.agg (fl [[.int .u32 d2.nx], [.slice x6.ao x6.no x6.co], [.int .i64 d2.tn], [.int .u32 d2.dl], [.slice x6.ah x6.nh x6.ch]])) (by rw [unhide hops]; kernel_rfl) (exec_sw _ 26 (.tmp 9) rfl (g9) (by kernel_rfl) (hB.get 4 (x := ⟨g9, fl [[.int .u32 d2.nx], [.slice x6.ao x6.no x6.co], [.int .i64 d2.tn], [.int .u32 d2.dl], [.slice x6.ah x6.nh x6.ch]], 26⟩) rfl) NC (nC  _ _ _ _ _) Try.underlying26 rfl (by kernel_rfl)) ?_
    simp only [nrm]
    refine list_val (.agg (fl [[.int .u32 d2.nx], [.slice x5.ao x5.no x5.co], [.int .i64 d2.tn], [.int .u32 d2.dl], [.slice x5.ah x5.nh x5.ch]])) (by rw [unhide hops]; kernel_rfl) (exec_sw _ 26 (.tmp 6) rfl (g6) (by kernel_rfl) (hB.get 3 (x := ⟨g6, fl [[.int .u32 d2.nx], [.slice x5.ao x5.no x5.co], [.int .i64 d2.tn], [.int .u32 d2.dl], [.slice x5.ah x5.nh x5.ch]], 26⟩) rfl) NC (nC  _ _ _ _ _) Try.underlying26 rfl (by kernel_rfl)) ?_
    simp only [nrm]
    refine list_call 16 #[.agg (fl [[.int .u32 d2.nx], [.slice x6.ao x6.no x6.co], [.int .i64 d2.tn], [.int .u32 d2.dl], [.slice x6.ah x6.nh x6.ch]]), .agg (fl [[.int .u32 d2.nx], [.slice x5.ao x5.no x5.co], [.int .i64 d2.tn], [.int .u32 d2.dl], [.slice x5.ah x5.nh x5.ch]])] (by rw [unhide hops]; kernel_rfl) (by kernel_rfl) (((show Calls Try.prog 16 #[.agg (fl [[.int .u32 d2.nx], [.slice x6.ao x6.no x6.co], [.int .i64 d2.tn], [.int .u32 d2.dl], [.slice x6.ah x6.nh x6.ch]]), .agg (fl [[.int .u32 d2.nx], [.slice x5.ao x5.no x5.co], [.int .i64 d2.tn], [.int .u32 d2.dl], [.slice x5.ah x5.nh x5.ch]])] u27 (Vl (.bool true) u27) from by have h := rsame_ok d2 d2 x6 x5 u27 (unhide hC6).i (unhide hC5).i; rw [decide_eq_true rfl] at h; exact h)).mono ?_)
    rintro r_ u28 ⟨rfl, hg⟩
    replace hSe := hide ((unhide hSe).gr hg)
    replace hY := hide ((unhide hY).gr hg)
    replace hC1 := hide ((unhide hC1).gr hg)
    replace hC5 := hide ((unhide hC5).gr hg)
    replace hb2s := hide ((unhide hb2s).gr hg)
    replace hC6 := hide ((unhide hC6).gr hg)
    replace hB := hB.more hg
    clear hg
    refine ⟨_, rfl, ?_⟩
    simp only [nrm]
    refine list_val (.bool false) (by rw [unhide hops]; kernel_rfl) (by kernel_rfl) ?_
    simp only [nrm]
    refine list_val (.bool false) (by rw [unhide hops]; kernel_rfl) (by kernel_rfl) ?_
    simp only [nrm]
    refine wpList_nil ?_
    replace hB := Bl.left (L := [⟨w.heap.size, fl [[.int .u32 e.nx], [.slice x1.ao x1.no x1.co], [.int .i64 e.tn], [.int .u32 e.dl], [.slice x1.ah x1.nh x1.ch]], 26⟩, ⟨w.heap.size + 1, fl [bw B], 28⟩, ⟨g5, fl [[.int .u32 e.nx], [.slice y.ao y.no y.co], [.int .i64 e.tn], [.int .u32 e.dl], [.slice y.ah y.nh y.ch]], 26⟩, ⟨g6, fl [[.int .u32 d2.nx], [.slice x5.ao x5.no x5.co], [.int .i64 d2.tn], [.int .u32 d2.dl], [.slice x5.ah x5.nh x5.ch]], 26⟩, ⟨g9, fl [[.int .u32 d2.nx], [.slice x6.ao x6.no x6.co], [.int .i64 d2.tn], [.int .u32 d2.dl], [.slice x6.ah x6.nh x6.ch]], 26⟩]) (M := [⟨g12, fl [[.int .u32 s.n], bw s.B], 39⟩, ⟨g13, fl [[.int .u32 s.n], bw s.B], 39⟩]) hB
    replace hB := hide hB
    go_upto_region 18 with fail
    replace hB := unhide hB
    refine wp_region_lit ?_
    refine list_val (.agg (fl [[.int .u32 d2.nx], [.slice x6.ao x6.no x6.co], [.int .i64 d2.tn], [.int .u32 d2.dl], [.slice x6.ah x6.nh x6.ch]])) (by kernel_rfl) (exec_sw _ 26 (.tmp 9) rfl (g9) (by kernel_rfl) (hB.get 4 (x := ⟨g9, fl [[.int .u32 d2.nx], [.slice x6.ao x6.no x6.co], [.int .i64 d2.tn], [.int .u32 d2.dl], [.slice x6.ah x6.nh x6.ch]], 26⟩) rfl) NC (nC  _ _ _ _ _) Try.underlying26 rfl (by kernel_rfl)) ?_
    simp only [nrm]
    refine list_call 17 #[.agg (fl [[.int .u32 d2.nx], [.slice x6.ao x6.no x6.co], [.int .i64 d2.tn], [.int .u32 d2.dl], [.slice x6.ah x6.nh x6.ch]])] (by kernel_rfl) (by kernel_rfl) ((spoil_ok d2 x6 b2 u28 (unhide hb2s) (unhide hC6).i (unhide hC6).o).mono ?_)
    rintro r_ u29 ⟨rfl, hsp⟩
    replace hB := hB.sp hsp (unhide hb2w) (by intro y_ hy_; simp only [List.mem_cons, List.not_mem_nil, or_false] at hy_; rcases hy_ with rfl | rfl | rfl | rfl | rfl <;> (dsimp only; decide))
    clear hC6
    replace hSe := hide ((unhide hSe).sp hsp (unhide hlSb2))
    replace hY := hide ((unhide hY).sp hsp (unhide hlYb2))
    clear hsp
    refine ⟨_, rfl, ?_⟩
    simp only [nrm]
    refine wpList_nil ?_
    replace hB := hide hB
    go_upto_region 19 with fail
    replace hB := unhide hB
    refine wp_region_lit ?_
    refine list_val (.agg (fl [[.int .u32 e.nx], [.slice x1.ao x1.no x1.co], [.int .i64 e.tn], [.int .u32 e.dl], [.slice x1.ah x1.nh x1.ch]])) (by kernel_rfl) (exec_sw _ 26 (.tmp 2) rfl (w.heap.size) (by kernel_rfl) (hB.get 0 (x := ⟨w.heap.size, fl [[.int .u32 e.nx], [.slice x1.ao x1.no x1.co], [.int .i64 e.tn], [.int .u32 e.dl], [.slice x1.ah x1.nh x1.ch]], 26⟩) rfl) NC (nC  _ _ _ _ _) Try.underlying26 rfl (by kernel_rfl)) ?_
    simp only [nrm]
    refine list_val (.agg (fl [[.int .u32 e.nx], [.slice y.ao y.no y.co], [.int .i64 e.tn], [.int .u32 e.dl], [.slice y.ah y.nh y.ch]])) (by kernel_rfl) (exec_sw _ 26 (.tmp 5) rfl (g5) (by kernel_rfl) (hB.get 2 (x := ⟨g5, fl [[.int .u32 e.nx], [.slice y.ao y.no y.co], [.int .i64 e.tn], [.int .u32 e.dl], [.slice y.ah y.nh y.ch]], 26⟩) rfl) NC (nC  _ _ _ _ _) Try.underlying26 rfl (by kernel_rfl)) ?_
    simp only [nrm]
    refine list_call 18 #[.agg (fl [[.int .u32 e.nx], [.slice x1.ao x1.no x1.co], [.int .i64 e.tn], [.int .u32 e.dl], [.slice x1.ah x1.nh x1.ch]]), .agg (fl [[.int .u32 e.nx], [.slice y.ao y.no y.co], [.int .i64 e.tn], [.int .u32 e.dl], [.slice y.ah y.nh y.ch]])] (by kernel_rfl) (by kernel_rfl) ((whole_ok e x1 y w.heap.size u29 (unhide hSe) (unhide hnm) (unhide hY).i).mono ?_)
    rintro r_ u30 ⟨rfl, hg⟩
    replace hSe := hide ((unhide hSe).gr hg)
    replace hY := hide ((unhide hY).gr hg)
    replace hB := hB.more hg
    clear hg
    refine ⟨_, rfl, ?_⟩
    simp only [nrm]
    (refine wpList_step fun K hK => ?_; replace hK := hide hK; go_simp; refine unhide hK _ _ ?_; clear hK K)
    refine wpList_nil ?_
    replace hB := hide hB
    go_wp2_with fail
    replace hB := unhide hB
    rw [unhide hT]
    exact (⟨rfl, hB.gr⟩)
end Go.Proofs.Ytcefkkoombmndaa
