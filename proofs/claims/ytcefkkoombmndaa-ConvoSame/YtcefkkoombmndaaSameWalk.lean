/-
  ConvoSame.
-/
import Derived.Test.YtcefkkoombmndaaUP
import Derived.Test.YtcefkkoombmndaaUJ
namespace Go.Proofs.Ytcefkkoombmndaa
open Go.RowKit
set_option maxRecDepth 100000
set_option linter.unusedSimpArgs false
set_option linter.unusedVariables false
theorem y_sh {a : Act} {o : Oper} (w : World) (x : Operand) (ho : o.op = .call { callee := .value (.func 10), args := #[x], argTypes := #[26] }) (v : Value) (hx : a.eval x = v) : (execOp a.eval o).run Try.prog w = .ok (.enter 10 #[v]) w := by
  unfold execOp
  simp only [ho]
  unfold resolve
  simp only [List.map_toArray, List.map_cons, List.map_nil, hx]
  kernel_rfl
set_option maxHeartbeats 4000000 in
theorem same_law (c c9 : Cm) (x x9 : Lc) (w : World) (hc : Cin w c x) (hc9 : Cin w c9 x9) : Calls Try.prog 7 #[.agg (fl [[.int .u32 c.nx], [.slice x.ao x.no x.co], [.int .i64 c.tn], [.int .u32 c.dl], [.slice x.ah x.nh x.ch]]), .agg (fl [[.int .u32 c9.nx], [.slice x9.ao x9.no x9.co], [.int .i64 c9.tn], [.int .u32 c9.dl], [.slice x9.ah x9.nh x9.ch]])] w (Vl (.bool true) w) := by
  obtain ⟨T, hT⟩ : ∃ T : Ending → World → Prop, T = (Vl (.bool true) w) := ⟨_, rfl⟩
  rw [← hT]
  replace hT := hide hT
  replace hc := hide hc; replace hc9 := hide hc9
  obtain ⟨A0_, hA0_⟩ : ∃ S_, S_ = fl [[.int .u32 c.nx], [.slice x.ao x.no x.co], [.int .i64 c.tn], [.int .u32 c.dl], [.slice x.ah x.nh x.ch]] := ⟨_, rfl⟩
  rw [← hA0_]
  replace hA0_ := hide hA0_
  obtain ⟨A1_, hA1_⟩ : ∃ S_, S_ = fl [[.int .u32 c9.nx], [.slice x9.ao x9.no x9.co], [.int .i64 c9.tn], [.int .u32 c9.dl], [.slice x9.ah x9.nh x9.ch]] := ⟨_, rfl⟩
  rw [← hA1_]
  replace hA1_ := hide hA1_
  go_enter Try.func7, Try.ntmps7
  go_upto_region 1 with fail
  have hB := (((Bl.nil w).new A0_ 26).new A1_ 26)
  simp only [size_alloc, List.nil_append, List.cons_append] at hB
  rw [unhide hA0_, unhide hA1_] at hB
  generalize hu_ : World.alloc _ _ = u0
  replace hB : Bl w [⟨w.heap.size, fl [[.int .u32 c.nx], [.slice x.ao x.no x.co], [.int .i64 c.tn], [.int .u32 c.dl], [.slice x.ah x.nh x.ch]], 26⟩, ⟨w.heap.size + 1, fl [[.int .u32 c9.nx], [.slice x9.ao x9.no x9.co], [.int .i64 c9.tn], [.int .u32 c9.dl], [.slice x9.ah x9.nh x9.ch]], 26⟩] u0 := by
    rw [← hu_]
    rw [unhide hA0_, unhide hA1_]
    exact hB
  clear hu_ hA0_ hA1_
  refine wp_region_lit ?_
  refine list_call 9 #[] (by kernel_rfl) (by kernel_rfl) ((wakes_ok u0).mono ?_)
  rintro r_ u1 ⟨rfl, hg⟩
  replace hB := hB.more hg
  clear hg
  refine ⟨_, rfl, ?_⟩
  simp only [Act.put, List.setIfInBounds_toArray, List.set_cons_zero, List.set_cons_succ, List.getElem_toArray, List.getElem_cons_zero, List.getElem_cons_succ]
  refine list_val (.bool false) (by kernel_rfl) (by kernel_rfl) ?_
  simp only [Act.put, List.setIfInBounds_toArray, List.set_cons_zero, List.set_cons_succ, List.getElem_toArray, List.getElem_cons_zero, List.getElem_cons_succ]
  refine wpList_nil ?_
  obtain ⟨e, he⟩ : ∃ e, e = ct c := ⟨_, rfl⟩
  have hnm := (unhide hc).nums.ct
  have e8o := ct_o c
  have e8h := ct_h c
  rw [← he] at hnm e8o e8h
  replace he := hide he; replace hnm := hide hnm
  obtain ⟨d, hed⟩ : ∃ d, d = ct c9 := ⟨_, rfl⟩
  have hnd := (unhide hc9).nums.ct
  have d8o := ct_o c9
  have d8h := ct_h c9
  rw [← hed] at hnd d8o d8h
  replace hed := hide hed; replace hnd := hide hnd
  replace hB := hide hB
  go_upto_region 3 with fail
  replace hB := unhide hB
  have hv0 := hide (hB.get 0 (x := ⟨w.heap.size, fl [[.int .u32 c.nx], [.slice x.ao x.no x.co], [.int .i64 c.tn], [.int .u32 c.dl], [.slice x.ah x.nh x.ch]], 26⟩) rfl)
  have hv1 := hide (hB.get 1 (x := ⟨w.heap.size + 1, fl [[.int .u32 c9.nx], [.slice x9.ao x9.no x9.co], [.int .i64 c9.tn], [.int .u32 c9.dl], [.slice x9.ah x9.nh x9.ch]], 26⟩) rfl)
  dsimp only at hv0 hv1
  have hB0 := hide hB
  have hwS := hB.gr.size
  clear hB
  generalize hA0 : Act.mk _ _ = A0
  have ev2 : A0.eval (.tmp 2) = .pointer (some ⟨w.heap.size, 0, none⟩) := by rw [← hA0]; rfl
  have ev3 : A0.eval (.tmp 3) = .pointer (some ⟨w.heap.size + 1, 0, none⟩) := by rw [← hA0]; rfl
  have hs0 : A0.tmps.size = 24 := by rw [← hA0]; rfl
  refine flow (J := fun l f z_ => (l 4 = false → Gr u1 z_) ∧ (l 0 = true → f 0 = .agg (fl [[.int .u32 c.nx], [.slice x.ao x.no x.co], [.int .i64 c.tn], [.int .u32 c.dl], [.slice x.ah x.nh x.ch]])) ∧ (l 1 = true → l 4 = false → ∃ xa, f 1 = .agg (fl [[.int .u32 e.nx], [.slice xa.ao xa.no xa.co], [.int .i64 e.tn], [.int .u32 e.dl], [.slice xa.ah xa.nh xa.ch]]) ∧ Co w.heap.size z_ e xa) ∧ (l 2 = true → f 2 = .agg (fl [[.int .u32 c9.nx], [.slice x9.ao x9.no x9.co], [.int .i64 c9.tn], [.int .u32 c9.dl], [.slice x9.ah x9.nh x9.ch]])) ∧ (l 3 = true → l 5 = false → ∃ xb, f 3 = .agg (fl [[.int .u32 d.nx], [.slice xb.ao xb.no xb.co], [.int .i64 d.tn], [.int .u32 d.dl], [.slice xb.ah xb.nh xb.ch]]) ∧ Co w.heap.size z_ d xb) ∧ (l 4 = true → l 5 = false → ∃ xa, Bl w [⟨w.heap.size, fl [[.int .u32 e.nx], [.slice xa.ao xa.no xa.co], [.int .i64 e.tn], [.int .u32 e.dl], [.slice xa.ah xa.nh xa.ch]], 26⟩, ⟨w.heap.size + 1, fl [[.int .u32 c9.nx], [.slice x9.ao x9.no x9.co], [.int .i64 c9.tn], [.int .u32 c9.dl], [.slice x9.ah x9.nh x9.ch]], 26⟩] z_ ∧ Co w.heap.size z_ e xa) ∧ (l 5 = true → ∃ xa xb, Bl w [⟨w.heap.size, fl [[.int .u32 e.nx], [.slice xa.ao xa.no xa.co], [.int .i64 e.tn], [.int .u32 e.dl], [.slice xa.ah xa.nh xa.ch]], 26⟩, ⟨w.heap.size + 1, fl [[.int .u32 d.nx], [.slice xb.ao xb.no xb.co], [.int .i64 d.tn], [.int .u32 d.dl], [.slice xb.ah xb.nh xb.ch]], 26⟩] z_ ∧ Co w.heap.size z_ e xa ∧ Co w.heap.size z_ d xb)) (by kernel_rfl) (by kernel_rfl) (by kernel_rfl) ?_ ?_ ?_
  · exact ⟨fun _ => (Gr.refl u1).drew, (fun e => by cases e), (fun e => by cases e), (fun e => by cases e), (fun e => by cases e), (fun e => by cases e), (fun e => by cases e)⟩
  · intro i o l f w_ ho hl_ hp hcl hJ K hK
    obtain ⟨hG0, t0, t1, t2, t3, t4, t5⟩ := hJ
    match i, ho with
    | 0, ho =>
      obtain rfl := Option.some.inj ho
      have hG := hG0 (Bool.eq_false_iff.2 fun e => absurd (pre_at (hcl 4 _ rfl e) 0 (by kernel_rfl)) (by rw [hl_]; decide))
      exact op_val (.agg (fl [[.int .u32 c.nx], [.slice x.ao x.no x.co], [.int .i64 c.tn], [.int .u32 c.dl], [.slice x.ah x.nh x.ch]])) rfl rfl (exec_sw _ 26 (.tmp 2) rfl (w.heap.size) ((ev_off 2 (by kernel_rfl)).trans ev2) (hG.blk (unhide hv0)) NC (nC _ _ _ _ _) Try.underlying26 rfl (by kernel_rfl)) (hK _ _ ⟨fun _ => hG, (fun _ => rfl), t1, t2, t3, t4, t5⟩)
    | 1, ho =>
      obtain rfl := Option.some.inj ho
      have hG := hG0 (Bool.eq_false_iff.2 fun e => absurd (pre_at (hcl 4 _ rfl e) 1 (by kernel_rfl)) (by rw [hl_]; decide))
      have p0 := pre_at hp 0 (by kernel_rfl)
      refine op_call 10 #[.agg (fl [[.int .u32 c.nx], [.slice x.ao x.no x.co], [.int .i64 c.tn], [.int .u32 c.dl], [.slice x.ah x.nh x.ch]])] rfl rfl (y_sh _ (.tmp 7) rfl _ ((ev_at 0 7 _ (by kernel_rfl) rfl rfl p0 (by rw [hs0]; decide)).trans (t0 p0))) ((short_ok c x w_ (((unhide hc).gr (unhide hB0).gr).gr hG)).mono ?_)
      rintro r w9 ⟨xa, rfl, hS, hg⟩
      rw [← unhide he] at hS ⊢
      exact ⟨_, rfl, hK _ _ ⟨fun _ => hG.trans hg, t0, (fun _ _ => ⟨xa, rfl, (hS.co (unhide hnm)).i, (hS.co (unhide hnm)).o.base (Nat.le_trans hwS hG.size)⟩), t2, (fun e => absurd (pre_at (hcl 3 _ rfl e) 1 (by kernel_rfl)) (by rw [hl_]; decide)), (fun e => absurd (pre_at (hcl 4 _ rfl e) 1 (by kernel_rfl)) (by rw [hl_]; decide)), (fun e => absurd (pre_at (hcl 5 _ rfl e) 1 (by kernel_rfl)) (by rw [hl_]; decide))⟩⟩
    | 2, ho =>
      obtain rfl := Option.some.inj ho
      have hG := hG0 (Bool.eq_false_iff.2 fun e => absurd (pre_at (hcl 3 _ rfl (pre_at (hcl 4 _ rfl e) 3 (by kernel_rfl))) 2 (by kernel_rfl)) (by rw [hl_]; decide))
      exact op_val (.agg (fl [[.int .u32 c9.nx], [.slice x9.ao x9.no x9.co], [.int .i64 c9.tn], [.int .u32 c9.dl], [.slice x9.ah x9.nh x9.ch]])) rfl rfl (exec_sw _ 26 (.tmp 3) rfl (w.heap.size + 1) ((ev_off 3 (by kernel_rfl)).trans ev3) (hG.blk (unhide hv1)) NC (nC _ _ _ _ _) Try.underlying26 rfl (by kernel_rfl)) (hK _ _ ⟨fun _ => hG, t0, t1, (fun _ => rfl), t3, t4, t5⟩)
    | 3, ho =>
      obtain rfl := Option.some.inj ho
      have h4 := (Bool.eq_false_iff.2 fun e => absurd (pre_at (hcl 4 _ rfl e) 3 (by kernel_rfl)) (by rw [hl_]; decide))
      have hG := hG0 h4
      have p1 := pre_at hp 1 (by kernel_rfl)
      have p2 := pre_at hp 2 (by kernel_rfl)
      obtain ⟨xa, h1, h2⟩ := t1 p1 h4
      refine op_call 10 #[.agg (fl [[.int .u32 c9.nx], [.slice x9.ao x9.no x9.co], [.int .i64 c9.tn], [.int .u32 c9.dl], [.slice x9.ah x9.nh x9.ch]])] rfl rfl (y_sh _ (.tmp 9) rfl _ ((ev_at 2 9 _ (by kernel_rfl) rfl rfl p2 (by rw [hs0]; decide)).trans (t2 p2))) ((short_ok c9 x9 w_ (((unhide hc9).gr (unhide hB0).gr).gr hG)).mono ?_)
      rintro r w9 ⟨xb, rfl, hS, hg⟩
      rw [← unhide hed] at hS ⊢
      exact ⟨_, rfl, hK _ _ ⟨fun _ => hG.trans hg, t0, (fun _ _ => ⟨xa, h1, h2.gr hg⟩), t2, (fun _ _ => ⟨xb, rfl, (hS.co (unhide hnd)).i, (hS.co (unhide hnd)).o.base (Nat.le_trans hwS hG.size)⟩), (fun e => absurd (pre_at (hcl 4 _ rfl e) 3 (by kernel_rfl)) (by rw [hl_]; decide)), (fun e => absurd (pre_at (hcl 5 _ rfl e) 3 (by kernel_rfl)) (by rw [hl_]; decide))⟩⟩
    | 4, ho =>
      obtain rfl := Option.some.inj ho
      have hG := hG0 hl_
      have p0 := pre_at hp 0 (by kernel_rfl)
      have p1 := pre_at hp 1 (by kernel_rfl)
      have p3 := pre_at hp 3 (by kernel_rfl)
      have h5 : l 5 = false := (Bool.eq_false_iff.2 fun e => absurd (pre_at (hcl 5 _ rfl e) 4 (by kernel_rfl)) (by rw [hl_]; decide))
      obtain ⟨xa, h1, h2⟩ := t1 p1 hl_
      obtain ⟨xb, h3, h4⟩ := t3 p3 h5
      have hB1 := (unhide hB0).more hG
      refine op_wp rfl rfl (of_if (c := Region.wanted _ (yielded #[] (Act.tmps _)) = true) (by kernel_rfl) (step_all (ops := #[]) 26 (.tmp 2) (.tmp 8) (w.heap.size) (S2 := [[.int .u32 e.nx], [.slice xa.ao xa.no xa.co], [.int .i64 e.tn], [.int .u32 e.dl], [.slice xa.ah xa.nh xa.ch]]) (by kernel_rfl) rfl ((ev_off 2 (by kernel_rfl)).trans ev2) ((ev_at 1 8 _ (by kernel_rfl) rfl rfl p1 (by rw [hs0]; decide)).trans h1) hB1 0 rfl NC (nC _ _ _ _ _) (nC _ _ _ _ _) (by kernel_rfl) (oC rfl rfl rfl rfl rfl) fun v_ hb_ ht_ => hK _ _ ⟨(fun e => by cases e), t0, (fun _ e => by cases e), t2, (fun _ _ => ⟨xb, h3, h4.bz (t := 26) (hB1.get 0 (x := ⟨w.heap.size, fl [[.int .u32 c.nx], [.slice x.ao x.no x.co], [.int .i64 c.tn], [.int .u32 c.dl], [.slice x.ah x.nh x.ch]], 26⟩) rfl) ht_⟩), (fun _ _ => ⟨xa, hb_, h2.bz (t := 26) (hB1.get 0 (x := ⟨w.heap.size, fl [[.int .u32 c.nx], [.slice x.ao x.no x.co], [.int .i64 c.tn], [.int .u32 c.dl], [.slice x.ah x.nh x.ch]], 26⟩) rfl) ht_⟩), (fun e => absurd (e.symm.trans h5) (by decide))⟩))
    | 5, ho =>
      obtain rfl := Option.some.inj ho
      have p3 := pre_at hp 3 (by kernel_rfl)
      have p4 := pre_at hp 4 (by kernel_rfl)
      obtain ⟨xa, h1, h2⟩ := t4 p4 hl_
      obtain ⟨xb, h3, h4⟩ := t3 p3 hl_
      refine op_wp rfl rfl (of_if (c := Region.wanted _ (yielded #[] (Act.tmps _)) = true) (by kernel_rfl) (step_all (ops := #[]) 26 (.tmp 3) (.tmp 10) (w.heap.size + 1) (S2 := [[.int .u32 d.nx], [.slice xb.ao xb.no xb.co], [.int .i64 d.tn], [.int .u32 d.dl], [.slice xb.ah xb.nh xb.ch]]) (by kernel_rfl) rfl ((ev_off 3 (by kernel_rfl)).trans ev3) ((ev_at 3 10 _ (by kernel_rfl) rfl rfl p3 (by rw [hs0]; decide)).trans h3) h1 1 rfl NC (nC _ _ _ _ _) (nC _ _ _ _ _) (by kernel_rfl) (oC rfl rfl rfl rfl rfl) fun v_ hb_ ht_ => hK _ _ ⟨(fun e => absurd (e.symm.trans p4) (by decide)), t0, (fun _ e => absurd (e.symm.trans p4) (by decide)), t2, (fun _ e => by cases e), (fun _ e => by cases e), (fun _ => ⟨xa, xb, hb_, h2.bz (t := 26) (h1.get 1 (x := ⟨w.heap.size + 1, fl [[.int .u32 c9.nx], [.slice x9.ao x9.no x9.co], [.int .i64 c9.tn], [.int .u32 c9.dl], [.slice x9.ah x9.nh x9.ch]], 26⟩) rfl) ht_, h4.bz (t := 26) (h1.get 1 (x := ⟨w.heap.size + 1, fl [[.int .u32 c9.nx], [.slice x9.ao x9.no x9.co], [.int .i64 c9.tn], [.int .u32 c9.dl], [.slice x9.ah x9.nh x9.ch]], 26⟩) rfl) ht_⟩)⟩))
    | n + 6, ho => cases ho
  · intro l_ f_ u9 hall hJ
    obtain ⟨hG0, t0, t1, t2, t3, t4, t5⟩ := hJ
    obtain ⟨x1, x2, hB, hC1, hC2⟩ := t5 (hall 5 (by decide))
    subst hA0
    simp only [putF, if_true]
    simp only [Act.put, List.setIfInBounds_toArray, List.set_cons_zero, List.set_cons_succ, List.getElem_toArray, List.getElem_cons_zero, List.getElem_cons_succ]
    clear t0 t1 t2 t3 t4 t5 hG0 hall ev2 ev3 hs0 hv0 hv1 hB0 hwS
    replace hC1 := hide hC1; replace hC2 := hide hC2
    replace hB := hide hB
    go_upto_region 4 with fail
    replace hB := unhide hB
    refine any_start (S := fun v_ => v_.heap[w.heap.size]? = some (.cells (fl [[.int .u32 e.nx], [.slice x1.ao x1.no x1.co], [.int .i64 e.tn], [.int .u32 e.dl], [.slice x1.ah x1.nh x1.ch]]) 26 (0, 0)) ∧ v_.heap[w.heap.size + 1]? = some (.cells (fl [[.int .u32 d.nx], [.slice x2.ao x2.no x2.co], [.int .i64 d.tn], [.int .u32 d.dl], [.slice x2.ah x2.nh x2.ch]]) 26 (0, 0))) (by kernel_rfl) ?_
    replace hC1 := hide ((unhide hC1).gr ((Gr.refl u9).drew))
    replace hC2 := hide ((unhide hC2).gr ((Gr.refl u9).drew))
    replace hB := hB.drew
    generalize World.drew _ = u2 at *
    simp only [List.size_toArray, List.length_cons, List.length_nil, Array.replicate, List.replicate]
    refine any_take (i := 0) (v := (.agg (fl [[.int .u32 e.nx], [.slice x1.ao x1.no x1.co], [.int .i64 e.tn], [.int .u32 e.dl], [.slice x1.ah x1.nh x1.ch]]))) #[false, false, false, false, false, false, false, false, false, false, false, false, false, false] rfl (by kernel_rfl) (by kernel_rfl) (by kernel_rfl) (by kernel_rfl) (fun _ _ _ h => h) (.inl ⟨by kernel_rfl, fun x_ hu => exec_sw _ 26 (.tmp 2) rfl (w.heap.size) (by kernel_rfl) hu.1 NC (nC  _ _ _ _ _) Try.underlying26 rfl (by kernel_rfl)⟩) ⟨(hB.get 0 (x := ⟨w.heap.size, fl [[.int .u32 e.nx], [.slice x1.ao x1.no x1.co], [.int .i64 e.tn], [.int .u32 e.dl], [.slice x1.ah x1.nh x1.ch]], 26⟩) rfl), (hB.get 1 (x := ⟨w.heap.size + 1, fl [[.int .u32 d.nx], [.slice x2.ao x2.no x2.co], [.int .i64 d.tn], [.int .u32 d.dl], [.slice x2.ah x2.nh x2.ch]], 26⟩) rfl)⟩ ?_
    simp only [Act.put, List.setIfInBounds_toArray, List.set_cons_zero, List.set_cons_succ, List.getElem_toArray, List.getElem_cons_zero, List.getElem_cons_succ]
    refine any_take (i := 1) (v := (.agg (fl [[.int .u32 d.nx], [.slice x2.ao x2.no x2.co], [.int .i64 d.tn], [.int .u32 d.dl], [.slice x2.ah x2.nh x2.ch]]))) #[true, false, false, false, false, false, false, false, false, false, false, false, false, false] rfl (by kernel_rfl) (by kernel_rfl) (by kernel_rfl) (by kernel_rfl) (fun _ _ _ h => h) (.inl ⟨by kernel_rfl, fun x_ hu => exec_sw _ 26 (.tmp 3) rfl (w.heap.size + 1) (by kernel_rfl) hu.2 NC (nC  _ _ _ _ _) Try.underlying26 rfl (by kernel_rfl)⟩) ⟨(hB.get 0 (x := ⟨w.heap.size, fl [[.int .u32 e.nx], [.slice x1.ao x1.no x1.co], [.int .i64 e.tn], [.int .u32 e.dl], [.slice x1.ah x1.nh x1.ch]], 26⟩) rfl), (hB.get 1 (x := ⟨w.heap.size + 1, fl [[.int .u32 d.nx], [.slice x2.ao x2.no x2.co], [.int .i64 d.tn], [.int .u32 d.dl], [.slice x2.ah x2.nh x2.ch]], 26⟩) rfl)⟩ ?_
    simp only [Act.put, List.setIfInBounds_toArray, List.set_cons_zero, List.set_cons_succ, List.getElem_toArray, List.getElem_cons_zero, List.getElem_cons_succ]
    refine any_take (i := 3) (v := (.agg (fl [[.int .u32 e.nx], [.slice x1.ao x1.no x1.co], [.int .i64 e.tn], [.int .u32 e.dl], [.slice x1.ah x1.nh x1.ch]]))) #[true, true, false, false, false, false, false, false, false, false, false, false, false, false] rfl (by kernel_rfl) (by kernel_rfl) (by kernel_rfl) (by kernel_rfl) (fun _ _ _ h => h) (.inl ⟨by kernel_rfl, fun x_ hu => exec_sw _ 26 (.tmp 2) rfl (w.heap.size) (by kernel_rfl) hu.1 NC (nC  _ _ _ _ _) Try.underlying26 rfl (by kernel_rfl)⟩) ⟨(hB.get 0 (x := ⟨w.heap.size, fl [[.int .u32 e.nx], [.slice x1.ao x1.no x1.co], [.int .i64 e.tn], [.int .u32 e.dl], [.slice x1.ah x1.nh x1.ch]], 26⟩) rfl), (hB.get 1 (x := ⟨w.heap.size + 1, fl [[.int .u32 d.nx], [.slice x2.ao x2.no x2.co], [.int .i64 d.tn], [.int .u32 d.dl], [.slice x2.ah x2.nh x2.ch]], 26⟩) rfl)⟩ ?_
    simp only [Act.put, List.setIfInBounds_toArray, List.set_cons_zero, List.set_cons_succ, List.getElem_toArray, List.getElem_cons_zero, List.getElem_cons_succ]
    refine any_take (i := 4) (v := (.agg (fl [[.int .u32 d.nx], [.slice x2.ao x2.no x2.co], [.int .i64 d.tn], [.int .u32 d.dl], [.slice x2.ah x2.nh x2.ch]]))) #[true, true, false, true, false, false, false, false, false, false, false, false, false, false] rfl (by kernel_rfl) (by kernel_rfl) (by kernel_rfl) (by kernel_rfl) (fun _ _ _ h => h) (.inl ⟨by kernel_rfl, fun x_ hu => exec_sw _ 26 (.tmp 3) rfl (w.heap.size + 1) (by kernel_rfl) hu.2 NC (nC  _ _ _ _ _) Try.underlying26 rfl (by kernel_rfl)⟩) ⟨(hB.get 0 (x := ⟨w.heap.size, fl [[.int .u32 e.nx], [.slice x1.ao x1.no x1.co], [.int .i64 e.tn], [.int .u32 e.dl], [.slice x1.ah x1.nh x1.ch]], 26⟩) rfl), (hB.get 1 (x := ⟨w.heap.size + 1, fl [[.int .u32 d.nx], [.slice x2.ao x2.no x2.co], [.int .i64 d.tn], [.int .u32 d.dl], [.slice x2.ah x2.nh x2.ch]], 26⟩) rfl)⟩ ?_
    simp only [Act.put, List.setIfInBounds_toArray, List.set_cons_zero, List.set_cons_succ, List.getElem_toArray, List.getElem_cons_zero, List.getElem_cons_succ]
    refine any_one (i := 2) (by kernel_rfl) rfl (fun K hK => ?_)
    refine step_callw (by kernel_rfl) 32 #[.agg (fl [[.int .u32 e.nx], [.slice x1.ao x1.no x1.co], [.int .i64 e.tn], [.int .u32 e.dl], [.slice x1.ah x1.nh x1.ch]]), .agg (fl [[.int .u32 d.nx], [.slice x2.ao x2.no x2.co], [.int .i64 d.tn], [.int .u32 d.dl], [.slice x2.ah x2.nh x2.ch]])] (by kernel_rfl) (((show Calls Try.prog 32 #[.agg (fl [[.int .u32 e.nx], [.slice x1.ao x1.no x1.co], [.int .i64 e.tn], [.int .u32 e.dl], [.slice x1.ah x1.nh x1.ch]]), .agg (fl [[.int .u32 d.nx], [.slice x2.ao x2.no x2.co], [.int .i64 d.tn], [.int .u32 d.dl], [.slice x2.ah x2.nh x2.ch]])] u2 (Vl (.bool (decide (e = d))) u2) from same_ok e d x1 x2 u2 (unhide hC1).i (unhide hC2).i)).mono ?_)
    rintro r_ u3 ⟨rfl, hg⟩
    replace hC1 := hide ((unhide hC1).gr hg)
    replace hC2 := hide ((unhide hC2).gr hg)
    replace hB := hB.more hg
    clear hg
    refine ⟨_, rfl, ?_⟩
    refine hK.out _ _ ⟨(hB.get 0 (x := ⟨w.heap.size, fl [[.int .u32 e.nx], [.slice x1.ao x1.no x1.co], [.int .i64 e.tn], [.int .u32 e.dl], [.slice x1.ah x1.nh x1.ch]], 26⟩) rfl), (hB.get 1 (x := ⟨w.heap.size + 1, fl [[.int .u32 d.nx], [.slice x2.ao x2.no x2.co], [.int .i64 d.tn], [.int .u32 d.dl], [.slice x2.ah x2.nh x2.ch]], 26⟩) rfl)⟩ (fun _ => ?_)
    clear hK K
    simp only [Act.put, List.setIfInBounds_toArray, List.set_cons_zero, List.set_cons_succ, List.getElem_toArray, List.getElem_cons_zero, List.getElem_cons_succ]
    refine any_one (i := 5) (by kernel_rfl) rfl (fun K hK => ?_)
    refine step_callw (by kernel_rfl) 16 #[.agg (fl [[.int .u32 e.nx], [.slice x1.ao x1.no x1.co], [.int .i64 e.tn], [.int .u32 e.dl], [.slice x1.ah x1.nh x1.ch]]), .agg (fl [[.int .u32 d.nx], [.slice x2.ao x2.no x2.co], [.int .i64 d.tn], [.int .u32 d.dl], [.slice x2.ah x2.nh x2.ch]])] (by kernel_rfl) (((rsame_ok e d x1 x2 u3 (unhide hC1).i (unhide hC2).i)).mono ?_)
    rintro r_ u4 ⟨rfl, hg⟩
    replace hC1 := hide ((unhide hC1).gr hg)
    replace hC2 := hide ((unhide hC2).gr hg)
    replace hB := hB.more hg
    clear hg
    refine ⟨_, rfl, ?_⟩
    refine hK.out _ _ ⟨(hB.get 0 (x := ⟨w.heap.size, fl [[.int .u32 e.nx], [.slice x1.ao x1.no x1.co], [.int .i64 e.tn], [.int .u32 e.dl], [.slice x1.ah x1.nh x1.ch]], 26⟩) rfl), (hB.get 1 (x := ⟨w.heap.size + 1, fl [[.int .u32 d.nx], [.slice x2.ao x2.no x2.co], [.int .i64 d.tn], [.int .u32 d.dl], [.slice x2.ah x2.nh x2.ch]], 26⟩) rfl)⟩ (fun _ => ?_)
    clear hK K
    simp only [Act.put, List.setIfInBounds_toArray, List.set_cons_zero, List.set_cons_succ, List.getElem_toArray, List.getElem_cons_zero, List.getElem_cons_succ]
    refine any_take (i := 6) (v := (.bool true)) #[true, true, true, true, true, true, false, false, false, false, false, false, false, false] rfl (by kernel_rfl) (by kernel_rfl) (by kernel_rfl) (by kernel_rfl) (fun _ _ _ h => h) (.inl ⟨by kernel_rfl, fun x_ hu => by cases decide (e = d) <;> kernel_rfl⟩) ⟨(hB.get 0 (x := ⟨w.heap.size, fl [[.int .u32 e.nx], [.slice x1.ao x1.no x1.co], [.int .i64 e.tn], [.int .u32 e.dl], [.slice x1.ah x1.nh x1.ch]], 26⟩) rfl), (hB.get 1 (x := ⟨w.heap.size + 1, fl [[.int .u32 d.nx], [.slice x2.ao x2.no x2.co], [.int .i64 d.tn], [.int .u32 d.dl], [.slice x2.ah x2.nh x2.ch]], 26⟩) rfl)⟩ ?_
    simp only [Act.put, List.setIfInBounds_toArray, List.set_cons_zero, List.set_cons_succ, List.getElem_toArray, List.getElem_cons_zero, List.getElem_cons_succ]
    refine any_take (i := 7) (v := (.bool true)) #[true, true, true, true, true, true, true, false, false, false, false, false, false, false] rfl (by kernel_rfl) (by kernel_rfl) (by kernel_rfl) (by kernel_rfl) (fun _ _ _ h => h) (.inl ⟨by kernel_rfl, fun x_ hu => by kernel_rfl⟩) ⟨(hB.get 0 (x := ⟨w.heap.size, fl [[.int .u32 e.nx], [.slice x1.ao x1.no x1.co], [.int .i64 e.tn], [.int .u32 e.dl], [.slice x1.ah x1.nh x1.ch]], 26⟩) rfl), (hB.get 1 (x := ⟨w.heap.size + 1, fl [[.int .u32 d.nx], [.slice x2.ao x2.no x2.co], [.int .i64 d.tn], [.int .u32 d.dl], [.slice x2.ah x2.nh x2.ch]], 26⟩) rfl)⟩ ?_
    simp only [Act.put, List.setIfInBounds_toArray, List.set_cons_zero, List.set_cons_succ, List.getElem_toArray, List.getElem_cons_zero, List.getElem_cons_succ]
    refine any_take (i := 8) (v := (.agg (fl [[.int .u32 e.nx], [.slice x1.ao x1.no x1.co], [.int .i64 e.tn], [.int .u32 e.dl], [.slice x1.ah x1.nh x1.ch]]))) #[true, true, true, true, true, true, true, true, false, false, false, false, false, false] rfl (by kernel_rfl) (by kernel_rfl) (by kernel_rfl) (by kernel_rfl) (fun _ _ _ h => h) (.inl ⟨by kernel_rfl, fun x_ hu => exec_sw _ 26 (.tmp 2) rfl (w.heap.size) (by kernel_rfl) hu.1 NC (nC  _ _ _ _ _) Try.underlying26 rfl (by kernel_rfl)⟩) ⟨(hB.get 0 (x := ⟨w.heap.size, fl [[.int .u32 e.nx], [.slice x1.ao x1.no x1.co], [.int .i64 e.tn], [.int .u32 e.dl], [.slice x1.ah x1.nh x1.ch]], 26⟩) rfl), (hB.get 1 (x := ⟨w.heap.size + 1, fl [[.int .u32 d.nx], [.slice x2.ao x2.no x2.co], [.int .i64 d.tn], [.int .u32 d.dl], [.slice x2.ah x2.nh x2.ch]], 26⟩) rfl)⟩ ?_
    simp only [Act.put, List.setIfInBounds_toArray, List.set_cons_zero, List.set_cons_succ, List.getElem_toArray, List.getElem_cons_zero, List.getElem_cons_succ]
    refine any_take (i := 9) (v := (.agg (fl [[.int .u32 e.nx], [.slice x1.ao x1.no x1.co], [.int .i64 e.tn], [.int .u32 e.dl], [.slice x1.ah x1.nh x1.ch]]))) #[true, true, true, true, true, true, true, true, true, false, false, false, false, false] rfl (by kernel_rfl) (by kernel_rfl) (by kernel_rfl) (by kernel_rfl) (fun _ _ _ h => h) (.inl ⟨by kernel_rfl, fun x_ hu => exec_sw _ 26 (.tmp 2) rfl (w.heap.size) (by kernel_rfl) hu.1 NC (nC  _ _ _ _ _) Try.underlying26 rfl (by kernel_rfl)⟩) ⟨(hB.get 0 (x := ⟨w.heap.size, fl [[.int .u32 e.nx], [.slice x1.ao x1.no x1.co], [.int .i64 e.tn], [.int .u32 e.dl], [.slice x1.ah x1.nh x1.ch]], 26⟩) rfl), (hB.get 1 (x := ⟨w.heap.size + 1, fl [[.int .u32 d.nx], [.slice x2.ao x2.no x2.co], [.int .i64 d.tn], [.int .u32 d.dl], [.slice x2.ah x2.nh x2.ch]], 26⟩) rfl)⟩ ?_
    simp only [Act.put, List.setIfInBounds_toArray, List.set_cons_zero, List.set_cons_succ, List.getElem_toArray, List.getElem_cons_zero, List.getElem_cons_succ]
    refine any_one (i := 10) (by kernel_rfl) rfl (fun K hK => ?_)
    refine step_callw (by kernel_rfl) 11 #[.agg (fl [[.int .u32 e.nx], [.slice x1.ao x1.no x1.co], [.int .i64 e.tn], [.int .u32 e.dl], [.slice x1.ah x1.nh x1.ch]])] (by kernel_rfl) (((rcopy_ok e x1 u4 (unhide hC1).i (by have := (unhide hC1).i.o.len; omega) (by have := (unhide hC1).i.h.len; have := e8h; omega))).mono ?_)
    rintro r_ u5 ⟨x3, rfl, hW3, hn3, hh3, hg⟩
    replace hC1 := hide ((unhide hC1).gr hg)
    replace hC2 := hide ((unhide hC2).gr hg)
    replace hB := hB.more hg
    clear hg
    replace hW3 := hide hW3
    clear hn3 hh3
    refine ⟨_, rfl, ?_⟩
    refine hK.out _ _ ⟨(hB.get 0 (x := ⟨w.heap.size, fl [[.int .u32 e.nx], [.slice x1.ao x1.no x1.co], [.int .i64 e.tn], [.int .u32 e.dl], [.slice x1.ah x1.nh x1.ch]], 26⟩) rfl), (hB.get 1 (x := ⟨w.heap.size + 1, fl [[.int .u32 d.nx], [.slice x2.ao x2.no x2.co], [.int .i64 d.tn], [.int .u32 d.dl], [.slice x2.ah x2.nh x2.ch]], 26⟩) rfl)⟩ (fun _ => ?_)
    clear hK K
    simp only [Act.put, List.setIfInBounds_toArray, List.set_cons_zero, List.set_cons_succ, List.getElem_toArray, List.getElem_cons_zero, List.getElem_cons_succ]
    refine any_one (i := 11) (by kernel_rfl) rfl (fun K hK => ?_)
    refine step_callw (by kernel_rfl) 32 #[.agg (fl [[.int .u32 e.nx], [.slice x1.ao x1.no x1.co], [.int .i64 e.tn], [.int .u32 e.dl], [.slice x1.ah x1.nh x1.ch]]), .agg (fl [[.int .u32 e.nx], [.slice x3.ao x3.no x3.co], [.int .i64 e.tn], [.int .u32 e.dl], [.slice x3.ah x3.nh x3.ch]])] (by kernel_rfl) (((show Calls Try.prog 32 #[.agg (fl [[.int .u32 e.nx], [.slice x1.ao x1.no x1.co], [.int .i64 e.tn], [.int .u32 e.dl], [.slice x1.ah x1.nh x1.ch]]), .agg (fl [[.int .u32 e.nx], [.slice x3.ao x3.no x3.co], [.int .i64 e.tn], [.int .u32 e.dl], [.slice x3.ah x3.nh x3.ch]])] u5 (Vl (.bool true) u5) from by have h := same_ok e e x1 x3 u5 (unhide hC1).i ((unhide hW3).cin (unhide hnm)); rw [decide_eq_true rfl] at h; exact h)).mono ?_)
    rintro r_ u6 ⟨rfl, hg⟩
    replace hW3 := hide ((unhide hW3).gr hg)
    replace hC1 := hide ((unhide hC1).gr hg)
    replace hC2 := hide ((unhide hC2).gr hg)
    replace hB := hB.more hg
    clear hg
    refine ⟨_, rfl, ?_⟩
    refine hK.out _ _ ⟨(hB.get 0 (x := ⟨w.heap.size, fl [[.int .u32 e.nx], [.slice x1.ao x1.no x1.co], [.int .i64 e.tn], [.int .u32 e.dl], [.slice x1.ah x1.nh x1.ch]], 26⟩) rfl), (hB.get 1 (x := ⟨w.heap.size + 1, fl [[.int .u32 d.nx], [.slice x2.ao x2.no x2.co], [.int .i64 d.tn], [.int .u32 d.dl], [.slice x2.ah x2.nh x2.ch]], 26⟩) rfl)⟩ (fun _ => ?_)
    clear hK K
    simp only [Act.put, List.setIfInBounds_toArray, List.set_cons_zero, List.set_cons_succ, List.getElem_toArray, List.getElem_cons_zero, List.getElem_cons_succ]
    refine any_take (i := 12) (v := (.bool true)) #[true, true, true, true, true, true, true, true, true, true, true, true, false, false] rfl (by kernel_rfl) (by kernel_rfl) (by kernel_rfl) (by kernel_rfl) (fun _ _ _ h => h) (.inl ⟨by kernel_rfl, fun x_ hu => by kernel_rfl⟩) ⟨(hB.get 0 (x := ⟨w.heap.size, fl [[.int .u32 e.nx], [.slice x1.ao x1.no x1.co], [.int .i64 e.tn], [.int .u32 e.dl], [.slice x1.ah x1.nh x1.ch]], 26⟩) rfl), (hB.get 1 (x := ⟨w.heap.size + 1, fl [[.int .u32 d.nx], [.slice x2.ao x2.no x2.co], [.int .i64 d.tn], [.int .u32 d.dl], [.slice x2.ah x2.nh x2.ch]], 26⟩) rfl)⟩ ?_
    simp only [Act.put, List.setIfInBounds_toArray, List.set_cons_zero, List.set_cons_succ, List.getElem_toArray, List.getElem_cons_zero, List.getElem_cons_succ]
    refine any_one (i := 13) (by kernel_rfl) rfl (fun K hK => ?_)
    replace hK := hide hK
    go_simp
    refine (unhide hK).out _ _ ⟨(hB.get 0 (x := ⟨w.heap.size, fl [[.int .u32 e.nx], [.slice x1.ao x1.no x1.co], [.int .i64 e.tn], [.int .u32 e.dl], [.slice x1.ah x1.nh x1.ch]], 26⟩) rfl), (hB.get 1 (x := ⟨w.heap.size + 1, fl [[.int .u32 d.nx], [.slice x2.ao x2.no x2.co], [.int .i64 d.tn], [.int .u32 d.dl], [.slice x2.ah x2.nh x2.ch]], 26⟩) rfl)⟩ (fun _ => ?_)
    clear hK K
    simp only [Act.put, List.setIfInBounds_toArray, List.set_cons_zero, List.set_cons_succ, List.getElem_toArray, List.getElem_cons_zero, List.getElem_cons_succ]
    refine any_done (by kernel_rfl) ?_
    replace hB := hide hB
    go_wp2_with fail
    replace hB := unhide hB
    rw [unhide hT]
    exact (⟨rfl, hB.gr⟩)
end Go.Proofs.Ytcefkkoombmndaa
