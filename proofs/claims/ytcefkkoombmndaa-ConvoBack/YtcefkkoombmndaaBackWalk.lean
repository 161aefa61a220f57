/-
  ConvoBack.
-/
import Derived.Test.YtcefkkoombmndaaUP
import Derived.Test.YtcefkkoombmndaaPG
namespace Go.Proofs.Ytcefkkoombmndaa
open Go.RowKit
set_option maxRecDepth 100000
set_option linter.unusedSimpArgs false
set_option linter.unusedVariables false
theorem Lb.take {w : World} {a : Option Addr} {n c : Nat} {L : List Int} (h : Lb w a n c L) (m : Nat) (hm : m ≤ n) : Lb w a m c (L.take m) :=
  ⟨by have := h.len; rw [List.length_take]; omega, fun x hx => h.isB x (List.mem_of_mem_take hx), h.sl.take m, by have := h.cap; omega, h.max⟩
theorem gtM_bad {L : List Int} (h : (gtM L).2 ≠ 0) : (gtM L).1 = cz := by
  unfold gtM at h ⊢
  split at h <;> rename_i h1
  · rw [if_pos h1]
    split at h <;> rename_i h2
    · exact absurd rfl h
    · rw [if_neg h2]
  · rw [if_neg h1]
theorem gtM_ok {L : List Int} (h : (gtM L).2 = 0) : rt (gtM L).1 = true ∧ putL (gtM L).1 = L ∧ L.length = 590 := by
  unfold gtM at h ⊢
  split at h <;> rename_i h1
  · rw [if_pos h1]
    split at h <;> rename_i h2
    · rw [if_pos h2]; exact ⟨h2.1, h2.2, h1⟩
    · cases h
  · cases h
set_option maxHeartbeats 4000000 in
theorem back_law (c : Cm) (x : Lc) (l : List Int) (s : Option Addr) (n cp : Nat) (w : World) (hc : Cin w c x) (hb : Lb w s n cp l) : Calls Try.prog 8 #[.agg (fl [[.int .u32 c.nx], [.slice x.ao x.no x.co], [.int .i64 c.tn], [.int .u32 c.dl], [.slice x.ah x.nh x.ch]]), .slice s n cp] w (Vl (.bool true) w) := by
  obtain ⟨T, hT⟩ : ∃ T : Ending → World → Prop, T = (Vl (.bool true) w) := ⟨_, rfl⟩
  rw [← hT]
  replace hT := hide hT
  have hcp := hb.cap
  have hmx := hb.max
  replace hc := hide hc; replace hb := hide hb
  obtain ⟨A0_, hA0_⟩ : ∃ S_, S_ = fl [[.int .u32 c.nx], [.slice x.ao x.no x.co], [.int .i64 c.tn], [.int .u32 c.dl], [.slice x.ah x.nh x.ch]] := ⟨_, rfl⟩
  rw [← hA0_]
  replace hA0_ := hide hA0_
  go_enter Try.func8, Try.ntmps8
  go_upto_region 1 with fail
  have hB := ((Bl.nil w).new A0_ 26)
  simp only [size_alloc, List.nil_append, List.cons_append] at hB
  rw [unhide hA0_] at hB
  generalize hu_ : World.alloc _ _ = u0
  replace hB : Bl w [⟨w.heap.size, fl [[.int .u32 c.nx], [.slice x.ao x.no x.co], [.int .i64 c.tn], [.int .u32 c.dl], [.slice x.ah x.nh x.ch]], 26⟩] u0 := by
    rw [← hu_]
    rw [unhide hA0_]
    exact hB
  clear hu_ hA0_
  refine wp_region_lit ?_
  refine list_call 9 #[] (by kernel_rfl) (by kernel_rfl) ((wakes_ok u0).mono ?_)
  rintro r_ u1 ⟨rfl, hg⟩
  replace hB := hB.more hg
  clear hg
  refine ⟨_, rfl, ?_⟩
  simp only [nrm]
  refine lvk (.bool false) ?_
  simp only [nrm]
  refine wpList_nil ?_
  obtain ⟨e, he⟩ : ∃ e, e = ct c := ⟨_, rfl⟩
  have hnm := (unhide hc).nums.ct
  have e8o := ct_o c
  have e8h := ct_h c
  rw [← he] at hnm e8o e8h
  replace he := hide he; replace hnm := hide hnm
  obtain ⟨m, hm⟩ : ∃ m, m = min n 700 := ⟨_, rfl⟩
  have hmI : min (n : Int) 700 = (m : Int) := by omega
  have hmn : m ≤ n := by omega
  have hm7 : m ≤ 700 := by omega
  clear hm
  obtain ⟨B, hB9⟩ : ∃ B, B = l.take m := ⟨_, rfl⟩
  have hbB : Hid (Lb w s m cp B) := hide (by rw [hB9]; exact (unhide hb).take m hmn)
  clear hB9
  replace hmI := hide hmI
  replace hB := hide hB
  go_upto_region 3 with fail
  replace hB := unhide hB
  refine anyC_start 7 (fun v_ => v_.heap[w.heap.size]? = some (.cells (fl [[.int .u32 c.nx], [.slice x.ao x.no x.co], [.int .i64 c.tn], [.int .u32 c.dl], [.slice x.ah x.nh x.ch]]) 26 (0, 0))) (by kernel_rfl) ?_
  replace hB := hB.drew
  generalize World.drew _ = u2 at *
  simp only [List.size_toArray, List.length_cons, List.length_nil, Array.replicate, List.replicate]
  refine anyC_take (i := 0) (v := (.agg (fl [[.int .u32 c.nx], [.slice x.ao x.no x.co], [.int .i64 c.tn], [.int .u32 c.dl], [.slice x.ah x.nh x.ch]]))) (fun v_ => v_.heap[w.heap.size]? = some (.cells (fl [[.int .u32 c.nx], [.slice x.ao x.no x.co], [.int .i64 c.tn], [.int .u32 c.dl], [.slice x.ah x.nh x.ch]]) 26 (0, 0))) (fun _ h_ => h_) (.inr (by kernel_rfl)) rfl (by kernel_rfl) (by kernel_rfl) (by kernel_rfl) (by decide) (by kernel_rfl) (by decide) (fun _ _ _ h => h) (.inl ⟨by kernel_rfl, fun x_ hu => exec_sw _ 26 (.tmp 2) rfl (w.heap.size) (by kernel_rfl) hu NC (nC  _ _ _ _ _) Try.underlying26 rfl (by kernel_rfl)⟩) (hB.get 0 (x := ⟨w.heap.size, fl [[.int .u32 c.nx], [.slice x.ao x.no x.co], [.int .i64 c.tn], [.int .u32 c.dl], [.slice x.ah x.nh x.ch]], 26⟩) rfl) ?_
  simp only [nrm]
  refine anyC_take (i := 2) (v := (.slice s n cp)) (fun _ => True) (fun _ _ => trivial) (.inl (fun _ => trivial)) rfl (by kernel_rfl) (by kernel_rfl) (by kernel_rfl) (by decide) (by kernel_rfl) (by decide) (fun _ _ _ h => h) (.inl ⟨by kernel_rfl, fun x_ hu => by kernel_rfl⟩) (hB.get 0 (x := ⟨w.heap.size, fl [[.int .u32 c.nx], [.slice x.ao x.no x.co], [.int .i64 c.tn], [.int .u32 c.dl], [.slice x.ah x.nh x.ch]], 26⟩) rfl) ?_
  simp only [nrm]
  refine anyC_take (i := 3) (v := (.slice s n cp)) (fun _ => True) (fun _ _ => trivial) (.inl (fun _ => trivial)) rfl (by kernel_rfl) (by kernel_rfl) (by kernel_rfl) (by decide) (by kernel_rfl) (by decide) (fun _ _ _ h => h) (.inl ⟨by kernel_rfl, fun x_ hu => by kernel_rfl⟩) (hB.get 0 (x := ⟨w.heap.size, fl [[.int .u32 c.nx], [.slice x.ao x.no x.co], [.int .i64 c.tn], [.int .u32 c.dl], [.slice x.ah x.nh x.ch]], 26⟩) rfl) ?_
  simp only [nrm]
  refine anyC_take (i := 4) (v := (.int .i64 (n : Int))) (fun _ => True) (fun _ _ => trivial) (.inl (fun _ => trivial)) rfl (by kernel_rfl) (by kernel_rfl) (by kernel_rfl) (by decide) (by kernel_rfl) (by decide) (fun _ _ _ h => h) (.inl ⟨by kernel_rfl, fun x_ hu => by kernel_rfl⟩) (hB.get 0 (x := ⟨w.heap.size, fl [[.int .u32 c.nx], [.slice x.ao x.no x.co], [.int .i64 c.tn], [.int .u32 c.dl], [.slice x.ah x.nh x.ch]], 26⟩) rfl) ?_
  simp only [nrm]
  refine anyC_take (i := 5) (v := (.int .i64 (m : Int))) (fun _ => True) (fun _ _ => trivial) (.inl (fun _ => trivial)) rfl (by kernel_rfl) (by kernel_rfl) (by kernel_rfl) (by decide) (by kernel_rfl) (by decide) (fun _ _ _ h => h) (.inl ⟨by kernel_rfl, fun x_ hu => min_i _ (.tmp 18) (.const (.int .i64 700)) (n : Int) 700 rfl (by kernel_rfl) rfl (m : Int) (unhide hmI)⟩) (hB.get 0 (x := ⟨w.heap.size, fl [[.int .u32 c.nx], [.slice x.ao x.no x.co], [.int .i64 c.tn], [.int .u32 c.dl], [.slice x.ah x.nh x.ch]], 26⟩) rfl) ?_
  simp only [nrm]
  refine anyC_take (i := 6) (v := (.slice s m cp)) (fun _ => True) (fun _ _ => trivial) (.inl (fun _ => trivial)) rfl (by kernel_rfl) (by kernel_rfl) (by kernel_rfl) (by decide) (by kernel_rfl) (by decide) (fun _ _ _ h => h) (.inl ⟨by kernel_rfl, fun x_ hu => exec_up8 _ (.tmp 16) (.tmp 19) rfl s n cp m (by kernel_rfl) (by kernel_rfl) hcp hmn⟩) (hB.get 0 (x := ⟨w.heap.size, fl [[.int .u32 c.nx], [.slice x.ao x.no x.co], [.int .i64 c.tn], [.int .u32 c.dl], [.slice x.ah x.nh x.ch]], 26⟩) rfl) ?_
  simp only [nrm]
  refine anyC_one (i := 1) (by kernel_rfl) rfl (fun K hK => ?_)
  refine step_callw (by kernel_rfl) 10 #[.agg (fl [[.int .u32 c.nx], [.slice x.ao x.no x.co], [.int .i64 c.tn], [.int .u32 c.dl], [.slice x.ah x.nh x.ch]])] (by kernel_rfl) ((show Calls Try.prog 10 #[.agg (fl [[.int .u32 c.nx], [.slice x.ao x.no x.co], [.int .i64 c.tn], [.int .u32 c.dl], [.slice x.ah x.nh x.ch]])] u2 (fun r w' => ∃ x', r = .returned (.agg (fl (cvs e x'))) ∧ Sh w.heap.size w' e x' ∧ Gr u2 w') from by have h := short_ok c x u2 ((unhide hc).gr hB.gr); rw [← unhide he] at h; exact h.mono fun r w' h9 => (by obtain ⟨x', h1, h2, h3⟩ := h9; exact ⟨x', h1, h2.base hB.gr.size, h3⟩)).mono ?_)
  rintro r u3 ⟨x1, rfl, hSe, hg⟩
  refine ⟨_, rfl, ?_⟩
  have hC1 := hide (hSe.co (unhide hnm))
  clear hSe
  replace hB := hB.more hg
  clear hg
  refine hK.out _ _ (hB.get 0 (x := ⟨w.heap.size, fl [[.int .u32 c.nx], [.slice x.ao x.no x.co], [.int .i64 c.tn], [.int .u32 c.dl], [.slice x.ah x.nh x.ch]], 26⟩) rfl) (fun _ => ?_)
  clear hK K
  simp only [nrm]
  refine anyC_last (by kernel_rfl) rfl (fun K hK => ?_)
  have hzz_ : Hid (u3.heap[w.heap.size]? = some (.cells (fl [[.int .u32 c.nx], [.slice x.ao x.no x.co], [.int .i64 c.tn], [.int .u32 c.dl], [.slice x.ah x.nh x.ch]]) 26 (0, 0))) := hide (hB.get 0 (x := ⟨w.heap.size, fl [[.int .u32 c.nx], [.slice x.ao x.no x.co], [.int .i64 c.tn], [.int .u32 c.dl], [.slice x.ah x.nh x.ch]], 26⟩) rfl)
  refine step_all 26 (.tmp 2) (.tmp 15) (w.heap.size) (S2 := [[.int .u32 e.nx], [.slice x1.ao x1.no x1.co], [.int .i64 e.tn], [.int .u32 e.dl], [.slice x1.ah x1.nh x1.ch]]) (by kernel_rfl) rfl (by kernel_rfl) (by kernel_rfl) hB 0 rfl NC (nC  _ _ _ _ _) (nC  _ _ _ _ _) (by kernel_rfl) (oC  rfl rfl rfl rfl rfl) ?_
  intro u4 hB_ hbt_
  clear hB
  replace hB : Bl w [⟨w.heap.size, fl [[.int .u32 e.nx], [.slice x1.ao x1.no x1.co], [.int .i64 e.tn], [.int .u32 e.dl], [.slice x1.ah x1.nh x1.ch]], 26⟩] u4 := hB_
  clear hB_
  replace hC1 := hide ((unhide hC1).bz (unhide hzz_) hbt_)
  clear hbt_ hzz_
  refine hK.out _ _ ?_
  clear hK K
  simp only [nrm]
  refine any_one (i := 8) (by kernel_rfl) rfl (fun K hK => ?_)
  replace hK := hide hK
  go_simp
  refine (unhide hK).out _ _ trivial (fun _ => ?_)
  clear hK K
  refine any_done (by kernel_rfl) ?_
  obtain ⟨P, hP⟩ : ∃ P, P = (if rt e = true then putL e else []) := ⟨_, rfl⟩
  obtain ⟨d, hd⟩ : ∃ d, d = (gtM B).1 := ⟨_, rfl⟩
  obtain ⟨er, her⟩ : ∃ er, er = (gtM B).2 := ⟨_, rfl⟩
  replace hP := hide hP; replace hd := hide hd; replace her := hide her
  cases h1 : rt e with
  | false =>
    replace h1 := hide h1
    replace hB := hide hB
    go_upto_region 4 with fail
    replace hB := unhide hB
    refine wp_region_lit ?_
    refine list_val (.agg (fl [[.int .u32 e.nx], [.slice x1.ao x1.no x1.co], [.int .i64 e.tn], [.int .u32 e.dl], [.slice x1.ah x1.nh x1.ch]])) (by kernel_rfl) (exec_sw _ 26 (.tmp 2) rfl (w.heap.size) (by kernel_rfl) (hB.get 0 (x := ⟨w.heap.size, fl [[.int .u32 e.nx], [.slice x1.ao x1.no x1.co], [.int .i64 e.tn], [.int .u32 e.dl], [.slice x1.ah x1.nh x1.ch]], 26⟩) rfl) NC (nC  _ _ _ _ _) Try.underlying26 rfl (by kernel_rfl)) ?_
    simp only [nrm]
    refine list_call 27 #[.agg (fl [[.int .u32 e.nx], [.slice x1.ao x1.no x1.co], [.int .i64 e.tn], [.int .u32 e.dl], [.slice x1.ah x1.nh x1.ch]])] (by kernel_rfl) (by kernel_rfl) (((show Calls Try.prog 27 #[.agg (fl [[.int .u32 e.nx], [.slice x1.ao x1.no x1.co], [.int .i64 e.tn], [.int .u32 e.dl], [.slice x1.ah x1.nh x1.ch]])] u4 (fun r w' => ∃ v, r = .returned (.tuple #[v, .int .i64 281]) ∧ Ob w.heap.size w' v P ∧ Gr u4 w') from by have h := cput_ok e x1 u4 (unhide hC1).i; rw [← unhide hP] at h; exact h.mono fun r w' h9 => (by obtain ⟨v, q1, q3, q4⟩ := h9; exact ⟨v, by rw [q1, unhide h1]; rfl, ob_base q3 hB.gr.size, q4⟩))).mono ?_)
    rintro r_ u5 ⟨v1, rfl, hO, hg⟩
    replace hC1 := hide ((unhide hC1).gr hg)
    replace hB := hB.more hg
    clear hg
    replace hO := hide hO
    refine ⟨_, rfl, ?_⟩
    simp only [nrm]
    refine lvk (.tuple #[v1, .int .i64 281]) ?_
    simp only [nrm]
    refine lvk (v1) ?_
    simp only [nrm]
    refine lvk (.int .i64 281) ?_
    simp only [nrm]
    (refine wpList_step fun K hK => ?_; replace hK := hide hK; go_simp; refine unhide hK _ _ ?_; clear hK K)
    (refine wpList_step fun K hK => ?_; replace hK := hide hK; go_simp; refine unhide hK _ _ ?_; clear hK K)
    refine wpList_nil ?_
    replace hB := hide hB
    go_upto_region 5 with fail
    replace hB := unhide hB
    refine wp_region_lit ?_
    refine lvk (.int .i64 281) ?_
    simp only [nrm]
    refine list_val (.bool false) (by kernel_rfl) (eql_e _ (.tmp 26) (.const (.int .i64 0)) 281 0 false rfl (by kernel_rfl) (by kernel_rfl) (by decide)) ?_
    simp only [nrm]
    refine wpList_nil ?_
    replace hB := hide hB
    go_upto_region 9 with fail
    replace hB := unhide hB
    refine wp_region_lit ?_
    refine lvk (.slice s m cp) ?_
    simp only [nrm]
    refine list_call 30 #[.slice s m cp] (by kernel_rfl) (by kernel_rfl) (((show Calls Try.prog 30 #[.slice s m cp] u5 (fun r w' => ∃ x', r = .returned (.tuple #[.agg (fl (cvs d x')), .int .i64 er]) ∧ Co w.heap.size w' d x' ∧ Gr u5 w') from by have h := cget_ok B s m cp (by omega) u5 ((unhide hbB).gr hB.gr); rw [← unhide hd, ← unhide her] at h; exact h.mono fun r w' h9 => (by obtain ⟨x', h1, h2, h3, h4⟩ := h9; exact ⟨x', h1, ⟨h2, h3.base hB.gr.size⟩, h4⟩))).mono ?_)
    rintro r_ u6 ⟨x3, rfl, hC3, hg⟩
    replace hC1 := hide ((unhide hC1).gr hg)
    replace hO := hide ((unhide hO).gr hg)
    replace hB := hB.more hg
    clear hg
    replace hC3 := hide hC3
    refine ⟨_, rfl, ?_⟩
    simp only [nrm]
    refine lvk (.tuple #[.agg (fl [[.int .u32 d.nx], [.slice x3.ao x3.no x3.co], [.int .i64 d.tn], [.int .u32 d.dl], [.slice x3.ah x3.nh x3.ch]]), .int .i64 er]) ?_
    simp only [nrm]
    refine lvk (.agg (fl [[.int .u32 d.nx], [.slice x3.ao x3.no x3.co], [.int .i64 d.tn], [.int .u32 d.dl], [.slice x3.ah x3.nh x3.ch]])) ?_
    simp only [nrm]
    refine lvk (.int .i64 er) ?_
    simp only [nrm]
    refine list_valw (.pointer (some ⟨u6.heap.size, 0, none⟩)) (u6.alloc (.cells (fl [[.int .u32 0], [.slice none 0 0], [.int .i64 0], [.int .u32 0], [.slice none 0 0]]) 26 (0, 0))) (by kernel_rfl) (by kernel_rfl) ?_
    replace hB := hB.new (fl [[.int .u32 0], [.slice none 0 0], [.int .i64 0], [.int .u32 0], [.slice none 0 0]]) 26
    simp only [List.nil_append, List.cons_append] at hB
    have hg := (Gr.refl u6).alloc (.cells (fl [[.int .u32 0], [.slice none 0 0], [.int .i64 0], [.int .u32 0], [.slice none 0 0]]) 26 (0, 0))
    replace hC1 := hide ((unhide hC1).gr hg)
    replace hO := hide ((unhide hO).gr hg)
    replace hC3 := hide ((unhide hC3).gr hg)
    clear hg
    generalize World.alloc _ _ = u7 at *
    generalize u6.heap.size = g9 at *
    simp only [nrm]
    have hzz_ : Hid (u7.heap[g9]? = some (.cells (fl [[.int .u32 0], [.slice none 0 0], [.int .i64 0], [.int .u32 0], [.slice none 0 0]]) 26 (0, 0))) := hide (hB.get 1 (x := ⟨g9, fl [[.int .u32 0], [.slice none 0 0], [.int .i64 0], [.int .u32 0], [.slice none 0 0]], 26⟩) rfl)
    refine list_all 26 (.tmp 9) (.tmp 49) (g9) (S2 := [[.int .u32 d.nx], [.slice x3.ao x3.no x3.co], [.int .i64 d.tn], [.int .u32 d.dl], [.slice x3.ah x3.nh x3.ch]]) (by kernel_rfl) rfl (by kernel_rfl) (by kernel_rfl) hB 1 rfl NC (nC  _ _ _ _ _) (nC  _ _ _ _ _) (by kernel_rfl) (oC  rfl rfl rfl rfl rfl) ?_
    intro u8 hB_ hbt_
    clear hB
    replace hB : Bl w [⟨w.heap.size, fl [[.int .u32 e.nx], [.slice x1.ao x1.no x1.co], [.int .i64 e.tn], [.int .u32 e.dl], [.slice x1.ah x1.nh x1.ch]], 26⟩, ⟨g9, fl [[.int .u32 d.nx], [.slice x3.ao x3.no x3.co], [.int .i64 d.tn], [.int .u32 d.dl], [.slice x3.ah x3.nh x3.ch]], 26⟩] u8 := hB_
    clear hB_
    replace hC1 := hide ((unhide hC1).bz (unhide hzz_) hbt_)
    replace hO := hide ((unhide hO).bz (unhide hzz_) hbt_)
    replace hC3 := hide ((unhide hC3).bz (unhide hzz_) hbt_)
    clear hbt_ hzz_
    simp only [nrm]
    (refine wpList_step fun K hK => ?_; replace hK := hide hK; go_simp; refine unhide hK _ _ ?_; clear hK K)
    refine wpList_nil ?_
    by_cases h2 : er = 0
    · have hr := gtM_ok ((unhide her).symm.trans h2)
      rw [← unhide hd] at hr
      replace hr := hide hr; replace h2 := hide h2
      replace hB := hide hB
      go_upto_region 10 with fail
      replace hB := unhide hB
      refine wp_region_lit ?_
      refine lvk (.int .i64 er) ?_
      simp only [nrm]
      refine list_val (.bool false) (by kernel_rfl) (neq_e _ (.tmp 51) (.const (.int .i64 0)) er 0 false rfl (by kernel_rfl) (by kernel_rfl) (decide_eq_false (not_not_intro (unhide h2)))) ?_
      simp only [nrm]
      refine wpList_nil ?_
      have hPd : (if rt d = true then putL d else []) = B := by rw [if_pos (unhide hr).1]; exact (unhide hr).2.1
      have hBl := (unhide hbB).len
      have hBB := (unhide hbB).isB
      have hk := chk_t (unhide hr).1
      replace hPd := hide hPd; replace hBB := hide hBB; replace hk := hide hk
      replace hB := hide hB
      go_upto_region 12 with fail
      replace hB := unhide hB
      refine wp_region_lit ?_
      refine list_val (.agg (fl [[.int .u32 d.nx], [.slice x3.ao x3.no x3.co], [.int .i64 d.tn], [.int .u32 d.dl], [.slice x3.ah x3.nh x3.ch]])) (by kernel_rfl) (exec_sw _ 26 (.tmp 9) rfl (g9) (by kernel_rfl) (hB.get 1 (x := ⟨g9, fl [[.int .u32 d.nx], [.slice x3.ao x3.no x3.co], [.int .i64 d.tn], [.int .u32 d.dl], [.slice x3.ah x3.nh x3.ch]], 26⟩) rfl) NC (nC  _ _ _ _ _) Try.underlying26 rfl (by kernel_rfl)) ?_
      simp only [nrm]
      refine list_call 27 #[.agg (fl [[.int .u32 d.nx], [.slice x3.ao x3.no x3.co], [.int .i64 d.tn], [.int .u32 d.dl], [.slice x3.ah x3.nh x3.ch]])] (by kernel_rfl) (by kernel_rfl) (((show Calls Try.prog 27 #[.agg (fl [[.int .u32 d.nx], [.slice x3.ao x3.no x3.co], [.int .i64 d.tn], [.int .u32 d.dl], [.slice x3.ah x3.nh x3.ch]])] u8 (fun r w' => ∃ v, r = .returned (.tuple #[v, .int .i64 0]) ∧ Ob w.heap.size w' v B ∧ Gr u8 w') from by have h := cput_ok d x3 u8 (unhide hC3).i; rw [unhide hPd] at h; exact h.mono fun r w' h9 => (by obtain ⟨v, q1, q3, q4⟩ := h9; exact ⟨v, by rw [q1, (unhide hr).1]; rfl, ob_base q3 hB.gr.size, q4⟩))).mono ?_)
      rintro r_ u9 ⟨v3, rfl, hO3, hg⟩
      replace hC1 := hide ((unhide hC1).gr hg)
      replace hO := hide ((unhide hO).gr hg)
      replace hC3 := hide ((unhide hC3).gr hg)
      replace hB := hB.more hg
      clear hg
      replace hO3 := hide hO3
      refine ⟨_, rfl, ?_⟩
      simp only [nrm]
      refine lvk (.tuple #[v3, .int .i64 0]) ?_
      simp only [nrm]
      refine lvk (v3) ?_
      simp only [nrm]
      refine lvk (.int .i64 0) ?_
      simp only [nrm]
      (refine wpList_step fun K hK => ?_; replace hK := hide hK; go_simp; refine unhide hK _ _ ?_; clear hK K)
      (refine wpList_step fun K hK => ?_; replace hK := hide hK; go_simp; refine unhide hK _ _ ?_; clear hK K)
      refine wpList_nil ?_
      obtain ⟨a4, c4, rfl, -⟩ := ob_lb (unhide hO3) (unhide hBB) hBl
      replace hB := hide hB
      go_upto_region 13 with fail
      replace hB := unhide hB
      refine wp_region_lit ?_
      refine wpList_gen fun ops_ hops => ?_
      replace hops := hide hops
      refine list_val (.int .i64 0) (by rw [unhide hops]; kernel_rfl) (by kernel_rfl) ?_
      simp only [nrm]
      refine list_val (.bool true) (by rw [unhide hops]; kernel_rfl) (eql_e _ (.tmp 61) (.const (.int .i64 0)) 0 0 true rfl (by kernel_rfl) (by kernel_rfl) (by decide)) ?_
      simp only [nrm]
      refine list_val (.bool true) (by rw [unhide hops]; kernel_rfl) (by kernel_rfl) ?_
      simp only [nrm]
      refine list_val (.slice a4 m c4) (by rw [unhide hops]; kernel_rfl) (by kernel_rfl) ?_
      simp only [nrm]
      refine list_val (.slice s m cp) (by rw [unhide hops]; kernel_rfl) (by kernel_rfl) ?_
      simp only [nrm]
      refine list_call 28 #[.slice a4 m c4, .slice s m cp] (by rw [unhide hops]; kernel_rfl) (by kernel_rfl) (((show Calls Try.prog 28 #[.slice a4 m c4, .slice s m cp] u9 (Vl (.bool true) u9) from by have h := beq_ok B B a4 s m m c4 cp u9 (ob_lb2 (unhide hO3) (unhide hBB) hBl) ((unhide hbB).gr hB.gr); rw [decide_eq_true rfl] at h; exact h)).mono ?_)
      rintro r_ u10 ⟨rfl, hg⟩
      replace hC1 := hide ((unhide hC1).gr hg)
      replace hO := hide ((unhide hO).gr hg)
      replace hC3 := hide ((unhide hC3).gr hg)
      replace hO3 := hide ((unhide hO3).gr hg)
      replace hB := hB.more hg
      clear hg
      refine ⟨_, rfl, ?_⟩
      simp only [nrm]
      refine list_val (.bool true) (by rw [unhide hops]; kernel_rfl) (by kernel_rfl) ?_
      simp only [nrm]
      refine list_val (.bool true) (by rw [unhide hops]; kernel_rfl) (by kernel_rfl) ?_
      simp only [nrm]
      refine list_val (.agg (fl [[.int .u32 d.nx], [.slice x3.ao x3.no x3.co], [.int .i64 d.tn], [.int .u32 d.dl], [.slice x3.ah x3.nh x3.ch]])) (by rw [unhide hops]; kernel_rfl) (exec_sw _ 26 (.tmp 9) rfl (g9) (by kernel_rfl) (hB.get 1 (x := ⟨g9, fl [[.int .u32 d.nx], [.slice x3.ao x3.no x3.co], [.int .i64 d.tn], [.int .u32 d.dl], [.slice x3.ah x3.nh x3.ch]], 26⟩) rfl) NC (nC  _ _ _ _ _) Try.underlying26 rfl (by kernel_rfl)) ?_
      simp only [nrm]
      refine list_call 12 #[.agg (fl [[.int .u32 d.nx], [.slice x3.ao x3.no x3.co], [.int .i64 d.tn], [.int .u32 d.dl], [.slice x3.ah x3.nh x3.ch]])] (by rw [unhide hops]; kernel_rfl) (by kernel_rfl) (((show Calls Try.prog 12 #[.agg (fl [[.int .u32 d.nx], [.slice x3.ao x3.no x3.co], [.int .i64 d.tn], [.int .u32 d.dl], [.slice x3.ah x3.nh x3.ch]])] u10 (Vl (.int .i64 0) u10) from unhide hk ▸ check_ok d x3 u10 (unhide hC3).i)).mono ?_)
      rintro r_ u11 ⟨rfl, hg⟩
      replace hC1 := hide ((unhide hC1).gr hg)
      replace hO := hide ((unhide hO).gr hg)
      replace hC3 := hide ((unhide hC3).gr hg)
      replace hO3 := hide ((unhide hO3).gr hg)
      replace hB := hB.more hg
      clear hg
      refine ⟨_, rfl, ?_⟩
      simp only [nrm]
      refine list_val (.bool true) (by rw [unhide hops]; kernel_rfl) (eql_e _ (.tmp 70) (.const (.int .i64 0)) 0 0 true rfl (by kernel_rfl) (by kernel_rfl) (by decide)) ?_
      simp only [nrm]
      refine list_val (.bool true) (by rw [unhide hops]; kernel_rfl) (by kernel_rfl) ?_
      simp only [nrm]
      (refine wpList_step fun K hK => ?_; replace hK := hide hK; go_simp; refine unhide hK _ _ ?_; clear hK K)
      refine wpList_nil ?_
      replace hB := hide hB
      go_wp2_with fail
      replace hB := unhide hB
      rw [unhide hT]
      exact (⟨rfl, hB.gr⟩)
    · have hr := gtM_bad (fun h => h2 ((unhide her).trans h))
      rw [← unhide hd] at hr
      replace hr := hide hr; replace h2 := hide h2
      replace hB := hide hB
      go_upto_region 10 with fail
      replace hB := unhide hB
      refine wp_region_lit ?_
      refine lvk (.int .i64 er) ?_
      simp only [nrm]
      refine list_val (.bool true) (by kernel_rfl) (neq_e _ (.tmp 51) (.const (.int .i64 0)) er 0 true rfl (by kernel_rfl) (by kernel_rfl) (decide_eq_true (unhide h2))) ?_
      simp only [nrm]
      refine wpList_nil ?_
      replace hB := hide hB
      go_upto_region 11 with fail
      replace hB := unhide hB
      refine wp_region_lit ?_
      refine list_val (.agg (fl [[.int .u32 d.nx], [.slice x3.ao x3.no x3.co], [.int .i64 d.tn], [.int .u32 d.dl], [.slice x3.ah x3.nh x3.ch]])) (by kernel_rfl) (exec_sw _ 26 (.tmp 9) rfl (g9) (by kernel_rfl) (hB.get 1 (x := ⟨g9, fl [[.int .u32 d.nx], [.slice x3.ao x3.no x3.co], [.int .i64 d.tn], [.int .u32 d.dl], [.slice x3.ah x3.nh x3.ch]], 26⟩) rfl) NC (nC  _ _ _ _ _) Try.underlying26 rfl (by kernel_rfl)) ?_
      simp only [nrm]
      refine list_val (.agg (fl [[.int .u32 0], [.slice none 0 0], [.int .i64 0], [.int .u32 0], [.slice none 0 0]])) (by kernel_rfl) (bC _ rfl) ?_
      simp only [nrm]
      refine list_call 32 #[.agg (fl [[.int .u32 d.nx], [.slice x3.ao x3.no x3.co], [.int .i64 d.tn], [.int .u32 d.dl], [.slice x3.ah x3.nh x3.ch]]), .agg (fl [[.int .u32 0], [.slice none 0 0], [.int .i64 0], [.int .u32 0], [.slice none 0 0]])] (by kernel_rfl) (by kernel_rfl) (((show Calls Try.prog 32 #[.agg (fl [[.int .u32 d.nx], [.slice x3.ao x3.no x3.co], [.int .i64 d.tn], [.int .u32 d.dl], [.slice x3.ah x3.nh x3.ch]]), .agg (fl [[.int .u32 0], [.slice none 0 0], [.int .i64 0], [.int .u32 0], [.slice none 0 0]])] u8 (Vl (.bool true) u8) from by have h := same_ok d cz x3 xz u8 (unhide hC3).i (cin_z _); rw [decide_eq_true (unhide hr)] at h; exact h)).mono ?_)
      rintro r_ u9 ⟨rfl, hg⟩
      replace hC1 := hide ((unhide hC1).gr hg)
      replace hO := hide ((unhide hO).gr hg)
      replace hC3 := hide ((unhide hC3).gr hg)
      replace hB := hB.more hg
      clear hg
      refine ⟨_, rfl, ?_⟩
      simp only [nrm]
      (refine wpList_step fun K hK => ?_; replace hK := hide hK; go_simp; refine unhide hK _ _ ?_; clear hK K)
      refine wpList_nil ?_
      replace hB := hide hB
      go_wp2_with fail
      replace hB := unhide hB
      rw [unhide hT]
      exact (⟨rfl, hB.gr⟩)
  | true =>
    replace h1 := hide h1
    replace hB := hide hB
    go_upto_region 4 with fail
    replace hB := unhide hB
    refine wp_region_lit ?_
    refine list_val (.agg (fl [[.int .u32 e.nx], [.slice x1.ao x1.no x1.co], [.int .i64 e.tn], [.int .u32 e.dl], [.slice x1.ah x1.nh x1.ch]])) (by kernel_rfl) (exec_sw _ 26 (.tmp 2) rfl (w.heap.size) (by kernel_rfl) (hB.get 0 (x := ⟨w.heap.size, fl [[.int .u32 e.nx], [.slice x1.ao x1.no x1.co], [.int .i64 e.tn], [.int .u32 e.dl], [.slice x1.ah x1.nh x1.ch]], 26⟩) rfl) NC (nC  _ _ _ _ _) Try.underlying26 rfl (by kernel_rfl)) ?_
    simp only [nrm]
    refine list_call 27 #[.agg (fl [[.int .u32 e.nx], [.slice x1.ao x1.no x1.co], [.int .i64 e.tn], [.int .u32 e.dl], [.slice x1.ah x1.nh x1.ch]])] (by kernel_rfl) (by kernel_rfl) (((show Calls Try.prog 27 #[.agg (fl [[.int .u32 e.nx], [.slice x1.ao x1.no x1.co], [.int .i64 e.tn], [.int .u32 e.dl], [.slice x1.ah x1.nh x1.ch]])] u4 (fun r w' => ∃ v, r = .returned (.tuple #[v, .int .i64 0]) ∧ Ob w.heap.size w' v P ∧ Gr u4 w') from by have h := cput_ok e x1 u4 (unhide hC1).i; rw [← unhide hP] at h; exact h.mono fun r w' h9 => (by obtain ⟨v, q1, q3, q4⟩ := h9; exact ⟨v, by rw [q1, unhide h1]; rfl, ob_base q3 hB.gr.size, q4⟩))).mono ?_)
    rintro r_ u5 ⟨v1, rfl, hO, hg⟩
    replace hC1 := hide ((unhide hC1).gr hg)
    replace hB := hB.more hg
    clear hg
    replace hO := hide hO
    refine ⟨_, rfl, ?_⟩
    simp only [nrm]
    refine lvk (.tuple #[v1, .int .i64 0]) ?_
    simp only [nrm]
    refine lvk (v1) ?_
    simp only [nrm]
    refine lvk (.int .i64 0) ?_
    simp only [nrm]
    (refine wpList_step fun K hK => ?_; replace hK := hide hK; go_simp; refine unhide hK _ _ ?_; clear hK K)
    (refine wpList_step fun K hK => ?_; replace hK := hide hK; go_simp; refine unhide hK _ _ ?_; clear hK K)
    refine wpList_nil ?_
    replace hB := hide hB
    go_upto_region 5 with fail
    replace hB := unhide hB
    refine wp_region_lit ?_
    refine lvk (.int .i64 0) ?_
    simp only [nrm]
    refine list_val (.bool true) (by kernel_rfl) (eql_e _ (.tmp 26) (.const (.int .i64 0)) 0 0 true rfl (by kernel_rfl) (by kernel_rfl) (by decide)) ?_
    simp only [nrm]
    refine wpList_nil ?_
    have hP2 : P = putL e := by rw [unhide hP, if_pos (unhide h1)]
    have hPl : P.length = 590 := by rw [hP2]; exact putL_len (unhide h1) (unhide hnm).O
    have hPB : IsB P := by rw [hP2]; exact putL_isB (unhide h1) (unhide hnm).O
    have hg0 : gtM P = (e, 0) := by rw [hP2]; exact gt_put (unhide h1) (unhide hnm)
    obtain ⟨a2, c2, rfl, -⟩ := ob_lb (unhide hO) hPB hPl
    replace hPB := hide hPB; replace hP2 := hide hP2; replace hg0 := hide hg0
    replace hB := hide hB
    go_upto_region 6 with fail
    replace hB := unhide hB
    refine wp_region_lit ?_
    refine lvk (.slice a2 590 c2) ?_
    simp only [nrm]
    refine list_call 30 #[.slice a2 590 c2] (by kernel_rfl) (by kernel_rfl) (((show Calls Try.prog 30 #[.slice a2 590 c2] u5 (fun r w' => ∃ x', r = .returned (.tuple #[.agg (fl (cvs e x')), .int .i64 0]) ∧ Co w.heap.size w' e x' ∧ Gr u5 w') from by have h := cget_ok P a2 590 c2 (by omega) u5 (ob_lb2 (unhide hO) (unhide hPB) hPl); rw [unhide hg0] at h; exact h.mono fun r w' h9 => (by obtain ⟨x', h1, h2, h3, h4⟩ := h9; exact ⟨x', h1, ⟨h2, h3.base hB.gr.size⟩, h4⟩))).mono ?_)
    rintro r_ u6 ⟨x2, rfl, hC2, hg⟩
    replace hC1 := hide ((unhide hC1).gr hg)
    replace hO := hide ((unhide hO).gr hg)
    replace hB := hB.more hg
    clear hg
    replace hC2 := hide hC2
    refine ⟨_, rfl, ?_⟩
    simp only [nrm]
    refine lvk (.tuple #[.agg (fl [[.int .u32 e.nx], [.slice x2.ao x2.no x2.co], [.int .i64 e.tn], [.int .u32 e.dl], [.slice x2.ah x2.nh x2.ch]]), .int .i64 0]) ?_
    simp only [nrm]
    refine lvk (.agg (fl [[.int .u32 e.nx], [.slice x2.ao x2.no x2.co], [.int .i64 e.tn], [.int .u32 e.dl], [.slice x2.ah x2.nh x2.ch]])) ?_
    simp only [nrm]
    refine lvk (.int .i64 0) ?_
    simp only [nrm]
    refine list_valw (.pointer (some ⟨u6.heap.size, 0, none⟩)) (u6.alloc (.cells (fl [[.int .u32 0], [.slice none 0 0], [.int .i64 0], [.int .u32 0], [.slice none 0 0]]) 26 (0, 0))) (by kernel_rfl) (by kernel_rfl) ?_
    replace hB := hB.new (fl [[.int .u32 0], [.slice none 0 0], [.int .i64 0], [.int .u32 0], [.slice none 0 0]]) 26
    simp only [List.nil_append, List.cons_append] at hB
    have hg := (Gr.refl u6).alloc (.cells (fl [[.int .u32 0], [.slice none 0 0], [.int .i64 0], [.int .u32 0], [.slice none 0 0]]) 26 (0, 0))
    replace hC1 := hide ((unhide hC1).gr hg)
    replace hO := hide ((unhide hO).gr hg)
    replace hC2 := hide ((unhide hC2).gr hg)
    clear hg
    generalize World.alloc _ _ = u7 at *
    generalize u6.heap.size = g7 at *
    simp only [nrm]
    have hzz_ : Hid (u7.heap[g7]? = some (.cells (fl [[.int .u32 0], [.slice none 0 0], [.int .i64 0], [.int .u32 0], [.slice none 0 0]]) 26 (0, 0))) := hide (hB.get 1 (x := ⟨g7, fl [[.int .u32 0], [.slice none 0 0], [.int .i64 0], [.int .u32 0], [.slice none 0 0]], 26⟩) rfl)
    refine list_all 26 (.tmp 7) (.tmp 31) (g7) (S2 := [[.int .u32 e.nx], [.slice x2.ao x2.no x2.co], [.int .i64 e.tn], [.int .u32 e.dl], [.slice x2.ah x2.nh x2.ch]]) (by kernel_rfl) rfl (by kernel_rfl) (by kernel_rfl) hB 1 rfl NC (nC  _ _ _ _ _) (nC  _ _ _ _ _) (by kernel_rfl) (oC  rfl rfl rfl rfl rfl) ?_
    intro u8 hB_ hbt_
    clear hB
    replace hB : Bl w [⟨w.heap.size, fl [[.int .u32 e.nx], [.slice x1.ao x1.no x1.co], [.int .i64 e.tn], [.int .u32 e.dl], [.slice x1.ah x1.nh x1.ch]], 26⟩, ⟨g7, fl [[.int .u32 e.nx], [.slice x2.ao x2.no x2.co], [.int .i64 e.tn], [.int .u32 e.dl], [.slice x2.ah x2.nh x2.ch]], 26⟩] u8 := hB_
    clear hB_
    replace hC1 := hide ((unhide hC1).bz (unhide hzz_) hbt_)
    replace hO := hide ((unhide hO).bz (unhide hzz_) hbt_)
    replace hC2 := hide ((unhide hC2).bz (unhide hzz_) hbt_)
    clear hbt_ hzz_
    simp only [nrm]
    (refine wpList_step fun K hK => ?_; replace hK := hide hK; go_simp; refine unhide hK _ _ ?_; clear hK K)
    refine wpList_nil ?_
    replace hB := hide hB
    go_upto_region 7 with fail
    replace hB := unhide hB
    refine wp_region_lit ?_
    refine wpList_gen fun ops_ hops => ?_
    replace hops := hide hops
    refine list_val (.int .i64 0) (by rw [unhide hops]; kernel_rfl) (by kernel_rfl) ?_
    simp only [nrm]
    refine list_val (.bool false) (by rw [unhide hops]; kernel_rfl) (neq_e _ (.tmp 33) (.const (.int .i64 0)) 0 0 false rfl (by kernel_rfl) (by kernel_rfl) (by decide)) ?_
    simp only [nrm]
    refine list_val (.bool false) (by rw [unhide hops]; kernel_rfl) (by kernel_rfl) ?_
    simp only [nrm]
    refine list_val (.agg (fl [[.int .u32 e.nx], [.slice x1.ao x1.no x1.co], [.int .i64 e.tn], [.int .u32 e.dl], [.slice x1.ah x1.nh x1.ch]])) (by rw [unhide hops]; kernel_rfl) (exec_sw _ 26 (.tmp 2) rfl (w.heap.size) (by kernel_rfl) (hB.get 0 (x := ⟨w.heap.size, fl [[.int .u32 e.nx], [.slice x1.ao x1.no x1.co], [.int .i64 e.tn], [.int .u32 e.dl], [.slice x1.ah x1.nh x1.ch]], 26⟩) rfl) NC (nC  _ _ _ _ _) Try.underlying26 rfl (by kernel_rfl)) ?_
    simp only [nrm]
    refine list_val (.agg (fl [[.int .u32 e.nx], [.slice x2.ao x2.no x2.co], [.int .i64 e.tn], [.int .u32 e.dl], [.slice x2.ah x2.nh x2.ch]])) (by rw [unhide hops]; kernel_rfl) (exec_sw _ 26 (.tmp 7) rfl (g7) (by kernel_rfl) (hB.get 1 (x := ⟨g7, fl [[.int .u32 e.nx], [.slice x2.ao x2.no x2.co], [.int .i64 e.tn], [.int .u32 e.dl], [.slice x2.ah x2.nh x2.ch]], 26⟩) rfl) NC (nC  _ _ _ _ _) Try.underlying26 rfl (by kernel_rfl)) ?_
    simp only [nrm]
    refine list_call 32 #[.agg (fl [[.int .u32 e.nx], [.slice x1.ao x1.no x1.co], [.int .i64 e.tn], [.int .u32 e.dl], [.slice x1.ah x1.nh x1.ch]]), .agg (fl [[.int .u32 e.nx], [.slice x2.ao x2.no x2.co], [.int .i64 e.tn], [.int .u32 e.dl], [.slice x2.ah x2.nh x2.ch]])] (by rw [unhide hops]; kernel_rfl) (by kernel_rfl) (((show Calls Try.prog 32 #[.agg (fl [[.int .u32 e.nx], [.slice x1.ao x1.no x1.co], [.int .i64 e.tn], [.int .u32 e.dl], [.slice x1.ah x1.nh x1.ch]]), .agg (fl [[.int .u32 e.nx], [.slice x2.ao x2.no x2.co], [.int .i64 e.tn], [.int .u32 e.dl], [.slice x2.ah x2.nh x2.ch]])] u8 (Vl (.bool true) u8) from by have h := same_ok e e x1 x2 u8 (unhide hC1).i (unhide hC2).i; rw [decide_eq_true rfl] at h; exact h)).mono ?_)
    rintro r_ u9 ⟨rfl, hg⟩
    replace hC1 := hide ((unhide hC1).gr hg)
    replace hO := hide ((unhide hO).gr hg)
    replace hC2 := hide ((unhide hC2).gr hg)
    replace hB := hB.more hg
    clear hg
    refine ⟨_, rfl, ?_⟩
    simp only [nrm]
    refine list_val (.bool false) (by rw [unhide hops]; kernel_rfl) (by kernel_rfl) ?_
    simp only [nrm]
    refine list_val (.bool false) (by rw [unhide hops]; kernel_rfl) (by kernel_rfl) ?_
    simp only [nrm]
    refine list_val (.bool false) (by rw [unhide hops]; kernel_rfl) (by kernel_rfl) ?_
    simp only [nrm]
    refine list_val (.slice a2 590 c2) (by rw [unhide hops]; kernel_rfl) (by kernel_rfl) ?_
    simp only [nrm]
    refine list_val (.int .i64 590) (by rw [unhide hops]; kernel_rfl) (by kernel_rfl) ?_
    simp only [nrm]
    refine list_val (.bool false) (by rw [unhide hops]; kernel_rfl) (neq_i _ (.tmp 43) (.const (.int .i64 590)) 590 590 false rfl (by kernel_rfl) (by kernel_rfl) (by decide)) ?_
    simp only [nrm]
    refine list_val (.bool false) (by rw [unhide hops]; kernel_rfl) (by kernel_rfl) ?_
    simp only [nrm]
    refine wpList_nil ?_
    replace hB := hide hB
    go_upto_region 9 with fail
    replace hB := unhide hB
    refine wp_region_lit ?_
    refine lvk (.slice s m cp) ?_
    simp only [nrm]
    refine list_call 30 #[.slice s m cp] (by kernel_rfl) (by kernel_rfl) (((show Calls Try.prog 30 #[.slice s m cp] u9 (fun r w' => ∃ x', r = .returned (.tuple #[.agg (fl (cvs d x')), .int .i64 er]) ∧ Co w.heap.size w' d x' ∧ Gr u9 w') from by have h := cget_ok B s m cp (by omega) u9 ((unhide hbB).gr hB.gr); rw [← unhide hd, ← unhide her] at h; exact h.mono fun r w' h9 => (by obtain ⟨x', h1, h2, h3, h4⟩ := h9; exact ⟨x', h1, ⟨h2, h3.base hB.gr.size⟩, h4⟩))).mono ?_)
    rintro r_ u10 ⟨x3, rfl, hC3, hg⟩
    replace hC1 := hide ((unhide hC1).gr hg)
    replace hO := hide ((unhide hO).gr hg)
    replace hC2 := hide ((unhide hC2).gr hg)
    replace hB := hB.more hg
    clear hg
    replace hC3 := hide hC3
    refine ⟨_, rfl, ?_⟩
    simp only [nrm]
    refine lvk (.tuple #[.agg (fl [[.int .u32 d.nx], [.slice x3.ao x3.no x3.co], [.int .i64 d.tn], [.int .u32 d.dl], [.slice x3.ah x3.nh x3.ch]]), .int .i64 er]) ?_
    simp only [nrm]
    refine lvk (.agg (fl [[.int .u32 d.nx], [.slice x3.ao x3.no x3.co], [.int .i64 d.tn], [.int .u32 d.dl], [.slice x3.ah x3.nh x3.ch]])) ?_
    simp only [nrm]
    refine lvk (.int .i64 er) ?_
    simp only [nrm]
    refine list_valw (.pointer (some ⟨u10.heap.size, 0, none⟩)) (u10.alloc (.cells (fl [[.int .u32 0], [.slice none 0 0], [.int .i64 0], [.int .u32 0], [.slice none 0 0]]) 26 (0, 0))) (by kernel_rfl) (by kernel_rfl) ?_
    replace hB := hB.new (fl [[.int .u32 0], [.slice none 0 0], [.int .i64 0], [.int .u32 0], [.slice none 0 0]]) 26
    simp only [List.nil_append, List.cons_append] at hB
    have hg := (Gr.refl u10).alloc (.cells (fl [[.int .u32 0], [.slice none 0 0], [.int .i64 0], [.int .u32 0], [.slice none 0 0]]) 26 (0, 0))
    replace hC1 := hide ((unhide hC1).gr hg)
    replace hO := hide ((unhide hO).gr hg)
    replace hC2 := hide ((unhide hC2).gr hg)
    replace hC3 := hide ((unhide hC3).gr hg)
    clear hg
    generalize World.alloc _ _ = u11 at *
    generalize u10.heap.size = g9 at *
    simp only [nrm]
    have hzz_ : Hid (u11.heap[g9]? = some (.cells (fl [[.int .u32 0], [.slice none 0 0], [.int .i64 0], [.int .u32 0], [.slice none 0 0]]) 26 (0, 0))) := hide (hB.get 2 (x := ⟨g9, fl [[.int .u32 0], [.slice none 0 0], [.int .i64 0], [.int .u32 0], [.slice none 0 0]], 26⟩) rfl)
    refine list_all 26 (.tmp 9) (.tmp 49) (g9) (S2 := [[.int .u32 d.nx], [.slice x3.ao x3.no x3.co], [.int .i64 d.tn], [.int .u32 d.dl], [.slice x3.ah x3.nh x3.ch]]) (by kernel_rfl) rfl (by kernel_rfl) (by kernel_rfl) hB 2 rfl NC (nC  _ _ _ _ _) (nC  _ _ _ _ _) (by kernel_rfl) (oC  rfl rfl rfl rfl rfl) ?_
    intro u12 hB_ hbt_
    clear hB
    replace hB : Bl w [⟨w.heap.size, fl [[.int .u32 e.nx], [.slice x1.ao x1.no x1.co], [.int .i64 e.tn], [.int .u32 e.dl], [.slice x1.ah x1.nh x1.ch]], 26⟩, ⟨g7, fl [[.int .u32 e.nx], [.slice x2.ao x2.no x2.co], [.int .i64 e.tn], [.int .u32 e.dl], [.slice x2.ah x2.nh x2.ch]], 26⟩, ⟨g9, fl [[.int .u32 d.nx], [.slice x3.ao x3.no x3.co], [.int .i64 d.tn], [.int .u32 d.dl], [.slice x3.ah x3.nh x3.ch]], 26⟩] u12 := hB_
    clear hB_
    replace hC1 := hide ((unhide hC1).bz (unhide hzz_) hbt_)
    replace hO := hide ((unhide hO).bz (unhide hzz_) hbt_)
    replace hC2 := hide ((unhide hC2).bz (unhide hzz_) hbt_)
    replace hC3 := hide ((unhide hC3).bz (unhide hzz_) hbt_)
    clear hbt_ hzz_
    simp only [nrm]
    (refine wpList_step fun K hK => ?_; replace hK := hide hK; go_simp; refine unhide hK _ _ ?_; clear hK K)
    refine wpList_nil ?_
    by_cases h2 : er = 0
    · have hr := gtM_ok ((unhide her).symm.trans h2)
      rw [← unhide hd] at hr
      replace hr := hide hr; replace h2 := hide h2
      replace hB := hide hB
      go_upto_region 10 with fail
      replace hB := unhide hB
      refine wp_region_lit ?_
      refine lvk (.int .i64 er) ?_
      simp only [nrm]
      refine list_val (.bool false) (by kernel_rfl) (neq_e _ (.tmp 51) (.const (.int .i64 0)) er 0 false rfl (by kernel_rfl) (by kernel_rfl) (decide_eq_false (not_not_intro (unhide h2)))) ?_
      simp only [nrm]
      refine wpList_nil ?_
      have hPd : (if rt d = true then putL d else []) = B := by rw [if_pos (unhide hr).1]; exact (unhide hr).2.1
      have hBl := (unhide hbB).len
      have hBB := (unhide hbB).isB
      have hk := chk_t (unhide hr).1
      replace hPd := hide hPd; replace hBB := hide hBB; replace hk := hide hk
      replace hB := hide hB
      go_upto_region 12 with fail
      replace hB := unhide hB
      refine wp_region_lit ?_
      refine list_val (.agg (fl [[.int .u32 d.nx], [.slice x3.ao x3.no x3.co], [.int .i64 d.tn], [.int .u32 d.dl], [.slice x3.ah x3.nh x3.ch]])) (by kernel_rfl) (exec_sw _ 26 (.tmp 9) rfl (g9) (by kernel_rfl) (hB.get 2 (x := ⟨g9, fl [[.int .u32 d.nx], [.slice x3.ao x3.no x3.co], [.int .i64 d.tn], [.int .u32 d.dl], [.slice x3.ah x3.nh x3.ch]], 26⟩) rfl) NC (nC  _ _ _ _ _) Try.underlying26 rfl (by kernel_rfl)) ?_
      simp only [nrm]
      refine list_call 27 #[.agg (fl [[.int .u32 d.nx], [.slice x3.ao x3.no x3.co], [.int .i64 d.tn], [.int .u32 d.dl], [.slice x3.ah x3.nh x3.ch]])] (by kernel_rfl) (by kernel_rfl) (((show Calls Try.prog 27 #[.agg (fl [[.int .u32 d.nx], [.slice x3.ao x3.no x3.co], [.int .i64 d.tn], [.int .u32 d.dl], [.slice x3.ah x3.nh x3.ch]])] u12 (fun r w' => ∃ v, r = .returned (.tuple #[v, .int .i64 0]) ∧ Ob w.heap.size w' v B ∧ Gr u12 w') from by have h := cput_ok d x3 u12 (unhide hC3).i; rw [unhide hPd] at h; exact h.mono fun r w' h9 => (by obtain ⟨v, q1, q3, q4⟩ := h9; exact ⟨v, by rw [q1, (unhide hr).1]; rfl, ob_base q3 hB.gr.size, q4⟩))).mono ?_)
      rintro r_ u13 ⟨v3, rfl, hO3, hg⟩
      replace hC1 := hide ((unhide hC1).gr hg)
      replace hO := hide ((unhide hO).gr hg)
      replace hC2 := hide ((unhide hC2).gr hg)
      replace hC3 := hide ((unhide hC3).gr hg)
      replace hB := hB.more hg
      clear hg
      replace hO3 := hide hO3
      refine ⟨_, rfl, ?_⟩
      simp only [nrm]
      refine lvk (.tuple #[v3, .int .i64 0]) ?_
      simp only [nrm]
      refine lvk (v3) ?_
      simp only [nrm]
      refine lvk (.int .i64 0) ?_
      simp only [nrm]
      (refine wpList_step fun K hK => ?_; replace hK := hide hK; go_simp; refine unhide hK _ _ ?_; clear hK K)
      (refine wpList_step fun K hK => ?_; replace hK := hide hK; go_simp; refine unhide hK _ _ ?_; clear hK K)
      refine wpList_nil ?_
      obtain ⟨a4, c4, rfl, -⟩ := ob_lb (unhide hO3) (unhide hBB) hBl
      replace hB := hide hB
      go_upto_region 13 with fail
      replace hB := unhide hB
      refine wp_region_lit ?_
      refine wpList_gen fun ops_ hops => ?_
      replace hops := hide hops
      refine list_val (.int .i64 0) (by rw [unhide hops]; kernel_rfl) (by kernel_rfl) ?_
      simp only [nrm]
      refine list_val (.bool true) (by rw [unhide hops]; kernel_rfl) (eql_e _ (.tmp 61) (.const (.int .i64 0)) 0 0 true rfl (by kernel_rfl) (by kernel_rfl) (by decide)) ?_
      simp only [nrm]
      refine list_val (.bool true) (by rw [unhide hops]; kernel_rfl) (by kernel_rfl) ?_
      simp only [nrm]
      refine list_val (.slice a4 m c4) (by rw [unhide hops]; kernel_rfl) (by kernel_rfl) ?_
      simp only [nrm]
      refine list_val (.slice s m cp) (by rw [unhide hops]; kernel_rfl) (by kernel_rfl) ?_
      simp only [nrm]
      refine list_call 28 #[.slice a4 m c4, .slice s m cp] (by rw [unhide hops]; kernel_rfl) (by kernel_rfl) (((show Calls Try.prog 28 #[.slice a4 m c4, .slice s m cp] u13 (Vl (.bool true) u13) from by have h := beq_ok B B a4 s m m c4 cp u13 (ob_lb2 (unhide hO3) (unhide hBB) hBl) ((unhide hbB).gr hB.gr); rw [decide_eq_true rfl] at h; exact h)).mono ?_)
      rintro r_ u14 ⟨rfl, hg⟩
      replace hC1 := hide ((unhide hC1).gr hg)
      replace hO := hide ((unhide hO).gr hg)
      replace hC2 := hide ((unhide hC2).gr hg)
      replace hC3 := hide ((unhide hC3).gr hg)
      replace hO3 := hide ((unhide hO3).gr hg)
      replace hB := hB.more hg
      clear hg
      refine ⟨_, rfl, ?_⟩
      simp only [nrm]
      refine list_val (.bool true) (by rw [unhide hops]; kernel_rfl) (by kernel_rfl) ?_
      simp only [nrm]
      refine list_val (.bool true) (by rw [unhide hops]; kernel_rfl) (by kernel_rfl) ?_
      simp only [nrm]
      refine list_val (.agg (fl [[.int .u32 d.nx], [.slice x3.ao x3.no x3.co], [.int .i64 d.tn], [.int .u32 d.dl], [.slice x3.ah x3.nh x3.ch]])) (by rw [unhide hops]; kernel_rfl) (exec_sw _ 26 (.tmp 9) rfl (g9) (by kernel_rfl) (hB.get 2 (x := ⟨g9, fl [[.int .u32 d.nx], [.slice x3.ao x3.no x3.co], [.int .i64 d.tn], [.int .u32 d.dl], [.slice x3.ah x3.nh x3.ch]], 26⟩) rfl) NC (nC  _ _ _ _ _) Try.underlying26 rfl (by kernel_rfl)) ?_
      simp only [nrm]
      refine list_call 12 #[.agg (fl [[.int .u32 d.nx], [.slice x3.ao x3.no x3.co], [.int .i64 d.tn], [.int .u32 d.dl], [.slice x3.ah x3.nh x3.ch]])] (by rw [unhide hops]; kernel_rfl) (by kernel_rfl) (((show Calls Try.prog 12 #[.agg (fl [[.int .u32 d.nx], [.slice x3.ao x3.no x3.co], [.int .i64 d.tn], [.int .u32 d.dl], [.slice x3.ah x3.nh x3.ch]])] u14 (Vl (.int .i64 0) u14) from unhide hk ▸ check_ok d x3 u14 (unhide hC3).i)).mono ?_)
      rintro r_ u15 ⟨rfl, hg⟩
      replace hC1 := hide ((unhide hC1).gr hg)
      replace hO := hide ((unhide hO).gr hg)
      replace hC2 := hide ((unhide hC2).gr hg)
      replace hC3 := hide ((unhide hC3).gr hg)
      replace hO3 := hide ((unhide hO3).gr hg)
      replace hB := hB.more hg
      clear hg
      refine ⟨_, rfl, ?_⟩
      simp only [nrm]
      refine list_val (.bool true) (by rw [unhide hops]; kernel_rfl) (eql_e _ (.tmp 70) (.const (.int .i64 0)) 0 0 true rfl (by kernel_rfl) (by kernel_rfl) (by decide)) ?_
      simp only [nrm]
      refine list_val (.bool true) (by rw [unhide hops]; kernel_rfl) (by kernel_rfl) ?_
      simp only [nrm]
      (refine wpList_step fun K hK => ?_; replace hK := hide hK; go_simp; refine unhide hK _ _ ?_; clear hK K)
      refine wpList_nil ?_
      replace hB := hide hB
      go_wp2_with fail
      replace hB := unhide hB
      rw [unhide hT]
      exact (⟨rfl, hB.gr⟩)
    · have hr := gtM_bad (fun h => h2 ((unhide her).trans h))
      rw [← unhide hd] at hr
      replace hr := hide hr; replace h2 := hide h2
      replace hB := hide hB
      go_upto_region 10 with fail
      replace hB := unhide hB
      refine wp_region_lit ?_
      refine lvk (.int .i64 er) ?_
      simp only [nrm]
      refine list_val (.bool true) (by kernel_rfl) (neq_e _ (.tmp 51) (.const (.int .i64 0)) er 0 true rfl (by kernel_rfl) (by kernel_rfl) (decide_eq_true (unhide h2))) ?_
      simp only [nrm]
      refine wpList_nil ?_
      replace hB := hide hB
      go_upto_region 11 with fail
      replace hB := unhide hB
      refine wp_region_lit ?_
      refine list_val (.agg (fl [[.int .u32 d.nx], [.slice x3.ao x3.no x3.co], [.int .i64 d.tn], [.int .u32 d.dl], [.slice x3.ah x3.nh x3.ch]])) (by kernel_rfl) (exec_sw _ 26 (.tmp 9) rfl (g9) (by kernel_rfl) (hB.get 2 (x := ⟨g9, fl [[.int .u32 d.nx], [.slice x3.ao x3.no x3.co], [.int .i64 d.tn], [.int .u32 d.dl], [.slice x3.ah x3.nh x3.ch]], 26⟩) rfl) NC (nC  _ _ _ _ _) Try.underlying26 rfl (by kernel_rfl)) ?_
      simp only [nrm]
      refine list_val (.agg (fl [[.int .u32 0], [.slice none 0 0], [.int .i64 0], [.int .u32 0], [.slice none 0 0]])) (by kernel_rfl) (bC _ rfl) ?_
      simp only [nrm]
      refine list_call 32 #[.agg (fl [[.int .u32 d.nx], [.slice x3.ao x3.no x3.co], [.int .i64 d.tn], [.int .u32 d.dl], [.slice x3.ah x3.nh x3.ch]]), .agg (fl [[.int .u32 0], [.slice none 0 0], [.int .i64 0], [.int .u32 0], [.slice none 0 0]])] (by kernel_rfl) (by kernel_rfl) (((show Calls Try.prog 32 #[.agg (fl [[.int .u32 d.nx], [.slice x3.ao x3.no x3.co], [.int .i64 d.tn], [.int .u32 d.dl], [.slice x3.ah x3.nh x3.ch]]), .agg (fl [[.int .u32 0], [.slice none 0 0], [.int .i64 0], [.int .u32 0], [.slice none 0 0]])] u12 (Vl (.bool true) u12) from by have h := same_ok d cz x3 xz u12 (unhide hC3).i (cin_z _); rw [decide_eq_true (unhide hr)] at h; exact h)).mono ?_)
      rintro r_ u13 ⟨rfl, hg⟩
      replace hC1 := hide ((unhide hC1).gr hg)
      replace hO := hide ((unhide hO).gr hg)
      replace hC2 := hide ((unhide hC2).gr hg)
      replace hC3 := hide ((unhide hC3).gr hg)
      replace hB := hB.more hg
      clear hg
      refine ⟨_, rfl, ?_⟩
      simp only [nrm]
      (refine wpList_step fun K hK => ?_; replace hK := hide hK; go_simp; refine unhide hK _ _ ?_; clear hK K)
      refine wpList_nil ?_
      replace hB := hide hB
      go_wp2_with fail
      replace hB := unhide hB
      rw [unhide hT]
      exact (⟨rfl, hB.gr⟩)
end Go.Proofs.Ytcefkkoombmndaa
