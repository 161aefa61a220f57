/-
  IdentOrder: keys are in one order: the walk.
-/
import Derived.Test.YtpmgmpihmpifgabDoorIH
namespace Go.Proofs.YtpmgmpihmpifgabDoor
open Go.RowKit
set_option maxRecDepth 100000
set_option linter.unusedSimpArgs false
set_option linter.unusedVariables false
set_option maxHeartbeats 4000000 in
theorem order_ok (A B C : List Int) (hA : A.length = 32) (hB0 : B.length = 32) (hC : C.length = 32) (w : World) (hF : Fst w) : Calls Tryd.prog 3 #[.agg (kc A), .agg (kc B), .agg (kc C)] w (Bod true w) := by
  obtain ⟨T, hT⟩ : ∃ T, T = Bod true w := ⟨_, rfl⟩
  rw [← hT]
  replace hT := hide hT
  replace hF := hide hF
  obtain ⟨AA, hAA⟩ : ∃ X, X = kc A := ⟨_, rfl⟩
  obtain ⟨BB, hBB⟩ : ∃ X, X = kc B := ⟨_, rfl⟩
  obtain ⟨CC, hCC⟩ : ∃ X, X = kc C := ⟨_, rfl⟩
  rw [← hAA, ← hBB, ← hCC]
  replace hAA := hide hAA
  replace hBB := hide hBB
  replace hCC := hide hCC
  go_enter Tryd.func3, Tryd.ntmps3
  go_upto_region 1 with fail
  have hB := ((((Bl.nil w).new AA 23).new BB 23).new CC 23)
  simp only [List.nil_append, List.cons_append, size_alloc] at hB
  generalize World.alloc _ _ = u at *
  rw [unhide hAA, unhide hBB, unhide hCC] at hB
  replace hB : Bl w [⟨w.heap.size, kc A, 23⟩, ⟨w.heap.size + 1, kc B, 23⟩, ⟨w.heap.size + 1 + 1, kc C, 23⟩] u := hB
  refine wp_region_lit ?_
  refine list_call 4 #[] (by kernel_rfl) (by kernel_rfl) ((wakes16_ok _ ((unhide hF).gr hB.gr)).mono ?_)
  rintro r_ w_ ⟨rfl, hg⟩
  replace hB := hB.more hg
  clear hg
  refine ⟨_, rfl, ?_⟩
  simp only [Act.put, List.setIfInBounds_toArray, List.set_cons_zero, List.set_cons_succ, List.getElem_toArray, List.getElem_cons_zero, List.getElem_cons_succ]
  refine list_val (.bool false) (by kernel_rfl) (by kernel_rfl) ?_
  simp only [Act.put, List.setIfInBounds_toArray, List.set_cons_zero, List.set_cons_succ, List.getElem_toArray, List.getElem_cons_zero, List.getElem_cons_succ]
  refine wpList_nil ?_
  replace hB := hide hB
  go_upto_region 3 with fail
  replace hB := unhide hB
  by_cases hab : A = B
  · have h1 := hide (show ltL A B = false by rw [hab]; exact ltL_irr B)
    have h2 := hide (show ltL B A = false by rw [hab]; exact ltL_irr B)
    replace hab := hide hab
    refine wp_region_lit ?_
    refine list_val (.agg (kc A)) (by kernel_rfl) (exec_arr _ 23 (.tmp 3) rfl (w.heap.size) (by kernel_rfl) (kc A) 23 _ (hB.get 0 (x := ⟨w.heap.size, kc A, 23⟩) rfl) Tryd.underlying23 rfl (by rw [Tryd.infoKey, kc_size, hA])) ?_
    simp only [Act.put, List.setIfInBounds_toArray, List.set_cons_zero, List.set_cons_succ, List.getElem_toArray, List.getElem_cons_zero, List.getElem_cons_succ]
    refine list_val (.agg (kc B)) (by kernel_rfl) (exec_arr _ 23 (.tmp 4) rfl (w.heap.size + 1) (by kernel_rfl) (kc B) 23 _ (hB.get 1 (x := ⟨w.heap.size + 1, kc B, 23⟩) rfl) Tryd.underlying23 rfl (by rw [Tryd.infoKey, kc_size, hB0])) ?_
    simp only [Act.put, List.setIfInBounds_toArray, List.set_cons_zero, List.set_cons_succ, List.getElem_toArray, List.getElem_cons_zero, List.getElem_cons_succ]
    refine list_val (.bool true) (by kernel_rfl) (exec_eq_k _ (.tmp 9) (.tmp 10) rfl A B hA hB0 (by kernel_rfl) (by kernel_rfl) (by kernel_rfl) true (by simpa using unhide hab)) ?_
    simp only [Act.put, List.setIfInBounds_toArray, List.set_cons_zero, List.set_cons_succ, List.getElem_toArray, List.getElem_cons_zero, List.getElem_cons_succ]
    refine wpList_nil ?_
    replace hB := hide hB
    go_upto_region 4 with fail
    replace hB := unhide hB
    refine wp_region_lit ?_
    refine list_val (.agg (kc A)) (by kernel_rfl) (exec_arr _ 23 (.tmp 3) rfl (w.heap.size) (by kernel_rfl) (kc A) 23 _ (hB.get 0 (x := ⟨w.heap.size, kc A, 23⟩) rfl) Tryd.underlying23 rfl (by rw [Tryd.infoKey, kc_size, hA])) ?_
    simp only [Act.put, List.setIfInBounds_toArray, List.set_cons_zero, List.set_cons_succ, List.getElem_toArray, List.getElem_cons_zero, List.getElem_cons_succ]
    refine list_val (.agg (kc B)) (by kernel_rfl) (exec_arr _ 23 (.tmp 4) rfl (w.heap.size + 1) (by kernel_rfl) (kc B) 23 _ (hB.get 1 (x := ⟨w.heap.size + 1, kc B, 23⟩) rfl) Tryd.underlying23 rfl (by rw [Tryd.infoKey, kc_size, hB0])) ?_
    simp only [Act.put, List.setIfInBounds_toArray, List.set_cons_zero, List.set_cons_succ, List.getElem_toArray, List.getElem_cons_zero, List.getElem_cons_succ]
    refine list_call 5 #[.agg (kc A), .agg (kc B)] (by kernel_rfl) (by kernel_rfl) ((less_ok A B hA hB0 _).mono ?_)
    rintro r_ y1 ⟨hr, hg⟩
    rw [unhide h1] at hr
    subst hr
    replace hB := hB.more hg
    clear hg
    refine ⟨_, rfl, ?_⟩
    simp only [Act.put, List.setIfInBounds_toArray, List.set_cons_zero, List.set_cons_succ, List.getElem_toArray, List.getElem_cons_zero, List.getElem_cons_succ]
    refine list_val (.bool true) (by kernel_rfl) (by kernel_rfl) ?_
    simp only [Act.put, List.setIfInBounds_toArray, List.set_cons_zero, List.set_cons_succ, List.getElem_toArray, List.getElem_cons_zero, List.getElem_cons_succ]
    refine list_val (.bool true) (by kernel_rfl) (by kernel_rfl) ?_
    simp only [Act.put, List.setIfInBounds_toArray, List.set_cons_zero, List.set_cons_succ, List.getElem_toArray, List.getElem_cons_zero, List.getElem_cons_succ]
    refine list_val (.agg (kc B)) (by kernel_rfl) (exec_arr _ 23 (.tmp 4) rfl (w.heap.size + 1) (by kernel_rfl) (kc B) 23 _ (hB.get 1 (x := ⟨w.heap.size + 1, kc B, 23⟩) rfl) Tryd.underlying23 rfl (by rw [Tryd.infoKey, kc_size, hB0])) ?_
    simp only [Act.put, List.setIfInBounds_toArray, List.set_cons_zero, List.set_cons_succ, List.getElem_toArray, List.getElem_cons_zero, List.getElem_cons_succ]
    refine list_val (.agg (kc A)) (by kernel_rfl) (exec_arr _ 23 (.tmp 3) rfl (w.heap.size) (by kernel_rfl) (kc A) 23 _ (hB.get 0 (x := ⟨w.heap.size, kc A, 23⟩) rfl) Tryd.underlying23 rfl (by rw [Tryd.infoKey, kc_size, hA])) ?_
    simp only [Act.put, List.setIfInBounds_toArray, List.set_cons_zero, List.set_cons_succ, List.getElem_toArray, List.getElem_cons_zero, List.getElem_cons_succ]
    refine list_call 5 #[.agg (kc B), .agg (kc A)] (by kernel_rfl) (by kernel_rfl) ((less_ok B A hB0 hA _).mono ?_)
    rintro r_ y2 ⟨hr, hg⟩
    rw [unhide h2] at hr
    subst hr
    replace hB := hB.more hg
    clear hg
    refine ⟨_, rfl, ?_⟩
    simp only [Act.put, List.setIfInBounds_toArray, List.set_cons_zero, List.set_cons_succ, List.getElem_toArray, List.getElem_cons_zero, List.getElem_cons_succ]
    refine list_val (.bool true) (by kernel_rfl) (by kernel_rfl) ?_
    simp only [Act.put, List.setIfInBounds_toArray, List.set_cons_zero, List.set_cons_succ, List.getElem_toArray, List.getElem_cons_zero, List.getElem_cons_succ]
    refine list_val (.bool true) (by kernel_rfl) (by kernel_rfl) ?_
    simp only [Act.put, List.setIfInBounds_toArray, List.set_cons_zero, List.set_cons_succ, List.getElem_toArray, List.getElem_cons_zero, List.getElem_cons_succ]
    (refine wpList_step fun K hK => ?_; replace hK := hide hK; go_simp; refine unhide hK _ _ ?_; clear hK K)
    refine wpList_nil ?_
    have hZ : Hid (T (.returned (.bool true)) y2) := by
      rw [unhide hT]
      exact ⟨rfl, hB.gr⟩
    clear hB
    go_wp2_with fail
    exact unhide hZ
  · have hba := ltL_asym A B (by omega) hab
    have hcc := hide (ltL_irr C)
    have htr := ltL_trans A B C
    replace hab := hide hab
    refine wp_region_lit ?_
    refine list_val (.agg (kc A)) (by kernel_rfl) (exec_arr _ 23 (.tmp 3) rfl (w.heap.size) (by kernel_rfl) (kc A) 23 _ (hB.get 0 (x := ⟨w.heap.size, kc A, 23⟩) rfl) Tryd.underlying23 rfl (by rw [Tryd.infoKey, kc_size, hA])) ?_
    simp only [Act.put, List.setIfInBounds_toArray, List.set_cons_zero, List.set_cons_succ, List.getElem_toArray, List.getElem_cons_zero, List.getElem_cons_succ]
    refine list_val (.agg (kc B)) (by kernel_rfl) (exec_arr _ 23 (.tmp 4) rfl (w.heap.size + 1) (by kernel_rfl) (kc B) 23 _ (hB.get 1 (x := ⟨w.heap.size + 1, kc B, 23⟩) rfl) Tryd.underlying23 rfl (by rw [Tryd.infoKey, kc_size, hB0])) ?_
    simp only [Act.put, List.setIfInBounds_toArray, List.set_cons_zero, List.set_cons_succ, List.getElem_toArray, List.getElem_cons_zero, List.getElem_cons_succ]
    refine list_val (.bool false) (by kernel_rfl) (exec_eq_k _ (.tmp 9) (.tmp 10) rfl A B hA hB0 (by kernel_rfl) (by kernel_rfl) (by kernel_rfl) false (by simpa using unhide hab)) ?_
    simp only [Act.put, List.setIfInBounds_toArray, List.set_cons_zero, List.set_cons_succ, List.getElem_toArray, List.getElem_cons_zero, List.getElem_cons_succ]
    refine wpList_nil ?_
    cases hlab : ltL A B with
    | false =>
      have hba1 := hide (show ltL B A = true by rw [hlab] at hba; simpa using hba)
      have hab1 := hide hlab
      clear hba htr hlab
      replace hB := hide hB
      go_upto_region 5 with fail
      replace hB := unhide hB
      refine any_start (S := fun (v : World) => Gr w_ v) (by kernel_rfl) ?_
      have hG : Gr w_ (World.drew w_) := (Gr.refl _).drew
      generalize World.drew _ = x0 at *
      have hqA := hide (hB.get 0 (x := ⟨w.heap.size, kc A, 23⟩) rfl)
      have hqB := hide (hB.get 1 (x := ⟨w.heap.size + 1, kc B, 23⟩) rfl)
      have hqC := hide (hB.get 2 (x := ⟨w.heap.size + 1 + 1, kc C, 23⟩) rfl)
      dsimp only at hqA hqB hqC
      replace hB := hide hB.gr
      simp only [List.size_toArray, List.length_cons, List.length_nil, Array.replicate, List.replicate]
      refine any_take (i := 0) (v := (.agg (kc A))) #[false, false, false, false, false, false, false, false, false, false, false, false, false, false, false, false, false, false, false, false, false, false, false, false, false, false, false, false, false, false, false] rfl (by kernel_rfl) (by kernel_rfl) (by kernel_rfl) (by kernel_rfl) (fun _ _ _ h => h) (.inl ⟨by kernel_rfl, fun x_ hu => exec_arr _ 23 (.tmp 3) rfl (w.heap.size) (by kernel_rfl) (kc A) 23 _ (hu.blk (unhide hqA)) Tryd.underlying23 rfl (by rw [Tryd.infoKey, kc_size, hA])⟩) hG ?_
      simp only [Act.put, List.setIfInBounds_toArray, List.set_cons_zero, List.set_cons_succ, List.getElem_toArray, List.getElem_cons_zero, List.getElem_cons_succ]
      refine any_take (i := 1) (v := (.agg (kc B))) #[true, false, false, false, false, false, false, false, false, false, false, false, false, false, false, false, false, false, false, false, false, false, false, false, false, false, false, false, false, false, false] rfl (by kernel_rfl) (by kernel_rfl) (by kernel_rfl) (by kernel_rfl) (fun _ _ _ h => h) (.inl ⟨by kernel_rfl, fun x_ hu => exec_arr _ 23 (.tmp 4) rfl (w.heap.size + 1) (by kernel_rfl) (kc B) 23 _ (hu.blk (unhide hqB)) Tryd.underlying23 rfl (by rw [Tryd.infoKey, kc_size, hB0])⟩) hG ?_
      simp only [Act.put, List.setIfInBounds_toArray, List.set_cons_zero, List.set_cons_succ, List.getElem_toArray, List.getElem_cons_zero, List.getElem_cons_succ]
      refine any_take (i := 3) (v := (.agg (kc B))) #[true, true, false, false, false, false, false, false, false, false, false, false, false, false, false, false, false, false, false, false, false, false, false, false, false, false, false, false, false, false, false] rfl (by kernel_rfl) (by kernel_rfl) (by kernel_rfl) (by kernel_rfl) (fun _ _ _ h => h) (.inl ⟨by kernel_rfl, fun x_ hu => exec_arr _ 23 (.tmp 4) rfl (w.heap.size + 1) (by kernel_rfl) (kc B) 23 _ (hu.blk (unhide hqB)) Tryd.underlying23 rfl (by rw [Tryd.infoKey, kc_size, hB0])⟩) hG ?_
      simp only [Act.put, List.setIfInBounds_toArray, List.set_cons_zero, List.set_cons_succ, List.getElem_toArray, List.getElem_cons_zero, List.getElem_cons_succ]
      refine any_take (i := 4) (v := (.agg (kc A))) #[true, true, false, true, false, false, false, false, false, false, false, false, false, false, false, false, false, false, false, false, false, false, false, false, false, false, false, false, false, false, false] rfl (by kernel_rfl) (by kernel_rfl) (by kernel_rfl) (by kernel_rfl) (fun _ _ _ h => h) (.inl ⟨by kernel_rfl, fun x_ hu => exec_arr _ 23 (.tmp 3) rfl (w.heap.size) (by kernel_rfl) (kc A) 23 _ (hu.blk (unhide hqA)) Tryd.underlying23 rfl (by rw [Tryd.infoKey, kc_size, hA])⟩) hG ?_
      simp only [Act.put, List.setIfInBounds_toArray, List.set_cons_zero, List.set_cons_succ, List.getElem_toArray, List.getElem_cons_zero, List.getElem_cons_succ]
      refine any_one (i := 2) (by kernel_rfl) rfl (fun K_ hQ => ?_)
      refine step_callw (by kernel_rfl) 5 #[.agg (kc A), .agg (kc B)] (by kernel_rfl) ((less_ok A B hA hB0 _).mono ?_)
      rintro r z1 ⟨hr, hg⟩
      rw [unhide hab1] at hr
      subst hr
      refine ⟨_, rfl, ?_⟩
      replace hG := hG.trans hg
      clear hg
      refine hQ.out _ _ hG (fun _ => ?_)
      clear hQ K_
      simp only [Act.put, List.setIfInBounds_toArray, List.set_cons_zero, List.set_cons_succ, List.getElem_toArray, List.getElem_cons_zero, List.getElem_cons_succ]
      refine any_one (i := 5) (by kernel_rfl) rfl (fun K_ hQ => ?_)
      refine step_callw (by kernel_rfl) 5 #[.agg (kc B), .agg (kc A)] (by kernel_rfl) ((less_ok B A hB0 hA _).mono ?_)
      rintro r z2 ⟨hr, hg⟩
      rw [unhide hba1] at hr
      subst hr
      refine ⟨_, rfl, ?_⟩
      replace hG := hG.trans hg
      clear hg
      refine hQ.out _ _ hG (fun _ => ?_)
      clear hQ K_
      simp only [Act.put, List.setIfInBounds_toArray, List.set_cons_zero, List.set_cons_succ, List.getElem_toArray, List.getElem_cons_zero, List.getElem_cons_succ]
      refine any_take (i := 6) (v := (.bool true)) #[true, true, true, true, true, true, false, false, false, false, false, false, false, false, false, false, false, false, false, false, false, false, false, false, false, false, false, false, false, false, false] rfl (by kernel_rfl) (by kernel_rfl) (by kernel_rfl) (by kernel_rfl) (fun _ _ _ h => h) (.inl ⟨by kernel_rfl, fun x_ hu => by kernel_rfl⟩) hG ?_
      simp only [Act.put, List.setIfInBounds_toArray, List.set_cons_zero, List.set_cons_succ, List.getElem_toArray, List.getElem_cons_zero, List.getElem_cons_succ]
      refine any_take (i := 7) (v := (.bool true)) #[true, true, true, true, true, true, true, false, false, false, false, false, false, false, false, false, false, false, false, false, false, false, false, false, false, false, false, false, false, false, false] rfl (by kernel_rfl) (by kernel_rfl) (by kernel_rfl) (by kernel_rfl) (fun _ _ _ h => h) (.inl ⟨by kernel_rfl, fun x_ hu => by kernel_rfl⟩) hG ?_
      simp only [Act.put, List.setIfInBounds_toArray, List.set_cons_zero, List.set_cons_succ, List.getElem_toArray, List.getElem_cons_zero, List.getElem_cons_succ]
      refine any_take (i := 8) (v := (.agg (kc A))) #[true, true, true, true, true, true, true, true, false, false, false, false, false, false, false, false, false, false, false, false, false, false, false, false, false, false, false, false, false, false, false] rfl (by kernel_rfl) (by kernel_rfl) (by kernel_rfl) (by kernel_rfl) (fun _ _ _ h => h) (.inl ⟨by kernel_rfl, fun x_ hu => exec_arr _ 23 (.tmp 3) rfl (w.heap.size) (by kernel_rfl) (kc A) 23 _ (hu.blk (unhide hqA)) Tryd.underlying23 rfl (by rw [Tryd.infoKey, kc_size, hA])⟩) hG ?_
      simp only [Act.put, List.setIfInBounds_toArray, List.set_cons_zero, List.set_cons_succ, List.getElem_toArray, List.getElem_cons_zero, List.getElem_cons_succ]
      refine any_take (i := 9) (v := (.agg (kc B))) #[true, true, true, true, true, true, true, true, true, false, false, false, false, false, false, false, false, false, false, false, false, false, false, false, false, false, false, false, false, false, false] rfl (by kernel_rfl) (by kernel_rfl) (by kernel_rfl) (by kernel_rfl) (fun _ _ _ h => h) (.inl ⟨by kernel_rfl, fun x_ hu => exec_arr _ 23 (.tmp 4) rfl (w.heap.size + 1) (by kernel_rfl) (kc B) 23 _ (hu.blk (unhide hqB)) Tryd.underlying23 rfl (by rw [Tryd.infoKey, kc_size, hB0])⟩) hG ?_
      simp only [Act.put, List.setIfInBounds_toArray, List.set_cons_zero, List.set_cons_succ, List.getElem_toArray, List.getElem_cons_zero, List.getElem_cons_succ]
      refine any_one (i := 10) (by kernel_rfl) rfl (fun K_ hQ => ?_)
      refine step_callw (by kernel_rfl) 5 #[.agg (kc A), .agg (kc B)] (by kernel_rfl) ((less_ok A B hA hB0 _).mono ?_)
      rintro r z3 ⟨hr, hg⟩
      rw [unhide hab1] at hr
      subst hr
      refine ⟨_, rfl, ?_⟩
      replace hG := hG.trans hg
      clear hg
      refine hQ.out _ _ hG (fun _ => ?_)
      clear hQ K_
      simp only [Act.put, List.setIfInBounds_toArray, List.set_cons_zero, List.set_cons_succ, List.getElem_toArray, List.getElem_cons_zero, List.getElem_cons_succ]
      refine any_take (i := 11) (v := (.bool false)) #[true, true, true, true, true, true, true, true, true, true, true, false, false, false, false, false, false, false, false, false, false, false, false, false, false, false, false, false, false, false, false] rfl (by kernel_rfl) (by kernel_rfl) (by kernel_rfl) (by kernel_rfl) (fun _ _ _ h => h) (.inl ⟨by kernel_rfl, fun x_ hu => by kernel_rfl⟩) hG ?_
      simp only [Act.put, List.setIfInBounds_toArray, List.set_cons_zero, List.set_cons_succ, List.getElem_toArray, List.getElem_cons_zero, List.getElem_cons_succ]
      refine any_take (i := 12) (v := undef) #[true, true, true, true, true, true, true, true, true, true, true, true, false, false, false, false, false, false, false, false, false, false, false, false, false, false, false, false, false, false, false] rfl (by kernel_rfl) (by kernel_rfl) (by kernel_rfl) (by kernel_rfl) (fun _ _ _ h => h) (.inr ⟨by kernel_rfl, rfl⟩) hG ?_
      simp only [Act.put, List.setIfInBounds_toArray, List.set_cons_zero, List.set_cons_succ, List.getElem_toArray, List.getElem_cons_zero, List.getElem_cons_succ]
      refine any_take (i := 13) (v := undef) #[true, true, true, true, true, true, true, true, true, true, true, true, true, false, false, false, false, false, false, false, false, false, false, false, false, false, false, false, false, false, false] rfl (by kernel_rfl) (by kernel_rfl) (by kernel_rfl) (by kernel_rfl) (fun _ _ _ h => h) (.inr ⟨by kernel_rfl, rfl⟩) hG ?_
      simp only [Act.put, List.setIfInBounds_toArray, List.set_cons_zero, List.set_cons_succ, List.getElem_toArray, List.getElem_cons_zero, List.getElem_cons_succ]
      refine any_take (i := 14) (v := undef) #[true, true, true, true, true, true, true, true, true, true, true, true, true, true, false, false, false, false, false, false, false, false, false, false, false, false, false, false, false, false, false] rfl (by kernel_rfl) (by kernel_rfl) (by kernel_rfl) (by kernel_rfl) (fun _ _ _ h => h) (.inr ⟨by kernel_rfl, rfl⟩) hG ?_
      simp only [Act.put, List.setIfInBounds_toArray, List.set_cons_zero, List.set_cons_succ, List.getElem_toArray, List.getElem_cons_zero, List.getElem_cons_succ]
      refine any_take (i := 15) (v := (.bool false)) #[true, true, true, true, true, true, true, true, true, true, true, true, true, true, true, false, false, false, false, false, false, false, false, false, false, false, false, false, false, false, false] rfl (by kernel_rfl) (by kernel_rfl) (by kernel_rfl) (by kernel_rfl) (fun _ _ _ h => h) (.inl ⟨by kernel_rfl, fun x_ hu => by kernel_rfl⟩) hG ?_
      simp only [Act.put, List.setIfInBounds_toArray, List.set_cons_zero, List.set_cons_succ, List.getElem_toArray, List.getElem_cons_zero, List.getElem_cons_succ]
      refine any_take (i := 16) (v := (.bool false)) #[true, true, true, true, true, true, true, true, true, true, true, true, true, true, true, true, false, false, false, false, false, false, false, false, false, false, false, false, false, false, false] rfl (by kernel_rfl) (by kernel_rfl) (by kernel_rfl) (by kernel_rfl) (fun _ _ _ h => h) (.inl ⟨by kernel_rfl, fun x_ hu => by kernel_rfl⟩) hG ?_
      simp only [Act.put, List.setIfInBounds_toArray, List.set_cons_zero, List.set_cons_succ, List.getElem_toArray, List.getElem_cons_zero, List.getElem_cons_succ]
      refine any_take (i := 17) (v := undef) #[true, true, true, true, true, true, true, true, true, true, true, true, true, true, true, true, true, false, false, false, false, false, false, false, false, false, false, false, false, false, false] rfl (by kernel_rfl) (by kernel_rfl) (by kernel_rfl) (by kernel_rfl) (fun _ _ _ h => h) (.inr ⟨by kernel_rfl, rfl⟩) hG ?_
      simp only [Act.put, List.setIfInBounds_toArray, List.set_cons_zero, List.set_cons_succ, List.getElem_toArray, List.getElem_cons_zero, List.getElem_cons_succ]
      refine any_take (i := 18) (v := undef) #[true, true, true, true, true, true, true, true, true, true, true, true, true, true, true, true, true, true, false, false, false, false, false, false, false, false, false, false, false, false, false] rfl (by kernel_rfl) (by kernel_rfl) (by kernel_rfl) (by kernel_rfl) (fun _ _ _ h => h) (.inr ⟨by kernel_rfl, rfl⟩) hG ?_
      simp only [Act.put, List.setIfInBounds_toArray, List.set_cons_zero, List.set_cons_succ, List.getElem_toArray, List.getElem_cons_zero, List.getElem_cons_succ]
      refine any_take (i := 19) (v := undef) #[true, true, true, true, true, true, true, true, true, true, true, true, true, true, true, true, true, true, true, false, false, false, false, false, false, false, false, false, false, false, false] rfl (by kernel_rfl) (by kernel_rfl) (by kernel_rfl) (by kernel_rfl) (fun _ _ _ h => h) (.inr ⟨by kernel_rfl, rfl⟩) hG ?_
      simp only [Act.put, List.setIfInBounds_toArray, List.set_cons_zero, List.set_cons_succ, List.getElem_toArray, List.getElem_cons_zero, List.getElem_cons_succ]
      refine any_take (i := 20) (v := undef) #[true, true, true, true, true, true, true, true, true, true, true, true, true, true, true, true, true, true, true, true, false, false, false, false, false, false, false, false, false, false, false] rfl (by kernel_rfl) (by kernel_rfl) (by kernel_rfl) (by kernel_rfl) (fun _ _ _ h => h) (.inr ⟨by kernel_rfl, rfl⟩) hG ?_
      simp only [Act.put, List.setIfInBounds_toArray, List.set_cons_zero, List.set_cons_succ, List.getElem_toArray, List.getElem_cons_zero, List.getElem_cons_succ]
      refine any_take (i := 21) (v := (.bool false)) #[true, true, true, true, true, true, true, true, true, true, true, true, true, true, true, true, true, true, true, true, true, false, false, false, false, false, false, false, false, false, false] rfl (by kernel_rfl) (by kernel_rfl) (by kernel_rfl) (by kernel_rfl) (fun _ _ _ h => h) (.inl ⟨by kernel_rfl, fun x_ hu => by kernel_rfl⟩) hG ?_
      simp only [Act.put, List.setIfInBounds_toArray, List.set_cons_zero, List.set_cons_succ, List.getElem_toArray, List.getElem_cons_zero, List.getElem_cons_succ]
      refine any_take (i := 22) (v := (.bool true)) #[true, true, true, true, true, true, true, true, true, true, true, true, true, true, true, true, true, true, true, true, true, true, false, false, false, false, false, false, false, false, false] rfl (by kernel_rfl) (by kernel_rfl) (by kernel_rfl) (by kernel_rfl) (fun _ _ _ h => h) (.inl ⟨by kernel_rfl, fun x_ hu => by kernel_rfl⟩) hG ?_
      simp only [Act.put, List.setIfInBounds_toArray, List.set_cons_zero, List.set_cons_succ, List.getElem_toArray, List.getElem_cons_zero, List.getElem_cons_succ]
      refine any_take (i := 23) (v := (.bool true)) #[true, true, true, true, true, true, true, true, true, true, true, true, true, true, true, true, true, true, true, true, true, true, true, false, false, false, false, false, false, false, false] rfl (by kernel_rfl) (by kernel_rfl) (by kernel_rfl) (by kernel_rfl) (fun _ _ _ h => h) (.inl ⟨by kernel_rfl, fun x_ hu => by kernel_rfl⟩) hG ?_
      simp only [Act.put, List.setIfInBounds_toArray, List.set_cons_zero, List.set_cons_succ, List.getElem_toArray, List.getElem_cons_zero, List.getElem_cons_succ]
      refine any_take (i := 24) (v := (.bool true)) #[true, true, true, true, true, true, true, true, true, true, true, true, true, true, true, true, true, true, true, true, true, true, true, true, false, false, false, false, false, false, false] rfl (by kernel_rfl) (by kernel_rfl) (by kernel_rfl) (by kernel_rfl) (fun _ _ _ h => h) (.inl ⟨by kernel_rfl, fun x_ hu => by kernel_rfl⟩) hG ?_
      simp only [Act.put, List.setIfInBounds_toArray, List.set_cons_zero, List.set_cons_succ, List.getElem_toArray, List.getElem_cons_zero, List.getElem_cons_succ]
      refine any_take (i := 25) (v := (.agg (kc C))) #[true, true, true, true, true, true, true, true, true, true, true, true, true, true, true, true, true, true, true, true, true, true, true, true, true, false, false, false, false, false, false] rfl (by kernel_rfl) (by kernel_rfl) (by kernel_rfl) (by kernel_rfl) (fun _ _ _ h => h) (.inl ⟨by kernel_rfl, fun x_ hu => exec_arr _ 23 (.tmp 5) rfl (w.heap.size + 1 + 1) (by kernel_rfl) (kc C) 23 _ (hu.blk (unhide hqC)) Tryd.underlying23 rfl (by rw [Tryd.infoKey, kc_size, hC])⟩) hG ?_
      simp only [Act.put, List.setIfInBounds_toArray, List.set_cons_zero, List.set_cons_succ, List.getElem_toArray, List.getElem_cons_zero, List.getElem_cons_succ]
      refine any_take (i := 26) (v := (.agg (kc C))) #[true, true, true, true, true, true, true, true, true, true, true, true, true, true, true, true, true, true, true, true, true, true, true, true, true, true, false, false, false, false, false] rfl (by kernel_rfl) (by kernel_rfl) (by kernel_rfl) (by kernel_rfl) (fun _ _ _ h => h) (.inl ⟨by kernel_rfl, fun x_ hu => exec_arr _ 23 (.tmp 5) rfl (w.heap.size + 1 + 1) (by kernel_rfl) (kc C) 23 _ (hu.blk (unhide hqC)) Tryd.underlying23 rfl (by rw [Tryd.infoKey, kc_size, hC])⟩) hG ?_
      simp only [Act.put, List.setIfInBounds_toArray, List.set_cons_zero, List.set_cons_succ, List.getElem_toArray, List.getElem_cons_zero, List.getElem_cons_succ]
      refine any_one (i := 27) (by kernel_rfl) rfl (fun K_ hQ => ?_)
      refine step_callw (by kernel_rfl) 5 #[.agg (kc C), .agg (kc C)] (by kernel_rfl) ((less_ok C C hC hC _).mono ?_)
      rintro r z4 ⟨hr, hg⟩
      rw [unhide hcc] at hr
      subst hr
      refine ⟨_, rfl, ?_⟩
      replace hG := hG.trans hg
      clear hg
      refine hQ.out _ _ hG (fun _ => ?_)
      clear hQ K_
      simp only [Act.put, List.setIfInBounds_toArray, List.set_cons_zero, List.set_cons_succ, List.getElem_toArray, List.getElem_cons_zero, List.getElem_cons_succ]
      refine any_take (i := 28) (v := (.bool true)) #[true, true, true, true, true, true, true, true, true, true, true, true, true, true, true, true, true, true, true, true, true, true, true, true, true, true, true, true, false, false, false] rfl (by kernel_rfl) (by kernel_rfl) (by kernel_rfl) (by kernel_rfl) (fun _ _ _ h => h) (.inl ⟨by kernel_rfl, fun x_ hu => by kernel_rfl⟩) hG ?_
      simp only [Act.put, List.setIfInBounds_toArray, List.set_cons_zero, List.set_cons_succ, List.getElem_toArray, List.getElem_cons_zero, List.getElem_cons_succ]
      refine any_take (i := 29) (v := (.bool true)) #[true, true, true, true, true, true, true, true, true, true, true, true, true, true, true, true, true, true, true, true, true, true, true, true, true, true, true, true, true, false, false] rfl (by kernel_rfl) (by kernel_rfl) (by kernel_rfl) (by kernel_rfl) (fun _ _ _ h => h) (.inl ⟨by kernel_rfl, fun x_ hu => by kernel_rfl⟩) hG ?_
      simp only [Act.put, List.setIfInBounds_toArray, List.set_cons_zero, List.set_cons_succ, List.getElem_toArray, List.getElem_cons_zero, List.getElem_cons_succ]
      refine any_one (i := 30) (by kernel_rfl) rfl (fun K_ hQ => ?_)
      replace hQ := hide hQ
      go_simp
      refine (unhide hQ).out _ _ hG (fun _ => ?_)
      clear hQ K_
      refine any_done (by kernel_rfl) ?_
      have hZ : Hid (T (.returned (.bool true)) z4) := by
        rw [unhide hT]
        exact ⟨rfl, (unhide hB).trans hG⟩
      go_wp2_with fail
      exact unhide hZ
    | true =>
      have hba1 := hide (show ltL B A = false by rw [hlab] at hba; simpa using hba)
      have hab1 := hide hlab
      cases hlbc : ltL B C with
      | false =>
        have hbc1 := hide hlbc
        clear hba htr hlab hlbc
        replace hB := hide hB
        go_upto_region 5 with fail
        replace hB := unhide hB
        refine any_start (S := fun (v : World) => Gr w_ v) (by kernel_rfl) ?_
        have hG : Gr w_ (World.drew w_) := (Gr.refl _).drew
        generalize World.drew _ = x0 at *
        have hqA := hide (hB.get 0 (x := ⟨w.heap.size, kc A, 23⟩) rfl)
        have hqB := hide (hB.get 1 (x := ⟨w.heap.size + 1, kc B, 23⟩) rfl)
        have hqC := hide (hB.get 2 (x := ⟨w.heap.size + 1 + 1, kc C, 23⟩) rfl)
        dsimp only at hqA hqB hqC
        replace hB := hide hB.gr
        simp only [List.size_toArray, List.length_cons, List.length_nil, Array.replicate, List.replicate]
        refine any_take (i := 0) (v := (.agg (kc A))) #[false, false, false, false, false, false, false, false, false, false, false, false, false, false, false, false, false, false, false, false, false, false, false, false, false, false, false, false, false, false, false] rfl (by kernel_rfl) (by kernel_rfl) (by kernel_rfl) (by kernel_rfl) (fun _ _ _ h => h) (.inl ⟨by kernel_rfl, fun x_ hu => exec_arr _ 23 (.tmp 3) rfl (w.heap.size) (by kernel_rfl) (kc A) 23 _ (hu.blk (unhide hqA)) Tryd.underlying23 rfl (by rw [Tryd.infoKey, kc_size, hA])⟩) hG ?_
        simp only [Act.put, List.setIfInBounds_toArray, List.set_cons_zero, List.set_cons_succ, List.getElem_toArray, List.getElem_cons_zero, List.getElem_cons_succ]
        refine any_take (i := 1) (v := (.agg (kc B))) #[true, false, false, false, false, false, false, false, false, false, false, false, false, false, false, false, false, false, false, false, false, false, false, false, false, false, false, false, false, false, false] rfl (by kernel_rfl) (by kernel_rfl) (by kernel_rfl) (by kernel_rfl) (fun _ _ _ h => h) (.inl ⟨by kernel_rfl, fun x_ hu => exec_arr _ 23 (.tmp 4) rfl (w.heap.size + 1) (by kernel_rfl) (kc B) 23 _ (hu.blk (unhide hqB)) Tryd.underlying23 rfl (by rw [Tryd.infoKey, kc_size, hB0])⟩) hG ?_
        simp only [Act.put, List.setIfInBounds_toArray, List.set_cons_zero, List.set_cons_succ, List.getElem_toArray, List.getElem_cons_zero, List.getElem_cons_succ]
        refine any_take (i := 3) (v := (.agg (kc B))) #[true, true, false, false, false, false, false, false, false, false, false, false, false, false, false, false, false, false, false, false, false, false, false, false, false, false, false, false, false, false, false] rfl (by kernel_rfl) (by kernel_rfl) (by kernel_rfl) (by kernel_rfl) (fun _ _ _ h => h) (.inl ⟨by kernel_rfl, fun x_ hu => exec_arr _ 23 (.tmp 4) rfl (w.heap.size + 1) (by kernel_rfl) (kc B) 23 _ (hu.blk (unhide hqB)) Tryd.underlying23 rfl (by rw [Tryd.infoKey, kc_size, hB0])⟩) hG ?_
        simp only [Act.put, List.setIfInBounds_toArray, List.set_cons_zero, List.set_cons_succ, List.getElem_toArray, List.getElem_cons_zero, List.getElem_cons_succ]
        refine any_take (i := 4) (v := (.agg (kc A))) #[true, true, false, true, false, false, false, false, false, false, false, false, false, false, false, false, false, false, false, false, false, false, false, false, false, false, false, false, false, false, false] rfl (by kernel_rfl) (by kernel_rfl) (by kernel_rfl) (by kernel_rfl) (fun _ _ _ h => h) (.inl ⟨by kernel_rfl, fun x_ hu => exec_arr _ 23 (.tmp 3) rfl (w.heap.size) (by kernel_rfl) (kc A) 23 _ (hu.blk (unhide hqA)) Tryd.underlying23 rfl (by rw [Tryd.infoKey, kc_size, hA])⟩) hG ?_
        simp only [Act.put, List.setIfInBounds_toArray, List.set_cons_zero, List.set_cons_succ, List.getElem_toArray, List.getElem_cons_zero, List.getElem_cons_succ]
        refine any_one (i := 2) (by kernel_rfl) rfl (fun K_ hQ => ?_)
        refine step_callw (by kernel_rfl) 5 #[.agg (kc A), .agg (kc B)] (by kernel_rfl) ((less_ok A B hA hB0 _).mono ?_)
        rintro r z1 ⟨hr, hg⟩
        rw [unhide hab1] at hr
        subst hr
        refine ⟨_, rfl, ?_⟩
        replace hG := hG.trans hg
        clear hg
        refine hQ.out _ _ hG (fun _ => ?_)
        clear hQ K_
        simp only [Act.put, List.setIfInBounds_toArray, List.set_cons_zero, List.set_cons_succ, List.getElem_toArray, List.getElem_cons_zero, List.getElem_cons_succ]
        refine any_one (i := 5) (by kernel_rfl) rfl (fun K_ hQ => ?_)
        refine step_callw (by kernel_rfl) 5 #[.agg (kc B), .agg (kc A)] (by kernel_rfl) ((less_ok B A hB0 hA _).mono ?_)
        rintro r z2 ⟨hr, hg⟩
        rw [unhide hba1] at hr
        subst hr
        refine ⟨_, rfl, ?_⟩
        replace hG := hG.trans hg
        clear hg
        refine hQ.out _ _ hG (fun _ => ?_)
        clear hQ K_
        simp only [Act.put, List.setIfInBounds_toArray, List.set_cons_zero, List.set_cons_succ, List.getElem_toArray, List.getElem_cons_zero, List.getElem_cons_succ]
        refine any_take (i := 6) (v := (.bool true)) #[true, true, true, true, true, true, false, false, false, false, false, false, false, false, false, false, false, false, false, false, false, false, false, false, false, false, false, false, false, false, false] rfl (by kernel_rfl) (by kernel_rfl) (by kernel_rfl) (by kernel_rfl) (fun _ _ _ h => h) (.inl ⟨by kernel_rfl, fun x_ hu => by kernel_rfl⟩) hG ?_
        simp only [Act.put, List.setIfInBounds_toArray, List.set_cons_zero, List.set_cons_succ, List.getElem_toArray, List.getElem_cons_zero, List.getElem_cons_succ]
        refine any_take (i := 7) (v := (.bool true)) #[true, true, true, true, true, true, true, false, false, false, false, false, false, false, false, false, false, false, false, false, false, false, false, false, false, false, false, false, false, false, false] rfl (by kernel_rfl) (by kernel_rfl) (by kernel_rfl) (by kernel_rfl) (fun _ _ _ h => h) (.inl ⟨by kernel_rfl, fun x_ hu => by kernel_rfl⟩) hG ?_
        simp only [Act.put, List.setIfInBounds_toArray, List.set_cons_zero, List.set_cons_succ, List.getElem_toArray, List.getElem_cons_zero, List.getElem_cons_succ]
        refine any_take (i := 8) (v := (.agg (kc A))) #[true, true, true, true, true, true, true, true, false, false, false, false, false, false, false, false, false, false, false, false, false, false, false, false, false, false, false, false, false, false, false] rfl (by kernel_rfl) (by kernel_rfl) (by kernel_rfl) (by kernel_rfl) (fun _ _ _ h => h) (.inl ⟨by kernel_rfl, fun x_ hu => exec_arr _ 23 (.tmp 3) rfl (w.heap.size) (by kernel_rfl) (kc A) 23 _ (hu.blk (unhide hqA)) Tryd.underlying23 rfl (by rw [Tryd.infoKey, kc_size, hA])⟩) hG ?_
        simp only [Act.put, List.setIfInBounds_toArray, List.set_cons_zero, List.set_cons_succ, List.getElem_toArray, List.getElem_cons_zero, List.getElem_cons_succ]
        refine any_take (i := 9) (v := (.agg (kc B))) #[true, true, true, true, true, true, true, true, true, false, false, false, false, false, false, false, false, false, false, false, false, false, false, false, false, false, false, false, false, false, false] rfl (by kernel_rfl) (by kernel_rfl) (by kernel_rfl) (by kernel_rfl) (fun _ _ _ h => h) (.inl ⟨by kernel_rfl, fun x_ hu => exec_arr _ 23 (.tmp 4) rfl (w.heap.size + 1) (by kernel_rfl) (kc B) 23 _ (hu.blk (unhide hqB)) Tryd.underlying23 rfl (by rw [Tryd.infoKey, kc_size, hB0])⟩) hG ?_
        simp only [Act.put, List.setIfInBounds_toArray, List.set_cons_zero, List.set_cons_succ, List.getElem_toArray, List.getElem_cons_zero, List.getElem_cons_succ]
        refine any_one (i := 10) (by kernel_rfl) rfl (fun K_ hQ => ?_)
        refine step_callw (by kernel_rfl) 5 #[.agg (kc A), .agg (kc B)] (by kernel_rfl) ((less_ok A B hA hB0 _).mono ?_)
        rintro r z3 ⟨hr, hg⟩
        rw [unhide hab1] at hr
        subst hr
        refine ⟨_, rfl, ?_⟩
        replace hG := hG.trans hg
        clear hg
        refine hQ.out _ _ hG (fun _ => ?_)
        clear hQ K_
        simp only [Act.put, List.setIfInBounds_toArray, List.set_cons_zero, List.set_cons_succ, List.getElem_toArray, List.getElem_cons_zero, List.getElem_cons_succ]
        refine any_take (i := 11) (v := (.bool true)) #[true, true, true, true, true, true, true, true, true, true, true, false, false, false, false, false, false, false, false, false, false, false, false, false, false, false, false, false, false, false, false] rfl (by kernel_rfl) (by kernel_rfl) (by kernel_rfl) (by kernel_rfl) (fun _ _ _ h => h) (.inl ⟨by kernel_rfl, fun x_ hu => by kernel_rfl⟩) hG ?_
        simp only [Act.put, List.setIfInBounds_toArray, List.set_cons_zero, List.set_cons_succ, List.getElem_toArray, List.getElem_cons_zero, List.getElem_cons_succ]
        refine any_take (i := 12) (v := (.agg (kc B))) #[true, true, true, true, true, true, true, true, true, true, true, true, false, false, false, false, false, false, false, false, false, false, false, false, false, false, false, false, false, false, false] rfl (by kernel_rfl) (by kernel_rfl) (by kernel_rfl) (by kernel_rfl) (fun _ _ _ h => h) (.inl ⟨by kernel_rfl, fun x_ hu => exec_arr _ 23 (.tmp 4) rfl (w.heap.size + 1) (by kernel_rfl) (kc B) 23 _ (hu.blk (unhide hqB)) Tryd.underlying23 rfl (by rw [Tryd.infoKey, kc_size, hB0])⟩) hG ?_
        simp only [Act.put, List.setIfInBounds_toArray, List.set_cons_zero, List.set_cons_succ, List.getElem_toArray, List.getElem_cons_zero, List.getElem_cons_succ]
        refine any_take (i := 13) (v := (.agg (kc C))) #[true, true, true, true, true, true, true, true, true, true, true, true, true, false, false, false, false, false, false, false, false, false, false, false, false, false, false, false, false, false, false] rfl (by kernel_rfl) (by kernel_rfl) (by kernel_rfl) (by kernel_rfl) (fun _ _ _ h => h) (.inl ⟨by kernel_rfl, fun x_ hu => exec_arr _ 23 (.tmp 5) rfl (w.heap.size + 1 + 1) (by kernel_rfl) (kc C) 23 _ (hu.blk (unhide hqC)) Tryd.underlying23 rfl (by rw [Tryd.infoKey, kc_size, hC])⟩) hG ?_
        simp only [Act.put, List.setIfInBounds_toArray, List.set_cons_zero, List.set_cons_succ, List.getElem_toArray, List.getElem_cons_zero, List.getElem_cons_succ]
        refine any_one (i := 14) (by kernel_rfl) rfl (fun K_ hQ => ?_)
        refine step_callw (by kernel_rfl) 5 #[.agg (kc B), .agg (kc C)] (by kernel_rfl) ((less_ok B C hB0 hC _).mono ?_)
        rintro r z4 ⟨hr, hg⟩
        rw [unhide hbc1] at hr
        subst hr
        refine ⟨_, rfl, ?_⟩
        replace hG := hG.trans hg
        clear hg
        refine hQ.out _ _ hG (fun _ => ?_)
        clear hQ K_
        simp only [Act.put, List.setIfInBounds_toArray, List.set_cons_zero, List.set_cons_succ, List.getElem_toArray, List.getElem_cons_zero, List.getElem_cons_succ]
        refine any_take (i := 15) (v := (.bool false)) #[true, true, true, true, true, true, true, true, true, true, true, true, true, true, true, false, false, false, false, false, false, false, false, false, false, false, false, false, false, false, false] rfl (by kernel_rfl) (by kernel_rfl) (by kernel_rfl) (by kernel_rfl) (fun _ _ _ h => h) (.inl ⟨by kernel_rfl, fun x_ hu => by kernel_rfl⟩) hG ?_
        simp only [Act.put, List.setIfInBounds_toArray, List.set_cons_zero, List.set_cons_succ, List.getElem_toArray, List.getElem_cons_zero, List.getElem_cons_succ]
        refine any_take (i := 16) (v := (.bool false)) #[true, true, true, true, true, true, true, true, true, true, true, true, true, true, true, true, false, false, false, false, false, false, false, false, false, false, false, false, false, false, false] rfl (by kernel_rfl) (by kernel_rfl) (by kernel_rfl) (by kernel_rfl) (fun _ _ _ h => h) (.inl ⟨by kernel_rfl, fun x_ hu => by kernel_rfl⟩) hG ?_
        simp only [Act.put, List.setIfInBounds_toArray, List.set_cons_zero, List.set_cons_succ, List.getElem_toArray, List.getElem_cons_zero, List.getElem_cons_succ]
        refine any_take (i := 17) (v := undef) #[true, true, true, true, true, true, true, true, true, true, true, true, true, true, true, true, true, false, false, false, false, false, false, false, false, false, false, false, false, false, false] rfl (by kernel_rfl) (by kernel_rfl) (by kernel_rfl) (by kernel_rfl) (fun _ _ _ h => h) (.inr ⟨by kernel_rfl, rfl⟩) hG ?_
        simp only [Act.put, List.setIfInBounds_toArray, List.set_cons_zero, List.set_cons_succ, List.getElem_toArray, List.getElem_cons_zero, List.getElem_cons_succ]
        refine any_take (i := 18) (v := undef) #[true, true, true, true, true, true, true, true, true, true, true, true, true, true, true, true, true, true, false, false, false, false, false, false, false, false, false, false, false, false, false] rfl (by kernel_rfl) (by kernel_rfl) (by kernel_rfl) (by kernel_rfl) (fun _ _ _ h => h) (.inr ⟨by kernel_rfl, rfl⟩) hG ?_
        simp only [Act.put, List.setIfInBounds_toArray, List.set_cons_zero, List.set_cons_succ, List.getElem_toArray, List.getElem_cons_zero, List.getElem_cons_succ]
        refine any_take (i := 19) (v := undef) #[true, true, true, true, true, true, true, true, true, true, true, true, true, true, true, true, true, true, true, false, false, false, false, false, false, false, false, false, false, false, false] rfl (by kernel_rfl) (by kernel_rfl) (by kernel_rfl) (by kernel_rfl) (fun _ _ _ h => h) (.inr ⟨by kernel_rfl, rfl⟩) hG ?_
        simp only [Act.put, List.setIfInBounds_toArray, List.set_cons_zero, List.set_cons_succ, List.getElem_toArray, List.getElem_cons_zero, List.getElem_cons_succ]
        refine any_take (i := 20) (v := undef) #[true, true, true, true, true, true, true, true, true, true, true, true, true, true, true, true, true, true, true, true, false, false, false, false, false, false, false, false, false, false, false] rfl (by kernel_rfl) (by kernel_rfl) (by kernel_rfl) (by kernel_rfl) (fun _ _ _ h => h) (.inr ⟨by kernel_rfl, rfl⟩) hG ?_
        simp only [Act.put, List.setIfInBounds_toArray, List.set_cons_zero, List.set_cons_succ, List.getElem_toArray, List.getElem_cons_zero, List.getElem_cons_succ]
        refine any_take (i := 21) (v := (.bool false)) #[true, true, true, true, true, true, true, true, true, true, true, true, true, true, true, true, true, true, true, true, true, false, false, false, false, false, false, false, false, false, false] rfl (by kernel_rfl) (by kernel_rfl) (by kernel_rfl) (by kernel_rfl) (fun _ _ _ h => h) (.inl ⟨by kernel_rfl, fun x_ hu => by kernel_rfl⟩) hG ?_
        simp only [Act.put, List.setIfInBounds_toArray, List.set_cons_zero, List.set_cons_succ, List.getElem_toArray, List.getElem_cons_zero, List.getElem_cons_succ]
        refine any_take (i := 22) (v := (.bool true)) #[true, true, true, true, true, true, true, true, true, true, true, true, true, true, true, true, true, true, true, true, true, true, false, false, false, false, false, false, false, false, false] rfl (by kernel_rfl) (by kernel_rfl) (by kernel_rfl) (by kernel_rfl) (fun _ _ _ h => h) (.inl ⟨by kernel_rfl, fun x_ hu => by kernel_rfl⟩) hG ?_
        simp only [Act.put, List.setIfInBounds_toArray, List.set_cons_zero, List.set_cons_succ, List.getElem_toArray, List.getElem_cons_zero, List.getElem_cons_succ]
        refine any_take (i := 23) (v := (.bool true)) #[true, true, true, true, true, true, true, true, true, true, true, true, true, true, true, true, true, true, true, true, true, true, true, false, false, false, false, false, false, false, false] rfl (by kernel_rfl) (by kernel_rfl) (by kernel_rfl) (by kernel_rfl) (fun _ _ _ h => h) (.inl ⟨by kernel_rfl, fun x_ hu => by kernel_rfl⟩) hG ?_
        simp only [Act.put, List.setIfInBounds_toArray, List.set_cons_zero, List.set_cons_succ, List.getElem_toArray, List.getElem_cons_zero, List.getElem_cons_succ]
        refine any_take (i := 24) (v := (.bool true)) #[true, true, true, true, true, true, true, true, true, true, true, true, true, true, true, true, true, true, true, true, true, true, true, true, false, false, false, false, false, false, false] rfl (by kernel_rfl) (by kernel_rfl) (by kernel_rfl) (by kernel_rfl) (fun _ _ _ h => h) (.inl ⟨by kernel_rfl, fun x_ hu => by kernel_rfl⟩) hG ?_
        simp only [Act.put, List.setIfInBounds_toArray, List.set_cons_zero, List.set_cons_succ, List.getElem_toArray, List.getElem_cons_zero, List.getElem_cons_succ]
        refine any_take (i := 25) (v := (.agg (kc C))) #[true, true, true, true, true, true, true, true, true, true, true, true, true, true, true, true, true, true, true, true, true, true, true, true, true, false, false, false, false, false, false] rfl (by kernel_rfl) (by kernel_rfl) (by kernel_rfl) (by kernel_rfl) (fun _ _ _ h => h) (.inl ⟨by kernel_rfl, fun x_ hu => exec_arr _ 23 (.tmp 5) rfl (w.heap.size + 1 + 1) (by kernel_rfl) (kc C) 23 _ (hu.blk (unhide hqC)) Tryd.underlying23 rfl (by rw [Tryd.infoKey, kc_size, hC])⟩) hG ?_
        simp only [Act.put, List.setIfInBounds_toArray, List.set_cons_zero, List.set_cons_succ, List.getElem_toArray, List.getElem_cons_zero, List.getElem_cons_succ]
        refine any_take (i := 26) (v := (.agg (kc C))) #[true, true, true, true, true, true, true, true, true, true, true, true, true, true, true, true, true, true, true, true, true, true, true, true, true, true, false, false, false, false, false] rfl (by kernel_rfl) (by kernel_rfl) (by kernel_rfl) (by kernel_rfl) (fun _ _ _ h => h) (.inl ⟨by kernel_rfl, fun x_ hu => exec_arr _ 23 (.tmp 5) rfl (w.heap.size + 1 + 1) (by kernel_rfl) (kc C) 23 _ (hu.blk (unhide hqC)) Tryd.underlying23 rfl (by rw [Tryd.infoKey, kc_size, hC])⟩) hG ?_
        simp only [Act.put, List.setIfInBounds_toArray, List.set_cons_zero, List.set_cons_succ, List.getElem_toArray, List.getElem_cons_zero, List.getElem_cons_succ]
        refine any_one (i := 27) (by kernel_rfl) rfl (fun K_ hQ => ?_)
        refine step_callw (by kernel_rfl) 5 #[.agg (kc C), .agg (kc C)] (by kernel_rfl) ((less_ok C C hC hC _).mono ?_)
        rintro r z5 ⟨hr, hg⟩
        rw [unhide hcc] at hr
        subst hr
        refine ⟨_, rfl, ?_⟩
        replace hG := hG.trans hg
        clear hg
        refine hQ.out _ _ hG (fun _ => ?_)
        clear hQ K_
        simp only [Act.put, List.setIfInBounds_toArray, List.set_cons_zero, List.set_cons_succ, List.getElem_toArray, List.getElem_cons_zero, List.getElem_cons_succ]
        refine any_take (i := 28) (v := (.bool true)) #[true, true, true, true, true, true, true, true, true, true, true, true, true, true, true, true, true, true, true, true, true, true, true, true, true, true, true, true, false, false, false] rfl (by kernel_rfl) (by kernel_rfl) (by kernel_rfl) (by kernel_rfl) (fun _ _ _ h => h) (.inl ⟨by kernel_rfl, fun x_ hu => by kernel_rfl⟩) hG ?_
        simp only [Act.put, List.setIfInBounds_toArray, List.set_cons_zero, List.set_cons_succ, List.getElem_toArray, List.getElem_cons_zero, List.getElem_cons_succ]
        refine any_take (i := 29) (v := (.bool true)) #[true, true, true, true, true, true, true, true, true, true, true, true, true, true, true, true, true, true, true, true, true, true, true, true, true, true, true, true, true, false, false] rfl (by kernel_rfl) (by kernel_rfl) (by kernel_rfl) (by kernel_rfl) (fun _ _ _ h => h) (.inl ⟨by kernel_rfl, fun x_ hu => by kernel_rfl⟩) hG ?_
        simp only [Act.put, List.setIfInBounds_toArray, List.set_cons_zero, List.set_cons_succ, List.getElem_toArray, List.getElem_cons_zero, List.getElem_cons_succ]
        refine any_one (i := 30) (by kernel_rfl) rfl (fun K_ hQ => ?_)
        replace hQ := hide hQ
        go_simp
        refine (unhide hQ).out _ _ hG (fun _ => ?_)
        clear hQ K_
        refine any_done (by kernel_rfl) ?_
        have hZ : Hid (T (.returned (.bool true)) z5) := by
          rw [unhide hT]
          exact ⟨rfl, (unhide hB).trans hG⟩
        go_wp2_with fail
        exact unhide hZ
      | true =>
        have hac1 := hide (htr hlab hlbc)
        have hbc1 := hide hlbc
        clear hba htr hlab hlbc
        replace hB := hide hB
        go_upto_region 5 with fail
        replace hB := unhide hB
        refine any_start (S := fun (v : World) => Gr w_ v) (by kernel_rfl) ?_
        have hG : Gr w_ (World.drew w_) := (Gr.refl _).drew
        generalize World.drew _ = x0 at *
        have hqA := hide (hB.get 0 (x := ⟨w.heap.size, kc A, 23⟩) rfl)
        have hqB := hide (hB.get 1 (x := ⟨w.heap.size + 1, kc B, 23⟩) rfl)
        have hqC := hide (hB.get 2 (x := ⟨w.heap.size + 1 + 1, kc C, 23⟩) rfl)
        dsimp only at hqA hqB hqC
        replace hB := hide hB.gr
        simp only [List.size_toArray, List.length_cons, List.length_nil, Array.replicate, List.replicate]
        refine any_take (i := 0) (v := (.agg (kc A))) #[false, false, false, false, false, false, false, false, false, false, false, false, false, false, false, false, false, false, false, false, false, false, false, false, false, false, false, false, false, false, false] rfl (by kernel_rfl) (by kernel_rfl) (by kernel_rfl) (by kernel_rfl) (fun _ _ _ h => h) (.inl ⟨by kernel_rfl, fun x_ hu => exec_arr _ 23 (.tmp 3) rfl (w.heap.size) (by kernel_rfl) (kc A) 23 _ (hu.blk (unhide hqA)) Tryd.underlying23 rfl (by rw [Tryd.infoKey, kc_size, hA])⟩) hG ?_
        simp only [Act.put, List.setIfInBounds_toArray, List.set_cons_zero, List.set_cons_succ, List.getElem_toArray, List.getElem_cons_zero, List.getElem_cons_succ]
        refine any_take (i := 1) (v := (.agg (kc B))) #[true, false, false, false, false, false, false, false, false, false, false, false, false, false, false, false, false, false, false, false, false, false, false, false, false, false, false, false, false, false, false] rfl (by kernel_rfl) (by kernel_rfl) (by kernel_rfl) (by kernel_rfl) (fun _ _ _ h => h) (.inl ⟨by kernel_rfl, fun x_ hu => exec_arr _ 23 (.tmp 4) rfl (w.heap.size + 1) (by kernel_rfl) (kc B) 23 _ (hu.blk (unhide hqB)) Tryd.underlying23 rfl (by rw [Tryd.infoKey, kc_size, hB0])⟩) hG ?_
        simp only [Act.put, List.setIfInBounds_toArray, List.set_cons_zero, List.set_cons_succ, List.getElem_toArray, List.getElem_cons_zero, List.getElem_cons_succ]
        refine any_take (i := 3) (v := (.agg (kc B))) #[true, true, false, false, false, false, false, false, false, false, false, false, false, false, false, false, false, false, false, false, false, false, false, false, false, false, false, false, false, false, false] rfl (by kernel_rfl) (by kernel_rfl) (by kernel_rfl) (by kernel_rfl) (fun _ _ _ h => h) (.inl ⟨by kernel_rfl, fun x_ hu => exec_arr _ 23 (.tmp 4) rfl (w.heap.size + 1) (by kernel_rfl) (kc B) 23 _ (hu.blk (unhide hqB)) Tryd.underlying23 rfl (by rw [Tryd.infoKey, kc_size, hB0])⟩) hG ?_
        simp only [Act.put, List.setIfInBounds_toArray, List.set_cons_zero, List.set_cons_succ, List.getElem_toArray, List.getElem_cons_zero, List.getElem_cons_succ]
        refine any_take (i := 4) (v := (.agg (kc A))) #[true, true, false, true, false, false, false, false, false, false, false, false, false, false, false, false, false, false, false, false, false, false, false, false, false, false, false, false, false, false, false] rfl (by kernel_rfl) (by kernel_rfl) (by kernel_rfl) (by kernel_rfl) (fun _ _ _ h => h) (.inl ⟨by kernel_rfl, fun x_ hu => exec_arr _ 23 (.tmp 3) rfl (w.heap.size) (by kernel_rfl) (kc A) 23 _ (hu.blk (unhide hqA)) Tryd.underlying23 rfl (by rw [Tryd.infoKey, kc_size, hA])⟩) hG ?_
        simp only [Act.put, List.setIfInBounds_toArray, List.set_cons_zero, List.set_cons_succ, List.getElem_toArray, List.getElem_cons_zero, List.getElem_cons_succ]
        refine any_one (i := 2) (by kernel_rfl) rfl (fun K_ hQ => ?_)
        refine step_callw (by kernel_rfl) 5 #[.agg (kc A), .agg (kc B)] (by kernel_rfl) ((less_ok A B hA hB0 _).mono ?_)
        rintro r z1 ⟨hr, hg⟩
        rw [unhide hab1] at hr
        subst hr
        refine ⟨_, rfl, ?_⟩
        replace hG := hG.trans hg
        clear hg
        refine hQ.out _ _ hG (fun _ => ?_)
        clear hQ K_
        simp only [Act.put, List.setIfInBounds_toArray, List.set_cons_zero, List.set_cons_succ, List.getElem_toArray, List.getElem_cons_zero, List.getElem_cons_succ]
        refine any_one (i := 5) (by kernel_rfl) rfl (fun K_ hQ => ?_)
        refine step_callw (by kernel_rfl) 5 #[.agg (kc B), .agg (kc A)] (by kernel_rfl) ((less_ok B A hB0 hA _).mono ?_)
        rintro r z2 ⟨hr, hg⟩
        rw [unhide hba1] at hr
        subst hr
        refine ⟨_, rfl, ?_⟩
        replace hG := hG.trans hg
        clear hg
        refine hQ.out _ _ hG (fun _ => ?_)
        clear hQ K_
        simp only [Act.put, List.setIfInBounds_toArray, List.set_cons_zero, List.set_cons_succ, List.getElem_toArray, List.getElem_cons_zero, List.getElem_cons_succ]
        refine any_take (i := 6) (v := (.bool true)) #[true, true, true, true, true, true, false, false, false, false, false, false, false, false, false, false, false, false, false, false, false, false, false, false, false, false, false, false, false, false, false] rfl (by kernel_rfl) (by kernel_rfl) (by kernel_rfl) (by kernel_rfl) (fun _ _ _ h => h) (.inl ⟨by kernel_rfl, fun x_ hu => by kernel_rfl⟩) hG ?_
        simp only [Act.put, List.setIfInBounds_toArray, List.set_cons_zero, List.set_cons_succ, List.getElem_toArray, List.getElem_cons_zero, List.getElem_cons_succ]
        refine any_take (i := 7) (v := (.bool true)) #[true, true, true, true, true, true, true, false, false, false, false, false, false, false, false, false, false, false, false, false, false, false, false, false, false, false, false, false, false, false, false] rfl (by kernel_rfl) (by kernel_rfl) (by kernel_rfl) (by kernel_rfl) (fun _ _ _ h => h) (.inl ⟨by kernel_rfl, fun x_ hu => by kernel_rfl⟩) hG ?_
        simp only [Act.put, List.setIfInBounds_toArray, List.set_cons_zero, List.set_cons_succ, List.getElem_toArray, List.getElem_cons_zero, List.getElem_cons_succ]
        refine any_take (i := 8) (v := (.agg (kc A))) #[true, true, true, true, true, true, true, true, false, false, false, false, false, false, false, false, false, false, false, false, false, false, false, false, false, false, false, false, false, false, false] rfl (by kernel_rfl) (by kernel_rfl) (by kernel_rfl) (by kernel_rfl) (fun _ _ _ h => h) (.inl ⟨by kernel_rfl, fun x_ hu => exec_arr _ 23 (.tmp 3) rfl (w.heap.size) (by kernel_rfl) (kc A) 23 _ (hu.blk (unhide hqA)) Tryd.underlying23 rfl (by rw [Tryd.infoKey, kc_size, hA])⟩) hG ?_
        simp only [Act.put, List.setIfInBounds_toArray, List.set_cons_zero, List.set_cons_succ, List.getElem_toArray, List.getElem_cons_zero, List.getElem_cons_succ]
        refine any_take (i := 9) (v := (.agg (kc B))) #[true, true, true, true, true, true, true, true, true, false, false, false, false, false, false, false, false, false, false, false, false, false, false, false, false, false, false, false, false, false, false] rfl (by kernel_rfl) (by kernel_rfl) (by kernel_rfl) (by kernel_rfl) (fun _ _ _ h => h) (.inl ⟨by kernel_rfl, fun x_ hu => exec_arr _ 23 (.tmp 4) rfl (w.heap.size + 1) (by kernel_rfl) (kc B) 23 _ (hu.blk (unhide hqB)) Tryd.underlying23 rfl (by rw [Tryd.infoKey, kc_size, hB0])⟩) hG ?_
        simp only [Act.put, List.setIfInBounds_toArray, List.set_cons_zero, List.set_cons_succ, List.getElem_toArray, List.getElem_cons_zero, List.getElem_cons_succ]
        refine any_one (i := 10) (by kernel_rfl) rfl (fun K_ hQ => ?_)
        refine step_callw (by kernel_rfl) 5 #[.agg (kc A), .agg (kc B)] (by kernel_rfl) ((less_ok A B hA hB0 _).mono ?_)
        rintro r z3 ⟨hr, hg⟩
        rw [unhide hab1] at hr
        subst hr
        refine ⟨_, rfl, ?_⟩
        replace hG := hG.trans hg
        clear hg
        refine hQ.out _ _ hG (fun _ => ?_)
        clear hQ K_
        simp only [Act.put, List.setIfInBounds_toArray, List.set_cons_zero, List.set_cons_succ, List.getElem_toArray, List.getElem_cons_zero, List.getElem_cons_succ]
        refine any_take (i := 11) (v := (.bool true)) #[true, true, true, true, true, true, true, true, true, true, true, false, false, false, false, false, false, false, false, false, false, false, false, false, false, false, false, false, false, false, false] rfl (by kernel_rfl) (by kernel_rfl) (by kernel_rfl) (by kernel_rfl) (fun _ _ _ h => h) (.inl ⟨by kernel_rfl, fun x_ hu => by kernel_rfl⟩) hG ?_
        simp only [Act.put, List.setIfInBounds_toArray, List.set_cons_zero, List.set_cons_succ, List.getElem_toArray, List.getElem_cons_zero, List.getElem_cons_succ]
        refine any_take (i := 12) (v := (.agg (kc B))) #[true, true, true, true, true, true, true, true, true, true, true, true, false, false, false, false, false, false, false, false, false, false, false, false, false, false, false, false, false, false, false] rfl (by kernel_rfl) (by kernel_rfl) (by kernel_rfl) (by kernel_rfl) (fun _ _ _ h => h) (.inl ⟨by kernel_rfl, fun x_ hu => exec_arr _ 23 (.tmp 4) rfl (w.heap.size + 1) (by kernel_rfl) (kc B) 23 _ (hu.blk (unhide hqB)) Tryd.underlying23 rfl (by rw [Tryd.infoKey, kc_size, hB0])⟩) hG ?_
        simp only [Act.put, List.setIfInBounds_toArray, List.set_cons_zero, List.set_cons_succ, List.getElem_toArray, List.getElem_cons_zero, List.getElem_cons_succ]
        refine any_take (i := 13) (v := (.agg (kc C))) #[true, true, true, true, true, true, true, true, true, true, true, true, true, false, false, false, false, false, false, false, false, false, false, false, false, false, false, false, false, false, false] rfl (by kernel_rfl) (by kernel_rfl) (by kernel_rfl) (by kernel_rfl) (fun _ _ _ h => h) (.inl ⟨by kernel_rfl, fun x_ hu => exec_arr _ 23 (.tmp 5) rfl (w.heap.size + 1 + 1) (by kernel_rfl) (kc C) 23 _ (hu.blk (unhide hqC)) Tryd.underlying23 rfl (by rw [Tryd.infoKey, kc_size, hC])⟩) hG ?_
        simp only [Act.put, List.setIfInBounds_toArray, List.set_cons_zero, List.set_cons_succ, List.getElem_toArray, List.getElem_cons_zero, List.getElem_cons_succ]
        refine any_one (i := 14) (by kernel_rfl) rfl (fun K_ hQ => ?_)
        refine step_callw (by kernel_rfl) 5 #[.agg (kc B), .agg (kc C)] (by kernel_rfl) ((less_ok B C hB0 hC _).mono ?_)
        rintro r z4 ⟨hr, hg⟩
        rw [unhide hbc1] at hr
        subst hr
        refine ⟨_, rfl, ?_⟩
        replace hG := hG.trans hg
        clear hg
        refine hQ.out _ _ hG (fun _ => ?_)
        clear hQ K_
        simp only [Act.put, List.setIfInBounds_toArray, List.set_cons_zero, List.set_cons_succ, List.getElem_toArray, List.getElem_cons_zero, List.getElem_cons_succ]
        refine any_take (i := 15) (v := (.bool true)) #[true, true, true, true, true, true, true, true, true, true, true, true, true, true, true, false, false, false, false, false, false, false, false, false, false, false, false, false, false, false, false] rfl (by kernel_rfl) (by kernel_rfl) (by kernel_rfl) (by kernel_rfl) (fun _ _ _ h => h) (.inl ⟨by kernel_rfl, fun x_ hu => by kernel_rfl⟩) hG ?_
        simp only [Act.put, List.setIfInBounds_toArray, List.set_cons_zero, List.set_cons_succ, List.getElem_toArray, List.getElem_cons_zero, List.getElem_cons_succ]
        refine any_take (i := 16) (v := (.bool true)) #[true, true, true, true, true, true, true, true, true, true, true, true, true, true, true, true, false, false, false, false, false, false, false, false, false, false, false, false, false, false, false] rfl (by kernel_rfl) (by kernel_rfl) (by kernel_rfl) (by kernel_rfl) (fun _ _ _ h => h) (.inl ⟨by kernel_rfl, fun x_ hu => by kernel_rfl⟩) hG ?_
        simp only [Act.put, List.setIfInBounds_toArray, List.set_cons_zero, List.set_cons_succ, List.getElem_toArray, List.getElem_cons_zero, List.getElem_cons_succ]
        refine any_take (i := 17) (v := (.agg (kc A))) #[true, true, true, true, true, true, true, true, true, true, true, true, true, true, true, true, true, false, false, false, false, false, false, false, false, false, false, false, false, false, false] rfl (by kernel_rfl) (by kernel_rfl) (by kernel_rfl) (by kernel_rfl) (fun _ _ _ h => h) (.inl ⟨by kernel_rfl, fun x_ hu => exec_arr _ 23 (.tmp 3) rfl (w.heap.size) (by kernel_rfl) (kc A) 23 _ (hu.blk (unhide hqA)) Tryd.underlying23 rfl (by rw [Tryd.infoKey, kc_size, hA])⟩) hG ?_
        simp only [Act.put, List.setIfInBounds_toArray, List.set_cons_zero, List.set_cons_succ, List.getElem_toArray, List.getElem_cons_zero, List.getElem_cons_succ]
        refine any_take (i := 18) (v := (.agg (kc C))) #[true, true, true, true, true, true, true, true, true, true, true, true, true, true, true, true, true, true, false, false, false, false, false, false, false, false, false, false, false, false, false] rfl (by kernel_rfl) (by kernel_rfl) (by kernel_rfl) (by kernel_rfl) (fun _ _ _ h => h) (.inl ⟨by kernel_rfl, fun x_ hu => exec_arr _ 23 (.tmp 5) rfl (w.heap.size + 1 + 1) (by kernel_rfl) (kc C) 23 _ (hu.blk (unhide hqC)) Tryd.underlying23 rfl (by rw [Tryd.infoKey, kc_size, hC])⟩) hG ?_
        simp only [Act.put, List.setIfInBounds_toArray, List.set_cons_zero, List.set_cons_succ, List.getElem_toArray, List.getElem_cons_zero, List.getElem_cons_succ]
        refine any_one (i := 19) (by kernel_rfl) rfl (fun K_ hQ => ?_)
        refine step_callw (by kernel_rfl) 5 #[.agg (kc A), .agg (kc C)] (by kernel_rfl) ((less_ok A C hA hC _).mono ?_)
        rintro r z5 ⟨hr, hg⟩
        rw [unhide hac1] at hr
        subst hr
        refine ⟨_, rfl, ?_⟩
        replace hG := hG.trans hg
        clear hg
        refine hQ.out _ _ hG (fun _ => ?_)
        clear hQ K_
        simp only [Act.put, List.setIfInBounds_toArray, List.set_cons_zero, List.set_cons_succ, List.getElem_toArray, List.getElem_cons_zero, List.getElem_cons_succ]
        refine any_take (i := 20) (v := (.bool false)) #[true, true, true, true, true, true, true, true, true, true, true, true, true, true, true, true, true, true, true, true, false, false, false, false, false, false, false, false, false, false, false] rfl (by kernel_rfl) (by kernel_rfl) (by kernel_rfl) (by kernel_rfl) (fun _ _ _ h => h) (.inl ⟨by kernel_rfl, fun x_ hu => by kernel_rfl⟩) hG ?_
        simp only [Act.put, List.setIfInBounds_toArray, List.set_cons_zero, List.set_cons_succ, List.getElem_toArray, List.getElem_cons_zero, List.getElem_cons_succ]
        refine any_take (i := 21) (v := (.bool false)) #[true, true, true, true, true, true, true, true, true, true, true, true, true, true, true, true, true, true, true, true, true, false, false, false, false, false, false, false, false, false, false] rfl (by kernel_rfl) (by kernel_rfl) (by kernel_rfl) (by kernel_rfl) (fun _ _ _ h => h) (.inl ⟨by kernel_rfl, fun x_ hu => by kernel_rfl⟩) hG ?_
        simp only [Act.put, List.setIfInBounds_toArray, List.set_cons_zero, List.set_cons_succ, List.getElem_toArray, List.getElem_cons_zero, List.getElem_cons_succ]
        refine any_take (i := 22) (v := (.bool true)) #[true, true, true, true, true, true, true, true, true, true, true, true, true, true, true, true, true, true, true, true, true, true, false, false, false, false, false, false, false, false, false] rfl (by kernel_rfl) (by kernel_rfl) (by kernel_rfl) (by kernel_rfl) (fun _ _ _ h => h) (.inl ⟨by kernel_rfl, fun x_ hu => by kernel_rfl⟩) hG ?_
        simp only [Act.put, List.setIfInBounds_toArray, List.set_cons_zero, List.set_cons_succ, List.getElem_toArray, List.getElem_cons_zero, List.getElem_cons_succ]
        refine any_take (i := 23) (v := (.bool true)) #[true, true, true, true, true, true, true, true, true, true, true, true, true, true, true, true, true, true, true, true, true, true, true, false, false, false, false, false, false, false, false] rfl (by kernel_rfl) (by kernel_rfl) (by kernel_rfl) (by kernel_rfl) (fun _ _ _ h => h) (.inl ⟨by kernel_rfl, fun x_ hu => by kernel_rfl⟩) hG ?_
        simp only [Act.put, List.setIfInBounds_toArray, List.set_cons_zero, List.set_cons_succ, List.getElem_toArray, List.getElem_cons_zero, List.getElem_cons_succ]
        refine any_take (i := 24) (v := (.bool true)) #[true, true, true, true, true, true, true, true, true, true, true, true, true, true, true, true, true, true, true, true, true, true, true, true, false, false, false, false, false, false, false] rfl (by kernel_rfl) (by kernel_rfl) (by kernel_rfl) (by kernel_rfl) (fun _ _ _ h => h) (.inl ⟨by kernel_rfl, fun x_ hu => by kernel_rfl⟩) hG ?_
        simp only [Act.put, List.setIfInBounds_toArray, List.set_cons_zero, List.set_cons_succ, List.getElem_toArray, List.getElem_cons_zero, List.getElem_cons_succ]
        refine any_take (i := 25) (v := (.agg (kc C))) #[true, true, true, true, true, true, true, true, true, true, true, true, true, true, true, true, true, true, true, true, true, true, true, true, true, false, false, false, false, false, false] rfl (by kernel_rfl) (by kernel_rfl) (by kernel_rfl) (by kernel_rfl) (fun _ _ _ h => h) (.inl ⟨by kernel_rfl, fun x_ hu => exec_arr _ 23 (.tmp 5) rfl (w.heap.size + 1 + 1) (by kernel_rfl) (kc C) 23 _ (hu.blk (unhide hqC)) Tryd.underlying23 rfl (by rw [Tryd.infoKey, kc_size, hC])⟩) hG ?_
        simp only [Act.put, List.setIfInBounds_toArray, List.set_cons_zero, List.set_cons_succ, List.getElem_toArray, List.getElem_cons_zero, List.getElem_cons_succ]
        refine any_take (i := 26) (v := (.agg (kc C))) #[true, true, true, true, true, true, true, true, true, true, true, true, true, true, true, true, true, true, true, true, true, true, true, true, true, true, false, false, false, false, false] rfl (by kernel_rfl) (by kernel_rfl) (by kernel_rfl) (by kernel_rfl) (fun _ _ _ h => h) (.inl ⟨by kernel_rfl, fun x_ hu => exec_arr _ 23 (.tmp 5) rfl (w.heap.size + 1 + 1) (by kernel_rfl) (kc C) 23 _ (hu.blk (unhide hqC)) Tryd.underlying23 rfl (by rw [Tryd.infoKey, kc_size, hC])⟩) hG ?_
        simp only [Act.put, List.setIfInBounds_toArray, List.set_cons_zero, List.set_cons_succ, List.getElem_toArray, List.getElem_cons_zero, List.getElem_cons_succ]
        refine any_one (i := 27) (by kernel_rfl) rfl (fun K_ hQ => ?_)
        refine step_callw (by kernel_rfl) 5 #[.agg (kc C), .agg (kc C)] (by kernel_rfl) ((less_ok C C hC hC _).mono ?_)
        rintro r z6 ⟨hr, hg⟩
        rw [unhide hcc] at hr
        subst hr
        refine ⟨_, rfl, ?_⟩
        replace hG := hG.trans hg
        clear hg
        refine hQ.out _ _ hG (fun _ => ?_)
        clear hQ K_
        simp only [Act.put, List.setIfInBounds_toArray, List.set_cons_zero, List.set_cons_succ, List.getElem_toArray, List.getElem_cons_zero, List.getElem_cons_succ]
        refine any_take (i := 28) (v := (.bool true)) #[true, true, true, true, true, true, true, true, true, true, true, true, true, true, true, true, true, true, true, true, true, true, true, true, true, true, true, true, false, false, false] rfl (by kernel_rfl) (by kernel_rfl) (by kernel_rfl) (by kernel_rfl) (fun _ _ _ h => h) (.inl ⟨by kernel_rfl, fun x_ hu => by kernel_rfl⟩) hG ?_
        simp only [Act.put, List.setIfInBounds_toArray, List.set_cons_zero, List.set_cons_succ, List.getElem_toArray, List.getElem_cons_zero, List.getElem_cons_succ]
        refine any_take (i := 29) (v := (.bool true)) #[true, true, true, true, true, true, true, true, true, true, true, true, true, true, true, true, true, true, true, true, true, true, true, true, true, true, true, true, true, false, false] rfl (by kernel_rfl) (by kernel_rfl) (by kernel_rfl) (by kernel_rfl) (fun _ _ _ h => h) (.inl ⟨by kernel_rfl, fun x_ hu => by kernel_rfl⟩) hG ?_
        simp only [Act.put, List.setIfInBounds_toArray, List.set_cons_zero, List.set_cons_succ, List.getElem_toArray, List.getElem_cons_zero, List.getElem_cons_succ]
        refine any_one (i := 30) (by kernel_rfl) rfl (fun K_ hQ => ?_)
        replace hQ := hide hQ
        go_simp
        refine (unhide hQ).out _ _ hG (fun _ => ?_)
        clear hQ K_
        refine any_done (by kernel_rfl) ?_
        have hZ : Hid (T (.returned (.bool true)) z6) := by
          rw [unhide hT]
          exact ⟨rfl, (unhide hB).trans hG⟩
        go_wp2_with fail
        exact unhide hZ
end Go.Proofs.YtpmgmpihmpifgabDoor
