/-
  IdentRounds: the hollow and the keys of a round: the walk.
-/
import Derived.Test.YtpmgmpihmpifgaaDoorIW
namespace Go.Proofs.YtpmgmpihmpifgaaDoor
open Go.RowKit
set_option maxRecDepth 100000
set_option linter.unusedSimpArgs false
set_option linter.unusedVariables false
theorem eq_Dr (D : List Int) (hD : D.length = 16) (w : World) : (Op.equalIn 10000 42 (.agg (kc D)) (.agg (kc D))).run Tryd.prog w = .ok true w :=
  eq_bytes Tryd.underlying42 9998 (kc D) (fun i hi => ⟨D.getD i 0, kc_get D i (by omega)⟩) w
theorem exec_eqDr {a : Act} {o : Oper} (w : World) (x y : Operand) (ho : o.op = .binOp .eql 42 x y 42) (D : List Int) (hD : D.length = 16) (hx : a.eval x = .agg (kc D)) (hy : a.eval y = .agg (kc D)) (hg : (eqGuard .eql 42 x y (.agg (kc D)) (.agg (kc D))).run Tryd.prog w = .ok () w) : (execOp a.eval o).run Tryd.prog w = .ok (.value (.bool true)) w := by
  have he := eq_Dr D hD w
  unfold execOp
  simp only [ho, hx, hy, Sem.run_bind, hg, Result.andThen_ok, run_eql_struct, he, Sem.run_pure]
set_option maxHeartbeats 4000000 in
theorem irounds_ok (Ky : List Int) (f : Bool) (hKy : IsK Ky) (r : Int) (hr : 0 ≤ r ∧ r < 18446744073709551616) (w : World) (hF : Fst w) : Calls Tryd.prog 6 #[.agg (pairv Ky f), .int .u64 r] w (Bod true w) := by
  obtain ⟨T, hT⟩ : ∃ T, T = Bod true w := ⟨_, rfl⟩
  rw [← hT]
  replace hT := hide hT
  obtain ⟨hKl, hKb⟩ := hKy
  obtain ⟨SK, hSK⟩ : ∃ S, S = pairv Ky f := ⟨_, rfl⟩
  rw [← hSK]
  replace hSK := hide hSK
  replace hKb := hide hKb
  replace hF := hide hF
  go_enter Tryd.func6, Tryd.ntmps6
  go_upto_region 1 with fail
  have hB := ((Bl.nil w).new SK 36)
  simp only [size_alloc, List.nil_append, List.cons_append] at hB
  generalize World.alloc _ _ = u at *
  rw [unhide hSK] at hB
  replace hB : Bl w [⟨w.heap.size, pairv Ky f, 36⟩] u := hB
  refine wp_region_lit ?_
  refine list_call 9 #[] (by kernel_rfl) (by kernel_rfl) ((wakes16_ok _ ((unhide hF).gr hB.gr)).mono ?_)
  rintro r_ w_ ⟨rfl, hg⟩
  replace hB := hB.more hg
  clear hg
  refine ⟨_, rfl, ?_⟩
  simp only [Act.put, List.setIfInBounds_toArray, List.set_cons_zero, List.set_cons_succ, List.getElem_toArray, List.getElem_cons_zero, List.getElem_cons_succ]
  refine list_val (.bool false) (by kernel_rfl) (by kernel_rfl) ?_
  simp only [Act.put, List.setIfInBounds_toArray, List.set_cons_zero, List.set_cons_succ, List.getElem_toArray, List.getElem_cons_zero, List.getElem_cons_succ]
  refine wpList_nil ?_
  replace hB := hide hB
  go_upto_region 3 with fail
  replace hB := unhide hB
  refine any_start (S := fun (v : World) => Gr w_ v) (by kernel_rfl) ?_
  have hG : Gr w_ (World.drew w_) := (Gr.refl _).drew
  generalize World.drew _ = x0 at *
  have hqK := hide (hB.get 0 (x := ⟨w.heap.size, pairv Ky f, 36⟩) rfl)
  dsimp only at hqK
  replace hB := hide hB.gr
  simp only [List.size_toArray, List.length_cons, List.length_nil, Array.replicate, List.replicate]
  refine any_take (i := 0) (v := (.agg (pairv Ky f))) #[false, false, false, false, false, false, false, false, false, false, false, false, false, false, false, false, false, false, false, false, false, false, false, false, false, false] rfl (by kernel_rfl) (by kernel_rfl) (by kernel_rfl) (by kernel_rfl) (fun _ _ _ h => h) (.inl ⟨by kernel_rfl, fun x_ hu => exec_pp _ (.tmp 2) rfl (w.heap.size) (by kernel_rfl) Ky hKl f (hu.blk (unhide hqK))⟩) hG ?_
  simp only [Act.put, List.setIfInBounds_toArray, List.set_cons_zero, List.set_cons_succ, List.getElem_toArray, List.getElem_cons_zero, List.getElem_cons_succ]
  refine any_take (i := 1) (v := (.int .u64 r)) #[true, false, false, false, false, false, false, false, false, false, false, false, false, false, false, false, false, false, false, false, false, false, false, false, false, false] rfl (by kernel_rfl) (by kernel_rfl) (by kernel_rfl) (by kernel_rfl) (fun _ _ _ h => h) (.inl ⟨by kernel_rfl, fun x_ hu => by kernel_rfl⟩) hG ?_
  simp only [Act.put, List.setIfInBounds_toArray, List.set_cons_zero, List.set_cons_succ, List.getElem_toArray, List.getElem_cons_zero, List.getElem_cons_succ]
  refine any_take (i := 3) (v := (.agg (pairv Ky f))) #[true, true, false, false, false, false, false, false, false, false, false, false, false, false, false, false, false, false, false, false, false, false, false, false, false, false] rfl (by kernel_rfl) (by kernel_rfl) (by kernel_rfl) (by kernel_rfl) (fun _ _ _ h => h) (.inl ⟨by kernel_rfl, fun x_ hu => exec_pp _ (.tmp 2) rfl (w.heap.size) (by kernel_rfl) Ky hKl f (hu.blk (unhide hqK))⟩) hG ?_
  simp only [Act.put, List.setIfInBounds_toArray, List.set_cons_zero, List.set_cons_succ, List.getElem_toArray, List.getElem_cons_zero, List.getElem_cons_succ]
  refine any_take (i := 4) (v := (.int .u64 r)) #[true, true, false, true, false, false, false, false, false, false, false, false, false, false, false, false, false, false, false, false, false, false, false, false, false, false] rfl (by kernel_rfl) (by kernel_rfl) (by kernel_rfl) (by kernel_rfl) (fun _ _ _ h => h) (.inl ⟨by kernel_rfl, fun x_ hu => by kernel_rfl⟩) hG ?_
  simp only [Act.put, List.setIfInBounds_toArray, List.set_cons_zero, List.set_cons_succ, List.getElem_toArray, List.getElem_cons_zero, List.getElem_cons_succ]
  refine any_one (i := 2) (by kernel_rfl) rfl (fun K hK => ?_)
  refine step_callw (by kernel_rfl) 22 #[.agg (pairv Ky f), .int .u64 r] (by kernel_rfl) ((drop_ok r hr.1 Ky hKl (unhide hKb) f _ ((unhide hF).gr ((unhide hB).trans hG))).mono ?_)
  rintro r z1 ⟨rfl, hg⟩
  refine ⟨_, rfl, ?_⟩
  replace hG := hG.trans hg
  clear hg
  obtain ⟨DR, hDR⟩ : ∃ t, t = drL r Ky := ⟨_, rfl⟩
  have hDRl : DR.length = 16 := by rw [hDR]; exact drL_len _ _
  rw [← hDR]
  replace hDR := hide hDR
  refine hK.out _ _ hG (fun _ => ?_)
  clear hK K
  simp only [Act.put, List.setIfInBounds_toArray, List.set_cons_zero, List.set_cons_succ, List.getElem_toArray, List.getElem_cons_zero, List.getElem_cons_succ]
  refine any_one (i := 5) (by kernel_rfl) rfl (fun K hK => ?_)
  refine step_callw (by kernel_rfl) 23 #[.agg (pairv Ky f), .int .u64 r] (by kernel_rfl) ((edrop_ok r hr Ky hKl (unhide hKb) f _ ((unhide hF).gr ((unhide hB).trans hG))).mono ?_)
  rintro r z2 ⟨rfl, hg⟩
  refine ⟨_, rfl, ?_⟩
  replace hG := hG.trans hg
  clear hg
  rw [← unhide hDR]
  refine hK.out _ _ hG (fun _ => ?_)
  clear hK K
  simp only [Act.put, List.setIfInBounds_toArray, List.set_cons_zero, List.set_cons_succ, List.getElem_toArray, List.getElem_cons_zero, List.getElem_cons_succ]
  refine any_take (i := 6) (v := (.bool true)) #[true, true, true, true, true, true, false, false, false, false, false, false, false, false, false, false, false, false, false, false, false, false, false, false, false, false] rfl (by kernel_rfl) (by kernel_rfl) (by kernel_rfl) (by kernel_rfl) (fun _ _ _ h => h) (.inl ⟨by kernel_rfl, fun x_ hu => exec_eqDr _ (.tmp 9) (.tmp 12) rfl DR hDRl (by kernel_rfl) (by kernel_rfl) (by kernel_rfl)⟩) hG ?_
  simp only [Act.put, List.setIfInBounds_toArray, List.set_cons_zero, List.set_cons_succ, List.getElem_toArray, List.getElem_cons_zero, List.getElem_cons_succ]
  refine any_take (i := 7) (v := (.bool true)) #[true, true, true, true, true, true, true, false, false, false, false, false, false, false, false, false, false, false, false, false, false, false, false, false, false, false] rfl (by kernel_rfl) (by kernel_rfl) (by kernel_rfl) (by kernel_rfl) (fun _ _ _ h => h) (.inl ⟨by kernel_rfl, fun x_ hu => by kernel_rfl⟩) hG ?_
  simp only [Act.put, List.setIfInBounds_toArray, List.set_cons_zero, List.set_cons_succ, List.getElem_toArray, List.getElem_cons_zero, List.getElem_cons_succ]
  refine any_take (i := 8) (v := (.agg (pairv Ky f))) #[true, true, true, true, true, true, true, true, false, false, false, false, false, false, false, false, false, false, false, false, false, false, false, false, false, false] rfl (by kernel_rfl) (by kernel_rfl) (by kernel_rfl) (by kernel_rfl) (fun _ _ _ h => h) (.inl ⟨by kernel_rfl, fun x_ hu => exec_pp _ (.tmp 2) rfl (w.heap.size) (by kernel_rfl) Ky hKl f (hu.blk (unhide hqK))⟩) hG ?_
  simp only [Act.put, List.setIfInBounds_toArray, List.set_cons_zero, List.set_cons_succ, List.getElem_toArray, List.getElem_cons_zero, List.getElem_cons_succ]
  refine any_take (i := 9) (v := (.int .u64 r)) #[true, true, true, true, true, true, true, true, true, false, false, false, false, false, false, false, false, false, false, false, false, false, false, false, false, false] rfl (by kernel_rfl) (by kernel_rfl) (by kernel_rfl) (by kernel_rfl) (fun _ _ _ h => h) (.inl ⟨by kernel_rfl, fun x_ hu => by kernel_rfl⟩) hG ?_
  simp only [Act.put, List.setIfInBounds_toArray, List.set_cons_zero, List.set_cons_succ, List.getElem_toArray, List.getElem_cons_zero, List.getElem_cons_succ]
  refine any_take (i := 11) (v := (.agg (pairv Ky f))) #[true, true, true, true, true, true, true, true, true, true, false, false, false, false, false, false, false, false, false, false, false, false, false, false, false, false] rfl (by kernel_rfl) (by kernel_rfl) (by kernel_rfl) (by kernel_rfl) (fun _ _ _ h => h) (.inl ⟨by kernel_rfl, fun x_ hu => exec_pp _ (.tmp 2) rfl (w.heap.size) (by kernel_rfl) Ky hKl f (hu.blk (unhide hqK))⟩) hG ?_
  simp only [Act.put, List.setIfInBounds_toArray, List.set_cons_zero, List.set_cons_succ, List.getElem_toArray, List.getElem_cons_zero, List.getElem_cons_succ]
  refine any_take (i := 12) (v := (.int .u64 r)) #[true, true, true, true, true, true, true, true, true, true, false, true, false, false, false, false, false, false, false, false, false, false, false, false, false, false] rfl (by kernel_rfl) (by kernel_rfl) (by kernel_rfl) (by kernel_rfl) (fun _ _ _ h => h) (.inl ⟨by kernel_rfl, fun x_ hu => by kernel_rfl⟩) hG ?_
  simp only [Act.put, List.setIfInBounds_toArray, List.set_cons_zero, List.set_cons_succ, List.getElem_toArray, List.getElem_cons_zero, List.getElem_cons_succ]
  refine any_one (i := 10) (by kernel_rfl) rfl (fun K hK => ?_)
  refine step_callw (by kernel_rfl) 24 #[.agg (pairv Ky f), .int .u64 r, .bool true] (by kernel_rfl) ((roundkey_ok r hr.1 Ky hKl (unhide hKb) f true _ ((unhide hF).gr ((unhide hB).trans hG))).mono ?_)
  rintro r z3 ⟨rfl, hg⟩
  refine ⟨_, rfl, ?_⟩
  replace hG := hG.trans hg
  clear hg
  obtain ⟨RT, hRT⟩ : ∃ t, t = rkL r Ky f true := ⟨_, rfl⟩
  have hRTl : RT.length = 32 := by rw [hRT]; exact rkL_len _ _ _ _
  rw [← hRT]
  replace hRT := hide hRT
  refine hK.out _ _ hG (fun _ => ?_)
  clear hK K
  simp only [Act.put, List.setIfInBounds_toArray, List.set_cons_zero, List.set_cons_succ, List.getElem_toArray, List.getElem_cons_zero, List.getElem_cons_succ]
  refine any_one (i := 13) (by kernel_rfl) rfl (fun K hK => ?_)
  refine step_callw (by kernel_rfl) 25 #[.agg (pairv Ky f), .int .u64 r, .bool true] (by kernel_rfl) ((eroundkey_ok r hr Ky hKl (unhide hKb) f true _ ((unhide hF).gr ((unhide hB).trans hG))).mono ?_)
  rintro r z4 ⟨rfl, hg⟩
  refine ⟨_, rfl, ?_⟩
  replace hG := hG.trans hg
  clear hg
  rw [← unhide hRT]
  refine hK.out _ _ hG (fun _ => ?_)
  clear hK K
  simp only [Act.put, List.setIfInBounds_toArray, List.set_cons_zero, List.set_cons_succ, List.getElem_toArray, List.getElem_cons_zero, List.getElem_cons_succ]
  refine any_take (i := 14) (v := (.bool true)) #[true, true, true, true, true, true, true, true, true, true, true, true, true, true, false, false, false, false, false, false, false, false, false, false, false, false] rfl (by kernel_rfl) (by kernel_rfl) (by kernel_rfl) (by kernel_rfl) (fun _ _ _ h => h) (.inl ⟨by kernel_rfl, fun x_ hu => exec_eq_k _ (.tmp 17) (.tmp 20) rfl RT RT hRTl hRTl (by kernel_rfl) (by kernel_rfl) (by kernel_rfl) true (by simp)⟩) hG ?_
  simp only [Act.put, List.setIfInBounds_toArray, List.set_cons_zero, List.set_cons_succ, List.getElem_toArray, List.getElem_cons_zero, List.getElem_cons_succ]
  refine any_take (i := 15) (v := (.bool true)) #[true, true, true, true, true, true, true, true, true, true, true, true, true, true, true, false, false, false, false, false, false, false, false, false, false, false] rfl (by kernel_rfl) (by kernel_rfl) (by kernel_rfl) (by kernel_rfl) (fun _ _ _ h => h) (.inl ⟨by kernel_rfl, fun x_ hu => by kernel_rfl⟩) hG ?_
  simp only [Act.put, List.setIfInBounds_toArray, List.set_cons_zero, List.set_cons_succ, List.getElem_toArray, List.getElem_cons_zero, List.getElem_cons_succ]
  refine any_take (i := 16) (v := (.bool true)) #[true, true, true, true, true, true, true, true, true, true, true, true, true, true, true, true, false, false, false, false, false, false, false, false, false, false] rfl (by kernel_rfl) (by kernel_rfl) (by kernel_rfl) (by kernel_rfl) (fun _ _ _ h => h) (.inl ⟨by kernel_rfl, fun x_ hu => by kernel_rfl⟩) hG ?_
  simp only [Act.put, List.setIfInBounds_toArray, List.set_cons_zero, List.set_cons_succ, List.getElem_toArray, List.getElem_cons_zero, List.getElem_cons_succ]
  refine any_take (i := 17) (v := (.agg (pairv Ky f))) #[true, true, true, true, true, true, true, true, true, true, true, true, true, true, true, true, true, false, false, false, false, false, false, false, false, false] rfl (by kernel_rfl) (by kernel_rfl) (by kernel_rfl) (by kernel_rfl) (fun _ _ _ h => h) (.inl ⟨by kernel_rfl, fun x_ hu => exec_pp _ (.tmp 2) rfl (w.heap.size) (by kernel_rfl) Ky hKl f (hu.blk (unhide hqK))⟩) hG ?_
  simp only [Act.put, List.setIfInBounds_toArray, List.set_cons_zero, List.set_cons_succ, List.getElem_toArray, List.getElem_cons_zero, List.getElem_cons_succ]
  refine any_take (i := 18) (v := (.int .u64 r)) #[true, true, true, true, true, true, true, true, true, true, true, true, true, true, true, true, true, true, false, false, false, false, false, false, false, false] rfl (by kernel_rfl) (by kernel_rfl) (by kernel_rfl) (by kernel_rfl) (fun _ _ _ h => h) (.inl ⟨by kernel_rfl, fun x_ hu => by kernel_rfl⟩) hG ?_
  simp only [Act.put, List.setIfInBounds_toArray, List.set_cons_zero, List.set_cons_succ, List.getElem_toArray, List.getElem_cons_zero, List.getElem_cons_succ]
  refine any_take (i := 20) (v := (.agg (pairv Ky f))) #[true, true, true, true, true, true, true, true, true, true, true, true, true, true, true, true, true, true, true, false, false, false, false, false, false, false] rfl (by kernel_rfl) (by kernel_rfl) (by kernel_rfl) (by kernel_rfl) (fun _ _ _ h => h) (.inl ⟨by kernel_rfl, fun x_ hu => exec_pp _ (.tmp 2) rfl (w.heap.size) (by kernel_rfl) Ky hKl f (hu.blk (unhide hqK))⟩) hG ?_
  simp only [Act.put, List.setIfInBounds_toArray, List.set_cons_zero, List.set_cons_succ, List.getElem_toArray, List.getElem_cons_zero, List.getElem_cons_succ]
  refine any_take (i := 21) (v := (.int .u64 r)) #[true, true, true, true, true, true, true, true, true, true, true, true, true, true, true, true, true, true, true, false, true, false, false, false, false, false] rfl (by kernel_rfl) (by kernel_rfl) (by kernel_rfl) (by kernel_rfl) (fun _ _ _ h => h) (.inl ⟨by kernel_rfl, fun x_ hu => by kernel_rfl⟩) hG ?_
  simp only [Act.put, List.setIfInBounds_toArray, List.set_cons_zero, List.set_cons_succ, List.getElem_toArray, List.getElem_cons_zero, List.getElem_cons_succ]
  refine any_one (i := 19) (by kernel_rfl) rfl (fun K hK => ?_)
  refine step_callw (by kernel_rfl) 24 #[.agg (pairv Ky f), .int .u64 r, .bool false] (by kernel_rfl) ((roundkey_ok r hr.1 Ky hKl (unhide hKb) f false _ ((unhide hF).gr ((unhide hB).trans hG))).mono ?_)
  rintro r z5 ⟨rfl, hg⟩
  refine ⟨_, rfl, ?_⟩
  replace hG := hG.trans hg
  clear hg
  obtain ⟨RF, hRF⟩ : ∃ t, t = rkL r Ky f false := ⟨_, rfl⟩
  have hRFl : RF.length = 32 := by rw [hRF]; exact rkL_len _ _ _ _
  rw [← hRF]
  replace hRF := hide hRF
  refine hK.out _ _ hG (fun _ => ?_)
  clear hK K
  simp only [Act.put, List.setIfInBounds_toArray, List.set_cons_zero, List.set_cons_succ, List.getElem_toArray, List.getElem_cons_zero, List.getElem_cons_succ]
  refine any_one (i := 22) (by kernel_rfl) rfl (fun K hK => ?_)
  refine step_callw (by kernel_rfl) 25 #[.agg (pairv Ky f), .int .u64 r, .bool false] (by kernel_rfl) ((eroundkey_ok r hr Ky hKl (unhide hKb) f false _ ((unhide hF).gr ((unhide hB).trans hG))).mono ?_)
  rintro r z6 ⟨rfl, hg⟩
  refine ⟨_, rfl, ?_⟩
  replace hG := hG.trans hg
  clear hg
  rw [← unhide hRF]
  refine hK.out _ _ hG (fun _ => ?_)
  clear hK K
  simp only [Act.put, List.setIfInBounds_toArray, List.set_cons_zero, List.set_cons_succ, List.getElem_toArray, List.getElem_cons_zero, List.getElem_cons_succ]
  refine any_take (i := 23) (v := (.bool true)) #[true, true, true, true, true, true, true, true, true, true, true, true, true, true, true, true, true, true, true, true, true, true, true, false, false, false] rfl (by kernel_rfl) (by kernel_rfl) (by kernel_rfl) (by kernel_rfl) (fun _ _ _ h => h) (.inl ⟨by kernel_rfl, fun x_ hu => exec_eq_k _ (.tmp 26) (.tmp 29) rfl RF RF hRFl hRFl (by kernel_rfl) (by kernel_rfl) (by kernel_rfl) true (by simp)⟩) hG ?_
  simp only [Act.put, List.setIfInBounds_toArray, List.set_cons_zero, List.set_cons_succ, List.getElem_toArray, List.getElem_cons_zero, List.getElem_cons_succ]
  refine any_take (i := 24) (v := (.bool true)) #[true, true, true, true, true, true, true, true, true, true, true, true, true, true, true, true, true, true, true, true, true, true, true, true, false, false] rfl (by kernel_rfl) (by kernel_rfl) (by kernel_rfl) (by kernel_rfl) (fun _ _ _ h => h) (.inl ⟨by kernel_rfl, fun x_ hu => by kernel_rfl⟩) hG ?_
  simp only [Act.put, List.setIfInBounds_toArray, List.set_cons_zero, List.set_cons_succ, List.getElem_toArray, List.getElem_cons_zero, List.getElem_cons_succ]
  refine any_one (i := 25) (by kernel_rfl) rfl (fun K hK => ?_)
  replace hK := hide hK
  go_simp
  refine (unhide hK).out _ _ hG (fun _ => ?_)
  clear hK K
  refine any_done (by kernel_rfl) ?_
  have hZ : Hid (T (.returned (.bool true)) z6) := by
    rw [unhide hT]
    exact ⟨rfl, (unhide hB).trans hG⟩
  go_wp2_with fail
  exact unhide hZ
end Go.Proofs.YtpmgmpihmpifgaaDoor
