/-
  Of layer 16: what the proof leans on.
-/
import Derived.Test.YtpmgmpihmpifgaaDoorYK7
namespace Go.Proofs.YtpmgmpihmpifgaaDoor
open Go.RowKit
set_option maxRecDepth 100000
set_option linter.unusedSimpArgs false
set_option linter.unusedVariables false
theorem eq_P (D : List Int) (hD : D.length = 32) (f : Bool) (w : World) : (Op.equalIn 10000 36 (.agg (pairv D f)) (.agg (pairv D f))).run Tryd.prog w = .ok true w := by
  rw [run_equalIn_struct w 9999 36 _ _ (by kernel_rfl) (by kernel_rfl)]
  refine eqFields_self _ _ _ _ (fun x hx => ?_)
  simp [Program.fieldsOf, Tryd.underlying36] at hx
  rcases hx with rfl | rfl
  · refine ⟨by decide, _, part_row Tryd.underlying25 Tryd.infoKey _ _ _, eq_bytes Tryd.underlying25 9997 _ (fun i hi => ⟨D.getD i 0, ?_⟩) w⟩
    rw [ext_at _ 0 32 i hi (by rw [pairv_size, hD]; omega), Nat.zero_add]
    unfold pairv
    rw [List.getElem?_toArray, List.getElem?_append_left (by rw [List.length_map]; omega), List.getElem?_map, List.getElem?_eq_getElem (by omega), List.getD_eq_getElem?_getD, List.getElem?_eq_getElem (by omega)]
    rfl
  · refine ⟨by decide, .bool f, ?_, run_equalIn_bool' w 9998 4 f f Tryd.underlying4 |>.trans (by simp)⟩
    have h : (pairv D f)[32]? = some (.bool f) := by
      unfold pairv
      rw [List.getElem?_toArray, List.getElem?_append_right (by rw [List.length_map]; omega), List.length_map, hD]
      rfl
    simp [part, isAgg, Sem.run_bind, run_underlying Tryd.underlying4, h]
theorem exec_eqP {a : Act} {o : Oper} (w : World) (x y : Operand) (ho : o.op = .binOp .eql 36 x y 36) (D : List Int) (hD : D.length = 32) (f : Bool) (hx : a.eval x = .agg (pairv D f)) (hy : a.eval y = .agg (pairv D f)) (hg : (eqGuard .eql 36 x y (.agg (pairv D f)) (.agg (pairv D f))).run Tryd.prog w = .ok () w) : (execOp a.eval o).run Tryd.prog w = .ok (.value (.bool true)) w := by
  have he := eq_P D hD f w
  unfold execOp
  simp only [ho, hx, hy, Sem.run_bind, hg, Result.andThen_ok, run_eql_struct, he, Sem.run_pure]
theorem both_pair (A U : List Int) (hA : IsK A) (hU : IsK U) : ∃ D f e, D.length = 32 ∧ (∀ w, Fst w → Calls Tryd.prog 18 #[.agg (kc A), .agg (kc U)] w (Prd D f e w)) ∧ (∀ w, Fst w → Calls Tryd.prog 19 #[.agg (kc A), .agg (kc U)] w (Prd D f e w)) := by
  by_cases h1 : U = pubL A
  · exact ⟨_, _, _, rfl, fun w hF => pair_own A U hA hU h1 w hF, fun w hF => epair_own A U hA hU h1 w hF⟩
  · by_cases h2 : NLow A U
    · exact ⟨_, _, _, prK_len A U, fun w hF => pair_yes A U hA hU h1 h2 w hF, fun w hF => epair_yes A U hA hU h1 h2 w hF⟩
    · exact ⟨_, _, _, rfl, fun w hF => pair_low A U hA hU h1 h2 w hF, fun w hF => epair_low A U hA hU h1 h2 w hF⟩
set_option maxHeartbeats 4000000 in
theorem ipairs_ok (A U : List Int) (hA : IsK A) (hU : IsK U) (w : World) (hF : Fst w) : Calls Tryd.prog 5 #[.agg (kc A), .agg (kc U)] w (Bod true w) := by
  obtain ⟨T, hT⟩ : ∃ T, T = Bod true w := ⟨_, rfl⟩
  rw [← hT]
  replace hT := hide hT
  have hAl := hA.1
  have hUl := hU.1
  obtain ⟨D, f, e, hDl, hi, he⟩ := both_pair A U hA hU
  obtain ⟨SA, hSA⟩ : ∃ S, S = kc A := ⟨_, rfl⟩
  obtain ⟨SU, hSU⟩ : ∃ S, S = kc U := ⟨_, rfl⟩
  rw [← hSA, ← hSU]
  replace hSA := hide hSA
  replace hSU := hide hSU
  replace hA := hide hA
  replace hU := hide hU
  replace hF := hide hF
  replace hi := hide hi
  replace he := hide he
  go_enter Tryd.func5, Tryd.ntmps5
  go_upto_region 1 with fail
  have hB := (((Bl.nil w).new SA 25).new SU 25)
  simp only [size_alloc, List.nil_append, List.cons_append] at hB
  generalize World.alloc _ _ = u at *
  rw [unhide hSA, unhide hSU] at hB
  replace hB : Bl w [⟨w.heap.size, kc A, 25⟩, ⟨w.heap.size + 1, kc U, 25⟩] u := hB
  refine wp_region_lit ?_
  refine list_call 9 #[] (by kernel_rfl) (by kernel_rfl) ((wakes16_ok _ ((unhide hF).gr hB.gr)).mono ?_)
  rintro r_ w_ ⟨rfl, hg⟩
  replace hB := hB.more hg
  clear hg
  refine ⟨_, rfl, ?_⟩
  simp only [nrm]
  refine list_val (.bool false) (by kernel_rfl) (by kernel_rfl) ?_
  simp only [nrm]
  refine wpList_nil ?_
  replace hB := hide hB
  go_upto_region 3 with fail
  replace hB := unhide hB
  refine wp_region_lit ?_
  refine list_val (.agg (kc A)) (by kernel_rfl) (exec_arr _ 25 (.tmp 2) rfl (w.heap.size) (by kernel_rfl) (kc A) 25 _ (hB.get 0 (x := ⟨w.heap.size, kc A, 25⟩) rfl) Tryd.underlying25 rfl (by rw [Tryd.infoKey, kc_size, hAl])) ?_
  simp only [nrm]
  refine list_val (.agg (kc U)) (by kernel_rfl) (exec_arr _ 25 (.tmp 3) rfl (w.heap.size + 1) (by kernel_rfl) (kc U) 25 _ (hB.get 1 (x := ⟨w.heap.size + 1, kc U, 25⟩) rfl) Tryd.underlying25 rfl (by rw [Tryd.infoKey, kc_size, hUl])) ?_
  simp only [nrm]
  refine list_call 18 #[.agg (kc A), .agg (kc U)] (by kernel_rfl) (by kernel_rfl) ((unhide hi w_ ((unhide hF).gr hB.gr)).mono ?_)
  rintro r_ y1 ⟨rfl, hg⟩
  replace hB := hB.more hg
  clear hg
  refine ⟨_, rfl, ?_⟩
  simp only [nrm]
  refine list_val (.tuple #[.agg (pairv D f), .int .i64 e]) (by kernel_rfl) (by kernel_rfl) ?_
  simp only [nrm]
  refine list_val (.agg (pairv D f)) (by kernel_rfl) (by kernel_rfl) ?_
  simp only [nrm]
  refine list_val (.int .i64 e) (by kernel_rfl) (by kernel_rfl) ?_
  simp only [nrm]
  refine list_valw (.pointer (some ⟨y1.heap.size, 0, none⟩)) (y1.alloc (.cells (pairv Z32 false) 36 (0, 0))) (by kernel_rfl) (by kernel_rfl) ?_
  replace hB := hB.new (pairv Z32 false) 36
  simp only [List.nil_append, List.cons_append] at hB
  generalize World.alloc _ _ = y2 at *
  generalize y1.heap.size = gp at *
  replace hB : Bl w [⟨w.heap.size, kc A, 25⟩, ⟨w.heap.size + 1, kc U, 25⟩, ⟨gp, pairv Z32 false, 36⟩] y2 := hB
  simp only [nrm]
  refine list_store 36 (.tmp 5) (.tmp 15) gp (pairv D f) 36 (pairv Z32 false) (by kernel_rfl) rfl (by kernel_rfl) (by kernel_rfl) (hB.get 2 (x := ⟨gp, pairv Z32 false, 36⟩) rfl) (by rw [Tryd.infoPair, pairv_size, hDl]) (by rw [pairv_size, pairv_size, hDl]; rfl) (pairv_one _ _) ?_
  replace hB := hB.set 2 (x := ⟨gp, pairv Z32 false, 36⟩) rfl (pairv D f)
  simp only [List.set_cons_zero, List.set_cons_succ] at hB
  generalize World.setRow _ _ _ = y3 at *
  simp only [nrm]
  (refine wpList_step fun K hK => ?_; replace hK := hide hK; go_simp; refine unhide hK _ _ ?_; clear hK K)
  refine wpList_nil ?_
  replace hB := hide hB
  go_upto_region 4 with fail
  replace hB := unhide hB
  refine wp_region_lit ?_
  refine list_val (.agg (kc A)) (by kernel_rfl) (exec_arr _ 25 (.tmp 2) rfl (w.heap.size) (by kernel_rfl) (kc A) 25 _ (hB.get 0 (x := ⟨w.heap.size, kc A, 25⟩) rfl) Tryd.underlying25 rfl (by rw [Tryd.infoKey, kc_size, hAl])) ?_
  simp only [nrm]
  refine list_val (.agg (kc U)) (by kernel_rfl) (exec_arr _ 25 (.tmp 3) rfl (w.heap.size + 1) (by kernel_rfl) (kc U) 25 _ (hB.get 1 (x := ⟨w.heap.size + 1, kc U, 25⟩) rfl) Tryd.underlying25 rfl (by rw [Tryd.infoKey, kc_size, hUl])) ?_
  simp only [nrm]
  refine list_call 19 #[.agg (kc A), .agg (kc U)] (by kernel_rfl) (by kernel_rfl) ((unhide he y3 ((unhide hF).gr hB.gr)).mono ?_)
  rintro r_ y4 ⟨rfl, hg⟩
  replace hB := hB.more hg
  clear hg
  refine ⟨_, rfl, ?_⟩
  simp only [nrm]
  refine list_val (.tuple #[.agg (pairv D f), .int .i64 e]) (by kernel_rfl) (by kernel_rfl) ?_
  simp only [nrm]
  refine list_val (.agg (pairv D f)) (by kernel_rfl) (by kernel_rfl) ?_
  simp only [nrm]
  refine list_val (.int .i64 e) (by kernel_rfl) (by kernel_rfl) ?_
  simp only [nrm]
  refine list_valw (.pointer (some ⟨y4.heap.size, 0, none⟩)) (y4.alloc (.cells (pairv Z32 false) 36 (0, 0))) (by kernel_rfl) (by kernel_rfl) ?_
  replace hB := hB.new (pairv Z32 false) 36
  simp only [List.nil_append, List.cons_append] at hB
  generalize World.alloc _ _ = y5 at *
  generalize y4.heap.size = gq at *
  replace hB : Bl w [⟨w.heap.size, kc A, 25⟩, ⟨w.heap.size + 1, kc U, 25⟩, ⟨gp, pairv D f, 36⟩, ⟨gq, pairv Z32 false, 36⟩] y5 := hB
  simp only [nrm]
  refine list_store 36 (.tmp 7) (.tmp 21) gq (pairv D f) 36 (pairv Z32 false) (by kernel_rfl) rfl (by kernel_rfl) (by kernel_rfl) (hB.get 3 (x := ⟨gq, pairv Z32 false, 36⟩) rfl) (by rw [Tryd.infoPair, pairv_size, hDl]) (by rw [pairv_size, pairv_size, hDl]; rfl) (pairv_one _ _) ?_
  replace hB := hB.set 3 (x := ⟨gq, pairv Z32 false, 36⟩) rfl (pairv D f)
  simp only [List.set_cons_zero, List.set_cons_succ] at hB
  generalize World.setRow _ _ _ = y6 at *
  simp only [nrm]
  (refine wpList_step fun K hK => ?_; replace hK := hide hK; go_simp; refine unhide hK _ _ ?_; clear hK K)
  refine wpList_nil ?_
  replace hB := hide hB
  go_upto_region 5 with fail
  replace hB := unhide hB
  refine any_start (S := fun (v : World) => Gr y6 v) (by kernel_rfl) ?_
  have hG : Gr y6 (World.drew y6) := (Gr.refl _).drew
  generalize World.drew _ = x0 at *
  have hqA := hide (hB.get 0 (x := ⟨w.heap.size, kc A, 25⟩) rfl)
  have hqU := hide (hB.get 1 (x := ⟨w.heap.size + 1, kc U, 25⟩) rfl)
  have hqp := hide (hB.get 2 (x := ⟨gp, pairv D f, 36⟩) rfl)
  have hqq := hide (hB.get 3 (x := ⟨gq, pairv D f, 36⟩) rfl)
  dsimp only at hqA hqU hqp hqq
  replace hB := hide hB.gr
  simp only [List.size_toArray, List.length_cons, List.length_nil, Array.replicate, List.replicate]
  refine any_take (i := 0) (v := (.agg (pairv D f))) #[false, false, false, false, false, false, false, false, false, false, false, false, false, false, false, false, false, false] rfl (by kernel_rfl) (by kernel_rfl) (by kernel_rfl) (by kernel_rfl) (fun _ _ _ h => h) (.inl ⟨by kernel_rfl, fun x_ hu => exec_pp _ (.tmp 5) rfl gp (by kernel_rfl) D hDl f (hu.blk (unhide hqp))⟩) hG ?_
  simp only [nrm]
  refine any_take (i := 1) (v := (.agg (pairv D f))) #[true, false, false, false, false, false, false, false, false, false, false, false, false, false, false, false, false, false] rfl (by kernel_rfl) (by kernel_rfl) (by kernel_rfl) (by kernel_rfl) (fun _ _ _ h => h) (.inl ⟨by kernel_rfl, fun x_ hu => exec_pp _ (.tmp 7) rfl gq (by kernel_rfl) D hDl f (hu.blk (unhide hqq))⟩) hG ?_
  simp only [nrm]
  refine any_take (i := 2) (v := (.bool true)) #[true, true, false, false, false, false, false, false, false, false, false, false, false, false, false, false, false, false] rfl (by kernel_rfl) (by kernel_rfl) (by kernel_rfl) (by kernel_rfl) (fun _ _ _ h => h) (.inl ⟨by kernel_rfl, fun x_ hu => exec_eqP _ (.tmp 23) (.tmp 24) rfl D hDl f (by kernel_rfl) (by kernel_rfl) (by kernel_rfl)⟩) hG ?_
  simp only [nrm]
  refine any_take (i := 3) (v := (.bool true)) #[true, true, true, false, false, false, false, false, false, false, false, false, false, false, false, false, false, false] rfl (by kernel_rfl) (by kernel_rfl) (by kernel_rfl) (by kernel_rfl) (fun _ _ _ h => h) (.inl ⟨by kernel_rfl, fun x_ hu => by kernel_rfl⟩) hG ?_
  simp only [nrm]
  refine any_take (i := 4) (v := (.int .i64 e)) #[true, true, true, true, false, false, false, false, false, false, false, false, false, false, false, false, false, false] rfl (by kernel_rfl) (by kernel_rfl) (by kernel_rfl) (by kernel_rfl) (fun _ _ _ h => h) (.inl ⟨by kernel_rfl, fun x_ hu => by kernel_rfl⟩) hG ?_
  simp only [nrm]
  refine any_take (i := 5) (v := (.int .i64 e)) #[true, true, true, true, true, false, false, false, false, false, false, false, false, false, false, false, false, false] rfl (by kernel_rfl) (by kernel_rfl) (by kernel_rfl) (by kernel_rfl) (fun _ _ _ h => h) (.inl ⟨by kernel_rfl, fun x_ hu => by kernel_rfl⟩) hG ?_
  simp only [nrm]
  refine any_take (i := 6) (v := (.bool true)) #[true, true, true, true, true, true, false, false, false, false, false, false, false, false, false, false, false, false] rfl (by kernel_rfl) (by kernel_rfl) (by kernel_rfl) (by kernel_rfl) (fun _ _ _ h => h) (.inl ⟨by kernel_rfl, fun x_ hu => by go_simp⟩) hG ?_
  simp only [nrm]
  refine any_take (i := 7) (v := (.bool true)) #[true, true, true, true, true, true, true, false, false, false, false, false, false, false, false, false, false, false] rfl (by kernel_rfl) (by kernel_rfl) (by kernel_rfl) (by kernel_rfl) (fun _ _ _ h => h) (.inl ⟨by kernel_rfl, fun x_ hu => by kernel_rfl⟩) hG ?_
  simp only [nrm]
  refine any_take (i := 8) (v := (.bool true)) #[true, true, true, true, true, true, true, true, false, false, false, false, false, false, false, false, false, false] rfl (by kernel_rfl) (by kernel_rfl) (by kernel_rfl) (by kernel_rfl) (fun _ _ _ h => h) (.inl ⟨by kernel_rfl, fun x_ hu => by kernel_rfl⟩) hG ?_
  simp only [nrm]
  refine any_take (i := 9) (v := (.agg (kc A))) #[true, true, true, true, true, true, true, true, true, false, false, false, false, false, false, false, false, false] rfl (by kernel_rfl) (by kernel_rfl) (by kernel_rfl) (by kernel_rfl) (fun _ _ _ h => h) (.inl ⟨by kernel_rfl, fun x_ hu => exec_arr _ 25 (.tmp 2) rfl (w.heap.size) (by kernel_rfl) (kc A) 25 _ (hu.blk (unhide hqA)) Tryd.underlying25 rfl (by rw [Tryd.infoKey, kc_size, hAl])⟩) hG ?_
  simp only [nrm]
  refine any_take (i := 10) (v := (.agg (kc U))) #[true, true, true, true, true, true, true, true, true, true, false, false, false, false, false, false, false, false] rfl (by kernel_rfl) (by kernel_rfl) (by kernel_rfl) (by kernel_rfl) (fun _ _ _ h => h) (.inl ⟨by kernel_rfl, fun x_ hu => exec_arr _ 25 (.tmp 3) rfl (w.heap.size + 1) (by kernel_rfl) (kc U) 25 _ (hu.blk (unhide hqU)) Tryd.underlying25 rfl (by rw [Tryd.infoKey, kc_size, hUl])⟩) hG ?_
  simp only [nrm]
  refine any_take (i := 12) (v := (.agg (kc A))) #[true, true, true, true, true, true, true, true, true, true, true, false, false, false, false, false, false, false] rfl (by kernel_rfl) (by kernel_rfl) (by kernel_rfl) (by kernel_rfl) (fun _ _ _ h => h) (.inl ⟨by kernel_rfl, fun x_ hu => exec_arr _ 25 (.tmp 2) rfl (w.heap.size) (by kernel_rfl) (kc A) 25 _ (hu.blk (unhide hqA)) Tryd.underlying25 rfl (by rw [Tryd.infoKey, kc_size, hAl])⟩) hG ?_
  simp only [nrm]
  refine any_take (i := 13) (v := (.agg (kc U))) #[true, true, true, true, true, true, true, true, true, true, true, false, true, false, false, false, false, false] rfl (by kernel_rfl) (by kernel_rfl) (by kernel_rfl) (by kernel_rfl) (fun _ _ _ h => h) (.inl ⟨by kernel_rfl, fun x_ hu => exec_arr _ 25 (.tmp 3) rfl (w.heap.size + 1) (by kernel_rfl) (kc U) 25 _ (hu.blk (unhide hqU)) Tryd.underlying25 rfl (by rw [Tryd.infoKey, kc_size, hUl])⟩) hG ?_
  simp only [nrm]
  refine any_one (i := 11) (by kernel_rfl) rfl (fun K hK => ?_)
  refine step_callw (by kernel_rfl) 20 #[.agg (kc A), .agg (kc U)] (by kernel_rfl) ((less_ok A U hAl hUl _).mono ?_)
  rintro r z1 ⟨rfl, hg⟩
  refine ⟨_, rfl, ?_⟩
  replace hG := hG.trans hg
  clear hg
  obtain ⟨lt_, hlt_⟩ : ∃ b, b = ltL A U := ⟨_, rfl⟩
  rw [← hlt_]
  replace hlt_ := hide hlt_
  refine hK.out _ _ hG (fun _ => ?_)
  clear hK K
  simp only [nrm]
  refine any_one (i := 14) (by kernel_rfl) rfl (fun K hK => ?_)
  refine step_callw (by kernel_rfl) 21 #[.agg (kc A), .agg (kc U)] (by kernel_rfl) ((eless_ok A U hAl hUl _).mono ?_)
  rintro r z2 ⟨rfl, hg⟩
  refine ⟨_, rfl, ?_⟩
  replace hG := hG.trans hg
  clear hg
  rw [← unhide hlt_]
  refine hK.out _ _ hG (fun _ => ?_)
  clear hK K
  simp only [nrm]
  refine any_take (i := 15) (v := (.bool true)) #[true, true, true, true, true, true, true, true, true, true, true, true, true, true, true, false, false, false] rfl (by kernel_rfl) (by kernel_rfl) (by kernel_rfl) (by kernel_rfl) (fun _ _ _ h => h) (.inl ⟨by kernel_rfl, fun x_ hu => by cases lt_ <;> kernel_rfl⟩) hG ?_
  simp only [nrm]
  refine any_take (i := 16) (v := (.bool true)) #[true, true, true, true, true, true, true, true, true, true, true, true, true, true, true, true, false, false] rfl (by kernel_rfl) (by kernel_rfl) (by kernel_rfl) (by kernel_rfl) (fun _ _ _ h => h) (.inl ⟨by kernel_rfl, fun x_ hu => by kernel_rfl⟩) hG ?_
  simp only [nrm]
  refine any_one (i := 17) (by kernel_rfl) rfl (fun K hK => ?_)
  replace hK := hide hK
  go_simp
  refine (unhide hK).out _ _ hG (fun _ => ?_)
  clear hK K
  refine any_done (by kernel_rfl) ?_
  have hZ : Hid (T (.returned (.bool true)) z2) := by
    rw [unhide hT]
    exact ⟨rfl, (unhide hB).trans hG⟩
  go_wp2_with fail
  exact unhide hZ
end Go.Proofs.YtpmgmpihmpifgaaDoor
