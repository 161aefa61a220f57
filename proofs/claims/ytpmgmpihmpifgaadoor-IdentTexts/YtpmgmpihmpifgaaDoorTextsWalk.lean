/-
  IdentTexts: a key's text and fingerprint, and which texts are keys: the walk.
-/
import Derived.Test.YtpmgmpihmpifgaaDoorIT
import Derived.Test.YtpmgmpihmpifgaaDoorIQ
namespace Go.Proofs.YtpmgmpihmpifgaaDoor
open Go.RowKit
set_option maxRecDepth 100000
set_option linter.unusedSimpArgs false
set_option linter.unusedVariables false
theorem fpL_isB (H : List Int) (h : IsB H) : ∀ n, IsB (fpL H n)
  | 0 => by intro x hx; cases hx
  | n + 1 => by
    have ih := fpL_isB H h n
    have hb := h.at_ n
    rw [fpL]
    refine isB_append ?_ ?_
    · split
      · exact isB_append ih (by intro x hx; rw [List.mem_singleton.1 hx]; omega)
      · exact ih
    · intro x hx
      simp only [List.mem_cons, List.not_mem_nil, or_false] at hx
      rcases hx with rfl | rfl
      · exact hx_rng _ (by omega) (by omega)
      · exact hx_rng _ (by omega) (by omega)
theorem exec_min300 {a : Act} {o : Oper} (w : World) (x : Operand) (ho : o.op = .call { callee := .builtin .min, args := #[x, .const (.int .i64 300)], argTypes := #[3, 3] }) (n N : Nat) (hx : a.eval x = .int .i64 n) (hN : N = min n 300) :
    (execOp a.eval o).run Tryd.prog w = .ok (.value (.int .i64 (N : Int))) w := by
  have hz : a.eval (.const (.int .i64 300)) = .int .i64 300 := rfl
  simp [execOp, ho, resolve, invoke, builtin, hx, hz, Builtin.min_, Builtin.min2]
  repeat' split
  all_goals omega
set_option maxHeartbeats 4000000 in
theorem texts_str (K : List Int) (hK : K.length = 32) (hKb : IsB K) (L : List Int) (hL : IsB L) (w : World) (hF : Fst w) : Calls Tryd.prog 4 #[.agg (kc K), .string (strOfNums L)] w (Bod true w) := by
  obtain ⟨T, hT⟩ : ∃ T, T = Bod true w := ⟨_, rfl⟩
  rw [← hT]
  replace hT := hide hT
  replace hF := hide hF
  replace hKb := hide hKb
  obtain ⟨SS, hSS⟩ : ∃ S, S = strOfNums L := ⟨_, rfl⟩
  obtain ⟨m, hm⟩ : ∃ m, m = L.length := ⟨_, rfl⟩
  obtain ⟨N, hN⟩ : ∃ N, N = min m 300 := ⟨_, rfl⟩
  obtain ⟨M, hM⟩ : ∃ M, M = L.take N := ⟨_, rfl⟩
  have hMb : IsB M := by rw [hM]; exact fun x hx => hL x (List.mem_of_mem_take hx)
  have hMl : M.length < 4611686018427387904 := by rw [hM, List.length_take]; omega
  rw [← hSS]
  replace hSS := hide hSS; replace hm := hide hm; replace hN := hide hN; replace hM := hide hM; replace hMb := hide hMb; replace hMl := hide hMl
  clear hL
  obtain ⟨KK, hKK⟩ : ∃ X, X = kc K := ⟨_, rfl⟩
  rw [← hKK]
  replace hKK := hide hKK
  go_enter Tryd.func4, Tryd.ntmps4
  go_upto_region 1 with fail
  have hB := (Bl.nil w).new KK 25
  simp only [List.nil_append, List.cons_append, size_alloc] at hB
  generalize World.alloc _ _ = u at *
  rw [unhide hKK] at hB
  replace hB : Bl w [⟨w.heap.size, kc K, 25⟩] u := hB
  refine wp_region_lit ?_
  refine list_call 9 #[] (by kernel_rfl) (by kernel_rfl) ((wakes16_ok _ ((unhide hF).gr hB.gr)).mono ?_)
  rintro r_ w_ ⟨rfl, hg⟩
  replace hB := hB.more hg
  clear hg
  refine ⟨_, rfl, ?_⟩
  simp only [Act.put, List.setIfInBounds_toArray, List.set_cons_zero, List.set_cons_succ, List.getElem_toArray, List.getElem_cons_zero, List.getElem_cons_succ]
  refine list_val (.bool false) (by kernel_rfl) (by kernel_rfl) ?_
  simp only [Act.put, List.setIfInBounds_toArray, List.set_cons_zero, List.set_cons_succ, List.getElem_toArray, List.getElem_cons_zero, List.getElem_cons_succ]
  refine wpList_nil ?_
  replace hB := hide hB
  go_upto_region 3 with fail
  replace hB := unhide hB
  refine wp_region_lit ?_
  refine list_val (.string SS) (by kernel_rfl) (by kernel_rfl) ?_
  simp only [Act.put, List.setIfInBounds_toArray, List.set_cons_zero, List.set_cons_succ, List.getElem_toArray, List.getElem_cons_zero, List.getElem_cons_succ]
  refine list_val (.string SS) (by kernel_rfl) (by kernel_rfl) ?_
  simp only [Act.put, List.setIfInBounds_toArray, List.set_cons_zero, List.set_cons_succ, List.getElem_toArray, List.getElem_cons_zero, List.getElem_cons_succ]
  refine list_val (.int .i64 (m : Int)) (by kernel_rfl) (exec_slen _ (.tmp 12) rfl L m (unhide hm).symm (by rw [← unhide hSS]; kernel_rfl)) ?_
  simp only [Act.put, List.setIfInBounds_toArray, List.set_cons_zero, List.set_cons_succ, List.getElem_toArray, List.getElem_cons_zero, List.getElem_cons_succ]
  refine list_val (.int .i64 (N : Int)) (by kernel_rfl) (exec_min300 _ (.tmp 13) rfl m N (by kernel_rfl) (unhide hN)) ?_
  simp only [Act.put, List.setIfInBounds_toArray, List.set_cons_zero, List.set_cons_succ, List.getElem_toArray, List.getElem_cons_zero, List.getElem_cons_succ]
  refine list_val (.string (strOfNums M)) (by kernel_rfl) (by rw [unhide hM]; exact exec_supto _ (.tmp 11) (.tmp 14) rfl L .i64 N (by rw [← unhide hSS]; kernel_rfl) (by kernel_rfl) (by rw [← unhide hm]; have := unhide hN; omega)) ?_
  simp only [Act.put, List.setIfInBounds_toArray, List.set_cons_zero, List.set_cons_succ, List.getElem_toArray, List.getElem_cons_zero, List.getElem_cons_succ]
  (refine wpList_step fun K hK => ?_; replace hK := hide hK; go_simp; refine unhide hK _ _ ?_; clear hK K)
  refine wpList_nil ?_
  replace hB := hide hB
  go_upto_region 4 with fail
  replace hB := unhide hB
  refine wp_region_lit ?_
  refine list_val (.string (strOfNums M)) (by kernel_rfl) (by kernel_rfl) ?_
  simp only [Act.put, List.setIfInBounds_toArray, List.set_cons_zero, List.set_cons_succ, List.getElem_toArray, List.getElem_cons_zero, List.getElem_cons_succ]
  refine list_call 12 #[.string (strOfNums M)] (by kernel_rfl) (by kernel_rfl) ((ikey_ok M (unhide hMb) _).mono ?_)
  rintro r_ u1 ⟨hr, hg⟩
  obtain ⟨Y, hY⟩ : ∃ Y, Y = kyK M := ⟨_, rfl⟩
  obtain ⟨e, he⟩ : ∃ Y, Y = kyE M := ⟨_, rfl⟩
  obtain ⟨p, hp⟩ : ∃ Y, Y = kyP M := ⟨_, rfl⟩
  have hYl : Y.length = 32 := by
    rw [hY]
    unfold kyK
    split
    · exact kyS_len _ _
    · rfl
  rw [← hY, ← he, ← hp] at hr
  replace hY := hide hY; replace he := hide he; replace hp := hide hp
  subst hr
  replace hB := hB.more hg
  clear hg
  refine ⟨_, rfl, ?_⟩
  simp only [Act.put, List.setIfInBounds_toArray, List.set_cons_zero, List.set_cons_succ, List.getElem_toArray, List.getElem_cons_zero, List.getElem_cons_succ]
  refine list_val (.tuple #[.agg (kc Y), .agg (spv e p)]) (by kernel_rfl) (by kernel_rfl) ?_
  simp only [Act.put, List.setIfInBounds_toArray, List.set_cons_zero, List.set_cons_succ, List.getElem_toArray, List.getElem_cons_zero, List.getElem_cons_succ]
  refine list_val (.agg (kc Y)) (by kernel_rfl) (by kernel_rfl) ?_
  simp only [Act.put, List.setIfInBounds_toArray, List.set_cons_zero, List.set_cons_succ, List.getElem_toArray, List.getElem_cons_zero, List.getElem_cons_succ]
  refine list_val (.agg (spv e p)) (by kernel_rfl) (by kernel_rfl) ?_
  simp only [Act.put, List.setIfInBounds_toArray, List.set_cons_zero, List.set_cons_succ, List.getElem_toArray, List.getElem_cons_zero, List.getElem_cons_succ]
  refine list_valw (.pointer (some ⟨u1.heap.size, 0, none⟩)) (u1.alloc (.cells (kc Z32) 25 (0, 0))) (by kernel_rfl) (by kernel_rfl) ?_
  replace hB := hB.new (kc Z32) 25
  simp only [List.nil_append, List.cons_append] at hB
  generalize World.alloc _ _ = u2 at *
  generalize u1.heap.size = gx at *
  replace hB : Bl w [⟨w.heap.size, kc K, 25⟩, ⟨gx, kc Z32, 25⟩] u2 := hB
  simp only [Act.put, List.setIfInBounds_toArray, List.set_cons_zero, List.set_cons_succ, List.getElem_toArray, List.getElem_cons_zero, List.getElem_cons_succ]
  refine list_valw (.pointer (some ⟨u2.heap.size, 0, none⟩)) (u2.alloc (.cells (spv 0 0) 28 (0, 0))) (by kernel_rfl) (by kernel_rfl) ?_
  replace hB := hB.new (spv 0 0) 28
  simp only [List.nil_append, List.cons_append] at hB
  generalize World.alloc _ _ = u3 at *
  generalize u2.heap.size = gp at *
  replace hB : Bl w [⟨w.heap.size, kc K, 25⟩, ⟨gx, kc Z32, 25⟩, ⟨gp, spv 0 0, 28⟩] u3 := hB
  simp only [Act.put, List.setIfInBounds_toArray, List.set_cons_zero, List.set_cons_succ, List.getElem_toArray, List.getElem_cons_zero, List.getElem_cons_succ]
  refine list_store 25 (.tmp 5) (.tmp 19) gx (kc Y) 25 (kc Z32) (by kernel_rfl) rfl (by kernel_rfl) (by kernel_rfl) (hB.get 1 (x := ⟨gx, kc Z32, 25⟩) rfl) (by rw [Tryd.infoKey, kc_size, hYl]) (by rw [kc_size, kc_size, hYl]; rfl) (kc_one _) ?_
  replace hB := hB.set 1 (x := ⟨gx, kc Z32, 25⟩) rfl (kc Y)
  simp only [List.set_cons_zero, List.set_cons_succ] at hB
  generalize World.setRow _ _ _ = u4 at *
  simp only [Act.put, List.setIfInBounds_toArray, List.set_cons_zero, List.set_cons_succ, List.getElem_toArray, List.getElem_cons_zero, List.getElem_cons_succ]
  refine list_store 28 (.tmp 6) (.tmp 20) gp (spv e p) 28 (spv 0 0) (by kernel_rfl) rfl (by kernel_rfl) (by kernel_rfl) (hB.get 2 (x := ⟨gp, spv 0 0, 28⟩) rfl) (by rw [Tryd.infoSpot]; rfl) (rfl) (spv_one _ _) ?_
  replace hB := hB.set 2 (x := ⟨gp, spv 0 0, 28⟩) rfl (spv e p)
  simp only [List.set_cons_zero, List.set_cons_succ] at hB
  generalize World.setRow _ _ _ = u5 at *
  simp only [Act.put, List.setIfInBounds_toArray, List.set_cons_zero, List.set_cons_succ, List.getElem_toArray, List.getElem_cons_zero, List.getElem_cons_succ]
  refine wpList_nil ?_
  replace hB := hide hB
  go_upto_region 5 with fail
  replace hB := unhide hB
  refine wp_region_lit ?_
  refine list_val (.string (strOfNums M)) (by kernel_rfl) (by kernel_rfl) ?_
  simp only [Act.put, List.setIfInBounds_toArray, List.set_cons_zero, List.set_cons_succ, List.getElem_toArray, List.getElem_cons_zero, List.getElem_cons_succ]
  refine list_call 13 #[.string (strOfNums M)] (by kernel_rfl) (by kernel_rfl) ((ekey_ok M (unhide hMb) (unhide hMl) _).mono ?_)
  rintro r_ u6 ⟨hr, hg⟩
  rw [← unhide hY, ← unhide he, ← unhide hp] at hr
  subst hr
  replace hB := hB.more hg
  clear hg
  refine ⟨_, rfl, ?_⟩
  simp only [Act.put, List.setIfInBounds_toArray, List.set_cons_zero, List.set_cons_succ, List.getElem_toArray, List.getElem_cons_zero, List.getElem_cons_succ]
  refine list_val (.tuple #[.agg (kc Y), .agg (spv e p)]) (by kernel_rfl) (by kernel_rfl) ?_
  simp only [Act.put, List.setIfInBounds_toArray, List.set_cons_zero, List.set_cons_succ, List.getElem_toArray, List.getElem_cons_zero, List.getElem_cons_succ]
  refine list_val (.agg (kc Y)) (by kernel_rfl) (by kernel_rfl) ?_
  simp only [Act.put, List.setIfInBounds_toArray, List.set_cons_zero, List.set_cons_succ, List.getElem_toArray, List.getElem_cons_zero, List.getElem_cons_succ]
  refine list_val (.agg (spv e p)) (by kernel_rfl) (by kernel_rfl) ?_
  simp only [Act.put, List.setIfInBounds_toArray, List.set_cons_zero, List.set_cons_succ, List.getElem_toArray, List.getElem_cons_zero, List.getElem_cons_succ]
  refine list_valw (.pointer (some ⟨u6.heap.size, 0, none⟩)) (u6.alloc (.cells (kc Z32) 25 (0, 0))) (by kernel_rfl) (by kernel_rfl) ?_
  replace hB := hB.new (kc Z32) 25
  simp only [List.nil_append, List.cons_append] at hB
  generalize World.alloc _ _ = u7 at *
  generalize u6.heap.size = gy at *
  replace hB : Bl w [⟨w.heap.size, kc K, 25⟩, ⟨gx, kc Y, 25⟩, ⟨gp, spv e p, 28⟩, ⟨gy, kc Z32, 25⟩] u7 := hB
  simp only [Act.put, List.setIfInBounds_toArray, List.set_cons_zero, List.set_cons_succ, List.getElem_toArray, List.getElem_cons_zero, List.getElem_cons_succ]
  refine list_valw (.pointer (some ⟨u7.heap.size, 0, none⟩)) (u7.alloc (.cells (spv 0 0) 28 (0, 0))) (by kernel_rfl) (by kernel_rfl) ?_
  replace hB := hB.new (spv 0 0) 28
  simp only [List.nil_append, List.cons_append] at hB
  generalize World.alloc _ _ = u8 at *
  generalize u7.heap.size = gq at *
  replace hB : Bl w [⟨w.heap.size, kc K, 25⟩, ⟨gx, kc Y, 25⟩, ⟨gp, spv e p, 28⟩, ⟨gy, kc Z32, 25⟩, ⟨gq, spv 0 0, 28⟩] u8 := hB
  simp only [Act.put, List.setIfInBounds_toArray, List.set_cons_zero, List.set_cons_succ, List.getElem_toArray, List.getElem_cons_zero, List.getElem_cons_succ]
  refine list_store 25 (.tmp 7) (.tmp 24) gy (kc Y) 25 (kc Z32) (by kernel_rfl) rfl (by kernel_rfl) (by kernel_rfl) (hB.get 3 (x := ⟨gy, kc Z32, 25⟩) rfl) (by rw [Tryd.infoKey, kc_size, hYl]) (by rw [kc_size, kc_size, hYl]; rfl) (kc_one _) ?_
  replace hB := hB.set 3 (x := ⟨gy, kc Z32, 25⟩) rfl (kc Y)
  simp only [List.set_cons_zero, List.set_cons_succ] at hB
  generalize World.setRow _ _ _ = u9 at *
  simp only [Act.put, List.setIfInBounds_toArray, List.set_cons_zero, List.set_cons_succ, List.getElem_toArray, List.getElem_cons_zero, List.getElem_cons_succ]
  refine list_store 28 (.tmp 8) (.tmp 25) gq (spv e p) 28 (spv 0 0) (by kernel_rfl) rfl (by kernel_rfl) (by kernel_rfl) (hB.get 4 (x := ⟨gq, spv 0 0, 28⟩) rfl) (by rw [Tryd.infoSpot]; rfl) (rfl) (spv_one _ _) ?_
  replace hB := hB.set 4 (x := ⟨gq, spv 0 0, 28⟩) rfl (spv e p)
  simp only [List.set_cons_zero, List.set_cons_succ] at hB
  generalize World.setRow _ _ _ = v0 at *
  simp only [Act.put, List.setIfInBounds_toArray, List.set_cons_zero, List.set_cons_succ, List.getElem_toArray, List.getElem_cons_zero, List.getElem_cons_succ]
  refine wpList_nil ?_
  replace hB := hide hB
  go_upto_region 6 with fail
  replace hB := unhide hB
  refine any_start (S := fun (v : World) => Gr v0 v) (by kernel_rfl) ?_
  have hG : Gr v0 (World.drew v0) := (Gr.refl _).drew
  generalize World.drew _ = x0 at *
  have hqK := hide (hB.get 0 (x := ⟨w.heap.size, kc K, 25⟩) rfl)
  have hqx := hide (hB.get 1 (x := ⟨gx, kc Y, 25⟩) rfl)
  have hqp := hide (hB.get 2 (x := ⟨gp, spv e p, 28⟩) rfl)
  have hqy := hide (hB.get 3 (x := ⟨gy, kc Y, 25⟩) rfl)
  have hqq := hide (hB.get 4 (x := ⟨gq, spv e p, 28⟩) rfl)
  dsimp only at hqK hqx hqp hqy hqq
  replace hB := hide hB.gr
  simp only [List.size_toArray, List.length_cons, List.length_nil, Array.replicate, List.replicate]
  refine any_take (i := 0) (v := (.agg (kc K))) #[false, false, false, false, false, false, false, false, false, false, false, false, false, false, false, false, false, false, false, false, false, false, false] rfl (by kernel_rfl) (by kernel_rfl) (by kernel_rfl) (by kernel_rfl) (fun _ _ _ h => h) (.inl ⟨by kernel_rfl, fun x_ hu => exec_arr _ 25 (.tmp 2) rfl (w.heap.size) (by kernel_rfl) (kc K) 25 _ (hu.blk (unhide hqK)) Tryd.underlying25 rfl (by rw [Tryd.infoKey, kc_size, hK])⟩) hG ?_
  simp only [Act.put, List.setIfInBounds_toArray, List.set_cons_zero, List.set_cons_succ, List.getElem_toArray, List.getElem_cons_zero, List.getElem_cons_succ]
  refine any_take (i := 2) (v := (.slice (some ⟨w.heap.size, 0, none⟩) 32 32)) #[true, false, false, false, false, false, false, false, false, false, false, false, false, false, false, false, false, false, false, false, false, false, false] rfl (by kernel_rfl) (by kernel_rfl) (by kernel_rfl) (by kernel_rfl) (fun _ _ _ h => h) (.inl ⟨by kernel_rfl, fun x_ hu => by kernel_rfl⟩) hG ?_
  simp only [Act.put, List.setIfInBounds_toArray, List.set_cons_zero, List.set_cons_succ, List.getElem_toArray, List.getElem_cons_zero, List.getElem_cons_succ]
  refine any_one (i := 1) (by kernel_rfl) rfl (fun K_ hQ => ?_)
  refine step_callw (by kernel_rfl) 14 #[.agg (kc K)] (by kernel_rfl) ((text_ok K hK (unhide hKb) _).mono ?_)
  rintro r z1 ⟨rfl, hg⟩
  refine ⟨_, rfl, ?_⟩
  replace hG := hG.trans hg
  clear hg
  obtain ⟨TX, hTX⟩ : ∃ t, t = txL K := ⟨_, rfl⟩
  have hTXb : IsB TX := by rw [hTX]; exact txL_isB K (unhide hKb)
  rw [← hTX]
  replace hTX := hide hTX; replace hTXb := hide hTXb
  refine hQ.out _ _ hG (fun _ => ?_)
  clear hQ K_
  simp only [Act.put, List.setIfInBounds_toArray, List.set_cons_zero, List.set_cons_succ, List.getElem_toArray, List.getElem_cons_zero, List.getElem_cons_succ]
  refine any_one (i := 3) (by kernel_rfl) rfl (fun K_ hQ => ?_)
  refine step_callw (by kernel_rfl) 15 #[.slice (some ⟨w.heap.size, 0, none⟩) 32 32] (by kernel_rfl) ((edigits_ok K 32 (by omega) (some ⟨w.heap.size, 0, none⟩) 32 _ ⟨hK, unhide hKb, .inr ⟨w.heap.size, 0, rfl, kc_at (hG.blk (unhide hqK))⟩, by omega, by omega⟩).mono ?_)
  rintro r z2 ⟨rfl, hg⟩
  refine ⟨_, rfl, ?_⟩
  replace hG := hG.trans hg
  clear hg
  rw [← unhide hTX]
  refine hQ.out _ _ hG (fun _ => ?_)
  clear hQ K_
  simp only [Act.put, List.setIfInBounds_toArray, List.set_cons_zero, List.set_cons_succ, List.getElem_toArray, List.getElem_cons_zero, List.getElem_cons_succ]
  refine any_take (i := 4) (v := (.bool true)) #[true, true, true, true, false, false, false, false, false, false, false, false, false, false, false, false, false, false, false, false, false, false, false] rfl (by kernel_rfl) (by kernel_rfl) (by kernel_rfl) (by kernel_rfl) (fun _ _ _ h => h) (.inl ⟨by kernel_rfl, fun x_ hu => exec_seq _ (.tmp 27) (.tmp 29) rfl TX TX (unhide hTXb) (unhide hTXb) (by kernel_rfl) (by kernel_rfl) true (by simp)⟩) hG ?_
  simp only [Act.put, List.setIfInBounds_toArray, List.set_cons_zero, List.set_cons_succ, List.getElem_toArray, List.getElem_cons_zero, List.getElem_cons_succ]
  refine any_take (i := 5) (v := (.bool true)) #[true, true, true, true, true, false, false, false, false, false, false, false, false, false, false, false, false, false, false, false, false, false, false] rfl (by kernel_rfl) (by kernel_rfl) (by kernel_rfl) (by kernel_rfl) (fun _ _ _ h => h) (.inl ⟨by kernel_rfl, fun x_ hu => by kernel_rfl⟩) hG ?_
  simp only [Act.put, List.setIfInBounds_toArray, List.set_cons_zero, List.set_cons_succ, List.getElem_toArray, List.getElem_cons_zero, List.getElem_cons_succ]
  refine any_take (i := 6) (v := (.agg (kc K))) #[true, true, true, true, true, true, false, false, false, false, false, false, false, false, false, false, false, false, false, false, false, false, false] rfl (by kernel_rfl) (by kernel_rfl) (by kernel_rfl) (by kernel_rfl) (fun _ _ _ h => h) (.inl ⟨by kernel_rfl, fun x_ hu => exec_arr _ 25 (.tmp 2) rfl (w.heap.size) (by kernel_rfl) (kc K) 25 _ (hu.blk (unhide hqK)) Tryd.underlying25 rfl (by rw [Tryd.infoKey, kc_size, hK])⟩) hG ?_
  simp only [Act.put, List.setIfInBounds_toArray, List.set_cons_zero, List.set_cons_succ, List.getElem_toArray, List.getElem_cons_zero, List.getElem_cons_succ]
  refine any_take (i := 8) (v := (.agg (kc K))) #[true, true, true, true, true, true, true, false, false, false, false, false, false, false, false, false, false, false, false, false, false, false, false] rfl (by kernel_rfl) (by kernel_rfl) (by kernel_rfl) (by kernel_rfl) (fun _ _ _ h => h) (.inl ⟨by kernel_rfl, fun x_ hu => exec_arr _ 25 (.tmp 2) rfl (w.heap.size) (by kernel_rfl) (kc K) 25 _ (hu.blk (unhide hqK)) Tryd.underlying25 rfl (by rw [Tryd.infoKey, kc_size, hK])⟩) hG ?_
  simp only [Act.put, List.setIfInBounds_toArray, List.set_cons_zero, List.set_cons_succ, List.getElem_toArray, List.getElem_cons_zero, List.getElem_cons_succ]
  refine any_one (i := 7) (by kernel_rfl) rfl (fun K_ hQ => ?_)
  refine step_callw (by kernel_rfl) 16 #[.agg (kc K)] (by kernel_rfl) ((finger_ok K hK (unhide hKb) _ ((unhide hF).gr ((unhide hB).trans hG))).mono ?_)
  rintro r z3 ⟨rfl, hg⟩
  refine ⟨_, rfl, ?_⟩
  replace hG := hG.trans hg
  clear hg
  obtain ⟨FP, hFP⟩ : ∃ t, t = fpL (sumL K) 8 := ⟨_, rfl⟩
  have hFPb : IsB FP := by rw [hFP]; exact fpL_isB _ (sumL_isB K) 8
  rw [← hFP]
  replace hFP := hide hFP; replace hFPb := hide hFPb
  refine hQ.out _ _ hG (fun _ => ?_)
  clear hQ K_
  simp only [Act.put, List.setIfInBounds_toArray, List.set_cons_zero, List.set_cons_succ, List.getElem_toArray, List.getElem_cons_zero, List.getElem_cons_succ]
  refine any_one (i := 9) (by kernel_rfl) rfl (fun K_ hQ => ?_)
  refine step_callw (by kernel_rfl) 17 #[.agg (kc K)] (by kernel_rfl) ((efinger_ok K hK (unhide hKb) _).mono ?_)
  rintro r z4 ⟨rfl, hg⟩
  refine ⟨_, rfl, ?_⟩
  replace hG := hG.trans hg
  clear hg
  rw [← unhide hFP]
  refine hQ.out _ _ hG (fun _ => ?_)
  clear hQ K_
  simp only [Act.put, List.setIfInBounds_toArray, List.set_cons_zero, List.set_cons_succ, List.getElem_toArray, List.getElem_cons_zero, List.getElem_cons_succ]
  refine any_take (i := 10) (v := (.bool true)) #[true, true, true, true, true, true, true, true, true, true, false, false, false, false, false, false, false, false, false, false, false, false, false] rfl (by kernel_rfl) (by kernel_rfl) (by kernel_rfl) (by kernel_rfl) (fun _ _ _ h => h) (.inl ⟨by kernel_rfl, fun x_ hu => exec_seq _ (.tmp 33) (.tmp 35) rfl FP FP (unhide hFPb) (unhide hFPb) (by kernel_rfl) (by kernel_rfl) true (by simp)⟩) hG ?_
  simp only [Act.put, List.setIfInBounds_toArray, List.set_cons_zero, List.set_cons_succ, List.getElem_toArray, List.getElem_cons_zero, List.getElem_cons_succ]
  refine any_take (i := 11) (v := (.bool true)) #[true, true, true, true, true, true, true, true, true, true, true, false, false, false, false, false, false, false, false, false, false, false, false] rfl (by kernel_rfl) (by kernel_rfl) (by kernel_rfl) (by kernel_rfl) (fun _ _ _ h => h) (.inl ⟨by kernel_rfl, fun x_ hu => by kernel_rfl⟩) hG ?_
  simp only [Act.put, List.setIfInBounds_toArray, List.set_cons_zero, List.set_cons_succ, List.getElem_toArray, List.getElem_cons_zero, List.getElem_cons_succ]
  refine any_take (i := 12) (v := (.bool true)) #[true, true, true, true, true, true, true, true, true, true, true, true, false, false, false, false, false, false, false, false, false, false, false] rfl (by kernel_rfl) (by kernel_rfl) (by kernel_rfl) (by kernel_rfl) (fun _ _ _ h => h) (.inl ⟨by kernel_rfl, fun x_ hu => by kernel_rfl⟩) hG ?_
  simp only [Act.put, List.setIfInBounds_toArray, List.set_cons_zero, List.set_cons_succ, List.getElem_toArray, List.getElem_cons_zero, List.getElem_cons_succ]
  refine any_take (i := 13) (v := (.agg (kc Y))) #[true, true, true, true, true, true, true, true, true, true, true, true, true, false, false, false, false, false, false, false, false, false, false] rfl (by kernel_rfl) (by kernel_rfl) (by kernel_rfl) (by kernel_rfl) (fun _ _ _ h => h) (.inl ⟨by kernel_rfl, fun x_ hu => exec_arr _ 25 (.tmp 5) rfl (gx) (by kernel_rfl) (kc Y) 25 _ (hu.blk (unhide hqx)) Tryd.underlying25 rfl (by rw [Tryd.infoKey, kc_size, hYl])⟩) hG ?_
  simp only [Act.put, List.setIfInBounds_toArray, List.set_cons_zero, List.set_cons_succ, List.getElem_toArray, List.getElem_cons_zero, List.getElem_cons_succ]
  refine any_take (i := 14) (v := (.agg (kc Y))) #[true, true, true, true, true, true, true, true, true, true, true, true, true, true, false, false, false, false, false, false, false, false, false] rfl (by kernel_rfl) (by kernel_rfl) (by kernel_rfl) (by kernel_rfl) (fun _ _ _ h => h) (.inl ⟨by kernel_rfl, fun x_ hu => exec_arr _ 25 (.tmp 7) rfl (gy) (by kernel_rfl) (kc Y) 25 _ (hu.blk (unhide hqy)) Tryd.underlying25 rfl (by rw [Tryd.infoKey, kc_size, hYl])⟩) hG ?_
  simp only [Act.put, List.setIfInBounds_toArray, List.set_cons_zero, List.set_cons_succ, List.getElem_toArray, List.getElem_cons_zero, List.getElem_cons_succ]
  refine any_take (i := 15) (v := (.bool true)) #[true, true, true, true, true, true, true, true, true, true, true, true, true, true, true, false, false, false, false, false, false, false, false] rfl (by kernel_rfl) (by kernel_rfl) (by kernel_rfl) (by kernel_rfl) (fun _ _ _ h => h) (.inl ⟨by kernel_rfl, fun x_ hu => exec_eq_k _ (.tmp 39) (.tmp 40) rfl Y Y hYl hYl (by kernel_rfl) (by kernel_rfl) (by kernel_rfl) true (by simp)⟩) hG ?_
  simp only [Act.put, List.setIfInBounds_toArray, List.set_cons_zero, List.set_cons_succ, List.getElem_toArray, List.getElem_cons_zero, List.getElem_cons_succ]
  refine any_take (i := 16) (v := (.bool true)) #[true, true, true, true, true, true, true, true, true, true, true, true, true, true, true, true, false, false, false, false, false, false, false] rfl (by kernel_rfl) (by kernel_rfl) (by kernel_rfl) (by kernel_rfl) (fun _ _ _ h => h) (.inl ⟨by kernel_rfl, fun x_ hu => by kernel_rfl⟩) hG ?_
  simp only [Act.put, List.setIfInBounds_toArray, List.set_cons_zero, List.set_cons_succ, List.getElem_toArray, List.getElem_cons_zero, List.getElem_cons_succ]
  refine any_take (i := 17) (v := (.bool true)) #[true, true, true, true, true, true, true, true, true, true, true, true, true, true, true, true, true, false, false, false, false, false, false] rfl (by kernel_rfl) (by kernel_rfl) (by kernel_rfl) (by kernel_rfl) (fun _ _ _ h => h) (.inl ⟨by kernel_rfl, fun x_ hu => by kernel_rfl⟩) hG ?_
  simp only [Act.put, List.setIfInBounds_toArray, List.set_cons_zero, List.set_cons_succ, List.getElem_toArray, List.getElem_cons_zero, List.getElem_cons_succ]
  refine any_take (i := 18) (v := (.agg (spv e p))) #[true, true, true, true, true, true, true, true, true, true, true, true, true, true, true, true, true, true, false, false, false, false, false] rfl (by kernel_rfl) (by kernel_rfl) (by kernel_rfl) (by kernel_rfl) (fun _ _ _ h => h) (.inl ⟨by kernel_rfl, fun x_ hu => exec_arr _ 28 (.tmp 6) rfl gp (by kernel_rfl) (spv e p) 28 _ (hu.blk (unhide hqp)) Tryd.underlying28 rfl (by rw [Tryd.infoSpot]; rfl)⟩) hG ?_
  simp only [Act.put, List.setIfInBounds_toArray, List.set_cons_zero, List.set_cons_succ, List.getElem_toArray, List.getElem_cons_zero, List.getElem_cons_succ]
  refine any_take (i := 19) (v := (.agg (spv e p))) #[true, true, true, true, true, true, true, true, true, true, true, true, true, true, true, true, true, true, true, false, false, false, false] rfl (by kernel_rfl) (by kernel_rfl) (by kernel_rfl) (by kernel_rfl) (fun _ _ _ h => h) (.inl ⟨by kernel_rfl, fun x_ hu => exec_arr _ 28 (.tmp 8) rfl gq (by kernel_rfl) (spv e p) 28 _ (hu.blk (unhide hqq)) Tryd.underlying28 rfl (by rw [Tryd.infoSpot]; rfl)⟩) hG ?_
  simp only [Act.put, List.setIfInBounds_toArray, List.set_cons_zero, List.set_cons_succ, List.getElem_toArray, List.getElem_cons_zero, List.getElem_cons_succ]
  refine any_take (i := 20) (v := (.bool true)) #[true, true, true, true, true, true, true, true, true, true, true, true, true, true, true, true, true, true, true, true, false, false, false] rfl (by kernel_rfl) (by kernel_rfl) (by kernel_rfl) (by kernel_rfl) (fun _ _ _ h => h) (.inl ⟨by kernel_rfl, fun x_ hu => exec_eqS _ (.tmp 44) (.tmp 45) rfl e p (by kernel_rfl) (by kernel_rfl) (by kernel_rfl)⟩) hG ?_
  simp only [Act.put, List.setIfInBounds_toArray, List.set_cons_zero, List.set_cons_succ, List.getElem_toArray, List.getElem_cons_zero, List.getElem_cons_succ]
  refine any_take (i := 21) (v := (.bool true)) #[true, true, true, true, true, true, true, true, true, true, true, true, true, true, true, true, true, true, true, true, true, false, false] rfl (by kernel_rfl) (by kernel_rfl) (by kernel_rfl) (by kernel_rfl) (fun _ _ _ h => h) (.inl ⟨by kernel_rfl, fun x_ hu => by kernel_rfl⟩) hG ?_
  simp only [Act.put, List.setIfInBounds_toArray, List.set_cons_zero, List.set_cons_succ, List.getElem_toArray, List.getElem_cons_zero, List.getElem_cons_succ]
  refine any_one (i := 22) (by kernel_rfl) rfl (fun K_ hQ => ?_)
  replace hQ := hide hQ
  go_simp
  refine (unhide hQ).out _ _ hG (fun _ => ?_)
  clear hQ K_
  refine any_done (by kernel_rfl) ?_
  have hZ : Hid (T (.returned (.bool true)) z4) := by
    rw [unhide hT]
    exact ⟨rfl, (unhide hB).trans hG⟩
  go_wp2_with fail
  exact unhide hZ
theorem texts_ok (K : List Int) (hK : K.length = 32) (hKb : IsB K) (s : ByteArray) (w : World) (hF : Fst w) : Calls Tryd.prog 4 #[.agg (kc K), .string s] w (Bod true w) := by
  obtain ⟨L, hL, _, rfl⟩ := str_ex s
  exact texts_str K hK hKb L hL w hF
end Go.Proofs.YtpmgmpihmpifgaaDoor
