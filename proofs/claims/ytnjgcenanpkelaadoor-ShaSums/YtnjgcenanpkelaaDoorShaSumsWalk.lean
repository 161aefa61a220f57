/-
  The hash of bytes is the document's: the walk.
-/
import Derived.Test.YtnjgcenanpkelaaDoorShaRsum
namespace Go.Proofs.YtnjgcenanpkelaaDoor
open Go.RowKit
set_option maxRecDepth 100000
set_option linter.unusedVariables false
set_option linter.unusedSimpArgs false

set_option maxHeartbeats 2000000 in
theorem sums_ok (B : List Int) (hb : IsB B) (a : Option Addr) (n cap : Nat) (hn : B.length = n) (hcap : n ≤ cap) (hcb : cap ≤ 140737488351232) (w : World) (hF : Fst w) (hA : Sl w a B) :
    Calls Tryd.prog 3 #[.slice a n cap] w (Woke w) := by
  obtain ⟨T, hT⟩ : ∃ T, T = Woke w := ⟨_, rfl⟩
  rw [← hT]
  replace hT := hide hT
  have hF0 := hide hF
  replace hF := hide hF
  replace hA := hide hA
  replace hb := hide hb
  replace hn := hide hn
  go_enter Tryd.func3, Tryd.ntmps3
  go_upto_region 3 with (go_at_call 9; refine (wakes_ok _ (unhide hF)).mono ?_; rintro e u1 ⟨rfl, hG⟩)
  replace hA := (unhide hA).gr hG
  replace hF := (unhide hF0).gr hG
  clear hF0
  refine wp_region_lit ?_
  iterate 1 (refine wpList_step fun K hK => ?_; replace hK := hide hK; go_simp; refine unhide hK _ _ ?_; clear hK K)
  refine list_call 10 #[.slice a n cap] (by kernel_rfl) (by kernel_rfl) ((room_ok B a n cap (unhide hn) (by omega) _ hA).mono ?_)
  rintro r u2 ⟨v2, rfl, hR, hg⟩
  refine ⟨_, rfl, ?_⟩
  obtain ⟨go, co, rfl, hgo, hco, hcm, hat7, hat⟩ := hR.sl
  have hlt : n < (B ++ [7]).length := by rw [List.length_append, unhide hn]; simp
  have c7 := hat7 n hlt
  have e7 : (B ++ [7]).getD n 0 = 7 := by rw [← unhide hn]; simp
  rw [e7, Nat.zero_add] at c7
  replace hat : Sl u2 (some ⟨go, 0, none⟩) B := .inr ⟨go, 0, rfl, hat⟩
  replace hA := hA.gr hg
  replace hF := hF.gr hg
  replace hG := hG.trans hg
  clear hg hgo hR hat7 e7 hlt
  simp only [Act.put, List.setIfInBounds_toArray, List.set_cons_zero, List.set_cons_succ, List.getElem_toArray, List.getElem_cons_zero, List.getElem_cons_succ]
  replace hA := hide hA
  replace hF := hide hF
  replace hG := hide hG
  replace hat := hide hat
  iterate 1 (refine wpList_step fun K hK => ?_; replace hK := hide hK; go_simp; refine unhide hK _ _ ?_; clear hK K)
  refine wpList_nil ?_
  have hcc : co < 9223372036854775808 := by unfold maxLen at hcm; omega
  go_upto_region 4 with fail
  refine wp_region_lit ?_
  iterate 1 (refine wpList_step fun K hK => ?_; replace hK := hide hK; go_simp; refine unhide hK _ _ ?_; clear hK K)
  refine list_call 11 #[.slice (some ⟨go, 0, none⟩) n co] (by kernel_rfl) (by kernel_rfl) ((sum_ok B (unhide hb) n (unhide hn) (by omega) _ co (by omega) hcc _ (unhide hF) (unhide hat)).mono ?_)
  rintro r u3 ⟨rfl, hg⟩
  refine ⟨_, rfl, ?_⟩
  replace hA := (unhide hA).gr hg
  replace hF := (unhide hF).gr hg
  replace hG := (unhide hG).trans hg
  replace hat := (unhide hat).gr hg
  replace c7 := hg.cell c7
  clear hg
  simp only [Act.put, List.setIfInBounds_toArray, List.set_cons_zero, List.set_cons_succ, List.getElem_toArray, List.getElem_cons_zero, List.getElem_cons_succ]
  obtain ⟨kk, hkk0⟩ : ∃ kk, kk = sumL B := ⟨_, rfl⟩
  have hkk : kk.length = 32 := by rw [hkk0]; exact sumL_len B
  rw [← hkk0]
  replace hkk0 := hide hkk0
  iterate 1 (refine wpList_step fun K hK => ?_; replace hK := hide hK; go_simp; refine unhide hK _ _ ?_; clear hK K)
  have hL := (Bl.nil u3).new #[.int .u8 0, .int .u8 0, .int .u8 0, .int .u8 0, .int .u8 0, .int .u8 0, .int .u8 0, .int .u8 0, .int .u8 0, .int .u8 0, .int .u8 0, .int .u8 0, .int .u8 0, .int .u8 0, .int .u8 0, .int .u8 0, .int .u8 0, .int .u8 0, .int .u8 0, .int .u8 0, .int .u8 0, .int .u8 0, .int .u8 0, .int .u8 0, .int .u8 0, .int .u8 0, .int .u8 0, .int .u8 0, .int .u8 0, .int .u8 0, .int .u8 0, .int .u8 0] 26
  simp only [List.nil_append] at hL
  generalize World.alloc _ _ = u4 at *
  replace hL : Bl u3 [⟨u3.heap.size, kc Z32, 26⟩] u4 := hL
  refine list_store 26 (.tmp 4) (.tmp 10) u3.heap.size (kc kk) 26 (kc Z32) (by kernel_rfl) rfl (by kernel_rfl) (by kernel_rfl) (hL.get 0 (x := ⟨u3.heap.size, kc Z32, 26⟩) rfl) (by rw [Tryd.infoKey, kc_size, hkk]) ((show (kc Z32).size = 32 from rfl).trans ((kc_size _).trans hkk).symm) (kc_one _) ?_
  replace hL := hL.set 0 (x := ⟨u3.heap.size, kc Z32, 26⟩) rfl (kc kk)
  simp only [List.set_cons_zero, List.set_cons_succ] at hL
  generalize World.setRow _ _ _ = u5 at *
  simp only [Act.put, List.setIfInBounds_toArray, List.set_cons_zero, List.set_cons_succ, List.getElem_toArray, List.getElem_cons_zero, List.getElem_cons_succ]
  refine wpList_nil ?_
  have hg := hL.gr
  have hk := hL.get 0 (x := ⟨u3.heap.size, kc kk, 26⟩) rfl
  dsimp only at hk
  generalize u3.heap.size = gk at *
  replace hA := hA.gr hg
  replace hF := hF.gr hg
  replace hG := hG.trans hg
  replace hat := hat.gr hg
  replace c7 := hg.cell c7
  clear hL hg
  replace hA := hide hA
  replace hF := hide hF
  replace hG := hide hG
  replace hat := hide hat
  go_upto_region 5 with fail
  replace hA := unhide hA
  replace hF := unhide hF
  replace hG := unhide hG
  replace hat := unhide hat
  have w1 : IntKind.i64.wrap ((n : Int) + 1) = (n : Int) + 1 := by rw [IntKind.wrap_i64]; omega
  have w2 : 0 ≤ (n : Int) + 1 ∧ (n : Int) + 1 ≤ (co : Int) := by omega
  have w3 : n + 1 ≤ co := hco
  have w4 : (n : Int) < (n : Int) + 1 := by omega
  refine any_start (S := fun v => v.heap[gk]? = some (.cells (kc kk) 26 (0, 0)) ∧ v.cell? ⟨go, n, none⟩ = some (.int .u8 7)) (by kernel_rfl) ?_
  have hg := (Gr.refl u5).drew
  generalize World.drew _ = u6 at *
  replace hA := hA.gr hg
  replace hF := hF.gr hg
  replace hG := hG.trans hg
  replace hat := hat.gr hg
  replace c7 := hg.cell c7
  replace hk := hg.blk hk
  clear hg
  simp only [List.size_toArray, List.length_cons, List.length_nil, Array.replicate, List.replicate]
  refine any_take (i := 0) (v := (.agg (kc kk))) #[false, false, false, false, false, false, false, false, false, false, false, false, false, false, false, false, false, false, false, false, false, false, false, false, false, false, false, false] rfl (by kernel_rfl) (by kernel_rfl) (by kernel_rfl) (by kernel_rfl) (fun _ _ _ h => h) (.inl ⟨by kernel_rfl, fun x_ hu => exec_arr x_ 26 (.tmp 4) rfl gk (by kernel_rfl) (kc kk) 26 _ hu.1 Tryd.underlying26 rfl (by rw [Tryd.infoKey, kc_size, hkk])⟩) ⟨hk, c7⟩ ?_
  simp only [Act.put, List.setIfInBounds_toArray, List.set_cons_zero, List.set_cons_succ, List.getElem_toArray, List.getElem_cons_zero, List.getElem_cons_succ]
  refine any_take (i := 1) (v := (.slice a n cap)) #[true, false, false, false, false, false, false, false, false, false, false, false, false, false, false, false, false, false, false, false, false, false, false, false, false, false, false, false] rfl (by kernel_rfl) (by kernel_rfl) (by kernel_rfl) (by kernel_rfl) (fun _ _ _ h => h) (.inl ⟨by kernel_rfl, fun x_ hu => by kernel_rfl⟩) ⟨hk, c7⟩ ?_
  simp only [Act.put, List.setIfInBounds_toArray, List.set_cons_zero, List.set_cons_succ, List.getElem_toArray, List.getElem_cons_zero, List.getElem_cons_succ]
  refine any_one (i := 2) (by kernel_rfl) rfl (fun K hK => ?_)
  refine step_callw (by kernel_rfl) 12 #[.slice a n cap] (by kernel_rfl) ((rsum_ok B (unhide hb) n (unhide hn) (by omega) a cap _ hA).mono ?_)
  rintro r v1_ ⟨rfl, hg⟩
  refine ⟨_, rfl, ?_⟩
  rw [← unhide hkk0]
  replace hA := hA.gr hg
  replace hF := hF.gr hg
  replace hG := hG.trans hg
  replace hat := hat.gr hg
  replace c7 := hg.cell c7
  replace hk := hg.blk hk
  clear hg
  refine hK.out _ _ ⟨hk, c7⟩ (fun _ => ?_)
  clear hK K
  simp only [Act.put, List.setIfInBounds_toArray, List.set_cons_zero, List.set_cons_succ, List.getElem_toArray, List.getElem_cons_zero, List.getElem_cons_succ]
  refine any_take (i := 3) (v := (.bool true)) #[true, true, true, false, false, false, false, false, false, false, false, false, false, false, false, false, false, false, false, false, false, false, false, false, false, false, false, false] rfl (by kernel_rfl) (by kernel_rfl) (by kernel_rfl) (by kernel_rfl) (fun _ _ _ h => h) (.inl ⟨by kernel_rfl, fun x_ hu => by have e := key_refl kk hkk; go_simp⟩) ⟨hk, c7⟩ ?_
  simp only [Act.put, List.setIfInBounds_toArray, List.set_cons_zero, List.set_cons_succ, List.getElem_toArray, List.getElem_cons_zero, List.getElem_cons_succ]
  refine any_take (i := 4) (v := (.bool true)) #[true, true, true, true, false, false, false, false, false, false, false, false, false, false, false, false, false, false, false, false, false, false, false, false, false, false, false, false] rfl (by kernel_rfl) (by kernel_rfl) (by kernel_rfl) (by kernel_rfl) (fun _ _ _ h => h) (.inl ⟨by kernel_rfl, fun x_ hu => by kernel_rfl⟩) ⟨hk, c7⟩ ?_
  simp only [Act.put, List.setIfInBounds_toArray, List.set_cons_zero, List.set_cons_succ, List.getElem_toArray, List.getElem_cons_zero, List.getElem_cons_succ]
  refine any_take (i := 5) (v := (.slice (some ⟨go, 0, none⟩) n co)) #[true, true, true, true, true, false, false, false, false, false, false, false, false, false, false, false, false, false, false, false, false, false, false, false, false, false, false, false] rfl (by kernel_rfl) (by kernel_rfl) (by kernel_rfl) (by kernel_rfl) (fun _ _ _ h => h) (.inl ⟨by kernel_rfl, fun x_ hu => by kernel_rfl⟩) ⟨hk, c7⟩ ?_
  simp only [Act.put, List.setIfInBounds_toArray, List.set_cons_zero, List.set_cons_succ, List.getElem_toArray, List.getElem_cons_zero, List.getElem_cons_succ]
  refine any_take (i := 6) (v := (.slice a n cap)) #[true, true, true, true, true, true, false, false, false, false, false, false, false, false, false, false, false, false, false, false, false, false, false, false, false, false, false, false] rfl (by kernel_rfl) (by kernel_rfl) (by kernel_rfl) (by kernel_rfl) (fun _ _ _ h => h) (.inl ⟨by kernel_rfl, fun x_ hu => by kernel_rfl⟩) ⟨hk, c7⟩ ?_
  simp only [Act.put, List.setIfInBounds_toArray, List.set_cons_zero, List.set_cons_succ, List.getElem_toArray, List.getElem_cons_zero, List.getElem_cons_succ]
  refine any_one (i := 7) (by kernel_rfl) rfl (fun K hK => ?_)
  refine step_callw (by kernel_rfl) 13 #[.slice (some ⟨go, 0, none⟩) n co, .slice a n cap] (by kernel_rfl) ((equal_same B _ a n co cap (unhide hn) _ hat hA).mono ?_)
  rintro r v2_ ⟨rfl, rfl⟩
  refine ⟨_, rfl, ?_⟩
  refine hK.out _ _ ⟨hk, c7⟩ (fun _ => ?_)
  clear hK K
  simp only [Act.put, List.setIfInBounds_toArray, List.set_cons_zero, List.set_cons_succ, List.getElem_toArray, List.getElem_cons_zero, List.getElem_cons_succ]
  refine any_take (i := 8) (v := (.bool true)) #[true, true, true, true, true, true, true, true, false, false, false, false, false, false, false, false, false, false, false, false, false, false, false, false, false, false, false, false] rfl (by kernel_rfl) (by kernel_rfl) (by kernel_rfl) (by kernel_rfl) (fun _ _ _ h => h) (.inl ⟨by kernel_rfl, fun x_ hu => by kernel_rfl⟩) ⟨hk, c7⟩ ?_
  simp only [Act.put, List.setIfInBounds_toArray, List.set_cons_zero, List.set_cons_succ, List.getElem_toArray, List.getElem_cons_zero, List.getElem_cons_succ]
  refine any_take (i := 9) (v := (.bool true)) #[true, true, true, true, true, true, true, true, true, false, false, false, false, false, false, false, false, false, false, false, false, false, false, false, false, false, false, false] rfl (by kernel_rfl) (by kernel_rfl) (by kernel_rfl) (by kernel_rfl) (fun _ _ _ h => h) (.inl ⟨by kernel_rfl, fun x_ hu => by kernel_rfl⟩) ⟨hk, c7⟩ ?_
  simp only [Act.put, List.setIfInBounds_toArray, List.set_cons_zero, List.set_cons_succ, List.getElem_toArray, List.getElem_cons_zero, List.getElem_cons_succ]
  refine any_take (i := 10) (v := (.slice (some ⟨go, 0, none⟩) n co)) #[true, true, true, true, true, true, true, true, true, true, false, false, false, false, false, false, false, false, false, false, false, false, false, false, false, false, false, false] rfl (by kernel_rfl) (by kernel_rfl) (by kernel_rfl) (by kernel_rfl) (fun _ _ _ h => h) (.inl ⟨by kernel_rfl, fun x_ hu => by kernel_rfl⟩) ⟨hk, c7⟩ ?_
  simp only [Act.put, List.setIfInBounds_toArray, List.set_cons_zero, List.set_cons_succ, List.getElem_toArray, List.getElem_cons_zero, List.getElem_cons_succ]
  refine any_take (i := 11) (v := (.slice a n cap)) #[true, true, true, true, true, true, true, true, true, true, true, false, false, false, false, false, false, false, false, false, false, false, false, false, false, false, false, false] rfl (by kernel_rfl) (by kernel_rfl) (by kernel_rfl) (by kernel_rfl) (fun _ _ _ h => h) (.inl ⟨by kernel_rfl, fun x_ hu => by kernel_rfl⟩) ⟨hk, c7⟩ ?_
  simp only [Act.put, List.setIfInBounds_toArray, List.set_cons_zero, List.set_cons_succ, List.getElem_toArray, List.getElem_cons_zero, List.getElem_cons_succ]
  refine any_take (i := 12) (v := (.int .i64 n)) #[true, true, true, true, true, true, true, true, true, true, true, true, false, false, false, false, false, false, false, false, false, false, false, false, false, false, false, false] rfl (by kernel_rfl) (by kernel_rfl) (by kernel_rfl) (by kernel_rfl) (fun _ _ _ h => h) (.inl ⟨by kernel_rfl, fun x_ hu => by kernel_rfl⟩) ⟨hk, c7⟩ ?_
  simp only [Act.put, List.setIfInBounds_toArray, List.set_cons_zero, List.set_cons_succ, List.getElem_toArray, List.getElem_cons_zero, List.getElem_cons_succ]
  refine any_take (i := 13) (v := (.int .i64 ((n : Int) + 1))) #[true, true, true, true, true, true, true, true, true, true, true, true, true, false, false, false, false, false, false, false, false, false, false, false, false, false, false, false] rfl (by kernel_rfl) (by kernel_rfl) (by kernel_rfl) (by kernel_rfl) (fun _ _ _ h => h) (.inl ⟨by kernel_rfl, fun x_ hu => by go_simp⟩) ⟨hk, c7⟩ ?_
  simp only [Act.put, List.setIfInBounds_toArray, List.set_cons_zero, List.set_cons_succ, List.getElem_toArray, List.getElem_cons_zero, List.getElem_cons_succ]
  refine any_take (i := 14) (v := (.slice (some ⟨go, 0, none⟩) (n + 1) co)) #[true, true, true, true, true, true, true, true, true, true, true, true, true, true, false, false, false, false, false, false, false, false, false, false, false, false, false, false] rfl (by kernel_rfl) (by kernel_rfl) (by kernel_rfl) (by kernel_rfl) (fun _ _ _ h => h) (.inl ⟨by kernel_rfl, fun x_ hu => by go_simp⟩) ⟨hk, c7⟩ ?_
  simp only [Act.put, List.setIfInBounds_toArray, List.set_cons_zero, List.set_cons_succ, List.getElem_toArray, List.getElem_cons_zero, List.getElem_cons_succ]
  refine any_take (i := 15) (v := (.slice a n cap)) #[true, true, true, true, true, true, true, true, true, true, true, true, true, true, true, false, false, false, false, false, false, false, false, false, false, false, false, false] rfl (by kernel_rfl) (by kernel_rfl) (by kernel_rfl) (by kernel_rfl) (fun _ _ _ h => h) (.inl ⟨by kernel_rfl, fun x_ hu => by kernel_rfl⟩) ⟨hk, c7⟩ ?_
  simp only [Act.put, List.setIfInBounds_toArray, List.set_cons_zero, List.set_cons_succ, List.getElem_toArray, List.getElem_cons_zero, List.getElem_cons_succ]
  refine any_take (i := 16) (v := (.int .i64 n)) #[true, true, true, true, true, true, true, true, true, true, true, true, true, true, true, true, false, false, false, false, false, false, false, false, false, false, false, false] rfl (by kernel_rfl) (by kernel_rfl) (by kernel_rfl) (by kernel_rfl) (fun _ _ _ h => h) (.inl ⟨by kernel_rfl, fun x_ hu => by kernel_rfl⟩) ⟨hk, c7⟩ ?_
  simp only [Act.put, List.setIfInBounds_toArray, List.set_cons_zero, List.set_cons_succ, List.getElem_toArray, List.getElem_cons_zero, List.getElem_cons_succ]
  refine any_take (i := 17) (v := (.pointer (some ⟨go, n, none⟩))) #[true, true, true, true, true, true, true, true, true, true, true, true, true, true, true, true, true, false, false, false, false, false, false, false, false, false, false, false] rfl (by kernel_rfl) (by kernel_rfl) (by kernel_rfl) (by kernel_rfl) (fun _ _ _ h => h) (.inl ⟨by kernel_rfl, fun x_ hu => by go_simp⟩) ⟨hk, c7⟩ ?_
  simp only [Act.put, List.setIfInBounds_toArray, List.set_cons_zero, List.set_cons_succ, List.getElem_toArray, List.getElem_cons_zero, List.getElem_cons_succ]
  refine any_take (i := 18) (v := (.int .u8 7)) #[true, true, true, true, true, true, true, true, true, true, true, true, true, true, true, true, true, true, false, false, false, false, false, false, false, false, false, false] rfl (by kernel_rfl) (by kernel_rfl) (by kernel_rfl) (by kernel_rfl) (fun _ _ _ h => h) (.inl ⟨by kernel_rfl, fun x_ hu => by have c := hu.2; go_simp⟩) ⟨hk, c7⟩ ?_
  simp only [Act.put, List.setIfInBounds_toArray, List.set_cons_zero, List.set_cons_succ, List.getElem_toArray, List.getElem_cons_zero, List.getElem_cons_succ]
  refine any_take (i := 19) (v := (.bool true)) #[true, true, true, true, true, true, true, true, true, true, true, true, true, true, true, true, true, true, true, false, false, false, false, false, false, false, false, false] rfl (by kernel_rfl) (by kernel_rfl) (by kernel_rfl) (by kernel_rfl) (fun _ _ _ h => h) (.inl ⟨by kernel_rfl, fun x_ hu => by kernel_rfl⟩) ⟨hk, c7⟩ ?_
  simp only [Act.put, List.setIfInBounds_toArray, List.set_cons_zero, List.set_cons_succ, List.getElem_toArray, List.getElem_cons_zero, List.getElem_cons_succ]
  refine any_take (i := 20) (v := (.bool true)) #[true, true, true, true, true, true, true, true, true, true, true, true, true, true, true, true, true, true, true, true, false, false, false, false, false, false, false, false] rfl (by kernel_rfl) (by kernel_rfl) (by kernel_rfl) (by kernel_rfl) (fun _ _ _ h => h) (.inl ⟨by kernel_rfl, fun x_ hu => by kernel_rfl⟩) ⟨hk, c7⟩ ?_
  simp only [Act.put, List.setIfInBounds_toArray, List.set_cons_zero, List.set_cons_succ, List.getElem_toArray, List.getElem_cons_zero, List.getElem_cons_succ]
  refine any_take (i := 21) (v := (.bool true)) #[true, true, true, true, true, true, true, true, true, true, true, true, true, true, true, true, true, true, true, true, true, false, false, false, false, false, false, false] rfl (by kernel_rfl) (by kernel_rfl) (by kernel_rfl) (by kernel_rfl) (fun _ _ _ h => h) (.inl ⟨by kernel_rfl, fun x_ hu => by kernel_rfl⟩) ⟨hk, c7⟩ ?_
  simp only [Act.put, List.setIfInBounds_toArray, List.set_cons_zero, List.set_cons_succ, List.getElem_toArray, List.getElem_cons_zero, List.getElem_cons_succ]
  refine any_take (i := 22) (v := (.slice a n cap)) #[true, true, true, true, true, true, true, true, true, true, true, true, true, true, true, true, true, true, true, true, true, true, false, false, false, false, false, false] rfl (by kernel_rfl) (by kernel_rfl) (by kernel_rfl) (by kernel_rfl) (fun _ _ _ h => h) (.inl ⟨by kernel_rfl, fun x_ hu => by kernel_rfl⟩) ⟨hk, c7⟩ ?_
  simp only [Act.put, List.setIfInBounds_toArray, List.set_cons_zero, List.set_cons_succ, List.getElem_toArray, List.getElem_cons_zero, List.getElem_cons_succ]
  refine any_take (i := 24) (v := (.agg (kc kk))) #[true, true, true, true, true, true, true, true, true, true, true, true, true, true, true, true, true, true, true, true, true, true, true, false, false, false, false, false] rfl (by kernel_rfl) (by kernel_rfl) (by kernel_rfl) (by kernel_rfl) (fun _ _ _ h => h) (.inl ⟨by kernel_rfl, fun x_ hu => exec_arr x_ 26 (.tmp 4) rfl gk (by kernel_rfl) (kc kk) 26 _ hu.1 Tryd.underlying26 rfl (by rw [Tryd.infoKey, kc_size, hkk])⟩) ⟨hk, c7⟩ ?_
  simp only [Act.put, List.setIfInBounds_toArray, List.set_cons_zero, List.set_cons_succ, List.getElem_toArray, List.getElem_cons_zero, List.getElem_cons_succ]
  refine any_one (i := 23) (by kernel_rfl) rfl (fun K hK => ?_)
  refine step_callw (by kernel_rfl) 11 #[.slice a n cap] (by kernel_rfl) ((sum_ok B (unhide hb) n (unhide hn) (by omega) a cap hcap (by omega) _ hF hA).mono ?_)
  rintro r v3_ ⟨rfl, hg⟩
  refine ⟨_, rfl, ?_⟩
  rw [← unhide hkk0]
  replace hA := hA.gr hg
  replace hF := hF.gr hg
  replace hG := hG.trans hg
  replace hat := hat.gr hg
  replace c7 := hg.cell c7
  replace hk := hg.blk hk
  clear hg
  refine hK.out _ _ ⟨hk, c7⟩ (fun _ => ?_)
  clear hK K
  simp only [Act.put, List.setIfInBounds_toArray, List.set_cons_zero, List.set_cons_succ, List.getElem_toArray, List.getElem_cons_zero, List.getElem_cons_succ]
  refine any_take (i := 25) (v := (.bool true)) #[true, true, true, true, true, true, true, true, true, true, true, true, true, true, true, true, true, true, true, true, true, true, true, true, true, false, false, false] rfl (by kernel_rfl) (by kernel_rfl) (by kernel_rfl) (by kernel_rfl) (fun _ _ _ h => h) (.inl ⟨by kernel_rfl, fun x_ hu => by have e := key_refl kk hkk; go_simp⟩) ⟨hk, c7⟩ ?_
  simp only [Act.put, List.setIfInBounds_toArray, List.set_cons_zero, List.set_cons_succ, List.getElem_toArray, List.getElem_cons_zero, List.getElem_cons_succ]
  refine any_take (i := 26) (v := (.bool true)) #[true, true, true, true, true, true, true, true, true, true, true, true, true, true, true, true, true, true, true, true, true, true, true, true, true, true, false, false] rfl (by kernel_rfl) (by kernel_rfl) (by kernel_rfl) (by kernel_rfl) (fun _ _ _ h => h) (.inl ⟨by kernel_rfl, fun x_ hu => by kernel_rfl⟩) ⟨hk, c7⟩ ?_
  simp only [Act.put, List.setIfInBounds_toArray, List.set_cons_zero, List.set_cons_succ, List.getElem_toArray, List.getElem_cons_zero, List.getElem_cons_succ]
  refine any_one (i := 27) (by kernel_rfl) rfl (fun K hK => ?_)
  replace hK := hide hK
  go_simp
  refine (unhide hK).out _ _ ⟨hk, c7⟩ (fun _ => ?_)
  clear hK K
  refine any_done (by kernel_rfl) ?_
  clear hk c7
  replace hG := hide hG
  clear hA hF hat
  go_wp2_with fail
  rw [unhide hT]
  exact ⟨rfl, unhide hG⟩
end Go.Proofs.YtnjgcenanpkelaaDoor
