/-
  A key's spread is the document's, and other counts are refused: the walk.
-/
import Derived.Test.YthnmebhljkccnaaDoorKdfK
import Derived.Test.YthnmebhljkccnaaDoorKdfCodesWalk
namespace Go.Proofs.YthnmebhljkccnaaDoor
open Go.RowKit
set_option maxRecDepth 100000
set_option linter.unusedSimpArgs false
set_option linter.unusedVariables false

set_option maxHeartbeats 4000000 in
theorem spreads_ok (KY : List Int) (hKb : IsB KY) (hKl : KY.length = 32) (I : List Int) (a : Option Addr) (n c : Nat) (hnb : n ≤ 140737488351232) (N : Int) (w : World) (hF : Fst w) (hA : Lb w a n c I) :
    Calls Tryd.prog 4 #[.agg (kc KY), .slice a n c, .int .i64 N] w (Woke w) := by
  obtain ⟨T, hT⟩ : ∃ T, T = Woke w := ⟨_, rfl⟩
  rw [← hT]
  obtain ⟨KK, hKK⟩ : ∃ KK, KK = kc KY := ⟨_, rfl⟩
  rw [← hKK]
  have hKs : KK.size = 32 := by rw [hKK, kc_size, hKl]
  replace hT := hide hT
  replace hF := hide hF
  have la := hide hA.len
  replace hA := hide hA
  replace hKK := hide hKK
  replace hKb := hide hKb
  have hI : Hid (Gr w (w.alloc (.cells KK 28))) := (Gr.refl w).alloc _
  have hk0 : Hid ((w.alloc (.cells KK 28)).heap[w.heap.size]? = some (.cells KK 28 (0, 0))) := blk_new _ _
  have hF2 := hide ((unhide hF).gr (unhide hI))
  go_enter Tryd.func4, Tryd.ntmps4
  go_upto_region 3 with (go_at_call 9; refine (wakes_ok _ (unhide hF2)).mono ?_; rintro e u1 ⟨rfl, hG⟩)
  have hk := hG.blk (unhide hk0)
  replace hG := hide ((unhide hI).trans hG)
  clear hI hk0 hF2
  replace hk := hide hk
  refine wp_region_lit ?_
  iterate 1 (refine wpList_step fun K hK => ?_; replace hK := hide hK; go_simp; refine unhide hK _ _ ?_; clear hK K)
  refine list_valw (.slice (some ⟨u1.heap.size, 0, none⟩) 1 1) (u1.alloc (.cells #[.slice a n c] 22 (0, 0))) (by kernel_rfl) (by kernel_rfl) ?_
  simp only [Act.put, List.setIfInBounds_toArray, List.set_cons_zero, List.set_cons_succ, List.getElem_toArray, List.getElem_cons_zero, List.getElem_cons_succ]
  have hg := (Gr.refl u1).alloc (.cells #[.slice a n c] 22 (0, 0))
  have hnew := blk_new u1 (.cells #[.slice a n c] 22 (0, 0))
  replace hG := hide ((unhide hG).trans hg)
  replace hk := hide (hg.blk (unhide hk))
  generalize World.alloc _ _ = u3 at *
  generalize u1.heap.size = g3 at *
  clear hg
  refine list_call 10 #[.slice (some ⟨g3, 0, none⟩) 1 1] (by kernel_rfl) (by kernel_rfl) ((small_ok [I] (some ⟨g3, 0, none⟩) 1 1 rfl (by omega) (by intro p hp; simp at hp; subst hp; rw [unhide la]; exact hnb) _ (Pr.one hnew ((unhide hA).gr (unhide hG)))).mono ?_)
  rintro r u4 ⟨b2, rfl, hs2, _, rfl⟩
  refine ⟨_, rfl, ?_⟩
  clear hnew
  simp only [Act.put, List.setIfInBounds_toArray, List.set_cons_zero, List.set_cons_succ, List.getElem_toArray, List.getElem_cons_zero, List.getElem_cons_succ]
  cases b2
  · clear hs2
    iterate 1 (refine wpList_step fun K hK => ?_; replace hK := hide hK; go_simp; refine unhide hK _ _ ?_; clear hK K)
    refine wpList_nil ?_
    go_wp2_with fail
    rw [unhide hT]
    exact ⟨rfl, unhide hG⟩
  replace hs2 := (hs2 rfl).1
  have hn4 : n ≤ 4096 := by rw [show ([I] : List (List Int)).flatten = I by simp, unhide la] at hs2; exact hs2
  clear hs2
  iterate 1 (refine wpList_step fun K hK => ?_; replace hK := hide hK; go_simp; refine unhide hK _ _ ?_; clear hK K)
  refine wpList_nil ?_
  go_upto_region 5 with fail
  replace hk := unhide hk
  by_cases hN : N < 0 ∨ 8160 < N
  · refine any_start (S := fun v => v.heap[w.heap.size]? = some (.cells KK 28 (0, 0))) (by kernel_rfl) ?_
    have hg := (Gr.refl u4).drew
    generalize World.drew _ = u9 at *
    replace hG := hide ((unhide hG).trans hg)
    replace hk := hg.blk hk
    clear hg
    simp only [List.size_toArray, List.length_cons, List.length_nil, Array.replicate, List.replicate]
    refine any_take (i := 0) (v := (.agg KK)) #[false, false, false, false, false, false, false, false, false, false, false] rfl (by kernel_rfl) (by kernel_rfl) (by kernel_rfl) (by kernel_rfl) (fun _ _ _ h => h) (.inl ⟨by kernel_rfl, fun x_ hu => exec_arr x_ 28 (.tmp 3) rfl w.heap.size (by kernel_rfl) KK 28 _ hu Tryd.underlying28 rfl (by rw [Tryd.infoKey, hKs])⟩) hk ?_
    simp only [Act.put, List.setIfInBounds_toArray, List.set_cons_zero, List.set_cons_succ, List.getElem_toArray, List.getElem_cons_zero, List.getElem_cons_succ]
    refine any_take (i := 2) (v := (.slice a n c)) #[true, false, false, false, false, false, false, false, false, false, false] rfl (by kernel_rfl) (by kernel_rfl) (by kernel_rfl) (by kernel_rfl) (fun _ _ _ h => h) (.inl ⟨by kernel_rfl, fun x_ hu => by kernel_rfl⟩) hk ?_
    simp only [Act.put, List.setIfInBounds_toArray, List.set_cons_zero, List.set_cons_succ, List.getElem_toArray, List.getElem_cons_zero, List.getElem_cons_succ]
    refine any_take (i := 4) (v := (.int .i64 N)) #[true, false, true, false, false, false, false, false, false, false, false] rfl (by kernel_rfl) (by kernel_rfl) (by kernel_rfl) (by kernel_rfl) (fun _ _ _ h => h) (.inl ⟨by kernel_rfl, fun x_ hu => by kernel_rfl⟩) hk ?_
    simp only [Act.put, List.setIfInBounds_toArray, List.set_cons_zero, List.set_cons_succ, List.getElem_toArray, List.getElem_cons_zero, List.getElem_cons_succ]
    refine any_one (i := 1) (by kernel_rfl) rfl (fun K hK => ?_)
    have hO := blk_bytes (w := u9) (b := u9.heap.size) [] (Nat.le_refl _) (by simp)
    replace hO : Ob u9.heap.size (u9.alloc (.cells (kc []) 5 (0, 0))) (.slice (some ⟨u9.heap.size, 0, none⟩) 0 0) [] := hO
    have hg := (Gr.refl u9).alloc (.cells (kc []) 5 (0, 0))
    have hgs := hg.size
    have hw9 : w.heap.size ≤ u9.heap.size := (unhide hG).size
    have hlt9 := lt_of_block hk
    refine step_val (.slice (some ⟨u9.heap.size, 0, none⟩) 0 0) (u9.alloc (.cells (kc []) 5 (0, 0))) (by kernel_rfl) (by kernel_rfl) ?_
    replace hG := hide ((unhide hG).trans hg)
    replace hk := hg.blk hk
    clear hg
    generalize World.alloc _ _ = u10 at *
    generalize u9.heap.size = g9 at *
    refine hK.out _ _ hk (fun _ => ?_)
    clear hK K
    simp only [Act.put, List.setIfInBounds_toArray, List.set_cons_zero, List.set_cons_succ, List.getElem_toArray, List.getElem_cons_zero, List.getElem_cons_succ]
    refine any_one (i := 3) (by kernel_rfl) rfl (fun K hK => ?_)
    rw [if_pos (by kernel_rfl)]
    refine app_op (.tmp 17) (.tmp 18) rfl g9 _ [] (by kernel_rfl) hO a n c I (by kernel_rfl) (unhide la) ((unhide hA).gr (unhide hG)).sl (by simp; omega) hgs ?_
    intro x11 u11 hO2 hgb
    rw [List.nil_append] at hO2
    obtain ⟨a11, c11, rfl, l11⟩ := hO2.lb (unhide hA).isB
    rw [(unhide la)] at l11
    rw [(unhide la)]
    replace hG := hide (hO.grown hw9 (unhide hG) hgb)
    replace hk : u11.heap[w.heap.size]? = some (.cells KK 28 (0, 0)) := by
      rw [hgb.block w.heap.size (lt_of_block hk) (fun e => by have := (World.ownsRow.lt hO _ e.symm).1; omega)]
      exact hk
    clear hO hO2 hgb
    refine hK.out _ _ hk (fun _ => ?_)
    clear hK K
    simp only [Act.put, List.setIfInBounds_toArray, List.set_cons_zero, List.set_cons_succ, List.getElem_toArray, List.getElem_cons_zero, List.getElem_cons_succ]
    refine any_one (i := 5) (by kernel_rfl) rfl (fun K hK => ?_)
    rw [unhide hKK]
    refine step_callw (by kernel_rfl) 16 #[.agg (kc KY), .slice a11 n c11, .int .i64 N] (by kernel_rfl) ((expand_bad KY I a11 n c11 N hN _).mono ?_)
    rintro r u12 ⟨rfl, hg⟩
    refine ⟨_, rfl, ?_⟩
    rw [← unhide hKK]
    replace hG := hide ((unhide hG).trans hg)
    replace hk := hg.blk hk
    clear hg l11
    refine hK.out _ _ hk (fun _ => ?_)
    clear hK K
    simp only [Act.put, List.setIfInBounds_toArray, List.set_cons_zero, List.set_cons_succ, List.getElem_toArray, List.getElem_cons_zero, List.getElem_cons_succ]
    refine any_take (i := 6) (v := (.tuple #[.slice none 0 0, .int .i64 2])) #[true, true, true, true, true, true, false, false, false, false, false] rfl (by kernel_rfl) (by kernel_rfl) (by kernel_rfl) (by kernel_rfl) (fun _ _ _ h => h) (.inl ⟨by kernel_rfl, fun x_ hu => by kernel_rfl⟩) hk ?_
    simp only [Act.put, List.setIfInBounds_toArray, List.set_cons_zero, List.set_cons_succ, List.getElem_toArray, List.getElem_cons_zero, List.getElem_cons_succ]
    refine any_take (i := 7) (v := (.slice none 0 0)) #[true, true, true, true, true, true, true, false, false, false, false] rfl (by kernel_rfl) (by kernel_rfl) (by kernel_rfl) (by kernel_rfl) (fun _ _ _ h => h) (.inl ⟨by kernel_rfl, fun x_ hu => by kernel_rfl⟩) hk ?_
    simp only [Act.put, List.setIfInBounds_toArray, List.set_cons_zero, List.set_cons_succ, List.getElem_toArray, List.getElem_cons_zero, List.getElem_cons_succ]
    refine any_take (i := 8) (v := (.int .i64 2)) #[true, true, true, true, true, true, true, true, false, false, false] rfl (by kernel_rfl) (by kernel_rfl) (by kernel_rfl) (by kernel_rfl) (fun _ _ _ h => h) (.inl ⟨by kernel_rfl, fun x_ hu => by kernel_rfl⟩) hk ?_
    simp only [Act.put, List.setIfInBounds_toArray, List.set_cons_zero, List.set_cons_succ, List.getElem_toArray, List.getElem_cons_zero, List.getElem_cons_succ]
    refine any_one (i := 9) (by kernel_rfl) rfl (fun K hK => ?_)
    replace hK := hide hK
    go_simp
    refine (unhide hK).out _ _ hk (fun _ => ?_)
    clear hK K
    refine any_one (i := 10) (by kernel_rfl) rfl (fun K hK => ?_)
    replace hK := hide hK
    go_simp
    refine (unhide hK).out _ _ hk (fun _ => ?_)
    clear hK K
    refine any_done (by kernel_rfl) ?_
    clear hk
    by_cases h1 : N < 0
    · go_wp2_with fail
      rw [unhide hT]
      exact ⟨rfl, unhide hG⟩
    · have h2 : 8160 < N := by omega
      go_wp2_with fail
      rw [unhide hT]
      exact ⟨rfl, unhide hG⟩
  obtain ⟨m, rfl⟩ : ∃ m : Nat, N = (m : Int) := ⟨N.toNat, by omega⟩
  have hm : m ≤ 8160 := by omega
  have n1 : ¬ (m : Int) < 0 := by omega
  have n2 : ¬ 8160 < (m : Int) := by omega
  clear hN
  refine any_start (S := fun v => v.heap[w.heap.size]? = some (.cells KK 28 (0, 0))) (by kernel_rfl) ?_
  have hg := (Gr.refl u4).drew
  generalize World.drew _ = u9 at *
  replace hG := hide ((unhide hG).trans hg)
  replace hk := hg.blk hk
  clear hg
  simp only [List.size_toArray, List.length_cons, List.length_nil, Array.replicate, List.replicate]
  refine any_take (i := 0) (v := (.agg KK)) #[false, false, false, false, false, false, false, false, false, false, false] rfl (by kernel_rfl) (by kernel_rfl) (by kernel_rfl) (by kernel_rfl) (fun _ _ _ h => h) (.inl ⟨by kernel_rfl, fun x_ hu => exec_arr x_ 28 (.tmp 3) rfl w.heap.size (by kernel_rfl) KK 28 _ hu Tryd.underlying28 rfl (by rw [Tryd.infoKey, hKs])⟩) hk ?_
  simp only [Act.put, List.setIfInBounds_toArray, List.set_cons_zero, List.set_cons_succ, List.getElem_toArray, List.getElem_cons_zero, List.getElem_cons_succ]
  refine any_take (i := 2) (v := (.slice a n c)) #[true, false, false, false, false, false, false, false, false, false, false] rfl (by kernel_rfl) (by kernel_rfl) (by kernel_rfl) (by kernel_rfl) (fun _ _ _ h => h) (.inl ⟨by kernel_rfl, fun x_ hu => by kernel_rfl⟩) hk ?_
  simp only [Act.put, List.setIfInBounds_toArray, List.set_cons_zero, List.set_cons_succ, List.getElem_toArray, List.getElem_cons_zero, List.getElem_cons_succ]
  refine any_take (i := 4) (v := (.int .i64 (m : Int))) #[true, false, true, false, false, false, false, false, false, false, false] rfl (by kernel_rfl) (by kernel_rfl) (by kernel_rfl) (by kernel_rfl) (fun _ _ _ h => h) (.inl ⟨by kernel_rfl, fun x_ hu => by kernel_rfl⟩) hk ?_
  simp only [Act.put, List.setIfInBounds_toArray, List.set_cons_zero, List.set_cons_succ, List.getElem_toArray, List.getElem_cons_zero, List.getElem_cons_succ]
  refine any_one (i := 1) (by kernel_rfl) rfl (fun K hK => ?_)
  have hO := blk_bytes (w := u9) (b := u9.heap.size) [] (Nat.le_refl _) (by simp)
  replace hO : Ob u9.heap.size (u9.alloc (.cells (kc []) 5 (0, 0))) (.slice (some ⟨u9.heap.size, 0, none⟩) 0 0) [] := hO
  have hg := (Gr.refl u9).alloc (.cells (kc []) 5 (0, 0))
  have hgs := hg.size
  have hw9 : w.heap.size ≤ u9.heap.size := (unhide hG).size
  have hlt9 := lt_of_block hk
  refine step_val (.slice (some ⟨u9.heap.size, 0, none⟩) 0 0) (u9.alloc (.cells (kc []) 5 (0, 0))) (by kernel_rfl) (by kernel_rfl) ?_
  replace hG := hide ((unhide hG).trans hg)
  replace hk := hg.blk hk
  clear hg
  generalize World.alloc _ _ = u10 at *
  generalize u9.heap.size = g9 at *
  refine hK.out _ _ hk (fun _ => ?_)
  clear hK K
  simp only [Act.put, List.setIfInBounds_toArray, List.set_cons_zero, List.set_cons_succ, List.getElem_toArray, List.getElem_cons_zero, List.getElem_cons_succ]
  refine any_one (i := 3) (by kernel_rfl) rfl (fun K hK => ?_)
  rw [if_pos (by kernel_rfl)]
  refine app_op (.tmp 17) (.tmp 18) rfl g9 _ [] (by kernel_rfl) hO a n c I (by kernel_rfl) (unhide la) ((unhide hA).gr (unhide hG)).sl (by simp; omega) hgs ?_
  intro x11 u11 hO2 hgb
  rw [List.nil_append] at hO2
  obtain ⟨a11, c11, rfl, l11⟩ := hO2.lb (unhide hA).isB
  rw [(unhide la)] at l11
  rw [(unhide la)]
  replace hG := hide (hO.grown hw9 (unhide hG) hgb)
  replace hk : u11.heap[w.heap.size]? = some (.cells KK 28 (0, 0)) := by
    rw [hgb.block w.heap.size (lt_of_block hk) (fun e => by have := (World.ownsRow.lt hO _ e.symm).1; omega)]
    exact hk
  clear hO hO2 hgb
  refine hK.out _ _ hk (fun _ => ?_)
  clear hK K
  simp only [Act.put, List.setIfInBounds_toArray, List.set_cons_zero, List.set_cons_succ, List.getElem_toArray, List.getElem_cons_zero, List.getElem_cons_succ]
  refine any_one (i := 5) (by kernel_rfl) rfl (fun K hK => ?_)
  rw [unhide hKK]
  refine step_callw (by kernel_rfl) 16 #[.agg (kc KY), .slice a11 n c11, .int .i64 (m : Int)] (by kernel_rfl) ((expand_ok KY hKl (unhide hKb) I a11 n c11 m hm (by omega) _ ((unhide hF).gr (unhide hG)) l11).mono ?_)
  rintro r u12 ⟨a12, rfl, l12, hg⟩
  refine ⟨_, rfl, ?_⟩
  rw [← unhide hKK]
  replace hG := hide ((unhide hG).trans hg)
  replace hk := hg.blk hk
  replace l12 := hide l12
  clear hg l11
  refine hK.out _ _ hk (fun _ => ?_)
  clear hK K
  simp only [Act.put, List.setIfInBounds_toArray, List.set_cons_zero, List.set_cons_succ, List.getElem_toArray, List.getElem_cons_zero, List.getElem_cons_succ]
  refine any_take (i := 6) (v := (.tuple #[.slice a12 m m, .int .i64 0])) #[true, true, true, true, true, true, false, false, false, false, false] rfl (by kernel_rfl) (by kernel_rfl) (by kernel_rfl) (by kernel_rfl) (fun _ _ _ h => h) (.inl ⟨by kernel_rfl, fun x_ hu => by kernel_rfl⟩) hk ?_
  simp only [Act.put, List.setIfInBounds_toArray, List.set_cons_zero, List.set_cons_succ, List.getElem_toArray, List.getElem_cons_zero, List.getElem_cons_succ]
  refine any_take (i := 7) (v := (.slice a12 m m)) #[true, true, true, true, true, true, true, false, false, false, false] rfl (by kernel_rfl) (by kernel_rfl) (by kernel_rfl) (by kernel_rfl) (fun _ _ _ h => h) (.inl ⟨by kernel_rfl, fun x_ hu => by kernel_rfl⟩) hk ?_
  simp only [Act.put, List.setIfInBounds_toArray, List.set_cons_zero, List.set_cons_succ, List.getElem_toArray, List.getElem_cons_zero, List.getElem_cons_succ]
  refine any_take (i := 8) (v := (.int .i64 0)) #[true, true, true, true, true, true, true, true, false, false, false] rfl (by kernel_rfl) (by kernel_rfl) (by kernel_rfl) (by kernel_rfl) (fun _ _ _ h => h) (.inl ⟨by kernel_rfl, fun x_ hu => by kernel_rfl⟩) hk ?_
  simp only [Act.put, List.setIfInBounds_toArray, List.set_cons_zero, List.set_cons_succ, List.getElem_toArray, List.getElem_cons_zero, List.getElem_cons_succ]
  refine any_one (i := 9) (by kernel_rfl) rfl (fun K hK => ?_)
  replace hK := hide hK
  go_simp
  refine (unhide hK).out _ _ hk (fun _ => ?_)
  clear hK K
  refine any_one (i := 10) (by kernel_rfl) rfl (fun K hK => ?_)
  replace hK := hide hK
  go_simp
  refine (unhide hK).out _ _ hk (fun _ => ?_)
  clear hK K
  refine any_done (by kernel_rfl) ?_
  replace hk := hide hk
  go_upto_region 8 with fail
  refine wp_region_lit ?_
  iterate 4 (refine wpList_step fun K hK => ?_; replace hK := hide hK; go_simp; refine unhide hK _ _ ?_; clear hK K)
  refine list_val (.agg KK) (by kernel_rfl) (exec_arr _ 28 (.tmp 3) rfl w.heap.size (by kernel_rfl) KK 28 _ (unhide hk) Tryd.underlying28 rfl (by rw [Tryd.infoKey, hKs])) ?_
  simp only [Act.put, List.setIfInBounds_toArray, List.set_cons_zero, List.set_cons_succ, List.getElem_toArray, List.getElem_cons_zero, List.getElem_cons_succ]
  iterate 2 (refine wpList_step fun K hK => ?_; replace hK := hide hK; go_simp; refine unhide hK _ _ ?_; clear hK K)
  rw [unhide hKK]
  refine list_call 18 #[.agg (kc KY), .slice a n c, .int .i64 m] (by kernel_rfl) (by kernel_rfl) ((rexpand_ok KY hKl (unhide hKb) I a n c m hm (by omega) _ ((unhide hA).gr (unhide hG))).mono ?_)
  rintro r u13 ⟨a13, c13, rfl, l13, hg⟩
  refine ⟨_, rfl, ?_⟩
  rw [← unhide hKK]
  replace hG := hide ((unhide hG).trans hg)
  replace l12 := (unhide l12).gr hg
  clear hg hk
  simp only [Act.put, List.setIfInBounds_toArray, List.set_cons_zero, List.set_cons_succ, List.getElem_toArray, List.getElem_cons_zero, List.getElem_cons_succ]
  refine list_call 17 #[.slice a12 m m, .slice a13 m c13] (by kernel_rfl) (by kernel_rfl) ((same_ok (spL KY I m) a12 a13 m m c13 _ l12 l13 (by omega)).mono ?_)
  rintro r u14 ⟨rfl, hg⟩
  refine ⟨_, rfl, ?_⟩
  replace hG := hide ((unhide hG).trans hg)
  clear hg l12 l13
  simp only [Act.put, List.setIfInBounds_toArray, List.set_cons_zero, List.set_cons_succ, List.getElem_toArray, List.getElem_cons_zero, List.getElem_cons_succ]
  iterate 2 (refine wpList_step fun K hK => ?_; replace hK := hide hK; go_simp; refine unhide hK _ _ ?_; clear hK K)
  refine wpList_nil ?_
  go_wp2_with fail
  rw [unhide hT]
  exact ⟨rfl, unhide hG⟩
end Go.Proofs.YthnmebhljkccnaaDoor
