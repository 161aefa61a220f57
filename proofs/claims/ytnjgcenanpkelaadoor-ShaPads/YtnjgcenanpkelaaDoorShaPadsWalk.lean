/-
  With what so many bytes are filled up; what a Hash that is not there answers: the walks.
-/
import Derived.Test.YtnjgcenanpkelaaDoorShaRsum
namespace Go.Proofs.YtnjgcenanpkelaaDoor
open Go.RowKit
set_option maxRecDepth 100000
set_option linter.unusedVariables false
set_option linter.unusedSimpArgs false

theorem kc_sl {w : World} {g : Nat} {l : List Int} (h : w.heap[g]? = some (.cells (kc l) 5 (0, 0))) : Sl w (some ⟨g, 0, none⟩) l := .inr ⟨g, 0, rfl, fun j hj => by rw [Nat.zero_add]; exact kc_cell h j hj⟩
set_option maxHeartbeats 2000000 in
theorem pads_ok (N : Int) (hN : -9223372036854775808 ≤ N ∧ N < 9223372036854775808) (w : World) (hF : Fst w) : Calls Tryd.prog 5 #[.int .i64 N] w (Woke w) := by
  obtain ⟨T, hT⟩ : ∃ T, T = Woke w := ⟨_, rfl⟩
  rw [← hT]
  replace hT := hide hT
  replace hF := hide hF
  obtain ⟨M, hM⟩ : ∃ M, M = Int.tmod N 1099511627776 := ⟨_, rfl⟩
  have hMb : -1099511627776 < M ∧ M < 1099511627776 := by
    have h1 := Int.tmod_lt_of_pos N (b := 1099511627776) (by omega)
    have h2 := Int.lt_tmod_of_pos N (b := 1099511627776) (by omega)
    omega
  have hMr : Int.tmod N 1099511627776 = M := hM.symm
  have hw : IntKind.i64.wrap M = M := by rw [IntKind.wrap_i64]; omega
  replace hM := hide hM
  go_enter Tryd.func5, Tryd.ntmps5
  go_upto_region 4 with (go_at_call 9; refine (wakes_ok _ (unhide hF)).mono ?_; rintro e u1 ⟨rfl, hg1⟩)
  refine wp_region_lit ?_
  iterate 1 (refine wpList_step fun K hK => ?_; replace hK := hide hK; go_simp; refine unhide hK _ _ ?_; clear hK K)
  rcases Int.lt_or_le M 0 with hneg | hpos
  · refine list_call 18 #[.int .i64 M] (by kernel_rfl) (by kernel_rfl) ((pad_neg M hneg _).mono ?_)
    rintro r v1 ⟨rfl, rfl⟩
    refine ⟨_, rfl, ?_⟩
    simp only [Act.put, List.setIfInBounds_toArray, List.set_cons_zero, List.set_cons_succ, List.getElem_toArray, List.getElem_cons_zero, List.getElem_cons_succ]
    iterate 1 (refine wpList_step fun K hK => ?_; replace hK := hide hK; go_simp; refine unhide hK _ _ ?_; clear hK K)
    refine list_call 19 #[.int .i64 M] (by kernel_rfl) (by kernel_rfl) ((rpad_neg M hneg _).mono ?_)
    rintro r v2 ⟨rfl, rfl⟩
    refine ⟨_, rfl, ?_⟩
    simp only [Act.put, List.setIfInBounds_toArray, List.set_cons_zero, List.set_cons_succ, List.getElem_toArray, List.getElem_cons_zero, List.getElem_cons_succ]
    refine list_call 13 #[.slice none 0 0, .slice none 0 0] (by kernel_rfl) (by kernel_rfl) ((equal_same [] none none 0 0 0 rfl _ (.inl rfl) (.inl rfl)).mono ?_)
    rintro r v3 ⟨rfl, rfl⟩
    refine ⟨_, rfl, ?_⟩
    simp only [Act.put, List.setIfInBounds_toArray, List.set_cons_zero, List.set_cons_succ, List.getElem_toArray, List.getElem_cons_zero, List.getElem_cons_succ]
    iterate 1 (refine wpList_step fun K hK => ?_; replace hK := hide hK; go_simp; refine unhide hK _ _ ?_; clear hK K)
    refine wpList_nil ?_
    go_wp2_with fail
    rw [unhide hT]
    exact ⟨rfl, hg1⟩
  · obtain ⟨m, rfl⟩ := Int.eq_ofNat_of_zero_le hpos
    refine list_call 18 #[.int .i64 m] (by kernel_rfl) (by kernel_rfl) ((pad_ok m (by omega) _).mono ?_)
    rintro r v1 ⟨g1, rfl, hgo, hP, hg⟩
    refine ⟨_, rfl, ?_⟩
    replace hg1 := hg1.trans hg
    have hs1 := kc_sl hP
    clear hg hgo hP
    simp only [Act.put, List.setIfInBounds_toArray, List.set_cons_zero, List.set_cons_succ, List.getElem_toArray, List.getElem_cons_zero, List.getElem_cons_succ]
    iterate 1 (refine wpList_step fun K hK => ?_; replace hK := hide hK; go_simp; refine unhide hK _ _ ?_; clear hK K)
    refine list_call 19 #[.int .i64 m] (by kernel_rfl) (by kernel_rfl) ((rpad_ok m (by omega) _).mono ?_)
    rintro r v2 ⟨x2, rfl, hO, hg⟩
    refine ⟨_, rfl, ?_⟩
    obtain ⟨a2, c2, rfl, _, _, hs2⟩ := hO.slice
    replace hg1 := hg1.trans hg
    replace hs1 := hs1.gr hg
    clear hg hO
    rw [padL_len]
    simp only [Act.put, List.setIfInBounds_toArray, List.set_cons_zero, List.set_cons_succ, List.getElem_toArray, List.getElem_cons_zero, List.getElem_cons_succ]
    refine list_call 13 #[.slice (some ⟨g1, 0, none⟩) (nz m + 9) (nz m + 9), .slice a2 (nz m + 9) c2] (by kernel_rfl) (by kernel_rfl) ((equal_same (padL m) _ a2 (nz m + 9) (nz m + 9) c2 (padL_len m) _ hs1 hs2).mono ?_)
    rintro r v3 ⟨rfl, rfl⟩
    refine ⟨_, rfl, ?_⟩
    simp only [Act.put, List.setIfInBounds_toArray, List.set_cons_zero, List.set_cons_succ, List.getElem_toArray, List.getElem_cons_zero, List.getElem_cons_succ]
    iterate 1 (refine wpList_step fun K hK => ?_; replace hK := hide hK; go_simp; refine unhide hK _ _ ?_; clear hK K)
    refine wpList_nil ?_
    go_wp2_with fail
    rw [unhide hT]
    exact ⟨rfl, hg1⟩

theorem sum_nil (w : World) : Calls Tryd.prog 17 #[.pointer none] w (fun r w' => r = .returned (.agg (kc Z32)) ∧ Gr w w') := by
  go_enter Tryd.func17, Tryd.ntmps17
  go_upto_region 2 with fail
  have hB := (Bl.nil w).new #[.int .u8 0, .int .u8 0, .int .u8 0, .int .u8 0, .int .u8 0, .int .u8 0, .int .u8 0, .int .u8 0, .int .u8 0, .int .u8 0, .int .u8 0, .int .u8 0, .int .u8 0, .int .u8 0, .int .u8 0, .int .u8 0, .int .u8 0, .int .u8 0, .int .u8 0, .int .u8 0, .int .u8 0, .int .u8 0, .int .u8 0, .int .u8 0, .int .u8 0, .int .u8 0, .int .u8 0, .int .u8 0, .int .u8 0, .int .u8 0, .int .u8 0, .int .u8 0] 26
  simp only [List.nil_append] at hB
  generalize World.alloc _ _ = u at *
  replace hB : Bl w [⟨w.heap.size, kc Z32, 26⟩] u := hB
  refine wp_region_lit ?_
  refine list_val (.agg (kc Z32)) (by kernel_rfl) (by kernel_rfl) ?_
  simp only [Act.put, List.setIfInBounds_toArray, List.set_cons_zero, List.set_cons_succ, List.getElem_toArray, List.getElem_cons_zero, List.getElem_cons_succ]
  refine list_store 26 (.tmp 2) (.tmp 6) w.heap.size (kc Z32) 26 (kc Z32) (by kernel_rfl) rfl (by kernel_rfl) (by kernel_rfl) (hB.get 0 (x := ⟨w.heap.size, kc Z32, 26⟩) rfl) (by rw [Tryd.infoKey]; rfl) rfl (kc_one _) ?_
  replace hB := hB.set 0 (x := ⟨w.heap.size, kc Z32, 26⟩) rfl (kc Z32)
  simp only [List.set_cons_zero, List.set_cons_succ] at hB
  generalize World.setRow _ _ _ = v1_ at *
  simp only [Act.put, List.setIfInBounds_toArray, List.set_cons_zero, List.set_cons_succ, List.getElem_toArray, List.getElem_cons_zero, List.getElem_cons_succ]
  refine wpList_nil ?_
  go_wp2_with fail
  exact bodyPost_ret (v := .agg (kc Z32)) (results_cell_row Tryd.results17 _ _ w.heap.size 26 (kc Z32) (0, 0) _ rfl (hB.get 0 (x := ⟨w.heap.size, kc Z32, 26⟩) rfl) Tryd.underlying26 rfl (by rw [Tryd.infoKey]; rfl)) rfl ⟨rfl, hB.gr⟩
theorem Z32_len : Z32.length = 32 := rfl
set_option maxHeartbeats 2000000 in
theorem none_ok (a : Option Addr) (n cap : Nat) (w : World) (hF : Fst w) : Calls Tryd.prog 6 #[.slice a n cap] w (Woke w) := by
  obtain ⟨T, hT⟩ : ∃ T, T = Woke w := ⟨_, rfl⟩
  rw [← hT]
  replace hT := hide hT
  have hF0 := hide hF
  replace hF := hide hF
  go_enter Tryd.func6, Tryd.ntmps6
  go_upto_region 4 with (go_at_call 9; refine (wakes_ok _ (unhide hF)).mono ?_; rintro e u1 ⟨rfl, hg1⟩)
  refine wp_region_lit ?_
  iterate 2 (refine wpList_step fun K hK => ?_; replace hK := hide hK; go_simp; refine unhide hK _ _ ?_; clear hK K)
  refine list_call 15 #[.pointer none, .slice a n cap] (by kernel_rfl) (by kernel_rfl) ((write_nil a n cap _).mono ?_)
  rintro r v1 ⟨rfl, rfl⟩
  refine ⟨_, rfl, ?_⟩
  simp only [Act.put, List.setIfInBounds_toArray, List.set_cons_zero, List.set_cons_succ, List.getElem_toArray, List.getElem_cons_zero, List.getElem_cons_succ]
  iterate 3 (refine wpList_step fun K hK => ?_; replace hK := hide hK; go_simp; refine unhide hK _ _ ?_; clear hK K)
  refine list_call 17 #[.pointer none] (by kernel_rfl) (by kernel_rfl) ((sum_nil _).mono ?_)
  rintro r v2 ⟨rfl, hg⟩
  refine ⟨_, rfl, ?_⟩
  replace hg1 := hg1.trans hg
  clear hg
  simp only [Act.put, List.setIfInBounds_toArray, List.set_cons_zero, List.set_cons_succ, List.getElem_toArray, List.getElem_cons_zero, List.getElem_cons_succ]
  refine list_val (.agg (kc Z32)) (by kernel_rfl) (by kernel_rfl) ?_
  simp only [Act.put, List.setIfInBounds_toArray, List.set_cons_zero, List.set_cons_succ, List.getElem_toArray, List.getElem_cons_zero, List.getElem_cons_succ]
  refine list_val (.bool true) (by kernel_rfl) (by have e := key_refl Z32 Z32_len; go_simp) ?_
  simp only [Act.put, List.setIfInBounds_toArray, List.set_cons_zero, List.set_cons_succ, List.getElem_toArray, List.getElem_cons_zero, List.getElem_cons_succ]
  iterate 3 (refine wpList_step fun K hK => ?_; replace hK := hide hK; go_simp; refine unhide hK _ _ ?_; clear hK K)
  refine list_call 16 #[.pointer none] (by kernel_rfl) (by kernel_rfl) ((len_nil _).mono ?_)
  rintro r v3 ⟨rfl, rfl⟩
  refine ⟨_, rfl, ?_⟩
  simp only [Act.put, List.setIfInBounds_toArray, List.set_cons_zero, List.set_cons_succ, List.getElem_toArray, List.getElem_cons_zero, List.getElem_cons_succ]
  iterate 4 (refine wpList_step fun K hK => ?_; replace hK := hide hK; go_simp; refine unhide hK _ _ ?_; clear hK K)
  refine list_call 20 #[.pointer none] (by kernel_rfl) (by kernel_rfl) ((copy_nil _).mono ?_)
  rintro r v4 ⟨rfl, rfl⟩
  refine ⟨_, rfl, ?_⟩
  simp only [Act.put, List.setIfInBounds_toArray, List.set_cons_zero, List.set_cons_succ, List.getElem_toArray, List.getElem_cons_zero, List.getElem_cons_succ]
  iterate 3 (refine wpList_step fun K hK => ?_; replace hK := hide hK; go_simp; refine unhide hK _ _ ?_; clear hK K)
  refine list_call 14 #[] (by kernel_rfl) (by kernel_rfl) ((new_ok _ ((unhide hF0).gr hg1)).mono ?_)
  rintro r v5 ⟨g, rfl, hg0, hH, hg⟩
  refine ⟨_, rfl, ?_⟩
  replace hg1 := hg1.trans hg
  clear hg
  simp only [Act.put, List.setIfInBounds_toArray, List.set_cons_zero, List.set_cons_succ, List.getElem_toArray, List.getElem_cons_zero, List.getElem_cons_succ]
  refine list_call 17 #[.pointer (some ⟨g, 0, none⟩)] (by kernel_rfl) (by kernel_rfl) ((hsum_ok g [] (by simp) _ hH).mono ?_)
  rintro r v6 ⟨rfl, hg⟩
  refine ⟨_, rfl, ?_⟩
  replace hg1 := hg1.trans hg
  clear hg hH
  simp only [Act.put, List.setIfInBounds_toArray, List.set_cons_zero, List.set_cons_succ, List.getElem_toArray, List.getElem_cons_zero, List.getElem_cons_succ]
  refine list_call 12 #[.slice none 0 0] (by kernel_rfl) (by kernel_rfl) ((rsum_ok [] (by intro x hx; cases hx) 0 rfl (by omega) none 0 _ (.inl rfl)).mono ?_)
  rintro r v7 ⟨rfl, hg⟩
  refine ⟨_, rfl, ?_⟩
  replace hg1 := hg1.trans hg
  clear hg
  simp only [Act.put, List.setIfInBounds_toArray, List.set_cons_zero, List.set_cons_succ, List.getElem_toArray, List.getElem_cons_zero, List.getElem_cons_succ]
  have hkk : (sumL []).length = 32 := sumL_len []
  generalize sumL [] = kk at *
  have hke := key_refl kk hkk
  iterate 3 (refine wpList_step fun K hK => ?_; replace hK := hide hK; go_simp; refine unhide hK _ _ ?_; clear hK K)
  refine wpList_nil ?_
  go_wp2_with fail
  rw [unhide hT]
  exact ⟨rfl, hg1⟩
end Go.Proofs.YtnjgcenanpkelaaDoor
