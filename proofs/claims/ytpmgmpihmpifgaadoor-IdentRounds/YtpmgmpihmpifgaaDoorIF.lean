/-
  A key's fingerprint.
-/
import Derived.Test.YtpmgmpihmpifgaaDoorIE
namespace Go.Proofs.YtpmgmpihmpifgaaDoor
open Go.RowKit
set_option maxRecDepth 100000
set_option linter.unusedSimpArgs false
set_option linter.unusedVariables false
set_option maxHeartbeats 4000000 in
theorem finger_ok (K : List Int) (hK : K.length = 32) (hKb : IsB K) (w : World) (hF : Fst w) : Calls Tryd.prog 16 #[.agg (kc K)] w (Txd (fpL (sumL K) 8) w) := by
  obtain ⟨T, hT⟩ : ∃ T, T = Txd (fpL (sumL K) 8) w := ⟨_, rfl⟩
  rw [← hT]
  replace hT := hide hT
  replace hKb := hide hKb
  replace hF := hide hF
  obtain ⟨KK, hKK⟩ : ∃ KK, KK = kc K := ⟨_, rfl⟩
  rw [← hKK]
  replace hKK := hide hKK
  go_enter Tryd.func16, Tryd.ntmps16
  go_upto_region 2 with fail
  have hB := (Bl.nil w).new KK 25
  simp only [List.nil_append] at hB
  generalize World.alloc _ _ = u at *
  rw [unhide hKK] at hB
  replace hB : Bl w [⟨w.heap.size, kc K, 25⟩] u := hB
  refine wp_region_lit ?_
  refine list_val (.slice (some ⟨w.heap.size, 0, none⟩) 32 32) (by kernel_rfl) (by kernel_rfl) ?_
  simp only [Act.put, List.setIfInBounds_toArray, List.set_cons_zero, List.set_cons_succ, List.getElem_toArray, List.getElem_cons_zero, List.getElem_cons_succ]
  refine list_call 32 #[.slice (some ⟨w.heap.size, 0, none⟩) 32 32] (by kernel_rfl) (by kernel_rfl) ((sum_ok K (unhide hKb) 32 hK (by omega) (some ⟨w.heap.size, 0, none⟩) 32 (by omega) (by omega) u ((unhide hF).gr hB.gr) (.inr ⟨w.heap.size, 0, rfl, kc_at (hB.get 0 (x := ⟨w.heap.size, kc K, 25⟩) rfl)⟩)).mono ?_)
  rintro r_ u1 ⟨rfl, hg⟩
  replace hB := hB.more hg
  clear hg
  obtain ⟨D, hD⟩ : ∃ D, D = sumL K := ⟨_, rfl⟩
  have hDl : D.length = 32 := by rw [hD]; exact sumL_len K
  have hDb : IsB D := by rw [hD]; exact sumL_isB K
  rw [← hD] at hT ⊢
  clear hD
  replace hDb := hide hDb
  refine ⟨_, rfl, ?_⟩
  simp only [Act.put, List.setIfInBounds_toArray, List.set_cons_zero, List.set_cons_succ, List.getElem_toArray, List.getElem_cons_zero, List.getElem_cons_succ]
  refine list_valw (.pointer (some ⟨u1.heap.size, 0, none⟩)) (u1.alloc (.cells (kc Z32) 25 (0, 0))) (by kernel_rfl) (by kernel_rfl) ?_
  replace hB := hB.new (kc Z32) 25
  simp only [List.nil_append, List.cons_append] at hB
  generalize World.alloc _ _ = u2 at *
  generalize u1.heap.size = gs at *
  replace hB : Bl w [⟨w.heap.size, kc K, 25⟩, ⟨gs, kc Z32, 25⟩] u2 := hB
  simp only [Act.put, List.setIfInBounds_toArray, List.set_cons_zero, List.set_cons_succ, List.getElem_toArray, List.getElem_cons_zero, List.getElem_cons_succ]
  refine list_store 25 (.tmp 4) (.tmp 8) gs (kc D) 25 (kc Z32) (by kernel_rfl) rfl (by kernel_rfl) (by kernel_rfl) (hB.get 1 (x := ⟨gs, kc Z32, 25⟩) rfl) (by rw [Tryd.infoKey, kc_size, hDl]) (by rw [kc_size, kc_size, hDl]; rfl) (kc_one _) ?_
  replace hB := hB.set 1 (x := ⟨gs, kc Z32, 25⟩) rfl (kc D)
  simp only [List.set_cons_zero, List.set_cons_succ] at hB
  generalize World.setRow _ _ _ = u3 at *
  simp only [Act.put, List.setIfInBounds_toArray, List.set_cons_zero, List.set_cons_succ, List.getElem_toArray, List.getElem_cons_zero, List.getElem_cons_succ]
  refine wpList_nil ?_
  replace hB := hide hB
  go_upto_region 3 with fail
  replace hB := unhide hB
  refine wp_region_lit ?_
  refine list_val (.slice (some ⟨gs, 0, none⟩) 8 32) (by kernel_rfl) (by kernel_rfl) ?_
  simp only [Act.put, List.setIfInBounds_toArray, List.set_cons_zero, List.set_cons_succ, List.getElem_toArray, List.getElem_cons_zero, List.getElem_cons_succ]
  refine list_val (.int .i64 8) (by kernel_rfl) (by kernel_rfl) ?_
  simp only [Act.put, List.setIfInBounds_toArray, List.set_cons_zero, List.set_cons_succ, List.getElem_toArray, List.getElem_cons_zero, List.getElem_cons_succ]
  refine list_val (.int .i64 0) (by kernel_rfl) (by kernel_rfl) ?_
  simp only [Act.put, List.setIfInBounds_toArray, List.set_cons_zero, List.set_cons_succ, List.getElem_toArray, List.getElem_cons_zero, List.getElem_cons_succ]
  refine wpList_nil ?_
  have hI0 : Hid (Ob w.heap.size u3 (.slice none 0 0) (fpL D 0) ∧ Bl w [⟨w.heap.size, kc K, 25⟩, ⟨gs, kc D, 25⟩] u3) := ⟨World.ownsRow_nil _ _ _ _, hB⟩
  clear hB
  go_wp2_with fail
  go_loopw [3, 11] (fun v i wr => ∃ (j : Nat) (v' : Value), j ≤ 8 ∧ v' = v ∧ i = .int .i64 (j : Int) ∧ Hid (Ob w.heap.size wr v' (fpL D j) ∧ Bl w [⟨w.heap.size, kc K, 25⟩, ⟨gs, kc D, 25⟩] wr)) (fun _ i _ => 8 - (intOf i).toNat)
  case atStart => exact ⟨0, _, by omega, rfl, rfl, hI0⟩
  case round =>
  clear hI0
  obtain ⟨j, v', hj, rfl, rfl, hA⟩ := hrel
  by_cases hlt : j < 8
  · have jI : (j : Int) < 8 := by omega
    obtain ⟨c, hc⟩ : ∃ c, c = D.getD j 0 := ⟨_, rfl⟩
    have hcb : 0 ≤ c ∧ c < 256 := by rw [hc]; exact (unhide hDb).at_ j
    have hcc := kc_cell ((unhide hA).2.get 1 (x := ⟨gs, kc D, 25⟩) rfl) j (by omega)
    rw [← hc] at hcc
    have hfl : ∀ n : Nat, (fpL D n).length ≤ 3 * n := fun n => by
      induction n with
      | zero => exact Nat.le_refl _
      | succ n ih =>
        rw [fpL]
        split <;> simp only [List.length_append, List.length_cons, List.length_nil] <;> omega
    replace hfl := hide (hfl j)
    replace hc := hide hc; replace hcb := hide hcb; replace hcc := hide hcc
    go_upto_region 5 with fail
    refine wp_region_lit ?_
    refine list_val (.int .i64 (j : Int)) (by kernel_rfl) (by kernel_rfl) ?_
    simp only [Act.put, List.setIfInBounds_toArray, List.set_cons_zero, List.set_cons_succ, List.getElem_toArray, List.getElem_cons_zero, List.getElem_cons_succ]
    refine list_val (.pointer (some ⟨gs, 0 + j, none⟩)) (by kernel_rfl) (exec_at _ (.tmp 9) (.tmp 11) rfl gs 0 8 32 j (by kernel_rfl) (by kernel_rfl) hlt) ?_
    simp only [Act.put, List.setIfInBounds_toArray, List.set_cons_zero, List.set_cons_succ, List.getElem_toArray, List.getElem_cons_zero, List.getElem_cons_succ]
    refine list_val (.int .u8 c) (by kernel_rfl) (exec_u8 _ (.tmp 14) rfl gs (0 + j) (by kernel_rfl) c (by rw [Nat.zero_add]; exact unhide hcc)) ?_
    simp only [Act.put, List.setIfInBounds_toArray, List.set_cons_zero, List.set_cons_succ, List.getElem_toArray, List.getElem_cons_zero, List.getElem_cons_succ]
    (refine wpList_step fun K hK => ?_; replace hK := hide hK; go_simp; refine unhide hK _ _ ?_; clear hK K)
    (refine wpList_step fun K hK => ?_; replace hK := hide hK; go_simp; refine unhide hK _ _ ?_; clear hK K)
    refine wpList_nil ?_
    go_upto_region 6 with fail
    by_cases hmin : 0 < j ∧ j % 2 = 0
    · have m1 : (0 : Int) < (j : Int) := by omega
      have m2 : Int.tmod (j : Int) 2 = 0 := by rw [Int.tmod_eq_emod_of_nonneg (by omega)]; omega
      replace m1 := hide m1; replace m2 := hide m2; replace hmin := hide hmin
      refine wp_region_lit ?_
      refine list_val (.int .i64 (j : Int)) (by kernel_rfl) (by kernel_rfl) ?_
      simp only [Act.put, List.setIfInBounds_toArray, List.set_cons_zero, List.set_cons_succ, List.getElem_toArray, List.getElem_cons_zero, List.getElem_cons_succ]
      refine list_val (.bool true) (by kernel_rfl) (by have h := unhide m1; go_simp; omega) ?_
      simp only [Act.put, List.setIfInBounds_toArray, List.set_cons_zero, List.set_cons_succ, List.getElem_toArray, List.getElem_cons_zero, List.getElem_cons_succ]
      refine list_val (.bool true) (by kernel_rfl) (by kernel_rfl) ?_
      simp only [Act.put, List.setIfInBounds_toArray, List.set_cons_zero, List.set_cons_succ, List.getElem_toArray, List.getElem_cons_zero, List.getElem_cons_succ]
      refine list_val (.int .i64 (j : Int)) (by kernel_rfl) (by kernel_rfl) ?_
      simp only [Act.put, List.setIfInBounds_toArray, List.set_cons_zero, List.set_cons_succ, List.getElem_toArray, List.getElem_cons_zero, List.getElem_cons_succ]
      refine list_val (.int .i64 0) (by kernel_rfl) (by have h := unhide m2; go_simp) ?_
      simp only [Act.put, List.setIfInBounds_toArray, List.set_cons_zero, List.set_cons_succ, List.getElem_toArray, List.getElem_cons_zero, List.getElem_cons_succ]
      refine list_val (.bool true) (by kernel_rfl) (by kernel_rfl) ?_
      simp only [Act.put, List.setIfInBounds_toArray, List.set_cons_zero, List.set_cons_succ, List.getElem_toArray, List.getElem_cons_zero, List.getElem_cons_succ]
      refine list_val (.bool true) (by kernel_rfl) (by kernel_rfl) ?_
      simp only [Act.put, List.setIfInBounds_toArray, List.set_cons_zero, List.set_cons_succ, List.getElem_toArray, List.getElem_cons_zero, List.getElem_cons_succ]
      refine wpList_nil ?_
      go_upto_region 7 with fail
      refine wp_region_lit ?_
      refine list_val v' (by kernel_rfl) (by kernel_rfl) ?_
      simp only [Act.put, List.setIfInBounds_toArray, List.set_cons_zero, List.set_cons_succ, List.getElem_toArray, List.getElem_cons_zero, List.getElem_cons_succ]
      refine list_valw (.slice (some ⟨wr.heap.size, 0, none⟩) 1 1) (wr.alloc (.cells (kc [45]) 5 (0, 0))) (by kernel_rfl) (by kernel_rfl) ?_
      have hn := kc_at (blk_new wr (.cells (kc [45]) 5 (0, 0)))
      have hO1 := (unhide hA).1.gr ((Gr.refl wr).alloc (.cells (kc [45]) 5 (0, 0)))
      have hB1 := (unhide hA).2.more ((Gr.refl wr).alloc (.cells (kc [45]) 5 (0, 0)))
      clear hA
      generalize World.alloc _ _ = y1 at *
      generalize wr.heap.size = gb at *
      simp only [Act.put, List.setIfInBounds_toArray, List.set_cons_zero, List.set_cons_succ, List.getElem_toArray, List.getElem_cons_zero, List.getElem_cons_succ]
      refine app_bs (by kernel_rfl) (.tmp 23) (.tmp 24) rfl w.heap.size v' (fpL D j) (by kernel_rfl) hO1 (some ⟨gb, 0, none⟩) 1 1 [45] (by kernel_rfl) rfl (.inr ⟨gb, 0, rfl, hn⟩) (by have := unhide hfl; omega) hB1.gr.size ?_
      intro v2 y2 hO2 hg2
      replace hB1 := hB1.grown hO1 (Nat.le_refl _) hg2 (by intro y hy; simp only [List.mem_cons, List.not_mem_nil, or_false] at hy; rcases hy with rfl | rfl <;> (dsimp only; decide))
      clear hO1 hg2 hn
      simp only [Act.put, List.setIfInBounds_toArray, List.set_cons_zero, List.set_cons_succ, List.getElem_toArray, List.getElem_cons_zero, List.getElem_cons_succ]
      (refine wpList_step fun K hK => ?_; replace hK := hide hK; go_simp; refine unhide hK _ _ ?_; clear hK K)
      refine wpList_nil ?_
      replace hO2 := hide hO2; replace hB1 := hide hB1
      go_upto_region 8 with fail
      replace hO2 := unhide hO2; replace hB1 := unhide hB1
      refine wp_region_lit ?_
      refine list_val v2 (by kernel_rfl) (by kernel_rfl) ?_
      simp only [Act.put, List.setIfInBounds_toArray, List.set_cons_zero, List.set_cons_succ, List.getElem_toArray, List.getElem_cons_zero, List.getElem_cons_succ]
      refine list_val (.int .u8 c) (by kernel_rfl) (by kernel_rfl) ?_
      simp only [Act.put, List.setIfInBounds_toArray, List.set_cons_zero, List.set_cons_succ, List.getElem_toArray, List.getElem_cons_zero, List.getElem_cons_succ]
      refine list_call 31 #[v2, .int .u8 c] (by kernel_rfl) (by kernel_rfl) ((putdig_ok w.heap.size v2 (fpL D j ++ [45]) c (unhide hcb) _ (hB1).gr.size (hO2) (by simp only [List.length_append, List.length_cons, List.length_nil]; have := unhide hfl; omega)).mono ?_)
      rintro r_ y3 ⟨v3, rfl, hO3, hg3⟩
      have hA2 : Hid (Ob w.heap.size y3 v3 (fpL D (j + 1)) ∧ Bl w [⟨w.heap.size, kc K, 25⟩, ⟨gs, kc D, 25⟩] y3) := ⟨by rw [fpL, if_pos (unhide hmin), ← unhide hc]; exact hO3, (hB1).grown (hO2) (Nat.le_refl _) hg3 (by intro y hy; simp only [List.mem_cons, List.not_mem_nil, or_false] at hy; rcases hy with rfl | rfl <;> (dsimp only; decide))⟩
      clear hO3 hg3
      refine ⟨_, rfl, ?_⟩
      simp only [Act.put, List.setIfInBounds_toArray, List.set_cons_zero, List.set_cons_succ, List.getElem_toArray, List.getElem_cons_zero, List.getElem_cons_succ]
      (refine wpList_step fun K hK => ?_; replace hK := hide hK; go_simp; refine unhide hK _ _ ?_; clear hK K)
      refine wpList_nil ?_
      go_wp2_with fail
      go_roundw
      case rel => exact ⟨j + 1, v3, by omega, rfl, by simp, hA2⟩
      case measure => simp [intOf]; omega
    · by_cases hz : 0 < j
      · have m1 : (0 : Int) < (j : Int) := by omega
        have m2 : Int.tmod (j : Int) 2 = 1 := by rw [Int.tmod_eq_emod_of_nonneg (by omega)]; omega
        replace m1 := hide m1; replace m2 := hide m2; replace hmin := hide hmin; replace hz := hide hz
        refine wp_region_lit ?_
        refine list_val (.int .i64 (j : Int)) (by kernel_rfl) (by kernel_rfl) ?_
        simp only [Act.put, List.setIfInBounds_toArray, List.set_cons_zero, List.set_cons_succ, List.getElem_toArray, List.getElem_cons_zero, List.getElem_cons_succ]
        refine list_val (.bool true) (by kernel_rfl) (by have h := unhide m1; go_simp; omega) ?_
        simp only [Act.put, List.setIfInBounds_toArray, List.set_cons_zero, List.set_cons_succ, List.getElem_toArray, List.getElem_cons_zero, List.getElem_cons_succ]
        refine list_val (.bool true) (by kernel_rfl) (by kernel_rfl) ?_
        simp only [Act.put, List.setIfInBounds_toArray, List.set_cons_zero, List.set_cons_succ, List.getElem_toArray, List.getElem_cons_zero, List.getElem_cons_succ]
        refine list_val (.int .i64 (j : Int)) (by kernel_rfl) (by kernel_rfl) ?_
        simp only [Act.put, List.setIfInBounds_toArray, List.set_cons_zero, List.set_cons_succ, List.getElem_toArray, List.getElem_cons_zero, List.getElem_cons_succ]
        refine list_val (.int .i64 1) (by kernel_rfl) (by have h := unhide m2; go_simp) ?_
        simp only [Act.put, List.setIfInBounds_toArray, List.set_cons_zero, List.set_cons_succ, List.getElem_toArray, List.getElem_cons_zero, List.getElem_cons_succ]
        refine list_val (.bool false) (by kernel_rfl) (by kernel_rfl) ?_
        simp only [Act.put, List.setIfInBounds_toArray, List.set_cons_zero, List.set_cons_succ, List.getElem_toArray, List.getElem_cons_zero, List.getElem_cons_succ]
        refine list_val (.bool false) (by kernel_rfl) (by kernel_rfl) ?_
        simp only [Act.put, List.setIfInBounds_toArray, List.set_cons_zero, List.set_cons_succ, List.getElem_toArray, List.getElem_cons_zero, List.getElem_cons_succ]
        refine wpList_nil ?_
        go_upto_region 8 with fail
        refine wp_region_lit ?_
        refine list_val v' (by kernel_rfl) (by kernel_rfl) ?_
        simp only [Act.put, List.setIfInBounds_toArray, List.set_cons_zero, List.set_cons_succ, List.getElem_toArray, List.getElem_cons_zero, List.getElem_cons_succ]
        refine list_val (.int .u8 c) (by kernel_rfl) (by kernel_rfl) ?_
        simp only [Act.put, List.setIfInBounds_toArray, List.set_cons_zero, List.set_cons_succ, List.getElem_toArray, List.getElem_cons_zero, List.getElem_cons_succ]
        refine list_call 31 #[v', .int .u8 c] (by kernel_rfl) (by kernel_rfl) ((putdig_ok w.heap.size v' (fpL D j) c (unhide hcb) wr ((unhide hA).2).gr.size ((unhide hA).1) (by have := unhide hfl; omega)).mono ?_)
        rintro r_ y3 ⟨v3, rfl, hO3, hg3⟩
        have hA2 : Hid (Ob w.heap.size y3 v3 (fpL D (j + 1)) ∧ Bl w [⟨w.heap.size, kc K, 25⟩, ⟨gs, kc D, 25⟩] y3) := ⟨by rw [fpL, if_neg (unhide hmin), ← unhide hc]; exact hO3, ((unhide hA).2).grown ((unhide hA).1) (Nat.le_refl _) hg3 (by intro y hy; simp only [List.mem_cons, List.not_mem_nil, or_false] at hy; rcases hy with rfl | rfl <;> (dsimp only; decide))⟩
        clear hO3 hg3
        refine ⟨_, rfl, ?_⟩
        simp only [Act.put, List.setIfInBounds_toArray, List.set_cons_zero, List.set_cons_succ, List.getElem_toArray, List.getElem_cons_zero, List.getElem_cons_succ]
        (refine wpList_step fun K hK => ?_; replace hK := hide hK; go_simp; refine unhide hK _ _ ?_; clear hK K)
        refine wpList_nil ?_
        go_wp2_with fail
        go_roundw
        case rel => exact ⟨j + 1, v3, by omega, rfl, by simp, hA2⟩
        case measure => simp [intOf]; omega
      · have m1 : ¬ (0 : Int) < (j : Int) := by omega
        replace m1 := hide m1; replace hmin := hide hmin; replace hz := hide hz
        refine wp_region_lit ?_
        refine list_val (.int .i64 (j : Int)) (by kernel_rfl) (by kernel_rfl) ?_
        simp only [Act.put, List.setIfInBounds_toArray, List.set_cons_zero, List.set_cons_succ, List.getElem_toArray, List.getElem_cons_zero, List.getElem_cons_succ]
        refine list_val (.bool false) (by kernel_rfl) (by have h := unhide m1; go_simp; omega) ?_
        simp only [Act.put, List.setIfInBounds_toArray, List.set_cons_zero, List.set_cons_succ, List.getElem_toArray, List.getElem_cons_zero, List.getElem_cons_succ]
        refine list_val (.bool false) (by kernel_rfl) (by kernel_rfl) ?_
        simp only [Act.put, List.setIfInBounds_toArray, List.set_cons_zero, List.set_cons_succ, List.getElem_toArray, List.getElem_cons_zero, List.getElem_cons_succ]
        refine wpList_step fun K hK => ?_
        rw [if_neg (ne_true_of_eq_false (by kernel_rfl))]
        refine hK _ _ ?_
        clear hK K
        simp only [Act.put, List.setIfInBounds_toArray, List.set_cons_zero, List.set_cons_succ, List.getElem_toArray, List.getElem_cons_zero, List.getElem_cons_succ]
        refine wpList_step fun K hK => ?_
        rw [if_neg (ne_true_of_eq_false (by kernel_rfl))]
        refine hK _ _ ?_
        clear hK K
        simp only [Act.put, List.setIfInBounds_toArray, List.set_cons_zero, List.set_cons_succ, List.getElem_toArray, List.getElem_cons_zero, List.getElem_cons_succ]
        refine wpList_step fun K hK => ?_
        rw [if_neg (ne_true_of_eq_false (by kernel_rfl))]
        refine hK _ _ ?_
        clear hK K
        simp only [Act.put, List.setIfInBounds_toArray, List.set_cons_zero, List.set_cons_succ, List.getElem_toArray, List.getElem_cons_zero, List.getElem_cons_succ]
        refine list_val (.bool false) (by kernel_rfl) (by kernel_rfl) ?_
        simp only [Act.put, List.setIfInBounds_toArray, List.set_cons_zero, List.set_cons_succ, List.getElem_toArray, List.getElem_cons_zero, List.getElem_cons_succ]
        refine wpList_nil ?_
        go_upto_region 8 with fail
        refine wp_region_lit ?_
        refine list_val v' (by kernel_rfl) (by kernel_rfl) ?_
        simp only [Act.put, List.setIfInBounds_toArray, List.set_cons_zero, List.set_cons_succ, List.getElem_toArray, List.getElem_cons_zero, List.getElem_cons_succ]
        refine list_val (.int .u8 c) (by kernel_rfl) (by kernel_rfl) ?_
        simp only [Act.put, List.setIfInBounds_toArray, List.set_cons_zero, List.set_cons_succ, List.getElem_toArray, List.getElem_cons_zero, List.getElem_cons_succ]
        refine list_call 31 #[v', .int .u8 c] (by kernel_rfl) (by kernel_rfl) ((putdig_ok w.heap.size v' (fpL D j) c (unhide hcb) wr ((unhide hA).2).gr.size ((unhide hA).1) (by have := unhide hfl; omega)).mono ?_)
        rintro r_ y3 ⟨v3, rfl, hO3, hg3⟩
        have hA2 : Hid (Ob w.heap.size y3 v3 (fpL D (j + 1)) ∧ Bl w [⟨w.heap.size, kc K, 25⟩, ⟨gs, kc D, 25⟩] y3) := ⟨by rw [fpL, if_neg (unhide hmin), ← unhide hc]; exact hO3, ((unhide hA).2).grown ((unhide hA).1) (Nat.le_refl _) hg3 (by intro y hy; simp only [List.mem_cons, List.not_mem_nil, or_false] at hy; rcases hy with rfl | rfl <;> (dsimp only; decide))⟩
        clear hO3 hg3
        refine ⟨_, rfl, ?_⟩
        simp only [Act.put, List.setIfInBounds_toArray, List.set_cons_zero, List.set_cons_succ, List.getElem_toArray, List.getElem_cons_zero, List.getElem_cons_succ]
        (refine wpList_step fun K hK => ?_; replace hK := hide hK; go_simp; refine unhide hK _ _ ?_; clear hK K)
        refine wpList_nil ?_
        go_wp2_with fail
        go_roundw
        case rel => exact ⟨j + 1, v3, by omega, rfl, by simp, hA2⟩
        case measure => simp [intOf]; omega
  · have e : j = 8 := by omega
    subst e
    clear hlt
    obtain ⟨hO, hG⟩ := unhide hA
    obtain ⟨av, cv, hv, _, _, hsl⟩ := hO.slice
    have hl2 : (fpL D 8).length = 19 := fpL_len D
    rw [hl2] at hv
    subst hv
    obtain ⟨FP, hFP⟩ : ∃ F, F = fpL D 8 := ⟨_, rfl⟩
    rw [← hFP] at hsl hl2 hT
    replace hsl := hide hsl
    clear hO hA hFP
    replace hG := hide hG.gr
    go_upto_region 10 with fail
    refine wp_region_lit ?_
    refine list_val (.slice av 19 cv) (by kernel_rfl) (by kernel_rfl) ?_
    simp only [Act.put, List.setIfInBounds_toArray, List.set_cons_zero, List.set_cons_succ, List.getElem_toArray, List.getElem_cons_zero, List.getElem_cons_succ]
    refine list_val (.string (strOfNums FP)) (by kernel_rfl) (exec_text _ (.tmp 30) rfl av 19 cv FP hl2 (by kernel_rfl) (unhide hsl)) ?_
    simp only [Act.put, List.setIfInBounds_toArray, List.set_cons_zero, List.set_cons_succ, List.getElem_toArray, List.getElem_cons_zero, List.getElem_cons_succ]
    (refine wpList_step fun K hK => ?_; replace hK := hide hK; go_simp; refine unhide hK _ _ ?_; clear hK K)
    refine wpList_nil ?_
    have hZ : Hid (T (.returned (.string (strOfNums FP))) wr) := by
      rw [unhide hT]
      exact ⟨rfl, unhide hG⟩
    go_wp2_with fail
    exact unhide hZ
end Go.Proofs.YtpmgmpihmpifgaaDoor
