/-
  Names and texts of keys: the layer does something.
-/
import Derived.Test.YtpmgmpihmpifgaaDoorIF
namespace Go.Proofs.YtpmgmpihmpifgaaDoor
open Go.RowKit
set_option maxRecDepth 100000
set_option linter.unusedSimpArgs false
set_option linter.unusedVariables false
def KW1 : List Int := 1 :: List.replicate 31 0
theorem KW1_len : KW1.length = 32 := rfl
theorem KW1_isB : IsB KW1 := by unfold IsB KW1; decide
theorem Z32_isB' : IsB Z32 := by unfold IsB Z32; decide
def WT : List Int := [48, 49] ++ (txL Z32).drop 2
theorem WT_isB : IsB WT := by unfold IsB WT; decide
theorem WT_K : kyK WT = KW1 ∧ kyE WT = 0 ∧ kyP WT = 0 := by decide +kernel
theorem WT_len : (txL Z32).length = 64 := rfl
set_option maxHeartbeats 4000000 in
theorem wakes16_ok (w : World) (hF : Fst w) : Calls Tryd.prog 9 #[] w (Bod true w) := by
  obtain ⟨T, hT⟩ : ∃ T, T = Bod true w := ⟨_, rfl⟩
  rw [← hT]
  replace hT := hide hT
  replace hF := hide hF
  go_enter Tryd.func9, Tryd.ntmps9
  go_upto_region 1 with fail
  obtain ⟨u, hu0⟩ : ∃ u, u = w := ⟨_, rfl⟩
  rw [← hu0]
  have hG : Gr w u := hu0 ▸ Gr.refl w
  clear hu0
  refine wp_region_lit ?_
  refine list_val (.agg (kc Z32)) (by kernel_rfl) (by kernel_rfl) ?_
  simp only [Act.put, List.setIfInBounds_toArray, List.set_cons_zero, List.set_cons_succ, List.getElem_toArray, List.getElem_cons_zero, List.getElem_cons_succ]
  refine list_call 14 #[.agg (kc Z32)] (by kernel_rfl) (by kernel_rfl) ((text_ok Z32 rfl Z32_isB' u).mono ?_)
  rintro r_ u1 ⟨rfl, hg⟩
  replace hG := hG.trans hg
  clear hg
  obtain ⟨TL, hTL⟩ : ∃ t, t = txL Z32 := ⟨_, rfl⟩
  rw [← hTL]
  have hTn : TL.length = 64 := by rw [hTL]; rfl
  replace hTL := hide hTL
  refine ⟨_, rfl, ?_⟩
  simp only [Act.put, List.setIfInBounds_toArray, List.set_cons_zero, List.set_cons_succ, List.getElem_toArray, List.getElem_cons_zero, List.getElem_cons_succ]
  (refine wpList_step fun K hK => ?_; replace hK := hide hK; go_simp; refine unhide hK _ _ ?_; clear hK K)
  refine wpList_nil ?_
  replace hG := hide hG
  go_upto_region 2 with fail
  replace hG := unhide hG
  refine wp_region_lit ?_
  refine list_val (.string (strOfNums TL)) (by kernel_rfl) (by kernel_rfl) ?_
  simp only [Act.put, List.setIfInBounds_toArray, List.set_cons_zero, List.set_cons_succ, List.getElem_toArray, List.getElem_cons_zero, List.getElem_cons_succ]
  refine list_val (.int .i64 ((64 : Nat) : Int)) (by kernel_rfl) (exec_slen _ (.tmp 6) rfl TL 64 hTn (by kernel_rfl)) ?_
  simp only [Act.put, List.setIfInBounds_toArray, List.set_cons_zero, List.set_cons_succ, List.getElem_toArray, List.getElem_cons_zero, List.getElem_cons_succ]
  refine list_val (.bool false) (by kernel_rfl) (by kernel_rfl) ?_
  simp only [Act.put, List.setIfInBounds_toArray, List.set_cons_zero, List.set_cons_succ, List.getElem_toArray, List.getElem_cons_zero, List.getElem_cons_succ]
  refine wpList_nil ?_
  replace hG := hide hG
  go_upto_region 4 with fail
  replace hG := unhide hG
  refine wp_region_lit ?_
  refine list_val (.string (strOfNums TL)) (by kernel_rfl) (by kernel_rfl) ?_
  simp only [Act.put, List.setIfInBounds_toArray, List.set_cons_zero, List.set_cons_succ, List.getElem_toArray, List.getElem_cons_zero, List.getElem_cons_succ]
  refine list_val (.string (strOfNums (TL.drop 2))) (by kernel_rfl) (exec_sfrom _ (.tmp 10) (.const (.int .i64 2)) rfl TL .i64 2 (by kernel_rfl) rfl (by omega)) ?_
  simp only [Act.put, List.setIfInBounds_toArray, List.set_cons_zero, List.set_cons_succ, List.getElem_toArray, List.getElem_cons_zero, List.getElem_cons_succ]
  refine list_val (.string (strOfNums ([48, 49] ++ TL.drop 2))) (by kernel_rfl) (exec_sadd _ (.const (.string ⟨#[48, 49]⟩)) (.tmp 11) rfl [48, 49] (TL.drop 2) rfl (by kernel_rfl) (by rw [List.length_drop]; simp only [List.length_cons, List.length_nil]; omega)) ?_
  simp only [Act.put, List.setIfInBounds_toArray, List.set_cons_zero, List.set_cons_succ, List.getElem_toArray, List.getElem_cons_zero, List.getElem_cons_succ]
  refine list_call 12 #[.string (strOfNums ([48, 49] ++ TL.drop 2))] (by kernel_rfl) (by kernel_rfl) ((show Calls Tryd.prog 12 #[.string (strOfNums ([48, 49] ++ TL.drop 2))] u1 (Kyd ([48, 49] ++ TL.drop 2) u1) from by rw [unhide hTL]; exact ikey_ok WT WT_isB u1).mono ?_)
  rintro r_ u2 ⟨hr, hg⟩
  rw [show [48, 49] ++ TL.drop 2 = WT from by rw [unhide hTL]; rfl, WT_K.1, WT_K.2.1, WT_K.2.2] at hr
  subst hr
  replace hG := hG.trans hg
  clear hg
  have hB := Bl.nil u2
  refine ⟨_, rfl, ?_⟩
  simp only [Act.put, List.setIfInBounds_toArray, List.set_cons_zero, List.set_cons_succ, List.getElem_toArray, List.getElem_cons_zero, List.getElem_cons_succ]
  refine list_val (.tuple #[.agg (kc KW1), .agg (spv 0 0)]) (by kernel_rfl) (by kernel_rfl) ?_
  simp only [Act.put, List.setIfInBounds_toArray, List.set_cons_zero, List.set_cons_succ, List.getElem_toArray, List.getElem_cons_zero, List.getElem_cons_succ]
  refine list_val (.agg (kc KW1)) (by kernel_rfl) (by kernel_rfl) ?_
  simp only [Act.put, List.setIfInBounds_toArray, List.set_cons_zero, List.set_cons_succ, List.getElem_toArray, List.getElem_cons_zero, List.getElem_cons_succ]
  refine list_val (.agg (spv 0 0)) (by kernel_rfl) (by kernel_rfl) ?_
  simp only [Act.put, List.setIfInBounds_toArray, List.set_cons_zero, List.set_cons_succ, List.getElem_toArray, List.getElem_cons_zero, List.getElem_cons_succ]
  refine list_valw (.pointer (some ⟨u2.heap.size, 0, none⟩)) (u2.alloc (.cells (kc Z32) 25 (0, 0))) (by kernel_rfl) (by kernel_rfl) ?_
  replace hB := hB.new (kc Z32) 25
  simp only [List.nil_append, List.cons_append] at hB
  generalize World.alloc _ _ = u3 at *
  generalize u2.heap.size = gk at *
  replace hB : Bl _ [⟨gk, kc Z32, 25⟩] u3 := hB
  simp only [Act.put, List.setIfInBounds_toArray, List.set_cons_zero, List.set_cons_succ, List.getElem_toArray, List.getElem_cons_zero, List.getElem_cons_succ]
  refine list_valw (.pointer (some ⟨u3.heap.size, 0, none⟩)) (u3.alloc (.cells (spv 0 0) 28 (0, 0))) (by kernel_rfl) (by kernel_rfl) ?_
  replace hB := hB.new (spv 0 0) 28
  simp only [List.nil_append, List.cons_append] at hB
  generalize World.alloc _ _ = u4 at *
  generalize u3.heap.size = gp at *
  replace hB : Bl _ [⟨gk, kc Z32, 25⟩, ⟨gp, spv 0 0, 28⟩] u4 := hB
  simp only [Act.put, List.setIfInBounds_toArray, List.set_cons_zero, List.set_cons_succ, List.getElem_toArray, List.getElem_cons_zero, List.getElem_cons_succ]
  refine list_store 25 (.tmp 2) (.tmp 14) gk (kc KW1) 25 (kc Z32) (by kernel_rfl) rfl (by kernel_rfl) (by kernel_rfl) (hB.get 0 (x := ⟨gk, kc Z32, 25⟩) rfl) (by rw [Tryd.infoKey]; rfl) rfl (kc_one _) ?_
  replace hB := hB.set 0 (x := ⟨gk, kc Z32, 25⟩) rfl (kc KW1)
  simp only [List.set_cons_zero, List.set_cons_succ] at hB
  generalize World.setRow _ _ _ = u5 at *
  simp only [Act.put, List.setIfInBounds_toArray, List.set_cons_zero, List.set_cons_succ, List.getElem_toArray, List.getElem_cons_zero, List.getElem_cons_succ]
  refine list_store 28 (.tmp 3) (.tmp 15) gp (spv 0 0) 28 (spv 0 0) (by kernel_rfl) rfl (by kernel_rfl) (by kernel_rfl) (hB.get 1 (x := ⟨gp, spv 0 0, 28⟩) rfl) (by rw [Tryd.infoSpot]; rfl) rfl (spv_one _ _) ?_
  replace hB := hB.set 1 (x := ⟨gp, spv 0 0, 28⟩) rfl (spv 0 0)
  simp only [List.set_cons_zero, List.set_cons_succ] at hB
  generalize World.setRow _ _ _ = u6 at *
  simp only [Act.put, List.setIfInBounds_toArray, List.set_cons_zero, List.set_cons_succ, List.getElem_toArray, List.getElem_cons_zero, List.getElem_cons_succ]
  refine wpList_nil ?_
  replace hG := hG.trans hB.gr
  have hk := hide (hB.get 0 (x := ⟨gk, kc KW1, 25⟩) rfl)
  have hp := hide (hB.get 1 (x := ⟨gp, spv 0 0, 28⟩) rfl)
  dsimp only at hk hp
  clear hB
  replace hG := hide hG
  go_upto_region 5 with fail
  replace hG := unhide hG
  refine wp_region_lit ?_
  refine list_call 10 #[.string (strOfNums [97, 45, 49])] (by kernel_rfl) (by kernel_rfl) ((name_ok [97, 45, 49] (by unfold IsB; decide) u6).mono ?_)
  rintro r_ u7 ⟨hr, hg⟩
  rw [show nmL [97, 45, 49] = true from rfl] at hr
  subst hr
  replace hG := hG.trans hg
  replace hk := hide (hg.blk (unhide hk))
  replace hp := hide (hg.blk (unhide hp))
  clear hg
  refine ⟨_, rfl, ?_⟩
  simp only [Act.put, List.setIfInBounds_toArray, List.set_cons_zero, List.set_cons_succ, List.getElem_toArray, List.getElem_cons_zero, List.getElem_cons_succ]
  refine list_val (.bool true) (by kernel_rfl) (by kernel_rfl) ?_
  simp only [Act.put, List.setIfInBounds_toArray, List.set_cons_zero, List.set_cons_succ, List.getElem_toArray, List.getElem_cons_zero, List.getElem_cons_succ]
  refine list_call 10 #[.string (strOfNums [])] (by kernel_rfl) (by kernel_rfl) ((name_ok [] (by unfold IsB; decide) u7).mono ?_)
  rintro r_ u8 ⟨hr, hg⟩
  rw [show nmL [] = false from rfl] at hr
  subst hr
  replace hG := hG.trans hg
  replace hk := hide (hg.blk (unhide hk))
  replace hp := hide (hg.blk (unhide hp))
  clear hg
  refine ⟨_, rfl, ?_⟩
  simp only [Act.put, List.setIfInBounds_toArray, List.set_cons_zero, List.set_cons_succ, List.getElem_toArray, List.getElem_cons_zero, List.getElem_cons_succ]
  refine list_val (.bool true) (by kernel_rfl) (by kernel_rfl) ?_
  simp only [Act.put, List.setIfInBounds_toArray, List.set_cons_zero, List.set_cons_succ, List.getElem_toArray, List.getElem_cons_zero, List.getElem_cons_succ]
  refine list_val (.bool true) (by kernel_rfl) (by kernel_rfl) ?_
  simp only [Act.put, List.setIfInBounds_toArray, List.set_cons_zero, List.set_cons_succ, List.getElem_toArray, List.getElem_cons_zero, List.getElem_cons_succ]
  refine list_val (.bool true) (by kernel_rfl) (by kernel_rfl) ?_
  simp only [Act.put, List.setIfInBounds_toArray, List.set_cons_zero, List.set_cons_succ, List.getElem_toArray, List.getElem_cons_zero, List.getElem_cons_succ]
  refine list_val (.agg (spv 0 0)) (by kernel_rfl) (exec_arr _ 28 (.tmp 3) rfl gp (by kernel_rfl) (spv 0 0) 28 _ (unhide hp) Tryd.underlying28 rfl (by rw [Tryd.infoSpot]; rfl)) ?_
  simp only [Act.put, List.setIfInBounds_toArray, List.set_cons_zero, List.set_cons_succ, List.getElem_toArray, List.getElem_cons_zero, List.getElem_cons_succ]
  refine list_val (.agg (spv 0 0)) (by kernel_rfl) (by kernel_rfl) ?_
  simp only [Act.put, List.setIfInBounds_toArray, List.set_cons_zero, List.set_cons_succ, List.getElem_toArray, List.getElem_cons_zero, List.getElem_cons_succ]
  refine list_val (.bool true) (by kernel_rfl) (by kernel_rfl) ?_
  simp only [Act.put, List.setIfInBounds_toArray, List.set_cons_zero, List.set_cons_succ, List.getElem_toArray, List.getElem_cons_zero, List.getElem_cons_succ]
  refine list_val (.bool true) (by kernel_rfl) (by kernel_rfl) ?_
  simp only [Act.put, List.setIfInBounds_toArray, List.set_cons_zero, List.set_cons_succ, List.getElem_toArray, List.getElem_cons_zero, List.getElem_cons_succ]
  refine list_val (.bool true) (by kernel_rfl) (by kernel_rfl) ?_
  simp only [Act.put, List.setIfInBounds_toArray, List.set_cons_zero, List.set_cons_succ, List.getElem_toArray, List.getElem_cons_zero, List.getElem_cons_succ]
  refine list_val (.agg (kc KW1)) (by kernel_rfl) (exec_arr _ 25 (.tmp 2) rfl gk (by kernel_rfl) (kc KW1) 25 _ (unhide hk) Tryd.underlying25 rfl (by rw [Tryd.infoKey]; rfl)) ?_
  simp only [Act.put, List.setIfInBounds_toArray, List.set_cons_zero, List.set_cons_succ, List.getElem_toArray, List.getElem_cons_zero, List.getElem_cons_succ]
  refine list_val (.agg (kc KW1)) (by kernel_rfl) (by kernel_rfl) ?_
  simp only [Act.put, List.setIfInBounds_toArray, List.set_cons_zero, List.set_cons_succ, List.getElem_toArray, List.getElem_cons_zero, List.getElem_cons_succ]
  refine list_val (.bool true) (by kernel_rfl) (by kernel_rfl) ?_
  simp only [Act.put, List.setIfInBounds_toArray, List.set_cons_zero, List.set_cons_succ, List.getElem_toArray, List.getElem_cons_zero, List.getElem_cons_succ]
  refine list_val (.bool true) (by kernel_rfl) (by kernel_rfl) ?_
  simp only [Act.put, List.setIfInBounds_toArray, List.set_cons_zero, List.set_cons_succ, List.getElem_toArray, List.getElem_cons_zero, List.getElem_cons_succ]
  refine list_val (.bool true) (by kernel_rfl) (by kernel_rfl) ?_
  simp only [Act.put, List.setIfInBounds_toArray, List.set_cons_zero, List.set_cons_succ, List.getElem_toArray, List.getElem_cons_zero, List.getElem_cons_succ]
  refine list_val (.agg (kc KW1)) (by kernel_rfl) (exec_arr _ 25 (.tmp 2) rfl gk (by kernel_rfl) (kc KW1) 25 _ (unhide hk) Tryd.underlying25 rfl (by rw [Tryd.infoKey]; rfl)) ?_
  simp only [Act.put, List.setIfInBounds_toArray, List.set_cons_zero, List.set_cons_succ, List.getElem_toArray, List.getElem_cons_zero, List.getElem_cons_succ]
  refine list_call 16 #[.agg (kc KW1)] (by kernel_rfl) (by kernel_rfl) ((finger_ok KW1 rfl KW1_isB u8 ((unhide hF).gr hG)).mono ?_)
  rintro r_ u9 ⟨rfl, hg⟩
  replace hG := hG.trans hg
  clear hg
  have hfl := fpL_len (sumL KW1)
  obtain ⟨FP, hFP⟩ : ∃ t, t = fpL (sumL KW1) 8 := ⟨_, rfl⟩
  rw [← hFP] at hfl ⊢
  clear hFP
  refine ⟨_, rfl, ?_⟩
  simp only [Act.put, List.setIfInBounds_toArray, List.set_cons_zero, List.set_cons_succ, List.getElem_toArray, List.getElem_cons_zero, List.getElem_cons_succ]
  refine list_val (.int .i64 ((19 : Nat) : Int)) (by kernel_rfl) (exec_slen _ (.tmp 33) rfl FP 19 hfl (by kernel_rfl)) ?_
  simp only [Act.put, List.setIfInBounds_toArray, List.set_cons_zero, List.set_cons_succ, List.getElem_toArray, List.getElem_cons_zero, List.getElem_cons_succ]
  refine list_val (.bool true) (by kernel_rfl) (by kernel_rfl) ?_
  simp only [Act.put, List.setIfInBounds_toArray, List.set_cons_zero, List.set_cons_succ, List.getElem_toArray, List.getElem_cons_zero, List.getElem_cons_succ]
  refine list_val (.bool true) (by kernel_rfl) (by kernel_rfl) ?_
  simp only [Act.put, List.setIfInBounds_toArray, List.set_cons_zero, List.set_cons_succ, List.getElem_toArray, List.getElem_cons_zero, List.getElem_cons_succ]
  (refine wpList_step fun K hK => ?_; replace hK := hide hK; go_simp; refine unhide hK _ _ ?_; clear hK K)
  refine wpList_nil ?_
  have hZ : Hid (T (.returned (.bool true)) u9) := by
    rw [unhide hT]
    exact ⟨rfl, hG⟩
  go_wp2_with fail
  exact unhide hZ
end Go.Proofs.YtpmgmpihmpifgaaDoor
