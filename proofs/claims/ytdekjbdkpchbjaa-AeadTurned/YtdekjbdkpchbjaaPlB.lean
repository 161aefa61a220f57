/-
  What carried and least answer.
-/
import Derived.Test.YtdekjbdkpchbjaaPlA
namespace Go.Proofs.Ytdekjbdkpchbjaa
open Go.RowKit
set_option maxRecDepth 100000
set_option linter.unusedSimpArgs false
set_option linter.unusedVariables false
theorem Try.infoL : (Try.prog.info? 66).map (·.size) = some 5 := by kernel_rfl
/-- cells of five digits -/
def fc (a b c d e : Int) : Array Value := #[.int .u64 a, .int .u64 b, .int .u64 c, .int .u64 d, .int .u64 e]
theorem fc_one (a b c d e : Int) : (fc a b c d e).all (·.oneCell') = true := by unfold fc; simp [Value.oneCell']
theorem fc_set0 (a b c d e x : Int) : (fc a b c d e).setIfInBounds 0 (.int .u64 x) = fc x b c d e := rfl
theorem fc_set4 (a b c d e x : Int) : (fc a b c d e).setIfInBounds 4 (.int .u64 x) = fc a b c d x := rfl
/-- digits that are carried, of the number n modulo the prime -/
def Car (n a b c d e : Int) : Prop := (0 ≤ a ∧ a < 67108869) ∧ Dg b ∧ Dg c ∧ Dg d ∧ Dg e ∧ v5 a b c d e < 1361129467683753853853498429727072845824 ∧ v5 a b c d e % 1361129467683753853853498429727072845819 = n
/-- what carried answers -/
def Crd (n : Int) (w : World) (r : Ending) (w' : World) : Prop := ∃ a b c d e, r = .returned (.agg (fc a b c d e)) ∧ Car n a b c d e ∧ Gr w w'
def Mid (x : Int) : Prop := 0 ≤ x ∧ x < 1152921504606846976
theorem carried_val (a b c d e y0 y1 y2 y3 y4 z0 z1 z2 z3 z4 o1 o2 : Int) (ha : Mid a) (hb : Mid b) (hc : Mid c) (hd : Mid d) (he : Mid e) (hy0 : Dg y0) (hy1 : Dg y1) (hy2 : Dg y2) (hy3 : Dg y3) (hy4 : Dg y4) (hz0 : Dg z0) (hz1 : Dg z1) (hz2 : Dg z2) (hz3 : Dg z3) (hz4 : Dg z4)
    (h1 : v5 y0 y1 y2 y3 y4 + 1361129467683753853853498429727072845824 * o1 = v5 a b c d e + 0) (h2 : v5 z0 z1 z2 z3 z4 + 1361129467683753853853498429727072845824 * o2 = v5 y0 y1 y2 y3 y4 + o1 * 5) (ho1 : 0 ≤ o1) (ho2 : 0 ≤ o2) :
    Car (v5 a b c d e % 1361129467683753853853498429727072845819) (z0 + o2 * 5) z1 z2 z3 z4 ∧ o2 ≤ 1 := by
  unfold Dg at *
  unfold Mid at *
  have hv : v5 (z0 + o2 * 5) z1 z2 z3 z4 = v5 z0 z1 z2 z3 z4 + o2 * 5 := by unfold v5; omega
  have b1 : 0 ≤ v5 y0 y1 y2 y3 y4 ∧ v5 y0 y1 y2 y3 y4 < 1361129467683753853853498429727072845824 := by unfold v5; omega
  have b2 : 0 ≤ v5 z0 z1 z2 z3 z4 ∧ v5 z0 z1 z2 z3 z4 < 1361129467683753853853498429727072845824 := by unfold v5; omega
  have b3 : v5 a b c d e < 1361129467683753853853498429727072845824 * 34359738368 := by unfold v5; omega
  have k1 : o1 < 34359738369 := by omega
  have k2 : o2 ≤ 1 := by omega
  refine ⟨⟨by omega, hz1, hz2, hz3, hz4, ?_, ?_⟩, k2⟩
  · rw [hv]
    omega
  · rw [hv]
    omega
set_option maxHeartbeats 4000000 in
theorem carried_ok (a b c d e : Int) (ha : Mid a) (hb : Mid b) (hc : Mid c) (hd : Mid d) (he : Mid e) (w : World) : Calls Try.prog 67 #[.agg (fc a b c d e)] w (Crd (v5 a b c d e % 1361129467683753853853498429727072845819) w) := by
  obtain ⟨T, hT⟩ : ∃ T, T = Crd (v5 a b c d e % 1361129467683753853853498429727072845819) w := ⟨_, rfl⟩
  rw [← hT]
  replace hT := hide hT
  obtain ⟨SK, hSK⟩ : ∃ S, S = fc a b c d e := ⟨_, rfl⟩
  rw [← hSK]
  replace hSK := hide hSK
  replace ha := hide ha; replace hb := hide hb; replace hc := hide hc; replace hd := hide hd; replace he := hide he
  go_enter Try.func67, Try.ntmps67
  go_upto_region 1 with fail
  have hB := ((Bl.nil w).new SK 66).new #[.int .u64 0, .int .u64 0, .int .u64 0, .int .u64 0, .int .u64 0] 66
  simp only [size_alloc, List.nil_append, List.cons_append] at hB
  generalize World.alloc _ _ = u at *
  rw [unhide hSK] at hB
  replace hB : Bl w [⟨w.heap.size, fc a b c d e, 66⟩, ⟨w.heap.size + 1, fc 0 0 0 0 0, 66⟩] u := hB
  refine wp_region_lit ?_
  refine list_val (.agg (fc a b c d e)) (by kernel_rfl) (exec_arr _ 66 (.tmp 1) rfl (w.heap.size) (by kernel_rfl) (fc a b c d e) 66 _ (hB.get 0 (x := ⟨w.heap.size, fc a b c d e, 66⟩) rfl) Try.underlying66 rfl Try.infoL) ?_
  simp only [Act.put, List.setIfInBounds_toArray, List.set_cons_zero, List.set_cons_succ, List.getElem_toArray, List.getElem_cons_zero, List.getElem_cons_succ]
  refine list_call 60 #[.agg (fc a b c d e), .int .u64 0] (by kernel_rfl) (by kernel_rfl) ((passed_ok a b c d e 0 (by have := unhide ha; unfold Mid at this; unfold Sm; omega) (by have := unhide hb; unfold Mid at this; unfold Sm; omega) (by have := unhide hc; unfold Mid at this; unfold Sm; omega) (by have := unhide hd; unfold Mid at this; unfold Sm; omega) (by have := unhide he; unfold Mid at this; unfold Sm; omega) (by unfold Sm; omega) _).mono ?_)
  rintro r u1 ⟨y0, y1, y2, y3, y4, o1, rfl, hy0, hy1, hy2, hy3, hy4, ho1, hv1, hg⟩
  refine ⟨_, rfl, ?_⟩
  replace hB := hB.more hg
  clear hg
  simp only [Act.put, List.setIfInBounds_toArray, List.set_cons_zero, List.set_cons_succ, List.getElem_toArray, List.getElem_cons_zero, List.getElem_cons_succ]
  refine list_val (.tuple #[.agg (fc y0 y1 y2 y3 y4), .int .u64 o1]) (by kernel_rfl) (by kernel_rfl) ?_
  simp only [Act.put, List.setIfInBounds_toArray, List.set_cons_zero, List.set_cons_succ, List.getElem_toArray, List.getElem_cons_zero, List.getElem_cons_succ]
  refine list_val (.agg (fc y0 y1 y2 y3 y4)) (by kernel_rfl) (by kernel_rfl) ?_
  simp only [Act.put, List.setIfInBounds_toArray, List.set_cons_zero, List.set_cons_succ, List.getElem_toArray, List.getElem_cons_zero, List.getElem_cons_succ]
  refine list_val (.int .u64 o1) (by kernel_rfl) (by kernel_rfl) ?_
  simp only [Act.put, List.setIfInBounds_toArray, List.set_cons_zero, List.set_cons_succ, List.getElem_toArray, List.getElem_cons_zero, List.getElem_cons_succ]
  refine list_store 66 (.tmp 1) (.tmp 7) (w.heap.size) (fc y0 y1 y2 y3 y4) 66 (fc a b c d e) (by kernel_rfl) rfl (by kernel_rfl) (by kernel_rfl) (hB.get 0 (x := ⟨w.heap.size, fc a b c d e, 66⟩) rfl) Try.infoL rfl (fc_one _ _ _ _ _) ?_
  replace hB := hB.set 0 (x := ⟨w.heap.size, fc a b c d e, 66⟩) rfl (fc y0 y1 y2 y3 y4)
  simp only [List.set_cons_zero, List.set_cons_succ] at hB
  generalize World.setRow _ _ _ = u2 at *
  simp only [Act.put, List.setIfInBounds_toArray, List.set_cons_zero, List.set_cons_succ, List.getElem_toArray, List.getElem_cons_zero, List.getElem_cons_succ]
  (refine wpList_step fun K hK => ?_; replace hK := hide hK; go_simp; refine unhide hK _ _ ?_; clear hK K)
  refine wpList_nil ?_
  have k1 : o1 < 34359738369 := by
    have b0 := unhide ha; have b1 := unhide hb; have b2 := unhide hc; have b3 := unhide hd; have b4 := unhide he
    unfold Mid at b0 b1 b2 b3 b4
    unfold Dg at hy0 hy1 hy2 hy3 hy4
    unfold v5 at hv1
    omega
  have wr1 := wrap_id (o1 * 5) (by omega) (by omega)
  replace hB := hide hB; replace hv1 := hide hv1
  replace ho1 := hide ho1; replace k1 := hide k1
  go_upto_region 2 with fail
  replace hB := unhide hB; replace hv1 := unhide hv1
  replace ho1 := unhide ho1; replace k1 := unhide k1
  refine wp_region_lit ?_
  refine list_val (.agg (fc y0 y1 y2 y3 y4)) (by kernel_rfl) (exec_arr _ 66 (.tmp 1) rfl (w.heap.size) (by kernel_rfl) (fc y0 y1 y2 y3 y4) 66 _ (hB.get 0 (x := ⟨w.heap.size, fc y0 y1 y2 y3 y4, 66⟩) rfl) Try.underlying66 rfl Try.infoL) ?_
  simp only [Act.put, List.setIfInBounds_toArray, List.set_cons_zero, List.set_cons_succ, List.getElem_toArray, List.getElem_cons_zero, List.getElem_cons_succ]
  refine list_val (.int .u64 o1) (by kernel_rfl) (by kernel_rfl) ?_
  simp only [Act.put, List.setIfInBounds_toArray, List.set_cons_zero, List.set_cons_succ, List.getElem_toArray, List.getElem_cons_zero, List.getElem_cons_succ]
  refine list_val (.int .u64 (o1 * 5)) (by kernel_rfl) (by go_simp) ?_
  simp only [Act.put, List.setIfInBounds_toArray, List.set_cons_zero, List.set_cons_succ, List.getElem_toArray, List.getElem_cons_zero, List.getElem_cons_succ]
  refine list_call 60 #[.agg (fc y0 y1 y2 y3 y4), .int .u64 (o1 * 5)] (by kernel_rfl) (by kernel_rfl) ((passed_ok y0 y1 y2 y3 y4 (o1 * 5) (by have := hy0; unfold Dg at this; unfold Sm; omega) (by have := hy1; unfold Dg at this; unfold Sm; omega) (by have := hy2; unfold Dg at this; unfold Sm; omega) (by have := hy3; unfold Dg at this; unfold Sm; omega) (by have := hy4; unfold Dg at this; unfold Sm; omega) (by unfold Sm; omega) _).mono ?_)
  rintro r u3 ⟨z0, z1, z2, z3, z4, o2, rfl, hz0, hz1, hz2, hz3, hz4, ho2, hv2, hg⟩
  refine ⟨_, rfl, ?_⟩
  replace hB := hB.more hg
  clear hg
  simp only [Act.put, List.setIfInBounds_toArray, List.set_cons_zero, List.set_cons_succ, List.getElem_toArray, List.getElem_cons_zero, List.getElem_cons_succ]
  refine list_val (.tuple #[.agg (fc z0 z1 z2 z3 z4), .int .u64 o2]) (by kernel_rfl) (by kernel_rfl) ?_
  simp only [Act.put, List.setIfInBounds_toArray, List.set_cons_zero, List.set_cons_succ, List.getElem_toArray, List.getElem_cons_zero, List.getElem_cons_succ]
  refine list_val (.agg (fc z0 z1 z2 z3 z4)) (by kernel_rfl) (by kernel_rfl) ?_
  simp only [Act.put, List.setIfInBounds_toArray, List.set_cons_zero, List.set_cons_succ, List.getElem_toArray, List.getElem_cons_zero, List.getElem_cons_succ]
  refine list_val (.int .u64 o2) (by kernel_rfl) (by kernel_rfl) ?_
  simp only [Act.put, List.setIfInBounds_toArray, List.set_cons_zero, List.set_cons_succ, List.getElem_toArray, List.getElem_cons_zero, List.getElem_cons_succ]
  refine list_store 66 (.tmp 1) (.tmp 14) (w.heap.size) (fc z0 z1 z2 z3 z4) 66 (fc y0 y1 y2 y3 y4) (by kernel_rfl) rfl (by kernel_rfl) (by kernel_rfl) (hB.get 0 (x := ⟨w.heap.size, fc y0 y1 y2 y3 y4, 66⟩) rfl) Try.infoL rfl (fc_one _ _ _ _ _) ?_
  replace hB := hB.set 0 (x := ⟨w.heap.size, fc y0 y1 y2 y3 y4, 66⟩) rfl (fc z0 z1 z2 z3 z4)
  simp only [List.set_cons_zero, List.set_cons_succ] at hB
  generalize World.setRow _ _ _ = u4 at *
  simp only [Act.put, List.setIfInBounds_toArray, List.set_cons_zero, List.set_cons_succ, List.getElem_toArray, List.getElem_cons_zero, List.getElem_cons_succ]
  (refine wpList_step fun K hK => ?_; replace hK := hide hK; go_simp; refine unhide hK _ _ ?_; clear hK K)
  refine wpList_nil ?_
  obtain ⟨hcar, k2⟩ := carried_val a b c d e y0 y1 y2 y3 y4 z0 z1 z2 z3 z4 o1 o2 (unhide ha) (unhide hb) (unhide hc) (unhide hd) (unhide he) hy0 hy1 hy2 hy3 hy4 hz0 hz1 hz2 hz3 hz4 hv1 hv2 ho1 ho2
  have wr2 := wrap_id (o2 * 5) (by omega) (by omega)
  have wr3 := wrap_id (z0 + o2 * 5) (by unfold Dg at hz0; omega) (by unfold Dg at hz0; omega)
  replace hB := hide hB; replace hcar := hide hcar
  clear hv1 hv2 ho1 ho2 k1 k2 hy0 hy1 hy2 hy3 hy4 hz0 hz1 hz2 hz3 hz4 wr1
  go_upto_region 3 with fail
  replace hB := unhide hB
  refine wp_region_lit ?_
  refine list_val (.pointer (some ⟨w.heap.size, 0, none⟩)) (by kernel_rfl) (by kernel_rfl) ?_
  simp only [Act.put, List.setIfInBounds_toArray, List.set_cons_zero, List.set_cons_succ, List.getElem_toArray, List.getElem_cons_zero, List.getElem_cons_succ]
  refine list_val (.int .u64 z0) (by kernel_rfl) (by have hc : World.cell? _ ⟨w.heap.size, 0, none⟩ = some (.int .u64 z0) := cell_of (hB.get 0 (x := ⟨w.heap.size, fc z0 z1 z2 z3 z4, 66⟩) rfl) rfl; go_simp) ?_
  simp only [Act.put, List.setIfInBounds_toArray, List.set_cons_zero, List.set_cons_succ, List.getElem_toArray, List.getElem_cons_zero, List.getElem_cons_succ]
  refine list_val (.int .u64 o2) (by kernel_rfl) (by kernel_rfl) ?_
  simp only [Act.put, List.setIfInBounds_toArray, List.set_cons_zero, List.set_cons_succ, List.getElem_toArray, List.getElem_cons_zero, List.getElem_cons_succ]
  refine list_val (.int .u64 (o2 * 5)) (by kernel_rfl) (by go_simp) ?_
  simp only [Act.put, List.setIfInBounds_toArray, List.set_cons_zero, List.set_cons_succ, List.getElem_toArray, List.getElem_cons_zero, List.getElem_cons_succ]
  refine list_val (.int .u64 (z0 + o2 * 5)) (by kernel_rfl) (by go_simp) ?_
  simp only [Act.put, List.setIfInBounds_toArray, List.set_cons_zero, List.set_cons_succ, List.getElem_toArray, List.getElem_cons_zero, List.getElem_cons_succ]
  refine list_val (.pointer (some ⟨w.heap.size, 0, none⟩)) (by kernel_rfl) (by kernel_rfl) ?_
  simp only [Act.put, List.setIfInBounds_toArray, List.set_cons_zero, List.set_cons_succ, List.getElem_toArray, List.getElem_cons_zero, List.getElem_cons_succ]
  have c4 : World.cell? _ ⟨w.heap.size, 0, none⟩ = some (.int .u64 z0) := cell_of (hB.get 0 (x := ⟨w.heap.size, fc z0 z1 z2 z3 z4, 66⟩) rfl) rfl
  have fz := froz_of (i := 0) (hB.get 0 (x := ⟨w.heap.size, fc z0 z1 z2 z3 z4, 66⟩) rfl)
  have hB2 := hB.cell 0 (x := ⟨w.heap.size, fc z0 z1 z2 z3 z4, 66⟩) rfl 0 (.int .u64 (z0 + o2 * 5))
  simp only [List.set_cons_zero, List.set_cons_succ, fc_set0] at hB2
  clear hB
  replace hB2 := hide hB2
  (refine wpList_step fun K hK => ?_; replace hK := hide hK; go_simp; refine unhide hK _ _ ?_; clear hK K)
  clear c4 fz
  refine wpList_nil ?_
  generalize World.setCell _ _ _ = u5 at *
  go_upto_region 4 with fail
  have hB := unhide hB2
  clear hB2
  refine wp_region_lit ?_
  refine list_val (.agg (fc (z0 + o2 * 5) z1 z2 z3 z4)) (by kernel_rfl) (exec_arr _ 66 (.tmp 1) rfl (w.heap.size) (by kernel_rfl) (fc (z0 + o2 * 5) z1 z2 z3 z4) 66 _ (hB.get 0 (x := ⟨w.heap.size, fc (z0 + o2 * 5) z1 z2 z3 z4, 66⟩) rfl) Try.underlying66 rfl Try.infoL) ?_
  simp only [Act.put, List.setIfInBounds_toArray, List.set_cons_zero, List.set_cons_succ, List.getElem_toArray, List.getElem_cons_zero, List.getElem_cons_succ]
  refine list_store 66 (.tmp 2) (.tmp 22) (w.heap.size + 1) (fc (z0 + o2 * 5) z1 z2 z3 z4) 66 (fc 0 0 0 0 0) (by kernel_rfl) rfl (by kernel_rfl) (by kernel_rfl) (hB.get 1 (x := ⟨w.heap.size + 1, fc 0 0 0 0 0, 66⟩) rfl) Try.infoL rfl (fc_one _ _ _ _ _) ?_
  replace hB := hB.set 1 (x := ⟨w.heap.size + 1, fc 0 0 0 0 0, 66⟩) rfl (fc (z0 + o2 * 5) z1 z2 z3 z4)
  simp only [List.set_cons_zero, List.set_cons_succ] at hB
  generalize World.setRow _ _ _ = u6 at *
  simp only [Act.put, List.setIfInBounds_toArray, List.set_cons_zero, List.set_cons_succ, List.getElem_toArray, List.getElem_cons_zero, List.getElem_cons_succ]
  refine wpList_nil ?_
  replace hB := hide hB
  go_wp2_with fail
  replace hB := unhide hB
  rw [unhide hT]
  exact bodyPost_ret (v := .agg (fc (z0 + o2 * 5) z1 z2 z3 z4)) (results_cell_row Try.results67 _ _ (w.heap.size + 1) 66 (fc (z0 + o2 * 5) z1 z2 z3 z4) (0, 0) _ rfl (hB.get 1 (x := ⟨w.heap.size + 1, fc (z0 + o2 * 5) z1 z2 z3 z4, 66⟩) rfl) Try.underlying66 rfl Try.infoL) rfl (⟨_, _, _, _, _, rfl, unhide hcar, hB.gr⟩)
/-- what least answers -/
def Lsd (n : Int) (w : World) (r : Ending) (w' : World) : Prop := ∃ a b c d e, r = .returned (.agg (fc a b c d e)) ∧ Dg a ∧ Dg b ∧ Dg c ∧ Dg d ∧ Dg e ∧ v5 a b c d e = n ∧ Gr w w'
theorem least_num (n a b c d e y0 y1 y2 y3 y4 z0 z1 z2 z3 z4 o1 o2 : Int) (hc : Car n a b c d e) (hy0 : Dg y0) (hy1 : Dg y1) (hy2 : Dg y2) (hy3 : Dg y3) (hy4 : Dg y4) (hz0 : Dg z0) (hz1 : Dg z1) (hz2 : Dg z2) (hz3 : Dg z3) (hz4 : Dg z4)
    (h1 : v5 y0 y1 y2 y3 y4 + 1361129467683753853853498429727072845824 * o1 = v5 a b c d e + 5) (h2 : v5 z0 z1 z2 z3 z4 + 1361129467683753853853498429727072845824 * o2 = v5 a b c d e + o1 * 5) (ho1 : 0 ≤ o1) (ho2 : 0 ≤ o2) : v5 z0 z1 z2 z3 z4 = n := by
  obtain ⟨h3, h4, h5, h6, h7, h8, h9⟩ := hc
  unfold Dg at *
  have b0 : 0 ≤ v5 a b c d e := by unfold v5; omega
  have b1 : 0 ≤ v5 y0 y1 y2 y3 y4 ∧ v5 y0 y1 y2 y3 y4 < 1361129467683753853853498429727072845824 := by unfold v5; omega
  have b2 : 0 ≤ v5 z0 z1 z2 z3 z4 ∧ v5 z0 z1 z2 z3 z4 < 1361129467683753853853498429727072845824 := by unfold v5; omega
  generalize v5 a b c d e = x at *
  generalize v5 y0 y1 y2 y3 y4 = y at *
  generalize v5 z0 z1 z2 z3 z4 = z at *
  have k1 : o1 = 0 ∨ o1 = 1 := by omega
  have k2 : o2 = 0 ∨ o2 = 1 := by omega
  clear hy0 hy1 hy2 hy3 hy4 hz0 hz1 hz2 hz3 hz4 h3 h4 h5 h6 h7
  rcases k1 with rfl | rfl <;> rcases k2 with rfl | rfl <;> omega
set_option maxHeartbeats 4000000 in
theorem least_ok (n a b c d e : Int) (hn : Car n a b c d e) (w : World) : Calls Try.prog 43 #[.agg (fc a b c d e)] w (Lsd n w) := by
  obtain ⟨T, hT⟩ : ∃ T, T = Lsd n w := ⟨_, rfl⟩
  rw [← hT]
  replace hT := hide hT
  obtain ⟨SK, hSK⟩ : ∃ S, S = fc a b c d e := ⟨_, rfl⟩
  rw [← hSK]
  replace hSK := hide hSK
  have hn2 := hn
  obtain ⟨ha, hb, hc, hd, he, -, -⟩ := hn2
  replace hn := hide hn
  replace ha := hide ha; replace hb := hide hb; replace hc := hide hc; replace hd := hide hd; replace he := hide he
  go_enter Try.func43, Try.ntmps43
  go_upto_region 1 with fail
  have hB := ((Bl.nil w).new SK 66).new #[.int .u64 0, .int .u64 0, .int .u64 0, .int .u64 0, .int .u64 0] 66
  simp only [size_alloc, List.nil_append, List.cons_append] at hB
  generalize World.alloc _ _ = u at *
  rw [unhide hSK] at hB
  replace hB : Bl w [⟨w.heap.size, fc a b c d e, 66⟩, ⟨w.heap.size + 1, fc 0 0 0 0 0, 66⟩] u := hB
  refine wp_region_lit ?_
  refine list_val (.agg (fc a b c d e)) (by kernel_rfl) (exec_arr _ 66 (.tmp 1) rfl (w.heap.size) (by kernel_rfl) (fc a b c d e) 66 _ (hB.get 0 (x := ⟨w.heap.size, fc a b c d e, 66⟩) rfl) Try.underlying66 rfl Try.infoL) ?_
  simp only [Act.put, List.setIfInBounds_toArray, List.set_cons_zero, List.set_cons_succ, List.getElem_toArray, List.getElem_cons_zero, List.getElem_cons_succ]
  refine list_call 60 #[.agg (fc a b c d e), .int .u64 5] (by kernel_rfl) (by kernel_rfl) ((passed_ok a b c d e 5 (by have := unhide ha; unfold Sm; omega) (by have := unhide hb; unfold Dg at this; unfold Sm; omega) (by have := unhide hc; unfold Dg at this; unfold Sm; omega) (by have := unhide hd; unfold Dg at this; unfold Sm; omega) (by have := unhide he; unfold Dg at this; unfold Sm; omega) (by unfold Sm; omega) _).mono ?_)
  rintro r u1 ⟨y0, y1, y2, y3, y4, o1, rfl, hy0, hy1, hy2, hy3, hy4, ho1, hv1, hg⟩
  refine ⟨_, rfl, ?_⟩
  replace hB := hB.more hg
  clear hg
  simp only [Act.put, List.setIfInBounds_toArray, List.set_cons_zero, List.set_cons_succ, List.getElem_toArray, List.getElem_cons_zero, List.getElem_cons_succ]
  refine list_val (.tuple #[.agg (fc y0 y1 y2 y3 y4), .int .u64 o1]) (by kernel_rfl) (by kernel_rfl) ?_
  simp only [Act.put, List.setIfInBounds_toArray, List.set_cons_zero, List.set_cons_succ, List.getElem_toArray, List.getElem_cons_zero, List.getElem_cons_succ]
  refine list_val (.agg (fc y0 y1 y2 y3 y4)) (by kernel_rfl) (by kernel_rfl) ?_
  simp only [Act.put, List.setIfInBounds_toArray, List.set_cons_zero, List.set_cons_succ, List.getElem_toArray, List.getElem_cons_zero, List.getElem_cons_succ]
  refine list_val (.int .u64 o1) (by kernel_rfl) (by kernel_rfl) ?_
  simp only [Act.put, List.setIfInBounds_toArray, List.set_cons_zero, List.set_cons_succ, List.getElem_toArray, List.getElem_cons_zero, List.getElem_cons_succ]
  replace hB := hide hB
  (refine wpList_step fun K hK => ?_; replace hK := hide hK; go_simp; refine unhide hK _ _ ?_; clear hK K)
  replace hB := (unhide hB).new #[.int .u64 0, .int .u64 0, .int .u64 0, .int .u64 0, .int .u64 0] 66
  simp only [List.nil_append, List.cons_append] at hB
  generalize World.alloc _ _ = u2 at *
  generalize u1.heap.size = h5 at *
  replace hB : Bl w [⟨w.heap.size, fc a b c d e, 66⟩, ⟨w.heap.size + 1, fc 0 0 0 0 0, 66⟩, ⟨h5, fc 0 0 0 0 0, 66⟩] u2 := hB
  refine list_store 66 (.tmp 3) (.tmp 8) (h5) (fc y0 y1 y2 y3 y4) 66 (fc 0 0 0 0 0) (by kernel_rfl) rfl (by kernel_rfl) (by kernel_rfl) (hB.get 2 (x := ⟨h5, fc 0 0 0 0 0, 66⟩) rfl) Try.infoL rfl (fc_one _ _ _ _ _) ?_
  replace hB := hB.set 2 (x := ⟨h5, fc 0 0 0 0 0, 66⟩) rfl (fc y0 y1 y2 y3 y4)
  simp only [List.set_cons_zero, List.set_cons_succ] at hB
  generalize World.setRow _ _ _ = u3 at *
  simp only [Act.put, List.setIfInBounds_toArray, List.set_cons_zero, List.set_cons_succ, List.getElem_toArray, List.getElem_cons_zero, List.getElem_cons_succ]
  (refine wpList_step fun K hK => ?_; replace hK := hide hK; go_simp; refine unhide hK _ _ ?_; clear hK K)
  refine wpList_nil ?_
  have k1 : o1 < 3 := by
    have b0 := unhide ha; have b1 := unhide hb; have b2 := unhide hc; have b3 := unhide hd; have b4 := unhide he
    unfold Dg at hy0 hy1 hy2 hy3 hy4 b1 b2 b3 b4
    unfold v5 at hv1
    omega
  have wr1 := wrap_id (o1 * 5) (by omega) (by omega)
  replace hB := hide hB; replace hv1 := hide hv1
  replace ho1 := hide ho1; replace k1 := hide k1
  go_upto_region 2 with fail
  replace hB := unhide hB; replace hv1 := unhide hv1
  replace ho1 := unhide ho1; replace k1 := unhide k1
  refine wp_region_lit ?_
  refine list_val (.agg (fc a b c d e)) (by kernel_rfl) (exec_arr _ 66 (.tmp 1) rfl (w.heap.size) (by kernel_rfl) (fc a b c d e) 66 _ (hB.get 0 (x := ⟨w.heap.size, fc a b c d e, 66⟩) rfl) Try.underlying66 rfl Try.infoL) ?_
  simp only [Act.put, List.setIfInBounds_toArray, List.set_cons_zero, List.set_cons_succ, List.getElem_toArray, List.getElem_cons_zero, List.getElem_cons_succ]
  refine list_val (.int .u64 o1) (by kernel_rfl) (by kernel_rfl) ?_
  simp only [Act.put, List.setIfInBounds_toArray, List.set_cons_zero, List.set_cons_succ, List.getElem_toArray, List.getElem_cons_zero, List.getElem_cons_succ]
  refine list_val (.int .u64 (o1 * 5)) (by kernel_rfl) (by go_simp) ?_
  simp only [Act.put, List.setIfInBounds_toArray, List.set_cons_zero, List.set_cons_succ, List.getElem_toArray, List.getElem_cons_zero, List.getElem_cons_succ]
  refine list_call 60 #[.agg (fc a b c d e), .int .u64 (o1 * 5)] (by kernel_rfl) (by kernel_rfl) ((passed_ok a b c d e (o1 * 5) (by have := unhide ha; unfold Sm; omega) (by have := unhide hb; unfold Dg at this; unfold Sm; omega) (by have := unhide hc; unfold Dg at this; unfold Sm; omega) (by have := unhide hd; unfold Dg at this; unfold Sm; omega) (by have := unhide he; unfold Dg at this; unfold Sm; omega) (by unfold Sm; omega) _).mono ?_)
  rintro r u4 ⟨z0, z1, z2, z3, z4, o2, rfl, hz0, hz1, hz2, hz3, hz4, ho2, hv2, hg⟩
  refine ⟨_, rfl, ?_⟩
  replace hB := hB.more hg
  clear hg
  simp only [Act.put, List.setIfInBounds_toArray, List.set_cons_zero, List.set_cons_succ, List.getElem_toArray, List.getElem_cons_zero, List.getElem_cons_succ]
  refine list_val (.tuple #[.agg (fc z0 z1 z2 z3 z4), .int .u64 o2]) (by kernel_rfl) (by kernel_rfl) ?_
  simp only [Act.put, List.setIfInBounds_toArray, List.set_cons_zero, List.set_cons_succ, List.getElem_toArray, List.getElem_cons_zero, List.getElem_cons_succ]
  refine list_val (.agg (fc z0 z1 z2 z3 z4)) (by kernel_rfl) (by kernel_rfl) ?_
  simp only [Act.put, List.setIfInBounds_toArray, List.set_cons_zero, List.set_cons_succ, List.getElem_toArray, List.getElem_cons_zero, List.getElem_cons_succ]
  refine list_val (.int .u64 o2) (by kernel_rfl) (by kernel_rfl) ?_
  simp only [Act.put, List.setIfInBounds_toArray, List.set_cons_zero, List.set_cons_succ, List.getElem_toArray, List.getElem_cons_zero, List.getElem_cons_succ]
  refine list_store 66 (.tmp 1) (.tmp 15) (w.heap.size) (fc z0 z1 z2 z3 z4) 66 (fc a b c d e) (by kernel_rfl) rfl (by kernel_rfl) (by kernel_rfl) (hB.get 0 (x := ⟨w.heap.size, fc a b c d e, 66⟩) rfl) Try.infoL rfl (fc_one _ _ _ _ _) ?_
  replace hB := hB.set 0 (x := ⟨w.heap.size, fc a b c d e, 66⟩) rfl (fc z0 z1 z2 z3 z4)
  simp only [List.set_cons_zero, List.set_cons_succ] at hB
  generalize World.setRow _ _ _ = u5 at *
  simp only [Act.put, List.setIfInBounds_toArray, List.set_cons_zero, List.set_cons_succ, List.getElem_toArray, List.getElem_cons_zero, List.getElem_cons_succ]
  refine wpList_nil ?_
  have hfin := hide (least_num n a b c d e y0 y1 y2 y3 y4 z0 z1 z2 z3 z4 o1 o2 (unhide hn) hy0 hy1 hy2 hy3 hy4 hz0 hz1 hz2 hz3 hz4 hv1 hv2 ho1 ho2)
  replace hB := hide hB
  clear hv1 hv2 ho1 ho2 k1 wr1
  go_upto_region 3 with fail
  replace hB := unhide hB
  refine wp_region_lit ?_
  refine list_val (.agg (fc z0 z1 z2 z3 z4)) (by kernel_rfl) (exec_arr _ 66 (.tmp 1) rfl (w.heap.size) (by kernel_rfl) (fc z0 z1 z2 z3 z4) 66 _ (hB.get 0 (x := ⟨w.heap.size, fc z0 z1 z2 z3 z4, 66⟩) rfl) Try.underlying66 rfl Try.infoL) ?_
  simp only [Act.put, List.setIfInBounds_toArray, List.set_cons_zero, List.set_cons_succ, List.getElem_toArray, List.getElem_cons_zero, List.getElem_cons_succ]
  refine list_store 66 (.tmp 2) (.tmp 17) (w.heap.size + 1) (fc z0 z1 z2 z3 z4) 66 (fc 0 0 0 0 0) (by kernel_rfl) rfl (by kernel_rfl) (by kernel_rfl) (hB.get 1 (x := ⟨w.heap.size + 1, fc 0 0 0 0 0, 66⟩) rfl) Try.infoL rfl (fc_one _ _ _ _ _) ?_
  replace hB := hB.set 1 (x := ⟨w.heap.size + 1, fc 0 0 0 0 0, 66⟩) rfl (fc z0 z1 z2 z3 z4)
  simp only [List.set_cons_zero, List.set_cons_succ] at hB
  generalize World.setRow _ _ _ = u6 at *
  simp only [Act.put, List.setIfInBounds_toArray, List.set_cons_zero, List.set_cons_succ, List.getElem_toArray, List.getElem_cons_zero, List.getElem_cons_succ]
  refine wpList_nil ?_
  replace hB := hide hB
  go_wp2_with fail
  replace hB := unhide hB
  rw [unhide hT]
  exact bodyPost_ret (v := .agg (fc z0 z1 z2 z3 z4)) (results_cell_row Try.results43 _ _ (w.heap.size + 1) 66 (fc z0 z1 z2 z3 z4) (0, 0) _ rfl (hB.get 1 (x := ⟨w.heap.size + 1, fc z0 z1 z2 z3 z4, 66⟩) rfl) Try.underlying66 rfl Try.infoL) rfl (⟨_, _, _, _, _, rfl, hz0, hz1, hz2, hz3, hz4, unhide hfin, hB.gr⟩)
end Go.Proofs.Ytdekjbdkpchbjaa
