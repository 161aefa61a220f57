/-
  The quarter by the reference.
-/
import Derived.Test.YtdekjbdkpchbjaaChaC
import Derived.Deep.QuietTactic
import Derived.BigQuiet
namespace Go.Proofs.Ytdekjbdkpchbjaa
open Go.RowKit
set_option maxRecDepth 100000
set_option linter.unusedSimpArgs false
set_option linter.unusedVariables false
theorem left_ok (x : Int) (n : Nat) (hn : 1 ≤ n ∧ n ≤ 31) (w : World) :
    Calls Try.prog 61 #[.int .u32 x, .int .i64 n] w (fun r w' => r = .returned (.int .u32 (lt x n)) ∧ w' = w.drew) := by
  obtain ⟨m, hm⟩ : ∃ m, m = 32 - n := ⟨_, rfl⟩
  have e1 : 32 - (n : Int) = (m : Int) := by omega
  have e2 : IntKind.i64.wrap (m : Int) = (m : Int) := by rw [IntKind.wrap_i64]; omega
  have m0 : 0 ≤ (m : Int) := by omega
  have n0 : 0 ≤ (n : Int) := by omega
  replace hm := hide hm
  go_enter Try.func61, Try.ntmps61
  go_wp2_with fail
  go_still_tail 8, (by kernel_rfl)
  go_wp2_with fail
  refine bodyPost_ret (v := .int .u32 (lt x n)) ?_ rfl ⟨rfl, rfl⟩
  unfold lt
  rw [← unhide hm]
  simp [results, Try.results61, go_sem]
theorem left_int (x m : Int) (hm : 1 ≤ m ∧ m ≤ 31) (w : World) :
    Calls Try.prog 61 #[.int .u32 x, .int .i64 m] w (fun r w' => r = .returned (.int .u32 (lt x m.toNat)) ∧ w' = w.drew) := by
  obtain ⟨n, rfl⟩ := Int.eq_ofNat_of_zero_le (a := m) (by omega)
  exact left_ok x n (by omega) w
set_option maxHeartbeats 4000000 in
theorem rquarter_ok (a b c d : Int) (w : World) : Calls Try.prog 48 #[.agg (uc [a, b, c, d])] w (Rnd (ql (quar a b c d)) w) := by
  obtain ⟨T, hT⟩ : ∃ T, T = Rnd (ql (quar a b c d)) w := ⟨_, rfl⟩
  rw [← hT]
  unfold Rnd at hT
  replace hT := hide hT
  obtain ⟨SA, hSA⟩ : ∃ S, S = uc [a, b, c, d] := ⟨_, rfl⟩
  rw [← hSA]
  replace hSA := hide hSA
  go_enter Try.func48, Try.ntmps48
  go_upto_region 1 with fail
  have hB := ((Bl.nil w).new SA 79).new #[.int .u32 0, .int .u32 0, .int .u32 0, .int .u32 0] 79
  simp only [size_alloc, List.nil_append, List.cons_append] at hB
  generalize World.alloc _ _ = u at *
  rw [unhide hSA] at hB
  replace hB : Bl w [⟨w.heap.size, uc [a, b, c, d], 79⟩, ⟨w.heap.size + 1, uc [0, 0, 0, 0], 79⟩] u := hB
  have c0 : u.cell? ⟨w.heap.size, 0, none⟩ = some (.int .u32 a) := uc_cell (hB.get 0 (x := ⟨w.heap.size, uc [a, b, c, d], 79⟩) rfl) 0 (by simp)
  have c1 : u.cell? ⟨w.heap.size, 1, none⟩ = some (.int .u32 b) := uc_cell (hB.get 0 (x := ⟨w.heap.size, uc [a, b, c, d], 79⟩) rfl) 1 (by simp)
  have c2 : u.cell? ⟨w.heap.size, 2, none⟩ = some (.int .u32 c) := uc_cell (hB.get 0 (x := ⟨w.heap.size, uc [a, b, c, d], 79⟩) rfl) 2 (by simp)
  have c3 : u.cell? ⟨w.heap.size, 3, none⟩ = some (.int .u32 d) := uc_cell (hB.get 0 (x := ⟨w.heap.size, uc [a, b, c, d], 79⟩) rfl) 3 (by simp)
  replace hB := hide hB
  go_quiet (fail)
  replace hB := (unhide hB).drewN nq
  clear c0 c1 c2 c3
  generalize World.drewN _ _ = v at *
  replace hB := hide hB
  go_upto_region 2 with fail
  refine wp_region_lit ?_
  refine list_val (.int .u32 a) (by kernel_rfl) (by kernel_rfl) ?_
  simp only [Act.put, List.setIfInBounds_toArray, List.set_cons_zero, List.set_cons_succ, List.getElem_toArray, List.getElem_cons_zero, List.getElem_cons_succ]
  refine list_val (.int .u32 b) (by kernel_rfl) (by kernel_rfl) ?_
  simp only [Act.put, List.setIfInBounds_toArray, List.set_cons_zero, List.set_cons_succ, List.getElem_toArray, List.getElem_cons_zero, List.getElem_cons_succ]
  refine list_val (.int .u32 (ad a b)) (by kernel_rfl) (by kernel_rfl) ?_
  simp only [Act.put, List.setIfInBounds_toArray, List.set_cons_zero, List.set_cons_succ, List.getElem_toArray, List.getElem_cons_zero, List.getElem_cons_succ]
  generalize e1 : (ad a b) = x1
  replace e1 := hide e1
  replace hB := hide hB
  (refine wpList_step fun K hK => ?_; replace hK := hide hK; go_simp; refine unhide hK _ _ ?_; clear hK K)
  replace hB := unhide hB
  refine wpList_nil ?_
  replace hB := hide hB
  go_upto_region 3 with fail
  replace hB := unhide hB
  refine wp_region_lit ?_
  refine list_val (.int .u32 d) (by kernel_rfl) (by kernel_rfl) ?_
  simp only [Act.put, List.setIfInBounds_toArray, List.set_cons_zero, List.set_cons_succ, List.getElem_toArray, List.getElem_cons_zero, List.getElem_cons_succ]
  refine list_val (.int .u32 x1) (by kernel_rfl) (by kernel_rfl) ?_
  simp only [Act.put, List.setIfInBounds_toArray, List.set_cons_zero, List.set_cons_succ, List.getElem_toArray, List.getElem_cons_zero, List.getElem_cons_succ]
  refine list_val (.int .u32 (xr d x1)) (by kernel_rfl) (by kernel_rfl) ?_
  simp only [Act.put, List.setIfInBounds_toArray, List.set_cons_zero, List.set_cons_succ, List.getElem_toArray, List.getElem_cons_zero, List.getElem_cons_succ]
  refine list_call 61 #[.int .u32 (xr d x1), .int .i64 16] (by kernel_rfl) (by kernel_rfl) ((left_int (xr d x1) 16 (by omega) _).mono ?_)
  rintro r v ⟨rfl, rfl⟩
  refine ⟨_, rfl, ?_⟩
  replace hB := hB.drew
  generalize World.drew _ = v at *
  rw [show Int.toNat 16 = 16 from rfl]
  simp only [Act.put, List.setIfInBounds_toArray, List.set_cons_zero, List.set_cons_succ, List.getElem_toArray, List.getElem_cons_zero, List.getElem_cons_succ]
  generalize e2 : (lt (xr d x1) 16) = x2
  replace e2 := hide e2
  replace hB := hide hB
  (refine wpList_step fun K hK => ?_; replace hK := hide hK; go_simp; refine unhide hK _ _ ?_; clear hK K)
  replace hB := unhide hB
  refine wpList_nil ?_
  replace hB := hide hB
  go_upto_region 4 with fail
  replace hB := unhide hB
  refine wp_region_lit ?_
  refine list_val (.int .u32 c) (by kernel_rfl) (by kernel_rfl) ?_
  simp only [Act.put, List.setIfInBounds_toArray, List.set_cons_zero, List.set_cons_succ, List.getElem_toArray, List.getElem_cons_zero, List.getElem_cons_succ]
  refine list_val (.int .u32 x2) (by kernel_rfl) (by kernel_rfl) ?_
  simp only [Act.put, List.setIfInBounds_toArray, List.set_cons_zero, List.set_cons_succ, List.getElem_toArray, List.getElem_cons_zero, List.getElem_cons_succ]
  refine list_val (.int .u32 (ad c x2)) (by kernel_rfl) (by kernel_rfl) ?_
  simp only [Act.put, List.setIfInBounds_toArray, List.set_cons_zero, List.set_cons_succ, List.getElem_toArray, List.getElem_cons_zero, List.getElem_cons_succ]
  generalize e3 : (ad c x2) = x3
  replace e3 := hide e3
  replace hB := hide hB
  (refine wpList_step fun K hK => ?_; replace hK := hide hK; go_simp; refine unhide hK _ _ ?_; clear hK K)
  replace hB := unhide hB
  refine wpList_nil ?_
  replace hB := hide hB
  go_upto_region 5 with fail
  replace hB := unhide hB
  refine wp_region_lit ?_
  refine list_val (.int .u32 b) (by kernel_rfl) (by kernel_rfl) ?_
  simp only [Act.put, List.setIfInBounds_toArray, List.set_cons_zero, List.set_cons_succ, List.getElem_toArray, List.getElem_cons_zero, List.getElem_cons_succ]
  refine list_val (.int .u32 x3) (by kernel_rfl) (by kernel_rfl) ?_
  simp only [Act.put, List.setIfInBounds_toArray, List.set_cons_zero, List.set_cons_succ, List.getElem_toArray, List.getElem_cons_zero, List.getElem_cons_succ]
  refine list_val (.int .u32 (xr b x3)) (by kernel_rfl) (by kernel_rfl) ?_
  simp only [Act.put, List.setIfInBounds_toArray, List.set_cons_zero, List.set_cons_succ, List.getElem_toArray, List.getElem_cons_zero, List.getElem_cons_succ]
  refine list_call 61 #[.int .u32 (xr b x3), .int .i64 12] (by kernel_rfl) (by kernel_rfl) ((left_int (xr b x3) 12 (by omega) _).mono ?_)
  rintro r v ⟨rfl, rfl⟩
  refine ⟨_, rfl, ?_⟩
  replace hB := hB.drew
  generalize World.drew _ = v at *
  rw [show Int.toNat 12 = 12 from rfl]
  simp only [Act.put, List.setIfInBounds_toArray, List.set_cons_zero, List.set_cons_succ, List.getElem_toArray, List.getElem_cons_zero, List.getElem_cons_succ]
  generalize e4 : (lt (xr b x3) 12) = x4
  replace e4 := hide e4
  replace hB := hide hB
  (refine wpList_step fun K hK => ?_; replace hK := hide hK; go_simp; refine unhide hK _ _ ?_; clear hK K)
  replace hB := unhide hB
  refine wpList_nil ?_
  replace hB := hide hB
  go_upto_region 6 with fail
  replace hB := unhide hB
  refine wp_region_lit ?_
  refine list_val (.int .u32 x1) (by kernel_rfl) (by kernel_rfl) ?_
  simp only [Act.put, List.setIfInBounds_toArray, List.set_cons_zero, List.set_cons_succ, List.getElem_toArray, List.getElem_cons_zero, List.getElem_cons_succ]
  refine list_val (.int .u32 x4) (by kernel_rfl) (by kernel_rfl) ?_
  simp only [Act.put, List.setIfInBounds_toArray, List.set_cons_zero, List.set_cons_succ, List.getElem_toArray, List.getElem_cons_zero, List.getElem_cons_succ]
  refine list_val (.int .u32 (ad x1 x4)) (by kernel_rfl) (by kernel_rfl) ?_
  simp only [Act.put, List.setIfInBounds_toArray, List.set_cons_zero, List.set_cons_succ, List.getElem_toArray, List.getElem_cons_zero, List.getElem_cons_succ]
  generalize e5 : (ad x1 x4) = x5
  replace e5 := hide e5
  replace hB := hide hB
  (refine wpList_step fun K hK => ?_; replace hK := hide hK; go_simp; refine unhide hK _ _ ?_; clear hK K)
  replace hB := unhide hB
  refine wpList_nil ?_
  replace hB := hide hB
  go_upto_region 7 with fail
  replace hB := unhide hB
  refine wp_region_lit ?_
  refine list_val (.int .u32 x2) (by kernel_rfl) (by kernel_rfl) ?_
  simp only [Act.put, List.setIfInBounds_toArray, List.set_cons_zero, List.set_cons_succ, List.getElem_toArray, List.getElem_cons_zero, List.getElem_cons_succ]
  refine list_val (.int .u32 x5) (by kernel_rfl) (by kernel_rfl) ?_
  simp only [Act.put, List.setIfInBounds_toArray, List.set_cons_zero, List.set_cons_succ, List.getElem_toArray, List.getElem_cons_zero, List.getElem_cons_succ]
  refine list_val (.int .u32 (xr x2 x5)) (by kernel_rfl) (by kernel_rfl) ?_
  simp only [Act.put, List.setIfInBounds_toArray, List.set_cons_zero, List.set_cons_succ, List.getElem_toArray, List.getElem_cons_zero, List.getElem_cons_succ]
  refine list_call 61 #[.int .u32 (xr x2 x5), .int .i64 8] (by kernel_rfl) (by kernel_rfl) ((left_int (xr x2 x5) 8 (by omega) _).mono ?_)
  rintro r v ⟨rfl, rfl⟩
  refine ⟨_, rfl, ?_⟩
  replace hB := hB.drew
  generalize World.drew _ = v at *
  rw [show Int.toNat 8 = 8 from rfl]
  simp only [Act.put, List.setIfInBounds_toArray, List.set_cons_zero, List.set_cons_succ, List.getElem_toArray, List.getElem_cons_zero, List.getElem_cons_succ]
  generalize e6 : (lt (xr x2 x5) 8) = x6
  replace e6 := hide e6
  replace hB := hide hB
  (refine wpList_step fun K hK => ?_; replace hK := hide hK; go_simp; refine unhide hK _ _ ?_; clear hK K)
  replace hB := unhide hB
  refine wpList_nil ?_
  replace hB := hide hB
  go_upto_region 8 with fail
  replace hB := unhide hB
  refine wp_region_lit ?_
  refine list_val (.int .u32 x3) (by kernel_rfl) (by kernel_rfl) ?_
  simp only [Act.put, List.setIfInBounds_toArray, List.set_cons_zero, List.set_cons_succ, List.getElem_toArray, List.getElem_cons_zero, List.getElem_cons_succ]
  refine list_val (.int .u32 x6) (by kernel_rfl) (by kernel_rfl) ?_
  simp only [Act.put, List.setIfInBounds_toArray, List.set_cons_zero, List.set_cons_succ, List.getElem_toArray, List.getElem_cons_zero, List.getElem_cons_succ]
  refine list_val (.int .u32 (ad x3 x6)) (by kernel_rfl) (by kernel_rfl) ?_
  simp only [Act.put, List.setIfInBounds_toArray, List.set_cons_zero, List.set_cons_succ, List.getElem_toArray, List.getElem_cons_zero, List.getElem_cons_succ]
  generalize e7 : (ad x3 x6) = x7
  replace e7 := hide e7
  replace hB := hide hB
  (refine wpList_step fun K hK => ?_; replace hK := hide hK; go_simp; refine unhide hK _ _ ?_; clear hK K)
  replace hB := unhide hB
  refine wpList_nil ?_
  replace hB := hide hB
  go_upto_region 9 with fail
  replace hB := unhide hB
  refine wp_region_lit ?_
  refine list_val (.int .u32 x4) (by kernel_rfl) (by kernel_rfl) ?_
  simp only [Act.put, List.setIfInBounds_toArray, List.set_cons_zero, List.set_cons_succ, List.getElem_toArray, List.getElem_cons_zero, List.getElem_cons_succ]
  refine list_val (.int .u32 x7) (by kernel_rfl) (by kernel_rfl) ?_
  simp only [Act.put, List.setIfInBounds_toArray, List.set_cons_zero, List.set_cons_succ, List.getElem_toArray, List.getElem_cons_zero, List.getElem_cons_succ]
  refine list_val (.int .u32 (xr x4 x7)) (by kernel_rfl) (by kernel_rfl) ?_
  simp only [Act.put, List.setIfInBounds_toArray, List.set_cons_zero, List.set_cons_succ, List.getElem_toArray, List.getElem_cons_zero, List.getElem_cons_succ]
  refine list_call 61 #[.int .u32 (xr x4 x7), .int .i64 7] (by kernel_rfl) (by kernel_rfl) ((left_int (xr x4 x7) 7 (by omega) _).mono ?_)
  rintro r v ⟨rfl, rfl⟩
  refine ⟨_, rfl, ?_⟩
  replace hB := hB.drew
  generalize World.drew _ = v at *
  rw [show Int.toNat 7 = 7 from rfl]
  simp only [Act.put, List.setIfInBounds_toArray, List.set_cons_zero, List.set_cons_succ, List.getElem_toArray, List.getElem_cons_zero, List.getElem_cons_succ]
  generalize e8 : (lt (xr x4 x7) 7) = x8
  replace e8 := hide e8
  replace hB := hide hB
  (refine wpList_step fun K hK => ?_; replace hK := hide hK; go_simp; refine unhide hK _ _ ?_; clear hK K)
  replace hB := unhide hB
  refine wpList_nil ?_
  replace hB := hide hB
  go_upto_region 10 with fail
  replace hB := unhide hB
  refine wp_region_lit ?_
  refine list_val (.int .u32 x5) (by kernel_rfl) (by kernel_rfl) ?_
  simp only [Act.put, List.setIfInBounds_toArray, List.set_cons_zero, List.set_cons_succ, List.getElem_toArray, List.getElem_cons_zero, List.getElem_cons_succ]
  refine list_val (.int .u32 x8) (by kernel_rfl) (by kernel_rfl) ?_
  simp only [Act.put, List.setIfInBounds_toArray, List.set_cons_zero, List.set_cons_succ, List.getElem_toArray, List.getElem_cons_zero, List.getElem_cons_succ]
  refine list_val (.int .u32 x7) (by kernel_rfl) (by kernel_rfl) ?_
  simp only [Act.put, List.setIfInBounds_toArray, List.set_cons_zero, List.set_cons_succ, List.getElem_toArray, List.getElem_cons_zero, List.getElem_cons_succ]
  refine list_val (.int .u32 x6) (by kernel_rfl) (by kernel_rfl) ?_
  simp only [Act.put, List.setIfInBounds_toArray, List.set_cons_zero, List.set_cons_succ, List.getElem_toArray, List.getElem_cons_zero, List.getElem_cons_succ]
  refine list_val (.agg (uc [x5, x8, x7, x6])) (by kernel_rfl) (by kernel_rfl) ?_
  simp only [Act.put, List.setIfInBounds_toArray, List.set_cons_zero, List.set_cons_succ, List.getElem_toArray, List.getElem_cons_zero, List.getElem_cons_succ]
  refine list_store 79 (.tmp 2) (.tmp 47) (w.heap.size + 1) (uc [x5, x8, x7, x6]) 79 (uc [0, 0, 0, 0]) (by kernel_rfl) rfl (by kernel_rfl) (by kernel_rfl) (hB.get 1 (x := ⟨w.heap.size + 1, uc [0, 0, 0, 0], 79⟩) rfl) (by rw [Try.info4, uc_size, (show [x5, x8, x7, x6].length = 4 from rfl)]) ((show (uc [0, 0, 0, 0]).size = 4 from rfl).trans ((uc_size _).trans (show [x5, x8, x7, x6].length = 4 from rfl)).symm) (uc_one _) ?_
  replace hB := hB.set 1 (x := ⟨w.heap.size + 1, uc [0, 0, 0, 0], 79⟩) rfl (uc [x5, x8, x7, x6])
  simp only [List.set_cons_zero, List.set_cons_succ] at hB
  generalize World.setRow _ _ _ = u9 at *
  simp only [Act.put, List.setIfInBounds_toArray, List.set_cons_zero, List.set_cons_succ, List.getElem_toArray, List.getElem_cons_zero, List.getElem_cons_succ]
  refine wpList_nil ?_
  replace hB := hide hB
  go_wp2_with fail
  replace hB := unhide hB
  rw [unhide hT]
  exact bodyPost_ret (v := .agg (uc [x5, x8, x7, x6])) (results_cell_row Try.results48 _ _ (w.heap.size + 1) 79 (uc [x5, x8, x7, x6]) (0, 0) _ rfl (hB.get 1 (x := ⟨w.heap.size + 1, uc [x5, x8, x7, x6], 79⟩) rfl) Try.underlying79 rfl (by rw [Try.info4, uc_size, (show [x5, x8, x7, x6].length = 4 from rfl)])) rfl (⟨by rw [ql, quar, unhide e1, unhide e2, unhide e3, unhide e4, unhide e5, unhide e6, unhide e7, unhide e8], hB.gr⟩)
end Go.Proofs.Ytdekjbdkpchbjaa
