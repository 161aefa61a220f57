/-
  The quarter by the reference. Four bytes as a word, the places of the quarters, by the reference. The block by the reference. Bytes xored with the stream, by the reference.
-/
import Derived.Test.YtdfcdklnngfhkaaDoorCaB
import Derived.Deep.QuietTactic
import Derived.BigQuiet
namespace Go.Proofs.YtdfcdklnngfhkaaDoor
open Go.RowKit
set_option maxRecDepth 100000
set_option linter.unusedSimpArgs false
set_option linter.unusedVariables false
theorem left_ok (x : Int) (n : Nat) (hn : 1 ≤ n ∧ n ≤ 31) (w : World) :
    Calls Tryd.prog 49 #[.int .u32 x, .int .i64 n] w (fun r w' => r = .returned (.int .u32 (lt x n)) ∧ w' = w.drew) := by
  obtain ⟨m, hm⟩ : ∃ m, m = 32 - n := ⟨_, rfl⟩
  have e1 : 32 - (n : Int) = (m : Int) := by omega
  have e2 : IntKind.i64.wrap (m : Int) = (m : Int) := by rw [IntKind.wrap_i64]; omega
  have m0 : 0 ≤ (m : Int) := by omega
  have n0 : 0 ≤ (n : Int) := by omega
  replace hm := hide hm
  go_enter Tryd.func49, Tryd.ntmps49
  go_wp2_with fail
  go_still_tail 8, (by kernel_rfl)
  go_wp2_with fail
  refine bodyPost_ret (v := .int .u32 (lt x n)) ?_ rfl ⟨rfl, rfl⟩
  unfold lt
  rw [← unhide hm]
  simp [results, Tryd.results49, go_sem]
theorem left_int (x m : Int) (hm : 1 ≤ m ∧ m ≤ 31) (w : World) :
    Calls Tryd.prog 49 #[.int .u32 x, .int .i64 m] w (fun r w' => r = .returned (.int .u32 (lt x m.toNat)) ∧ w' = w.drew) := by
  obtain ⟨n, rfl⟩ := Int.eq_ofNat_of_zero_le (a := m) (by omega)
  exact left_ok x n (by omega) w
set_option maxHeartbeats 4000000 in
theorem rquarter_ok (a b c d : Int) (w : World) : Calls Tryd.prog 42 #[.agg (uc [a, b, c, d])] w (Rnd (ql (quar a b c d)) w) := by
  obtain ⟨T, hT⟩ : ∃ T, T = Rnd (ql (quar a b c d)) w := ⟨_, rfl⟩
  rw [← hT]
  unfold Rnd at hT
  replace hT := hide hT
  obtain ⟨SA, hSA⟩ : ∃ S, S = uc [a, b, c, d] := ⟨_, rfl⟩
  rw [← hSA]
  replace hSA := hide hSA
  go_enter Tryd.func42, Tryd.ntmps42
  go_upto_region 1 with fail
  have hB := ((Bl.nil w).new SA 93).new #[.int .u32 0, .int .u32 0, .int .u32 0, .int .u32 0] 93
  simp only [size_alloc, List.nil_append, List.cons_append] at hB
  generalize World.alloc _ _ = u at *
  rw [unhide hSA] at hB
  replace hB : Bl w [⟨w.heap.size, uc [a, b, c, d], 93⟩, ⟨w.heap.size + 1, uc [0, 0, 0, 0], 93⟩] u := hB
  have c0 : u.cell? ⟨w.heap.size, 0, none⟩ = some (.int .u32 a) := uc_cell (hB.get 0 (x := ⟨w.heap.size, uc [a, b, c, d], 93⟩) rfl) 0 (by simp)
  have c1 : u.cell? ⟨w.heap.size, 1, none⟩ = some (.int .u32 b) := uc_cell (hB.get 0 (x := ⟨w.heap.size, uc [a, b, c, d], 93⟩) rfl) 1 (by simp)
  have c2 : u.cell? ⟨w.heap.size, 2, none⟩ = some (.int .u32 c) := uc_cell (hB.get 0 (x := ⟨w.heap.size, uc [a, b, c, d], 93⟩) rfl) 2 (by simp)
  have c3 : u.cell? ⟨w.heap.size, 3, none⟩ = some (.int .u32 d) := uc_cell (hB.get 0 (x := ⟨w.heap.size, uc [a, b, c, d], 93⟩) rfl) 3 (by simp)
  replace hB := hide hB
  go_quiet (fail)
  replace hB := (unhide hB).drewN nq
  clear c0 c1 c2 c3
  generalize World.drewN _ _ = v at *
  replace hB := hide hB
  go_upto_region 2 with fail
  refine wp_region_lit ?_
  refine list_val (.int .u32 a) (by kernel_rfl) (by kernel_rfl) ?_
  simp only [Act.put, List.setIfInBounds_toArray, List.set_cons_zero, List.set_cons_succ, List.getElem_toArray, List.getElem_cons_zero, List.getElem_cons_succ]
  refine list_val (.int .u32 b) (by kernel_rfl) (by kernel_rfl) ?_
  simp only [Act.put, List.setIfInBounds_toArray, List.set_cons_zero, List.set_cons_succ, List.getElem_toArray, List.getElem_cons_zero, List.getElem_cons_succ]
  refine list_val (.int .u32 (ad a b)) (by kernel_rfl) (by kernel_rfl) ?_
  simp only [Act.put, List.setIfInBounds_toArray, List.set_cons_zero, List.set_cons_succ, List.getElem_toArray, List.getElem_cons_zero, List.getElem_cons_succ]
  generalize e1 : (ad a b) = x1
  replace e1 := hide e1
  replace hB := hide hB
  (refine wpList_step fun K hK => ?_; replace hK := hide hK; go_simp; refine unhide hK _ _ ?_; clear hK K)
  replace hB := unhide hB
  refine wpList_nil ?_
  replace hB := hide hB
  go_upto_region 3 with fail
  replace hB := unhide hB
  refine wp_region_lit ?_
  refine list_val (.int .u32 d) (by kernel_rfl) (by kernel_rfl) ?_
  simp only [Act.put, List.setIfInBounds_toArray, List.set_cons_zero, List.set_cons_succ, List.getElem_toArray, List.getElem_cons_zero, List.getElem_cons_succ]
  refine list_val (.int .u32 x1) (by kernel_rfl) (by kernel_rfl) ?_
  simp only [Act.put, List.setIfInBounds_toArray, List.set_cons_zero, List.set_cons_succ, List.getElem_toArray, List.getElem_cons_zero, List.getElem_cons_succ]
  refine list_val (.int .u32 (xr d x1)) (by kernel_rfl) (by kernel_rfl) ?_
  simp only [Act.put, List.setIfInBounds_toArray, List.set_cons_zero, List.set_cons_succ, List.getElem_toArray, List.getElem_cons_zero, List.getElem_cons_succ]
  refine list_call 49 #[.int .u32 (xr d x1), .int .i64 16] (by kernel_rfl) (by kernel_rfl) ((left_int (xr d x1) 16 (by omega) _).mono ?_)
  rintro r v ⟨rfl, rfl⟩
  refine ⟨_, rfl, ?_⟩
  replace hB := hB.drew
  generalize World.drew _ = v at *
  rw [show Int.toNat 16 = 16 from rfl]
  simp only [Act.put, List.setIfInBounds_toArray, List.set_cons_zero, List.set_cons_succ, List.getElem_toArray, List.getElem_cons_zero, List.getElem_cons_succ]
  generalize e2 : (lt (xr d x1) 16) = x2
  replace e2 := hide e2
  replace hB := hide hB
  (refine wpList_step fun K hK => ?_; replace hK := hide hK; go_simp; refine unhide hK _ _ ?_; clear hK K)
  replace hB := unhide hB
  refine wpList_nil ?_
  replace hB := hide hB
  go_upto_region 4 with fail
  replace hB := unhide hB
  refine wp_region_lit ?_
  refine list_val (.int .u32 c) (by kernel_rfl) (by kernel_rfl) ?_
  simp only [Act.put, List.setIfInBounds_toArray, List.set_cons_zero, List.set_cons_succ, List.getElem_toArray, List.getElem_cons_zero, List.getElem_cons_succ]
  refine list_val (.int .u32 x2) (by kernel_rfl) (by kernel_rfl) ?_
  simp only [Act.put, List.setIfInBounds_toArray, List.set_cons_zero, List.set_cons_succ, List.getElem_toArray, List.getElem_cons_zero, List.getElem_cons_succ]
  refine list_val (.int .u32 (ad c x2)) (by kernel_rfl) (by kernel_rfl) ?_
  simp only [Act.put, List.setIfInBounds_toArray, List.set_cons_zero, List.set_cons_succ, List.getElem_toArray, List.getElem_cons_zero, List.getElem_cons_succ]
  generalize e3 : (ad c x2) = x3
  replace e3 := hide e3
  replace hB := hide hB
  (refine wpList_step fun K hK => ?_; replace hK := hide hK; go_simp; refine unhide hK _ _ ?_; clear hK K)
  replace hB := unhide hB
  refine wpList_nil ?_
  replace hB := hide hB
  go_upto_region 5 with fail
  replace hB := unhide hB
  refine wp_region_lit ?_
  refine list_val (.int .u32 b) (by kernel_rfl) (by kernel_rfl) ?_
  simp only [Act.put, List.setIfInBounds_toArray, List.set_cons_zero, List.set_cons_succ, List.getElem_toArray, List.getElem_cons_zero, List.getElem_cons_succ]
  refine list_val (.int .u32 x3) (by kernel_rfl) (by kernel_rfl) ?_
  simp only [Act.put, List.setIfInBounds_toArray, List.set_cons_zero, List.set_cons_succ, List.getElem_toArray, List.getElem_cons_zero, List.getElem_cons_succ]
  refine list_val (.int .u32 (xr b x3)) (by kernel_rfl) (by kernel_rfl) ?_
  simp only [Act.put, List.setIfInBounds_toArray, List.set_cons_zero, List.set_cons_succ, List.getElem_toArray, List.getElem_cons_zero, List.getElem_cons_succ]
  refine list_call 49 #[.int .u32 (xr b x3), .int .i64 12] (by kernel_rfl) (by kernel_rfl) ((left_int (xr b x3) 12 (by omega) _).mono ?_)
  rintro r v ⟨rfl, rfl⟩
  refine ⟨_, rfl, ?_⟩
  replace hB := hB.drew
  generalize World.drew _ = v at *
  rw [show Int.toNat 12 = 12 from rfl]
  simp only [Act.put, List.setIfInBounds_toArray, List.set_cons_zero, List.set_cons_succ, List.getElem_toArray, List.getElem_cons_zero, List.getElem_cons_succ]
  generalize e4 : (lt (xr b x3) 12) = x4
  replace e4 := hide e4
  replace hB := hide hB
  (refine wpList_step fun K hK => ?_; replace hK := hide hK; go_simp; refine unhide hK _ _ ?_; clear hK K)
  replace hB := unhide hB
  refine wpList_nil ?_
  replace hB := hide hB
  go_upto_region 6 with fail
  replace hB := unhide hB
  refine wp_region_lit ?_
  refine list_val (.int .u32 x1) (by kernel_rfl) (by kernel_rfl) ?_
  simp only [Act.put, List.setIfInBounds_toArray, List.set_cons_zero, List.set_cons_succ, List.getElem_toArray, List.getElem_cons_zero, List.getElem_cons_succ]
  refine list_val (.int .u32 x4) (by kernel_rfl) (by kernel_rfl) ?_
  simp only [Act.put, List.setIfInBounds_toArray, List.set_cons_zero, List.set_cons_succ, List.getElem_toArray, List.getElem_cons_zero, List.getElem_cons_succ]
  refine list_val (.int .u32 (ad x1 x4)) (by kernel_rfl) (by kernel_rfl) ?_
  simp only [Act.put, List.setIfInBounds_toArray, List.set_cons_zero, List.set_cons_succ, List.getElem_toArray, List.getElem_cons_zero, List.getElem_cons_succ]
  generalize e5 : (ad x1 x4) = x5
  replace e5 := hide e5
  replace hB := hide hB
  (refine wpList_step fun K hK => ?_; replace hK := hide hK; go_simp; refine unhide hK _ _ ?_; clear hK K)
  replace hB := unhide hB
  refine wpList_nil ?_
  replace hB := hide hB
  go_upto_region 7 with fail
  replace hB := unhide hB
  refine wp_region_lit ?_
  refine list_val (.int .u32 x2) (by kernel_rfl) (by kernel_rfl) ?_
  simp only [Act.put, List.setIfInBounds_toArray, List.set_cons_zero, List.set_cons_succ, List.getElem_toArray, List.getElem_cons_zero, List.getElem_cons_succ]
  refine list_val (.int .u32 x5) (by kernel_rfl) (by kernel_rfl) ?_
  simp only [Act.put, List.setIfInBounds_toArray, List.set_cons_zero, List.set_cons_succ, List.getElem_toArray, List.getElem_cons_zero, List.getElem_cons_succ]
  refine list_val (.int .u32 (xr x2 x5)) (by kernel_rfl) (by kernel_rfl) ?_
  simp only [Act.put, List.setIfInBounds_toArray, List.set_cons_zero, List.set_cons_succ, List.getElem_toArray, List.getElem_cons_zero, List.getElem_cons_succ]
  refine list_call 49 #[.int .u32 (xr x2 x5), .int .i64 8] (by kernel_rfl) (by kernel_rfl) ((left_int (xr x2 x5) 8 (by omega) _).mono ?_)
  rintro r v ⟨rfl, rfl⟩
  refine ⟨_, rfl, ?_⟩
  replace hB := hB.drew
  generalize World.drew _ = v at *
  rw [show Int.toNat 8 = 8 from rfl]
  simp only [Act.put, List.setIfInBounds_toArray, List.set_cons_zero, List.set_cons_succ, List.getElem_toArray, List.getElem_cons_zero, List.getElem_cons_succ]
  generalize e6 : (lt (xr x2 x5) 8) = x6
  replace e6 := hide e6
  replace hB := hide hB
  (refine wpList_step fun K hK => ?_; replace hK := hide hK; go_simp; refine unhide hK _ _ ?_; clear hK K)
  replace hB := unhide hB
  refine wpList_nil ?_
  replace hB := hide hB
  go_upto_region 8 with fail
  replace hB := unhide hB
  refine wp_region_lit ?_
  refine list_val (.int .u32 x3) (by kernel_rfl) (by kernel_rfl) ?_
  simp only [Act.put, List.setIfInBounds_toArray, List.set_cons_zero, List.set_cons_succ, List.getElem_toArray, List.getElem_cons_zero, List.getElem_cons_succ]
  refine list_val (.int .u32 x6) (by kernel_rfl) (by kernel_rfl) ?_
  simp only [Act.put, List.setIfInBounds_toArray, List.set_cons_zero, List.set_cons_succ, List.getElem_toArray, List.getElem_cons_zero, List.getElem_cons_succ]
  refine list_val (.int .u32 (ad x3 x6)) (by kernel_rfl) (by kernel_rfl) ?_
  simp only [Act.put, List.setIfInBounds_toArray, List.set_cons_zero, List.set_cons_succ, List.getElem_toArray, List.getElem_cons_zero, List.getElem_cons_succ]
  generalize e7 : (ad x3 x6) = x7
  replace e7 := hide e7
  replace hB := hide hB
  (refine wpList_step fun K hK => ?_; replace hK := hide hK; go_simp; refine unhide hK _ _ ?_; clear hK K)
  replace hB := unhide hB
  refine wpList_nil ?_
  replace hB := hide hB
  go_upto_region 9 with fail
  replace hB := unhide hB
  refine wp_region_lit ?_
  refine list_val (.int .u32 x4) (by kernel_rfl) (by kernel_rfl) ?_
  simp only [Act.put, List.setIfInBounds_toArray, List.set_cons_zero, List.set_cons_succ, List.getElem_toArray, List.getElem_cons_zero, List.getElem_cons_succ]
  refine list_val (.int .u32 x7) (by kernel_rfl) (by kernel_rfl) ?_
  simp only [Act.put, List.setIfInBounds_toArray, List.set_cons_zero, List.set_cons_succ, List.getElem_toArray, List.getElem_cons_zero, List.getElem_cons_succ]
  refine list_val (.int .u32 (xr x4 x7)) (by kernel_rfl) (by kernel_rfl) ?_
  simp only [Act.put, List.setIfInBounds_toArray, List.set_cons_zero, List.set_cons_succ, List.getElem_toArray, List.getElem_cons_zero, List.getElem_cons_succ]
  refine list_call 49 #[.int .u32 (xr x4 x7), .int .i64 7] (by kernel_rfl) (by kernel_rfl) ((left_int (xr x4 x7) 7 (by omega) _).mono ?_)
  rintro r v ⟨rfl, rfl⟩
  refine ⟨_, rfl, ?_⟩
  replace hB := hB.drew
  generalize World.drew _ = v at *
  rw [show Int.toNat 7 = 7 from rfl]
  simp only [Act.put, List.setIfInBounds_toArray, List.set_cons_zero, List.set_cons_succ, List.getElem_toArray, List.getElem_cons_zero, List.getElem_cons_succ]
  generalize e8 : (lt (xr x4 x7) 7) = x8
  replace e8 := hide e8
  replace hB := hide hB
  (refine wpList_step fun K hK => ?_; replace hK := hide hK; go_simp; refine unhide hK _ _ ?_; clear hK K)
  replace hB := unhide hB
  refine wpList_nil ?_
  replace hB := hide hB
  go_upto_region 10 with fail
  replace hB := unhide hB
  refine wp_region_lit ?_
  refine list_val (.int .u32 x5) (by kernel_rfl) (by kernel_rfl) ?_
  simp only [Act.put, List.setIfInBounds_toArray, List.set_cons_zero, List.set_cons_succ, List.getElem_toArray, List.getElem_cons_zero, List.getElem_cons_succ]
  refine list_val (.int .u32 x8) (by kernel_rfl) (by kernel_rfl) ?_
  simp only [Act.put, List.setIfInBounds_toArray, List.set_cons_zero, List.set_cons_succ, List.getElem_toArray, List.getElem_cons_zero, List.getElem_cons_succ]
  refine list_val (.int .u32 x7) (by kernel_rfl) (by kernel_rfl) ?_
  simp only [Act.put, List.setIfInBounds_toArray, List.set_cons_zero, List.set_cons_succ, List.getElem_toArray, List.getElem_cons_zero, List.getElem_cons_succ]
  refine list_val (.int .u32 x6) (by kernel_rfl) (by kernel_rfl) ?_
  simp only [Act.put, List.setIfInBounds_toArray, List.set_cons_zero, List.set_cons_succ, List.getElem_toArray, List.getElem_cons_zero, List.getElem_cons_succ]
  refine list_val (.agg (uc [x5, x8, x7, x6])) (by kernel_rfl) (by kernel_rfl) ?_
  simp only [Act.put, List.setIfInBounds_toArray, List.set_cons_zero, List.set_cons_succ, List.getElem_toArray, List.getElem_cons_zero, List.getElem_cons_succ]
  refine list_store 93 (.tmp 2) (.tmp 47) (w.heap.size + 1) (uc [x5, x8, x7, x6]) 93 (uc [0, 0, 0, 0]) (by kernel_rfl) rfl (by kernel_rfl) (by kernel_rfl) (hB.get 1 (x := ⟨w.heap.size + 1, uc [0, 0, 0, 0], 93⟩) rfl) (by rw [Tryd.info4, uc_size, (show [x5, x8, x7, x6].length = 4 from rfl)]) ((show (uc [0, 0, 0, 0]).size = 4 from rfl).trans ((uc_size _).trans (show [x5, x8, x7, x6].length = 4 from rfl)).symm) (uc_one _) ?_
  replace hB := hB.set 1 (x := ⟨w.heap.size + 1, uc [0, 0, 0, 0], 93⟩) rfl (uc [x5, x8, x7, x6])
  simp only [List.set_cons_zero, List.set_cons_succ] at hB
  generalize World.setRow _ _ _ = u9 at *
  simp only [Act.put, List.setIfInBounds_toArray, List.set_cons_zero, List.set_cons_succ, List.getElem_toArray, List.getElem_cons_zero, List.getElem_cons_succ]
  refine wpList_nil ?_
  replace hB := hide hB
  go_wp2_with fail
  replace hB := unhide hB
  rw [unhide hT]
  exact bodyPost_ret (v := .agg (uc [x5, x8, x7, x6])) (results_cell_row Tryd.results42 _ _ (w.heap.size + 1) 93 (uc [x5, x8, x7, x6]) (0, 0) _ rfl (hB.get 1 (x := ⟨w.heap.size + 1, uc [x5, x8, x7, x6], 93⟩) rfl) Tryd.underlying93 rfl (by rw [Tryd.info4, uc_size, (show [x5, x8, x7, x6].length = 4 from rfl)])) rfl (⟨by rw [ql, quar, unhide e1, unhide e2, unhide e3, unhide e4, unhide e5, unhide e6, unhide e7, unhide e8], hB.gr⟩)

/-- four bytes as a word -/
def wd (K : List Int) (o : Nat) : Int := bits .or .u32 (bits .or .u32 (bits .or .u32 (K.getD o 0) (K.getD (o + 1) 0 * 256)) (K.getD (o + 2) 0 * 65536)) (K.getD (o + 3) 0 * 16777216)
theorem rword_ok (K : List Int) (hb : IsB K) (g o n cap : Nat) (hn : n = K.length - o) (ho : o + 4 ≤ K.length) (w : World) (h : w.heap[g]? = some (.cells (kc K) 28 (0, 0)) ∨ w.heap[g]? = some (.cells (kc K) 73 (0, 0))) (hg : o + 3 < K.length) :
    Calls Tryd.prog 40 #[.slice (some ⟨g, o, none⟩) n cap] w (fun r w' => r = .returned (.int .u32 (wd K o)) ∧ Gr w w') := by
  have hc : ∀ j, j < 4 → w.cell? ⟨g, o + j, none⟩ = some (.int .u8 (K.getD (o + j) 0)) := fun j hj => by
    rcases h with h | h
    · exact kc_cell h _ (by omega)
    · exact kc_cell h _ (by omega)
  have c0 := hc 0 (by omega)
  have c1 := hc 1 (by omega)
  have c2 := hc 2 (by omega)
  have c3 := hc 3 (by omega)
  rw [Nat.add_zero] at c0
  have b0 := hb.at_ o
  have b1 := hb.at_ (o + 1)
  have b2 := hb.at_ (o + 2)
  have b3 := hb.at_ (o + 3)
  unfold wd
  generalize K.getD o 0 = x0 at *
  generalize K.getD (o + 1) 0 = x1 at *
  generalize K.getD (o + 2) 0 = x2 at *
  generalize K.getD (o + 3) 0 = x3 at *
  have n0 : (0 : Int) < n := by omega
  have n1 : (1 : Int) < n := by omega
  have n2 : (2 : Int) < n := by omega
  have n3 : (3 : Int) < n := by omega
  have m0 : 0 < n := by omega
  have m1 : 1 < n := by omega
  have m2 : 2 < n := by omega
  have m3 : 3 < n := by omega
  clear h hc hn
  go_enter Tryd.func40, Tryd.ntmps40
  go_wp2_with fail
  go_quiet (fail)
  go_wp2_with fail
  refine bodyPost_ret (v := .int .u32 (bits .or .u32 (bits .or .u32 (bits .or .u32 x0 (x1 * 256)) (x2 * 65536)) (x3 * 16777216))) ?_ rfl ⟨rfl, (Gr.refl w).drewN nq⟩
  simp [results, Tryd.results40, go_sem]
/-- numbers in a row -/
def ic (l : List Nat) : Array Value := (l.map (fun x : Nat => Value.int .i64 (x : Int))).toArray
theorem ic_size (l : List Nat) : (ic l).size = l.length := by simp [ic]
theorem ic_one (l : List Nat) : (ic l).all (·.oneCell') = true := by unfold ic; simp [Value.oneCell']
theorem ic_cell {v : World} {g : Nat} {l : List Nat} {t : TypeId} (h : v.heap[g]? = some (.cells (ic l) t (0, 0))) (i : Nat) (hi : i < l.length) : v.cell? ⟨g, i, none⟩ = some (.int .i64 ((l.getD i 0 : Nat) : Int)) := by
  refine cell_of h ?_
  unfold ic
  simp [hi]
/-- the places of the eight quarters -/
def PL : List Nat := [0, 4, 8, 12, 1, 5, 9, 13, 2, 6, 10, 14, 3, 7, 11, 15, 0, 5, 10, 15, 1, 6, 11, 12, 2, 7, 8, 13, 3, 4, 9, 14]
def P32 : List Nat := List.replicate 32 0
theorem Tryd.info84 : (Tryd.prog.info? 91).map (·.size) = some 32 := by kernel_rfl
theorem Tryd.infoP4 : (Tryd.prog.info? 90).map (·.size) = some 4 := by kernel_rfl
theorem rplaces_ok (w : World) : Calls Tryd.prog 41 #[] w (fun r w' => r = .returned (.agg (ic PL)) ∧ Gr w w') := by
  go_enter Tryd.func41, Tryd.ntmps41
  go_upto_region 1 with fail
  have hB := (Bl.nil w).new #[.int .i64 0, .int .i64 0, .int .i64 0, .int .i64 0, .int .i64 0, .int .i64 0, .int .i64 0, .int .i64 0, .int .i64 0, .int .i64 0, .int .i64 0, .int .i64 0, .int .i64 0, .int .i64 0, .int .i64 0, .int .i64 0, .int .i64 0, .int .i64 0, .int .i64 0, .int .i64 0, .int .i64 0, .int .i64 0, .int .i64 0, .int .i64 0, .int .i64 0, .int .i64 0, .int .i64 0, .int .i64 0, .int .i64 0, .int .i64 0, .int .i64 0, .int .i64 0] 91
  simp only [List.nil_append] at hB
  generalize World.alloc _ _ = u at *
  replace hB : Bl w [⟨w.heap.size, ic P32, 91⟩] u := hB
  refine wp_region_lit ?_
  refine list_val (.agg (ic [0, 4, 8, 12])) (by kernel_rfl) (by kernel_rfl) ?_
  simp only [Act.put, List.setIfInBounds_toArray, List.set_cons_zero, List.set_cons_succ, List.getElem_toArray, List.getElem_cons_zero, List.getElem_cons_succ]
  refine list_val (.agg (ic [1, 5, 9, 13])) (by kernel_rfl) (by kernel_rfl) ?_
  simp only [Act.put, List.setIfInBounds_toArray, List.set_cons_zero, List.set_cons_succ, List.getElem_toArray, List.getElem_cons_zero, List.getElem_cons_succ]
  refine list_val (.agg (ic [2, 6, 10, 14])) (by kernel_rfl) (by kernel_rfl) ?_
  simp only [Act.put, List.setIfInBounds_toArray, List.set_cons_zero, List.set_cons_succ, List.getElem_toArray, List.getElem_cons_zero, List.getElem_cons_succ]
  refine list_val (.agg (ic [3, 7, 11, 15])) (by kernel_rfl) (by kernel_rfl) ?_
  simp only [Act.put, List.setIfInBounds_toArray, List.set_cons_zero, List.set_cons_succ, List.getElem_toArray, List.getElem_cons_zero, List.getElem_cons_succ]
  refine list_val (.agg (ic [0, 5, 10, 15])) (by kernel_rfl) (by kernel_rfl) ?_
  simp only [Act.put, List.setIfInBounds_toArray, List.set_cons_zero, List.set_cons_succ, List.getElem_toArray, List.getElem_cons_zero, List.getElem_cons_succ]
  refine list_val (.agg (ic [1, 6, 11, 12])) (by kernel_rfl) (by kernel_rfl) ?_
  simp only [Act.put, List.setIfInBounds_toArray, List.set_cons_zero, List.set_cons_succ, List.getElem_toArray, List.getElem_cons_zero, List.getElem_cons_succ]
  refine list_val (.agg (ic [2, 7, 8, 13])) (by kernel_rfl) (by kernel_rfl) ?_
  simp only [Act.put, List.setIfInBounds_toArray, List.set_cons_zero, List.set_cons_succ, List.getElem_toArray, List.getElem_cons_zero, List.getElem_cons_succ]
  refine list_val (.agg (ic [3, 4, 9, 14])) (by kernel_rfl) (by kernel_rfl) ?_
  simp only [Act.put, List.setIfInBounds_toArray, List.set_cons_zero, List.set_cons_succ, List.getElem_toArray, List.getElem_cons_zero, List.getElem_cons_succ]
  refine list_val (.agg (ic PL)) (by kernel_rfl) (by kernel_rfl) ?_
  simp only [Act.put, List.setIfInBounds_toArray, List.set_cons_zero, List.set_cons_succ, List.getElem_toArray, List.getElem_cons_zero, List.getElem_cons_succ]
  refine list_store 91 (.tmp 0) (.tmp 9) w.heap.size (ic PL) 91 (ic P32) (by kernel_rfl) rfl (by kernel_rfl) (by kernel_rfl) (hB.get 0 (x := ⟨w.heap.size, ic P32, 91⟩) rfl) (by rw [Tryd.info84]; rfl) rfl (ic_one _) ?_
  replace hB := hB.set 0 (x := ⟨w.heap.size, ic P32, 91⟩) rfl (ic PL)
  simp only [List.set_cons_zero, List.set_cons_succ] at hB
  generalize World.setRow _ _ _ = u3 at *
  simp only [Act.put, List.setIfInBounds_toArray, List.set_cons_zero, List.set_cons_succ, List.getElem_toArray, List.getElem_cons_zero, List.getElem_cons_succ]
  refine wpList_nil ?_
  go_wp2_with fail
  exact bodyPost_ret (v := .agg (ic PL)) (results_cell_row Tryd.results41 _ _ w.heap.size 91 (ic PL) (0, 0) _ rfl (hB.get 0 (x := ⟨w.heap.size, ic PL, 91⟩) rfl) Tryd.underlying91 rfl (by rw [Tryd.info84]; rfl)) rfl ⟨rfl, hB.gr⟩
/-- the places of the quarter number t -/
def pl4 (t : Nat) : List Nat := (PL.drop (4 * t)).take 4
theorem pl4_len (t : Nat) (h : t < 8) : (pl4 t).length = 4 := by unfold pl4 PL; simp; omega
theorem pl4_lt (t : Nat) (h : t < 8) : ∀ i, (pl4 t).getD i 0 < 16 := by
  have hd : ∀ t, t < 8 → ∀ i, i < 4 → (pl4 t).getD i 0 < 16 := by decide
  intro i
  rcases Nat.lt_or_ge i 4 with hi | hi
  · exact hd t h i hi
  · rw [List.getD_eq_getElem?_getD, List.getElem?_eq_none (by rw [pl4_len t h]; exact hi)]
    decide
/-- the words behind t quarters of two rounds -/
def qpl (X : List Int) (p : List Nat) : List Int := qp X (p.getD 0 0) (p.getD 1 0) (p.getD 2 0) (p.getD 3 0)
def dq (X : List Int) : Nat → List Int
  | 0 => X
  | t + 1 => qpl (dq X t) (pl4 t)
theorem dq_len (X : List Int) : ∀ t, (dq X t).length = X.length
  | 0 => rfl
  | t + 1 => by rw [dq, qpl, qp_len, dq_len X t]
theorem dq_all (X : List Int) : dq X 8 = dbl X := rfl
theorem index_P (t : Nat) (h : t < 8) (w : World) : (Instr.index 91 (.agg (ic PL)) (.int .i64 t)).run Tryd.prog w = .ok (.agg (ic (pl4 t))) w := by
  have hd : t = 0 ∨ t = 1 ∨ t = 2 ∨ t = 3 ∨ t = 4 ∨ t = 5 ∨ t = 6 ∨ t = 7 := by omega
  rcases hd with rfl | rfl | rfl | rfl | rfl | rfl | rfl | rfl <;> (show Sem.run _ _ _ = _; kernel_rfl)

theorem Tryd.infoA : (Tryd.prog.info? 88).map (·.size) = some 16 := by kernel_rfl
/-- the words of the key, of the nonce, as far as n -/
def wk (K W : List Int) (p : Nat) : Nat → List Int
  | 0 => W
  | n + 1 => (wk K W p n).set (p + n) (wd K (4 * n))
theorem wk_len (K W : List Int) (p : Nat) : ∀ n, (wk K W p n).length = W.length
  | 0 => rfl
  | n + 1 => by rw [wk, List.length_set, wk_len K W p n]
/-- four words stored one by one -/
def qset (X : List Int) (p : List Nat) (q : List Int) : Nat → List Int
  | 0 => X
  | i + 1 => (qset X p q i).set (p.getD i 0) (q.getD i 0)
theorem qset_len (X : List Int) (p : List Nat) (q : List Int) : ∀ i, (qset X p q i).length = X.length
  | 0 => rfl
  | i + 1 => by rw [qset, List.length_set, qset_len X p q i]
theorem qset_all (X : List Int) (p : List Nat) : qset X p (ql (quar (X.getD (p.getD 0 0) 0) (X.getD (p.getD 1 0) 0) (X.getD (p.getD 2 0) 0) (X.getD (p.getD 3 0) 0))) 4 = qpl X p := rfl
/-- four words that are made while a chain goes on -/
def NQ (v0 : World) (q : Value) (u : World) : Prop := ∃ g, New v0 (uc [0, 0, 0, 0]) 93 u q g
theorem NQ.gr {v0 u v : World} {q : Value} (h : NQ v0 q u) (k : Gr u v) : NQ v0 q v := by
  obtain ⟨g, h⟩ := h
  exact ⟨g, h.more k⟩
/-- the words of key and nonce, by both -/
def ob (K : List Int) (o : Nat) : Int := bits .or .u32 (bits .or .u32 (bits .or .u32 (bits .or .u32 0 (K.getD o 0 * 2 ^ 0 % 4294967296)) (K.getD (o + 1) 0 * 2 ^ 8 % 4294967296)) (K.getD (o + 2) 0 * 2 ^ 16 % 4294967296)) (K.getD (o + 3) 0 * 2 ^ 24 % 4294967296)
theorem ob_wd (K : List Int) (h : IsB K) (o : Nat) : ob K o = wd K o := by
  have b0 := h.at_ o
  have b1 := h.at_ (o + 1)
  have b2 := h.at_ (o + 2)
  have b3 := h.at_ (o + 3)
  unfold ob wd
  rw [show K.getD o 0 * 2 ^ 0 % 4294967296 = K.getD o 0 from by omega, or_zero _ ⟨b0.1, by omega⟩, show K.getD (o + 1) 0 * 2 ^ 8 % 4294967296 = K.getD (o + 1) 0 * 256 from by omega, show K.getD (o + 2) 0 * 2 ^ 16 % 4294967296 = K.getD (o + 2) 0 * 65536 from by omega, show K.getD (o + 3) 0 * 2 ^ 24 % 4294967296 = K.getD (o + 3) 0 * 16777216 from by omega]
theorem kw_key (K : List Int) : kw 4 K W0 32 = [1634760805, 857760878, 2036477234, 1797285236, ob K 0, ob K 4, ob K 8, ob K 12, ob K 16, ob K 20, ob K 24, ob K 28, 0, 0, 0, 0] := by kernel_rfl
theorem kw_nonce (N : List Int) (a0 a1 a2 a3 a4 a5 a6 a7 a8 a9 a10 a11 a12 : Int) : kw 13 N [a0, a1, a2, a3, a4, a5, a6, a7, a8, a9, a10, a11, a12, 0, 0, 0] 12 = [a0, a1, a2, a3, a4, a5, a6, a7, a8, a9, a10, a11, a12, ob N 0, ob N 4, ob N 8] := by kernel_rfl
theorem wk_key (K : List Int) : wk K W0 4 8 = [1634760805, 857760878, 2036477234, 1797285236, wd K 0, wd K 4, wd K 8, wd K 12, wd K 16, wd K 20, wd K 24, wd K 28, 0, 0, 0, 0] := by kernel_rfl
theorem wk_nonce (N : List Int) (a0 a1 a2 a3 a4 a5 a6 a7 a8 a9 a10 a11 a12 : Int) : wk N [a0, a1, a2, a3, a4, a5, a6, a7, a8, a9, a10, a11, a12, 0, 0, 0] 13 3 = [a0, a1, a2, a3, a4, a5, a6, a7, a8, a9, a10, a11, a12, wd N 0, wd N 4, wd N 8] := by kernel_rfl
theorem words_eq (K N : List Int) (hK : IsB K) (hN : IsB N) (c : Int) : wk N ((wk K W0 4 8).set 12 c) 13 3 = (bg K N).set 12 c := by
  unfold bg
  rw [kw_key, kw_nonce, wk_key]
  simp only [List.set_cons_zero, List.set_cons_succ]
  rw [wk_nonce]
  simp only [ob_wd K hK, ob_wd N hN]
set_option maxHeartbeats 8000000 in
theorem rblock_ok (K N : List Int) (hK : K.length = 32) (hN : N.length = 12) (hKb : IsB K) (hNb : IsB N) (c : Int) (w : World) : Calls Tryd.prog 28 #[.agg (kc K), .int .u32 c, .agg (kc N)] w (Bts (bk K N c) w) := by
  obtain ⟨T, hT⟩ : ∃ T, T = Bts (bk K N c) w := ⟨_, rfl⟩
  rw [← hT]
  replace hT := hide hT
  obtain ⟨SK, hSK⟩ : ∃ S, S = kc K := ⟨_, rfl⟩
  obtain ⟨SN, hSN⟩ : ∃ S, S = kc N := ⟨_, rfl⟩
  rw [← hSK, ← hSN]
  replace hSK := hide hSK
  replace hSN := hide hSN
  replace hKb := hide hKb
  replace hNb := hide hNb
  go_enter Tryd.func28, Tryd.ntmps28
  go_upto_region 1 with fail
  have hB := (((Bl.nil w).new SK 28).new SN 73).new #[.int .u8 0, .int .u8 0, .int .u8 0, .int .u8 0, .int .u8 0, .int .u8 0, .int .u8 0, .int .u8 0, .int .u8 0, .int .u8 0, .int .u8 0, .int .u8 0, .int .u8 0, .int .u8 0, .int .u8 0, .int .u8 0, .int .u8 0, .int .u8 0, .int .u8 0, .int .u8 0, .int .u8 0, .int .u8 0, .int .u8 0, .int .u8 0, .int .u8 0, .int .u8 0, .int .u8 0, .int .u8 0, .int .u8 0, .int .u8 0, .int .u8 0, .int .u8 0, .int .u8 0, .int .u8 0, .int .u8 0, .int .u8 0, .int .u8 0, .int .u8 0, .int .u8 0, .int .u8 0, .int .u8 0, .int .u8 0, .int .u8 0, .int .u8 0, .int .u8 0, .int .u8 0, .int .u8 0, .int .u8 0, .int .u8 0, .int .u8 0, .int .u8 0, .int .u8 0, .int .u8 0, .int .u8 0, .int .u8 0, .int .u8 0, .int .u8 0, .int .u8 0, .int .u8 0, .int .u8 0, .int .u8 0, .int .u8 0, .int .u8 0, .int .u8 0] 69
  simp only [size_alloc, List.nil_append, List.cons_append] at hB
  generalize World.alloc _ _ = u at *
  rw [unhide hSK, unhide hSN] at hB
  refine wp_region_lit ?_
  refine list_val (.agg (uc W0)) (by kernel_rfl) (by kernel_rfl) ?_
  simp only [Act.put, List.setIfInBounds_toArray, List.set_cons_zero, List.set_cons_succ, List.getElem_toArray, List.getElem_cons_zero, List.getElem_cons_succ]
  replace hB := hide hB
  (refine wpList_step fun K hK => ?_; replace hK := hide hK; go_simp; refine unhide hK _ _ ?_; clear hK K)
  replace hB := (unhide hB).new #[.int .u32 0, .int .u32 0, .int .u32 0, .int .u32 0, .int .u32 0, .int .u32 0, .int .u32 0, .int .u32 0, .int .u32 0, .int .u32 0, .int .u32 0, .int .u32 0, .int .u32 0, .int .u32 0, .int .u32 0, .int .u32 0] 88
  simp only [List.nil_append, List.cons_append] at hB
  generalize World.alloc _ _ = u1 at *
  generalize u.heap.size = h7 at *
  replace hB : Bl w [⟨w.heap.size, kc K, 28⟩, ⟨w.heap.size + 1, kc N, 73⟩, ⟨w.heap.size + 1 + 1, kc Z64, 69⟩, ⟨h7, uc Z16, 88⟩] u1 := hB
  refine list_store 88 (.tmp 7) (.tmp 20) (h7) (uc W0) 88 (uc Z16) (by kernel_rfl) rfl (by kernel_rfl) (by kernel_rfl) (hB.get 3 (x := ⟨h7, uc Z16, 88⟩) rfl) (by rw [Tryd.infoA, uc_size, (show W0.length = 16 from rfl)]) ((show (uc Z16).size = 16 from rfl).trans ((uc_size _).trans (show W0.length = 16 from rfl)).symm) (uc_one _) ?_
  replace hB := hB.set 3 (x := ⟨h7, uc Z16, 88⟩) rfl (uc W0)
  simp only [List.set_cons_zero, List.set_cons_succ] at hB
  generalize World.setRow _ _ _ = u2 at *
  simp only [Act.put, List.setIfInBounds_toArray, List.set_cons_zero, List.set_cons_succ, List.getElem_toArray, List.getElem_cons_zero, List.getElem_cons_succ]
  refine wpList_nil ?_
  replace hB := hide hB
  have hpl : W0.length = 16 := rfl
  go_wp2_with fail
  go_loopw [8] (fun i wr => ∃ n : Nat, ∃ m : List Int, n ≤ 8 ∧ i = .int .i64 n ∧ Hid (m = wk K W0 4 n) ∧ Hid (Bl w [⟨w.heap.size, kc K, 28⟩, ⟨w.heap.size + 1, kc N, 73⟩, ⟨w.heap.size + 1 + 1, kc Z64, 69⟩, ⟨h7, uc m, 88⟩] wr)) (fun i _ => 8 - (intOf i).toNat)
  case atStart => exact ⟨0, W0, by omega, rfl, rfl, hB⟩
  case round =>
  clear hB
  obtain ⟨n, m, hn, rfl, hm, hB⟩ := hrel
  have hml : m.length = 16 := by rw [unhide hm, wk_len]; exact hpl
  by_cases hl : n < 8
  · obtain ⟨i4, hi4⟩ : ∃ x, x = 4 + n := ⟨_, rfl⟩
    obtain ⟨o, ho⟩ : ∃ x, x = 4 * n := ⟨_, rfl⟩
    obtain ⟨l1, hl1⟩ : ∃ x, x = 32 - o := ⟨_, rfl⟩
    have nI : (n : Int) < 8 := by omega
    have e1 : 4 + (n : Int) = (i4 : Int) := by omega
    have e2 : 4 * (n : Int) = (o : Int) := by omega
    have e3 : IntKind.i64.wrap (i4 : Int) = (i4 : Int) := by rw [IntKind.wrap_i64]; omega
    have e4 : IntKind.i64.wrap (o : Int) = (o : Int) := by rw [IntKind.wrap_i64]; omega
    have e5 : (o : Int) ≤ 32 := by omega
    have e6 : o ≤ 32 := by omega
    have e7 : ¬ 32 = o := by omega
    have e8 : 32 - o = l1 := hl1.symm
    have e9 : (i4 : Int) < 16 := by omega
    have e10 : i4 < 16 := by omega
    have c4 := uc_cell ((unhide hB).get 3 (x := ⟨h7, uc m, 88⟩) rfl) i4 (by omega)
    generalize m.getD i4 0 = z at c4
    replace hi4 := hide hi4
    replace ho := hide ho
    replace hl1 := hide hl1
    clear c4
    go_upto_region 5 with fail
    replace hB := unhide hB
    refine wp_region_lit ?_
    refine list_val (.int .i64 n) (by kernel_rfl) (by kernel_rfl) ?_
    simp only [Act.put, List.setIfInBounds_toArray, List.set_cons_zero, List.set_cons_succ, List.getElem_toArray, List.getElem_cons_zero, List.getElem_cons_succ]
    refine list_val (.int .i64 i4) (by kernel_rfl) (by go_simp) ?_
    simp only [Act.put, List.setIfInBounds_toArray, List.set_cons_zero, List.set_cons_succ, List.getElem_toArray, List.getElem_cons_zero, List.getElem_cons_succ]
    refine list_val (.int .i64 n) (by kernel_rfl) (by kernel_rfl) ?_
    simp only [Act.put, List.setIfInBounds_toArray, List.set_cons_zero, List.set_cons_succ, List.getElem_toArray, List.getElem_cons_zero, List.getElem_cons_succ]
    refine list_val (.int .i64 o) (by kernel_rfl) (by go_simp) ?_
    simp only [Act.put, List.setIfInBounds_toArray, List.set_cons_zero, List.set_cons_succ, List.getElem_toArray, List.getElem_cons_zero, List.getElem_cons_succ]
    refine list_val (.slice (some ⟨w.heap.size, o, none⟩) l1 l1) (by kernel_rfl) (by go_simp) ?_
    simp only [Act.put, List.setIfInBounds_toArray, List.set_cons_zero, List.set_cons_succ, List.getElem_toArray, List.getElem_cons_zero, List.getElem_cons_succ]
    refine list_call 40 #[.slice (some ⟨w.heap.size, o, none⟩) l1 l1] (by kernel_rfl) (by kernel_rfl) ((rword_ok K (unhide hKb) (w.heap.size) o l1 l1 (by have := unhide hl1; omega) (by have := unhide ho; omega) _ (.inl (hB.get 0 (x := ⟨w.heap.size, kc K, 28⟩) rfl)) (by have := unhide ho; omega)).mono ?_)
    rintro r u2 ⟨rfl, hg⟩
    refine ⟨_, rfl, ?_⟩
    replace hB := hB.more hg
    clear hg
    obtain ⟨x, hx⟩ : ∃ x, x = wd K o := ⟨_, rfl⟩
    rw [← hx]
    replace hx := hide hx
    simp only [Act.put, List.setIfInBounds_toArray, List.set_cons_zero, List.set_cons_succ, List.getElem_toArray, List.getElem_cons_zero, List.getElem_cons_succ]
    refine list_val (.pointer (some ⟨h7, i4, none⟩)) (by kernel_rfl) (by go_simp) ?_
    simp only [Act.put, List.setIfInBounds_toArray, List.set_cons_zero, List.set_cons_succ, List.getElem_toArray, List.getElem_cons_zero, List.getElem_cons_succ]
    have c4 := uc_cell (hB.get 3 (x := ⟨h7, uc m, 88⟩) rfl) i4 (by omega)
    generalize m.getD i4 0 = z at c4
    have fz := froz_of (i := i4) (hB.get 3 (x := ⟨h7, uc m, 88⟩) rfl)
    have hB2 := hB.cell 3 (x := ⟨h7, uc m, 88⟩) rfl i4 (.int .u32 x)
    simp only [List.set_cons_zero, List.set_cons_succ, uc_set] at hB2
    clear hB
    replace hB2 := hide hB2
    (refine wpList_step fun K hK => ?_; replace hK := hide hK; go_simp; refine unhide hK _ _ ?_; clear hK K)
    clear c4 fz
    refine wpList_nil ?_
    have hm2 : Hid (m.set i4 x = wk K W0 4 (n + 1)) := by
      rw [wk, ← unhide hm, unhide hx, unhide hi4, unhide ho]
      exact rfl
    clear hn hx
    go_wp2_with fail
    go_roundw
    case rel => exact ⟨n + 1, _, by omega, by go_num, hm2, hB2⟩
    case measure => simp [intOf]; omega
  have e : n = 8 := by omega
  subst e
  clear hl hn
  go_upto_region 6 with fail
  replace hB := unhide hB
  refine wp_region_lit ?_
  refine list_val (.int .u32 c) (by kernel_rfl) (by kernel_rfl) ?_
  simp only [Act.put, List.setIfInBounds_toArray, List.set_cons_zero, List.set_cons_succ, List.getElem_toArray, List.getElem_cons_zero, List.getElem_cons_succ]
  refine list_val (.pointer (some ⟨h7, 12, none⟩)) (by kernel_rfl) (by kernel_rfl) ?_
  simp only [Act.put, List.setIfInBounds_toArray, List.set_cons_zero, List.set_cons_succ, List.getElem_toArray, List.getElem_cons_zero, List.getElem_cons_succ]
  have c4 := uc_cell (hB.get 3 (x := ⟨h7, uc m, 88⟩) rfl) 12 (by omega)
  generalize m.getD 12 0 = z at c4
  have fz := froz_of (i := 12) (hB.get 3 (x := ⟨h7, uc m, 88⟩) rfl)
  replace hB := hB.cell 3 (x := ⟨h7, uc m, 88⟩) rfl 12 (.int .u32 c)
  simp only [List.set_cons_zero, List.set_cons_succ, uc_set] at hB
  replace hB := hide hB
  (refine wpList_step fun K hK => ?_; replace hK := hide hK; go_simp; refine unhide hK _ _ ?_; clear hK K)
  clear c4 fz
  refine wpList_nil ?_
  clear hpl
  have hpl : (m.set 12 c).length = 16 := by rw [List.length_set]; exact hml
  have hk1 : Hid (m.set 12 c = (wk K W0 4 8).set 12 c) := by rw [unhide hm]; exact rfl
  generalize m.set 12 c = V1 at *
  clear hm hml m
  go_wp2_with fail
  go_loopw [9] (fun i wr => ∃ n : Nat, ∃ m : List Int, n ≤ 3 ∧ i = .int .i64 n ∧ Hid (m = wk N V1 13 n) ∧ Hid (Bl w [⟨w.heap.size, kc K, 28⟩, ⟨w.heap.size + 1, kc N, 73⟩, ⟨w.heap.size + 1 + 1, kc Z64, 69⟩, ⟨h7, uc m, 88⟩] wr)) (fun i _ => 3 - (intOf i).toNat)
  case atStart => exact ⟨0, V1, by omega, rfl, rfl, hB⟩
  case round =>
  clear hB
  obtain ⟨n, m, hn, rfl, hm, hB⟩ := hrel
  have hml : m.length = 16 := by rw [unhide hm, wk_len]; exact hpl
  by_cases hl : n < 3
  · obtain ⟨i4, hi4⟩ : ∃ x, x = 13 + n := ⟨_, rfl⟩
    obtain ⟨o, ho⟩ : ∃ x, x = 4 * n := ⟨_, rfl⟩
    obtain ⟨l1, hl1⟩ : ∃ x, x = 12 - o := ⟨_, rfl⟩
    have nI : (n : Int) < 3 := by omega
    have e1 : 13 + (n : Int) = (i4 : Int) := by omega
    have e2 : 4 * (n : Int) = (o : Int) := by omega
    have e3 : IntKind.i64.wrap (i4 : Int) = (i4 : Int) := by rw [IntKind.wrap_i64]; omega
    have e4 : IntKind.i64.wrap (o : Int) = (o : Int) := by rw [IntKind.wrap_i64]; omega
    have e5 : (o : Int) ≤ 12 := by omega
    have e6 : o ≤ 12 := by omega
    have e7 : ¬ 12 = o := by omega
    have e8 : 12 - o = l1 := hl1.symm
    have e9 : (i4 : Int) < 16 := by omega
    have e10 : i4 < 16 := by omega
    have c4 := uc_cell ((unhide hB).get 3 (x := ⟨h7, uc m, 88⟩) rfl) i4 (by omega)
    generalize m.getD i4 0 = z at c4
    replace hi4 := hide hi4
    replace ho := hide ho
    replace hl1 := hide hl1
    clear c4
    go_upto_region 10 with fail
    replace hB := unhide hB
    refine wp_region_lit ?_
    refine list_val (.int .i64 n) (by kernel_rfl) (by kernel_rfl) ?_
    simp only [Act.put, List.setIfInBounds_toArray, List.set_cons_zero, List.set_cons_succ, List.getElem_toArray, List.getElem_cons_zero, List.getElem_cons_succ]
    refine list_val (.int .i64 i4) (by kernel_rfl) (by go_simp) ?_
    simp only [Act.put, List.setIfInBounds_toArray, List.set_cons_zero, List.set_cons_succ, List.getElem_toArray, List.getElem_cons_zero, List.getElem_cons_succ]
    refine list_val (.int .i64 n) (by kernel_rfl) (by kernel_rfl) ?_
    simp only [Act.put, List.setIfInBounds_toArray, List.set_cons_zero, List.set_cons_succ, List.getElem_toArray, List.getElem_cons_zero, List.getElem_cons_succ]
    refine list_val (.int .i64 o) (by kernel_rfl) (by go_simp) ?_
    simp only [Act.put, List.setIfInBounds_toArray, List.set_cons_zero, List.set_cons_succ, List.getElem_toArray, List.getElem_cons_zero, List.getElem_cons_succ]
    refine list_val (.slice (some ⟨w.heap.size + 1, o, none⟩) l1 l1) (by kernel_rfl) (by go_simp) ?_
    simp only [Act.put, List.setIfInBounds_toArray, List.set_cons_zero, List.set_cons_succ, List.getElem_toArray, List.getElem_cons_zero, List.getElem_cons_succ]
    refine list_call 40 #[.slice (some ⟨w.heap.size + 1, o, none⟩) l1 l1] (by kernel_rfl) (by kernel_rfl) ((rword_ok N (unhide hNb) (w.heap.size + 1) o l1 l1 (by have := unhide hl1; omega) (by have := unhide ho; omega) _ (.inr (hB.get 1 (x := ⟨w.heap.size + 1, kc N, 73⟩) rfl)) (by have := unhide ho; omega)).mono ?_)
    rintro r u2 ⟨rfl, hg⟩
    refine ⟨_, rfl, ?_⟩
    replace hB := hB.more hg
    clear hg
    obtain ⟨x, hx⟩ : ∃ x, x = wd N o := ⟨_, rfl⟩
    rw [← hx]
    replace hx := hide hx
    simp only [Act.put, List.setIfInBounds_toArray, List.set_cons_zero, List.set_cons_succ, List.getElem_toArray, List.getElem_cons_zero, List.getElem_cons_succ]
    refine list_val (.pointer (some ⟨h7, i4, none⟩)) (by kernel_rfl) (by go_simp) ?_
    simp only [Act.put, List.setIfInBounds_toArray, List.set_cons_zero, List.set_cons_succ, List.getElem_toArray, List.getElem_cons_zero, List.getElem_cons_succ]
    have c4 := uc_cell (hB.get 3 (x := ⟨h7, uc m, 88⟩) rfl) i4 (by omega)
    generalize m.getD i4 0 = z at c4
    have fz := froz_of (i := i4) (hB.get 3 (x := ⟨h7, uc m, 88⟩) rfl)
    have hB2 := hB.cell 3 (x := ⟨h7, uc m, 88⟩) rfl i4 (.int .u32 x)
    simp only [List.set_cons_zero, List.set_cons_succ, uc_set] at hB2
    clear hB
    replace hB2 := hide hB2
    (refine wpList_step fun K hK => ?_; replace hK := hide hK; go_simp; refine unhide hK _ _ ?_; clear hK K)
    clear c4 fz
    refine wpList_nil ?_
    have hm2 : Hid (m.set i4 x = wk N V1 13 (n + 1)) := by
      rw [wk, ← unhide hm, unhide hx, unhide hi4, unhide ho]
      exact rfl
    clear hn hx
    go_wp2_with fail
    go_roundw
    case rel => exact ⟨n + 1, _, by omega, by go_num, hm2, hB2⟩
    case measure => simp [intOf]; omega
  have e : n = 3 := by omega
  subst e
  clear hl hn
  have hVV : Hid (m = (bg K N).set 12 c) := by
    rw [unhide hm, unhide hk1]
    exact words_eq K N (unhide hKb) (unhide hNb) c
  clear hm hk1 hpl
  obtain ⟨V, hV⟩ : ∃ V, V = m := ⟨_, rfl⟩
  rw [← hV] at hVV hml hB
  clear hV m
  have hVl : V.length = 16 := hml
  clear hml
  go_upto_region 11 with fail
  replace hB := unhide hB
  refine wp_region_lit ?_
  refine list_val (.agg (uc V)) (by kernel_rfl) (exec_arr _ 88 (.tmp 7) rfl (h7) (by kernel_rfl) (uc V) 88 _ (hB.get 3 (x := ⟨h7, uc V, 88⟩) rfl) Tryd.underlying88 rfl (by rw [Tryd.infoA, uc_size, hVl])) ?_
  simp only [Act.put, List.setIfInBounds_toArray, List.set_cons_zero, List.set_cons_succ, List.getElem_toArray, List.getElem_cons_zero, List.getElem_cons_succ]
  replace hB := hide hB
  (refine wpList_step fun K hK => ?_; replace hK := hide hK; go_simp; refine unhide hK _ _ ?_; clear hK K)
  replace hB := (unhide hB).new #[.int .u32 0, .int .u32 0, .int .u32 0, .int .u32 0, .int .u32 0, .int .u32 0, .int .u32 0, .int .u32 0, .int .u32 0, .int .u32 0, .int .u32 0, .int .u32 0, .int .u32 0, .int .u32 0, .int .u32 0, .int .u32 0] 88
  simp only [List.nil_append, List.cons_append] at hB
  generalize World.alloc _ _ = u4 at *
  generalize wr.heap.size = h10 at *
  replace hB : Bl w [⟨w.heap.size, kc K, 28⟩, ⟨w.heap.size + 1, kc N, 73⟩, ⟨w.heap.size + 1 + 1, kc Z64, 69⟩, ⟨h7, uc V, 88⟩, ⟨h10, uc Z16, 88⟩] u4 := hB
  refine list_store 88 (.tmp 10) (.tmp 45) (h10) (uc V) 88 (uc Z16) (by kernel_rfl) rfl (by kernel_rfl) (by kernel_rfl) (hB.get 4 (x := ⟨h10, uc Z16, 88⟩) rfl) (by rw [Tryd.infoA, uc_size, hVl]) ((show (uc Z16).size = 16 from rfl).trans ((uc_size _).trans hVl).symm) (uc_one _) ?_
  replace hB := hB.set 4 (x := ⟨h10, uc Z16, 88⟩) rfl (uc V)
  simp only [List.set_cons_zero, List.set_cons_succ] at hB
  generalize World.setRow _ _ _ = u5 at *
  simp only [Act.put, List.setIfInBounds_toArray, List.set_cons_zero, List.set_cons_succ, List.getElem_toArray, List.getElem_cons_zero, List.getElem_cons_succ]
  refine wpList_nil ?_
  replace hB := hide hB
  go_wp2_with fail
  go_loopw [11] (fun i wr => ∃ r : Nat, ∃ X : List Int, r ≤ 10 ∧ i = .int .i64 r ∧ Hid (X = rn V r) ∧ Hid (Bl w [⟨w.heap.size, kc K, 28⟩, ⟨w.heap.size + 1, kc N, 73⟩, ⟨w.heap.size + 1 + 1, kc Z64, 69⟩, ⟨h7, uc V, 88⟩, ⟨h10, uc X, 88⟩] wr)) (fun i _ => 10 - (intOf i).toNat)
  case atStart => exact ⟨0, V, by omega, rfl, rfl, hB⟩
  case round =>
  clear hB
  obtain ⟨r, X, hr, rfl, hX, hB⟩ := hrel
  have hXl : X.length = 16 := by rw [unhide hX, rn_len]; exact hVl
  by_cases hrl : r < 10
  · have rI : (r : Int) < 10 := by omega
    go_upto_region 15 with fail
    replace hB := unhide hB
    refine wp_region_lit ?_
    refine list_call 41 #[] (by kernel_rfl) (by kernel_rfl) ((rplaces_ok _).mono ?_)
    rintro rr u2 ⟨rfl, hg⟩
    refine ⟨_, rfl, ?_⟩
    replace hB := hB.more hg
    clear hg
    simp only [Act.put, List.setIfInBounds_toArray, List.set_cons_zero, List.set_cons_succ, List.getElem_toArray, List.getElem_cons_zero, List.getElem_cons_succ]
    refine list_val (.int .i64 0) (by kernel_rfl) (by kernel_rfl) ?_
    simp only [Act.put, List.setIfInBounds_toArray, List.set_cons_zero, List.set_cons_succ, List.getElem_toArray, List.getElem_cons_zero, List.getElem_cons_succ]
    refine wpList_nil ?_
    replace hB := hide hB
    obtain ⟨PA, hPA⟩ : ∃ S, S = ic PL := ⟨_, rfl⟩
    rw [← hPA]
    replace hPA := hide hPA
    go_wp2_with fail
    go_loopw [51] (fun i wr => ∃ t : Nat, ∃ Y : List Int, t ≤ 8 ∧ i = .int .i64 t ∧ Hid (Y = dq X t) ∧ Hid (Bl w [⟨w.heap.size, kc K, 28⟩, ⟨w.heap.size + 1, kc N, 73⟩, ⟨w.heap.size + 1 + 1, kc Z64, 69⟩, ⟨h7, uc V, 88⟩, ⟨h10, uc Y, 88⟩] wr)) (fun i _ => 8 - (intOf i).toNat)
    case atStart => exact ⟨0, X, by omega, rfl, rfl, hB⟩
    case round =>
    clear hB
    obtain ⟨t, Y, ht, rfl, hY, hB⟩ := hrel
    have hYl : Y.length = 16 := by rw [unhide hY, dq_len]; exact hXl
    by_cases htl : t < 8
    · have tI : (t : Int) < 8 := by omega
      have hidx : ∀ w, (Instr.index 91 (.agg PA) (.int .i64 t)).run Tryd.prog w = .ok (.agg (ic (pl4 t))) w := fun w => by rw [unhide hPA]; exact index_P t htl w
      have hpl := pl4_len t htl
      have hplt := pl4_lt t htl
      have hY2 : Hid (qpl Y (pl4 t) = dq X (t + 1)) := by rw [unhide hY]; exact rfl
      generalize pl4 t = p at *
      replace hplt := hide hplt
      replace hidx := hide hidx
      go_upto_region 17 with fail
      replace hB := unhide hB
      refine wp_region_lit ?_
      refine list_val (.agg (ic p)) (by kernel_rfl) (by have e := unhide hidx; go_simp) ?_
      simp only [Act.put, List.setIfInBounds_toArray, List.set_cons_zero, List.set_cons_succ, List.getElem_toArray, List.getElem_cons_zero, List.getElem_cons_succ]
      clear hidx
      replace hB := hide hB
      (refine wpList_step fun K hK => ?_; replace hK := hide hK; go_simp; refine unhide hK _ _ ?_; clear hK K)
      replace hB := (unhide hB).new #[.int .i64 0, .int .i64 0, .int .i64 0, .int .i64 0] 90
      simp only [List.nil_append, List.cons_append] at hB
      generalize World.alloc _ _ = u7 at *
      generalize wr.heap.size = h13 at *
      replace hB : Bl w [⟨w.heap.size, kc K, 28⟩, ⟨w.heap.size + 1, kc N, 73⟩, ⟨w.heap.size + 1 + 1, kc Z64, 69⟩, ⟨h7, uc V, 88⟩, ⟨h10, uc Y, 88⟩, ⟨h13, ic [0, 0, 0, 0], 90⟩] u7 := hB
      refine list_store 90 (.tmp 13) (.tmp 53) h13 (ic p) 90 (ic [0, 0, 0, 0]) (by kernel_rfl) rfl (by kernel_rfl) (by kernel_rfl) (hB.get 5 (x := ⟨h13, ic [0, 0, 0, 0], 90⟩) rfl) (by rw [Tryd.infoP4, ic_size, hpl]) ((show (ic [0, 0, 0, 0]).size = 4 from rfl).trans ((ic_size _).trans hpl).symm) (ic_one _) ?_
      replace hB := hB.set 5 (x := ⟨h13, ic [0, 0, 0, 0], 90⟩) rfl (ic p)
      simp only [List.set_cons_zero, List.set_cons_succ] at hB
      generalize World.setRow _ _ _ = u8 at *
      simp only [Act.put, List.setIfInBounds_toArray, List.set_cons_zero, List.set_cons_succ, List.getElem_toArray, List.getElem_cons_zero, List.getElem_cons_succ]
      refine wpList_nil ?_
      replace hB := hide hB
      go_upto_region 18 with fail
      replace hB := unhide hB
      obtain ⟨p0, hp0⟩ : ∃ x, x = p.getD 0 0 := ⟨_, rfl⟩
      have pa0 : p0 < 16 := by rw [hp0]; exact (unhide hplt) 0
      have pb0 : (p0 : Int) < 16 := by omega
      replace hp0 := hide hp0
      obtain ⟨y0, hy0⟩ : ∃ x, x = Y.getD p0 0 := ⟨_, rfl⟩
      replace hy0 := hide hy0
      obtain ⟨p1, hp1⟩ : ∃ x, x = p.getD 1 0 := ⟨_, rfl⟩
      have pa1 : p1 < 16 := by rw [hp1]; exact (unhide hplt) 1
      have pb1 : (p1 : Int) < 16 := by omega
      replace hp1 := hide hp1
      obtain ⟨y1, hy1⟩ : ∃ x, x = Y.getD p1 0 := ⟨_, rfl⟩
      replace hy1 := hide hy1
      obtain ⟨p2, hp2⟩ : ∃ x, x = p.getD 2 0 := ⟨_, rfl⟩
      have pa2 : p2 < 16 := by rw [hp2]; exact (unhide hplt) 2
      have pb2 : (p2 : Int) < 16 := by omega
      replace hp2 := hide hp2
      obtain ⟨y2, hy2⟩ : ∃ x, x = Y.getD p2 0 := ⟨_, rfl⟩
      replace hy2 := hide hy2
      obtain ⟨p3, hp3⟩ : ∃ x, x = p.getD 3 0 := ⟨_, rfl⟩
      have pa3 : p3 < 16 := by rw [hp3]; exact (unhide hplt) 3
      have pb3 : (p3 : Int) < 16 := by omega
      replace hp3 := hide hp3
      obtain ⟨y3, hy3⟩ : ∃ x, x = Y.getD p3 0 := ⟨_, rfl⟩
      replace hy3 := hide hy3
      refine any_start (S := fun v => Gr (World.drew u8) v) (by kernel_rfl) ?_
      replace hB := hB.drew
      generalize World.drew u8 = v0 at *
      have hG := Gr.refl v0
      simp only [List.size_toArray, List.length_cons, List.length_nil, Array.replicate, List.replicate]
      refine any_take (i := 0) (v := (.pointer (some ⟨h13, 0, none⟩))) #[false, false, false, false, false, false, false, false, false, false, false, false, false, false, false, false, false, false, false, false] rfl (by kernel_rfl) (by kernel_rfl) (by kernel_rfl) (by kernel_rfl) (fun _ _ _ h => h) (.inl ⟨by kernel_rfl, fun x_ hu => by kernel_rfl⟩) hG ?_
      simp only [Act.put, List.setIfInBounds_toArray, List.set_cons_zero, List.set_cons_succ, List.getElem_toArray, List.getElem_cons_zero, List.getElem_cons_succ]
      refine any_take (i := 1) (v := (.int .i64 p0)) #[true, false, false, false, false, false, false, false, false, false, false, false, false, false, false, false, false, false, false, false] rfl (by kernel_rfl) (by kernel_rfl) (by kernel_rfl) (by kernel_rfl) (fun _ _ _ h => h) (.inl ⟨by kernel_rfl, fun x_ hu => by have c0 := ic_cell ((hB.more hu).get 5 (x := ⟨h13, ic p, 90⟩) rfl) 0 (by omega); rw [← unhide hp0] at c0; go_simp⟩) hG ?_
      simp only [Act.put, List.setIfInBounds_toArray, List.set_cons_zero, List.set_cons_succ, List.getElem_toArray, List.getElem_cons_zero, List.getElem_cons_succ]
      refine any_take (i := 2) (v := (.pointer (some ⟨h10, p0, none⟩))) #[true, true, false, false, false, false, false, false, false, false, false, false, false, false, false, false, false, false, false, false] rfl (by kernel_rfl) (by kernel_rfl) (by kernel_rfl) (by kernel_rfl) (fun _ _ _ h => h) (.inl ⟨by kernel_rfl, fun x_ hu => by go_simp⟩) hG ?_
      simp only [Act.put, List.setIfInBounds_toArray, List.set_cons_zero, List.set_cons_succ, List.getElem_toArray, List.getElem_cons_zero, List.getElem_cons_succ]
      refine any_take (i := 3) (v := (.int .u32 y0)) #[true, true, true, false, false, false, false, false, false, false, false, false, false, false, false, false, false, false, false, false] rfl (by kernel_rfl) (by kernel_rfl) (by kernel_rfl) (by kernel_rfl) (fun _ _ _ h => h) (.inl ⟨by kernel_rfl, fun x_ hu => by have c0 := uc_cell ((hB.more hu).get 4 (x := ⟨h10, uc Y, 88⟩) rfl) p0 (by omega); rw [← unhide hy0] at c0; go_simp⟩) hG ?_
      simp only [Act.put, List.setIfInBounds_toArray, List.set_cons_zero, List.set_cons_succ, List.getElem_toArray, List.getElem_cons_zero, List.getElem_cons_succ]
      refine any_take (i := 4) (v := (.pointer (some ⟨h13, 1, none⟩))) #[true, true, true, true, false, false, false, false, false, false, false, false, false, false, false, false, false, false, false, false] rfl (by kernel_rfl) (by kernel_rfl) (by kernel_rfl) (by kernel_rfl) (fun _ _ _ h => h) (.inl ⟨by kernel_rfl, fun x_ hu => by kernel_rfl⟩) hG ?_
      simp only [Act.put, List.setIfInBounds_toArray, List.set_cons_zero, List.set_cons_succ, List.getElem_toArray, List.getElem_cons_zero, List.getElem_cons_succ]
      refine any_take (i := 5) (v := (.int .i64 p1)) #[true, true, true, true, true, false, false, false, false, false, false, false, false, false, false, false, false, false, false, false] rfl (by kernel_rfl) (by kernel_rfl) (by kernel_rfl) (by kernel_rfl) (fun _ _ _ h => h) (.inl ⟨by kernel_rfl, fun x_ hu => by have c0 := ic_cell ((hB.more hu).get 5 (x := ⟨h13, ic p, 90⟩) rfl) 1 (by omega); rw [← unhide hp1] at c0; go_simp⟩) hG ?_
      simp only [Act.put, List.setIfInBounds_toArray, List.set_cons_zero, List.set_cons_succ, List.getElem_toArray, List.getElem_cons_zero, List.getElem_cons_succ]
      refine any_take (i := 6) (v := (.pointer (some ⟨h10, p1, none⟩))) #[true, true, true, true, true, true, false, false, false, false, false, false, false, false, false, false, false, false, false, false] rfl (by kernel_rfl) (by kernel_rfl) (by kernel_rfl) (by kernel_rfl) (fun _ _ _ h => h) (.inl ⟨by kernel_rfl, fun x_ hu => by go_simp⟩) hG ?_
      simp only [Act.put, List.setIfInBounds_toArray, List.set_cons_zero, List.set_cons_succ, List.getElem_toArray, List.getElem_cons_zero, List.getElem_cons_succ]
      refine any_take (i := 7) (v := (.int .u32 y1)) #[true, true, true, true, true, true, true, false, false, false, false, false, false, false, false, false, false, false, false, false] rfl (by kernel_rfl) (by kernel_rfl) (by kernel_rfl) (by kernel_rfl) (fun _ _ _ h => h) (.inl ⟨by kernel_rfl, fun x_ hu => by have c0 := uc_cell ((hB.more hu).get 4 (x := ⟨h10, uc Y, 88⟩) rfl) p1 (by omega); rw [← unhide hy1] at c0; go_simp⟩) hG ?_
      simp only [Act.put, List.setIfInBounds_toArray, List.set_cons_zero, List.set_cons_succ, List.getElem_toArray, List.getElem_cons_zero, List.getElem_cons_succ]
      refine any_take (i := 8) (v := (.pointer (some ⟨h13, 2, none⟩))) #[true, true, true, true, true, true, true, true, false, false, false, false, false, false, false, false, false, false, false, false] rfl (by kernel_rfl) (by kernel_rfl) (by kernel_rfl) (by kernel_rfl) (fun _ _ _ h => h) (.inl ⟨by kernel_rfl, fun x_ hu => by kernel_rfl⟩) hG ?_
      simp only [Act.put, List.setIfInBounds_toArray, List.set_cons_zero, List.set_cons_succ, List.getElem_toArray, List.getElem_cons_zero, List.getElem_cons_succ]
      refine any_take (i := 9) (v := (.int .i64 p2)) #[true, true, true, true, true, true, true, true, true, false, false, false, false, false, false, false, false, false, false, false] rfl (by kernel_rfl) (by kernel_rfl) (by kernel_rfl) (by kernel_rfl) (fun _ _ _ h => h) (.inl ⟨by kernel_rfl, fun x_ hu => by have c0 := ic_cell ((hB.more hu).get 5 (x := ⟨h13, ic p, 90⟩) rfl) 2 (by omega); rw [← unhide hp2] at c0; go_simp⟩) hG ?_
      simp only [Act.put, List.setIfInBounds_toArray, List.set_cons_zero, List.set_cons_succ, List.getElem_toArray, List.getElem_cons_zero, List.getElem_cons_succ]
      refine any_take (i := 10) (v := (.pointer (some ⟨h10, p2, none⟩))) #[true, true, true, true, true, true, true, true, true, true, false, false, false, false, false, false, false, false, false, false] rfl (by kernel_rfl) (by kernel_rfl) (by kernel_rfl) (by kernel_rfl) (fun _ _ _ h => h) (.inl ⟨by kernel_rfl, fun x_ hu => by go_simp⟩) hG ?_
      simp only [Act.put, List.setIfInBounds_toArray, List.set_cons_zero, List.set_cons_succ, List.getElem_toArray, List.getElem_cons_zero, List.getElem_cons_succ]
      refine any_take (i := 11) (v := (.int .u32 y2)) #[true, true, true, true, true, true, true, true, true, true, true, false, false, false, false, false, false, false, false, false] rfl (by kernel_rfl) (by kernel_rfl) (by kernel_rfl) (by kernel_rfl) (fun _ _ _ h => h) (.inl ⟨by kernel_rfl, fun x_ hu => by have c0 := uc_cell ((hB.more hu).get 4 (x := ⟨h10, uc Y, 88⟩) rfl) p2 (by omega); rw [← unhide hy2] at c0; go_simp⟩) hG ?_
      simp only [Act.put, List.setIfInBounds_toArray, List.set_cons_zero, List.set_cons_succ, List.getElem_toArray, List.getElem_cons_zero, List.getElem_cons_succ]
      refine any_take (i := 12) (v := (.pointer (some ⟨h13, 3, none⟩))) #[true, true, true, true, true, true, true, true, true, true, true, true, false, false, false, false, false, false, false, false] rfl (by kernel_rfl) (by kernel_rfl) (by kernel_rfl) (by kernel_rfl) (fun _ _ _ h => h) (.inl ⟨by kernel_rfl, fun x_ hu => by kernel_rfl⟩) hG ?_
      simp only [Act.put, List.setIfInBounds_toArray, List.set_cons_zero, List.set_cons_succ, List.getElem_toArray, List.getElem_cons_zero, List.getElem_cons_succ]
      refine any_take (i := 13) (v := (.int .i64 p3)) #[true, true, true, true, true, true, true, true, true, true, true, true, true, false, false, false, false, false, false, false] rfl (by kernel_rfl) (by kernel_rfl) (by kernel_rfl) (by kernel_rfl) (fun _ _ _ h => h) (.inl ⟨by kernel_rfl, fun x_ hu => by have c0 := ic_cell ((hB.more hu).get 5 (x := ⟨h13, ic p, 90⟩) rfl) 3 (by omega); rw [← unhide hp3] at c0; go_simp⟩) hG ?_
      simp only [Act.put, List.setIfInBounds_toArray, List.set_cons_zero, List.set_cons_succ, List.getElem_toArray, List.getElem_cons_zero, List.getElem_cons_succ]
      refine any_take (i := 14) (v := (.pointer (some ⟨h10, p3, none⟩))) #[true, true, true, true, true, true, true, true, true, true, true, true, true, true, false, false, false, false, false, false] rfl (by kernel_rfl) (by kernel_rfl) (by kernel_rfl) (by kernel_rfl) (fun _ _ _ h => h) (.inl ⟨by kernel_rfl, fun x_ hu => by go_simp⟩) hG ?_
      simp only [Act.put, List.setIfInBounds_toArray, List.set_cons_zero, List.set_cons_succ, List.getElem_toArray, List.getElem_cons_zero, List.getElem_cons_succ]
      refine any_take (i := 15) (v := (.int .u32 y3)) #[true, true, true, true, true, true, true, true, true, true, true, true, true, true, true, false, false, false, false, false] rfl (by kernel_rfl) (by kernel_rfl) (by kernel_rfl) (by kernel_rfl) (fun _ _ _ h => h) (.inl ⟨by kernel_rfl, fun x_ hu => by have c0 := uc_cell ((hB.more hu).get 4 (x := ⟨h10, uc Y, 88⟩) rfl) p3 (by omega); rw [← unhide hy3] at c0; go_simp⟩) hG ?_
      simp only [Act.put, List.setIfInBounds_toArray, List.set_cons_zero, List.set_cons_succ, List.getElem_toArray, List.getElem_cons_zero, List.getElem_cons_succ]
      refine any_take (i := 16) (v := (.agg (uc [y0, y1, y2, y3]))) #[true, true, true, true, true, true, true, true, true, true, true, true, true, true, true, true, false, false, false, false] rfl (by kernel_rfl) (by kernel_rfl) (by kernel_rfl) (by kernel_rfl) (fun _ _ _ h => h) (.inl ⟨by kernel_rfl, fun x_ hu => by kernel_rfl⟩) hG ?_
      simp only [Act.put, List.setIfInBounds_toArray, List.set_cons_zero, List.set_cons_succ, List.getElem_toArray, List.getElem_cons_zero, List.getElem_cons_succ]
      refine float_first (fun q u => NQ v0 q u) 14 (fun b_ => #[true, true, true, true, true, true, true, true, true, true, true, true, true, true, true, true, true, false, b_, false]) 18 17 false rfl rfl (fun _ g_ => hG.trans g_) (by kernel_rfl) (fun b_ => by cases b_ <;> rfl) ?_ ?_
      all_goals simp only [fw1, Act.put, List.setIfInBounds_toArray, List.set_cons_zero, List.set_cons_succ, List.getElem_toArray, List.getElem_cons_zero, List.getElem_cons_succ]
      · intro q_ x_ hgx K_ hK
        refine wpOp_step (o := _) rfl (fun K' hK' => ?_)
        replace hK' := hide hK'
        replace hK := hide hK
        refine step_val (.pointer (some ⟨x_.heap.size, 0, none⟩)) (x_.alloc (.cells #[.int .u32 0, .int .u32 0, .int .u32 0, .int .u32 0] 93 (0, 0))) (by kernel_rfl) (by kernel_rfl) ?_
        exact unhide hK' _ _ (unhide hK _ _ ((Gr.refl _).alloc _) (⟨_, rfl, Nat.le_trans hG.size hgx.size, blk_new _ _⟩))
      intro b1_17 q1_17 x1_17 hg hTq hall
      replace hG := hG.trans hg
      clear hall
      refine wpOp_step (o := _) rfl (fun K_ hK => ?_)
      replace hK := hide hK
      refine step_callw (by kernel_rfl) 42 #[.agg (uc [y0, y1, y2, y3])] (by kernel_rfl) ((rquarter_ok y0 y1 y2 y3 _).mono ?_)
      rintro r v17 ⟨rfl, hg⟩
      refine ⟨_, rfl, ?_⟩
      replace hTq := fun e => NQ.gr (hTq e) hg
      replace hG := hG.trans hg
      clear hg
      generalize hq : quar y0 y1 y2 y3 = q
      replace hq := hide hq
      refine unhide hK _ _ ⟨hG, ?_⟩
      clear hK K_
      simp only [Act.put, List.setIfInBounds_toArray, List.set_cons_zero, List.set_cons_succ, List.getElem_toArray, List.getElem_cons_zero, List.getElem_cons_succ]
      refine float_again (fun q u => NQ v0 q u) 14 (fun b_ => #[true, true, true, true, true, true, true, true, true, true, true, true, true, true, true, true, true, true, b_, false]) 18 19 true (b := b1_17) (q := q1_17) rfl rfl hTq (fun _ g_ => hG.trans g_) (by kernel_rfl) (fun b_ => by cases b_ <;> rfl) ?_ ?_
      all_goals simp only [fw1, Act.put, List.setIfInBounds_toArray, List.set_cons_zero, List.set_cons_succ, List.getElem_toArray, List.getElem_cons_zero, List.getElem_cons_succ]
      · intro q_ x_ hgx K_ hK
        refine wpOp_step (o := _) rfl (fun K' hK' => ?_)
        replace hK' := hide hK'
        replace hK := hide hK
        refine step_val (.pointer (some ⟨x_.heap.size, 0, none⟩)) (x_.alloc (.cells #[.int .u32 0, .int .u32 0, .int .u32 0, .int .u32 0] 93 (0, 0))) (by kernel_rfl) (by kernel_rfl) ?_
        exact unhide hK' _ _ (unhide hK _ _ ((Gr.refl _).alloc _) (⟨_, rfl, Nat.le_trans hG.size hgx.size, blk_new _ _⟩))
      clear hTq
      intro b1_19 q1_19 x1_19 hg hTq hall
      replace hG := hG.trans hg
      obtain rfl : b1_19 = true := hall (by trivial)
      replace hTq := hTq rfl
      clear hall
      obtain ⟨h14, rfl, hge14, hnew⟩ := hTq
      refine wpOp_step (o := _) rfl (fun K_ hK => ?_)
      replace hK := hide hK
      rw [if_pos (by kernel_rfl)]
      refine wp_store_row 93 (.tmp 14) (.tmp 71) rfl h14 (uc (ql q)) (by kernel_rfl) (by kernel_rfl) 93 (uc [0, 0, 0, 0]) hnew (by rw [Tryd.info4]; rfl) rfl (uc_one _) ?_
      have hB7 := (hB.join hG [⟨h14, uc [0, 0, 0, 0], 93⟩] (by intro x hx; rw [List.mem_singleton] at hx; subst hx; exact ⟨hnew, hge14⟩) (List.pairwise_singleton _ _)).set 6 (x := ⟨h14, uc [0, 0, 0, 0], 93⟩) rfl (uc (ql q))
      simp only [List.cons_append, List.nil_append, List.set_cons_zero, List.set_cons_succ] at hB7
      have hG2 := hG.row h14 hge14 (uc (ql q))
      generalize World.setRow _ _ _ = v9 at *
      refine unhide hK _ _ ⟨hG2, ?_⟩
      clear hK K_
      simp only [Act.put, List.setIfInBounds_toArray, List.set_cons_zero, List.set_cons_succ, List.getElem_toArray, List.getElem_cons_zero, List.getElem_cons_succ]
      clear hB hG hG2 hnew hge14
      replace hB := hB7
      clear hB7
      refine any_done (by kernel_rfl) ?_
      have hq2 : Hid (qset Y p (ql q) 4 = qpl Y p) := by
        rw [← unhide hq, unhide hy0, unhide hy1, unhide hy2, unhide hy3, unhide hp0, unhide hp1, unhide hp2, unhide hp3]
        exact qset_all Y p
      have hqn : Hid ((ql q).length = 4) := rfl
      clear hp0 hp1 hp2 hp3 hy0 hy1 hy2 hy3 pa0 pa1 pa2 pa3 pb0 pb1 pb2 pb3
      generalize ql q = qq at *
      clear hq
      replace hB := hide hB
      go_wp2_with fail
      go_loopw [72] (fun i wr => ∃ i' : Nat, ∃ Z : List Int, i' ≤ 4 ∧ i = .int .i64 i' ∧ Hid (Z = qset Y p qq i') ∧ Hid (Bl w [⟨w.heap.size, kc K, 28⟩, ⟨w.heap.size + 1, kc N, 73⟩, ⟨w.heap.size + 1 + 1, kc Z64, 69⟩, ⟨h7, uc V, 88⟩, ⟨h10, uc Z, 88⟩, ⟨h13, ic p, 90⟩, ⟨h14, uc qq, 93⟩] wr)) (fun i _ => 4 - (intOf i).toNat)
      case atStart => exact ⟨0, Y, by omega, rfl, rfl, hB⟩
      case round =>
      clear hB
      obtain ⟨i, Z, hi, rfl, hZ, hB⟩ := hrel
      have hZl : Z.length = 16 := by rw [unhide hZ, qset_len]; exact hYl
      by_cases hil : i < 4
      · obtain ⟨a, ha⟩ : ∃ x, x = p.getD i 0 := ⟨_, rfl⟩
        have a1 : a < 16 := by rw [ha]; exact (unhide hplt) i
        have a2 : (a : Int) < 16 := by omega
        have iI : (i : Int) < 4 := by omega
        have c0 := ic_cell ((unhide hB).get 5 (x := ⟨h13, ic p, 90⟩) rfl) i (by omega)
        have c1 := uc_cell ((unhide hB).get 6 (x := ⟨h14, uc qq, 93⟩) rfl) i (by rw [unhide hqn]; exact hil)
        have c2 := uc_cell ((unhide hB).get 4 (x := ⟨h10, uc Z, 88⟩) rfl) a (by omega)
        have fz := froz_of (i := a) ((unhide hB).get 4 (x := ⟨h10, uc Z, 88⟩) rfl)
        have hZ2 : Hid (Z.set a (qq.getD i 0) = qset Y p qq (i + 1)) := by
          rw [qset, ← unhide hZ, ← ha]
          exact rfl
        have hB2 := (unhide hB).drew.cell 4 (x := ⟨h10, uc Z, 88⟩) rfl a (.int .u32 (qq.getD i 0))
        simp only [List.set_cons_zero, List.set_cons_succ, uc_set] at hB2
        rw [← ha] at c0
        generalize qq.getD i 0 = b at *
        generalize Z.getD a 0 = z at *
        replace ha := hide ha
        replace hB2 := hide hB2
        go_wp2_with fail
        go_still_tail 7, (by kernel_rfl)
        go_wp2_with fail
        go_roundw
        case rel => exact ⟨i + 1, _, by omega, by go_num, hZ2, hB2⟩
        case measure => simp [intOf]; omega
      have ei : i = 4 := by omega
      subst ei
      have hZ3 : Hid (Z = dq X (t + 1)) := by rw [unhide hZ, unhide hq2]; exact unhide hY2
      have hB2 : Hid (Bl w [⟨w.heap.size, kc K, 28⟩, ⟨w.heap.size + 1, kc N, 73⟩, ⟨w.heap.size + 1 + 1, kc Z64, 69⟩, ⟨h7, uc V, 88⟩, ⟨h10, uc Z, 88⟩] wr) := Bl.left (L := [⟨w.heap.size, kc K, 28⟩, ⟨w.heap.size + 1, kc N, 73⟩, ⟨w.heap.size + 1 + 1, kc Z64, 69⟩, ⟨h7, uc V, 88⟩, ⟨h10, uc Z, 88⟩]) (M := [⟨h13, ic p, 90⟩, ⟨h14, uc qq, 93⟩]) (unhide hB)
      clear hB hZ hq2 hY2 hqn
      go_wp2_with fail
      go_roundw
      case rel => exact ⟨t + 1, Z, by omega, by go_num, hZ3, hB2⟩
      case measure => simp [intOf]; omega
    have et : t = 8 := by omega
    subst et
    have hX3 : Hid (Y = rn V (r + 1)) := by rw [unhide hY, dq_all, rn, ← unhide hX]; exact rfl
    clear hY
    go_wp2_with fail
    go_roundw
    case rel => exact ⟨r + 1, Y, by omega, by go_num, hX3, hB⟩
    case measure => simp [intOf]; omega
  have er : r = 10 := by omega
  subst er
  clear hr hrl
  obtain ⟨SM, hSM⟩ : ∃ S, S = sm X V := ⟨_, rfl⟩
  have hSg : Hid (∀ i, i < 16 → SM.getD i 0 = (X.getD i 0 + V.getD i 0) % 4294967296) := fun i hi => by
    rw [hSM]
    unfold sm
    rw [List.getD_eq_getElem?_getD, List.getElem?_map, List.getElem?_range hi]
    exact ad_eq _ _
  have hfin : Hid (bts SM = bk K N c) := by
    rw [hSM, unhide hX, unhide hVV]
    exact rfl
  replace hSM := hide hSM
  go_upto_region 25 with fail
  refine wp_region_lit ?_
  (refine wpList_step fun K hK => ?_; replace hK := hide hK; go_simp; refine unhide hK _ _ ?_; clear hK K)
  replace hB := (unhide hB).new #[.int .u8 0, .int .u8 0, .int .u8 0, .int .u8 0, .int .u8 0, .int .u8 0, .int .u8 0, .int .u8 0, .int .u8 0, .int .u8 0, .int .u8 0, .int .u8 0, .int .u8 0, .int .u8 0, .int .u8 0, .int .u8 0, .int .u8 0, .int .u8 0, .int .u8 0, .int .u8 0, .int .u8 0, .int .u8 0, .int .u8 0, .int .u8 0, .int .u8 0, .int .u8 0, .int .u8 0, .int .u8 0, .int .u8 0, .int .u8 0, .int .u8 0, .int .u8 0, .int .u8 0, .int .u8 0, .int .u8 0, .int .u8 0, .int .u8 0, .int .u8 0, .int .u8 0, .int .u8 0, .int .u8 0, .int .u8 0, .int .u8 0, .int .u8 0, .int .u8 0, .int .u8 0, .int .u8 0, .int .u8 0, .int .u8 0, .int .u8 0, .int .u8 0, .int .u8 0, .int .u8 0, .int .u8 0, .int .u8 0, .int .u8 0, .int .u8 0, .int .u8 0, .int .u8 0, .int .u8 0, .int .u8 0, .int .u8 0, .int .u8 0, .int .u8 0] 69
  simp only [List.nil_append, List.cons_append] at hB
  generalize World.alloc _ _ = u9 at *
  generalize wr.heap.size = h16 at *
  replace hB : Hid (Bl w [⟨w.heap.size, kc K, 28⟩, ⟨w.heap.size + 1, kc N, 73⟩, ⟨w.heap.size + 1 + 1, kc Z64, 69⟩, ⟨h7, uc V, 88⟩, ⟨h10, uc X, 88⟩, ⟨h16, kc Z64, 69⟩] u9) := hB
  refine wpList_nil ?_
  go_wp2_with fail
  go_loopw [84] (fun i wr => ∃ i' : Nat, ∃ m : List Int, i' ≤ 16 ∧ i = .int .i64 i' ∧ Hid (m = fil (btf SM) (4 * i') Z64) ∧ Hid (Bl w [⟨w.heap.size, kc K, 28⟩, ⟨w.heap.size + 1, kc N, 73⟩, ⟨w.heap.size + 1 + 1, kc Z64, 69⟩, ⟨h7, uc V, 88⟩, ⟨h10, uc X, 88⟩, ⟨h16, kc m, 69⟩] wr)) (fun i _ => 16 - (intOf i).toNat)
  case atStart => exact ⟨0, Z64, by omega, rfl, (fil_zero _ _).symm, hB⟩
  case round =>
  clear hB
  obtain ⟨i, m, hi, rfl, hm, hB⟩ := hrel
  have hzl : Z64.length = 64 := rfl
  have hml : m.length = 64 := by rw [unhide hm, fil_len _ _ _ (by omega)]; rfl
  by_cases hil : i < 16
  · have c0 := uc_cell ((unhide hB).get 4 (x := ⟨h10, uc X, 88⟩) rfl) i (by omega)
    have c1 := uc_cell ((unhide hB).get 3 (x := ⟨h7, uc V, 88⟩) rfl) i (by omega)
    have hs0 := (unhide hSg) i hil
    generalize X.getD i 0 = x at *
    generalize V.getD i 0 = y at *
    have iI : (i : Int) < 16 := by omega
    replace hs0 := hide hs0
    go_wp2_with fail
    go_quiet (fail)
    replace hB : Hid (Bl w [⟨w.heap.size, kc K, 28⟩, ⟨w.heap.size + 1, kc N, 73⟩, ⟨w.heap.size + 1 + 1, kc Z64, 69⟩, ⟨h7, uc V, 88⟩, ⟨h10, uc X, 88⟩, ⟨h16, kc m, 69⟩] (wr.drewN nq)) := (unhide hB).drewN nq
    clear c0 c1
    generalize World.drewN _ _ = u10 at *
    generalize hs : (x + y) % 4294967296 = s at *
    replace hs : Hid (SM.getD i 0 = s) := hs0
    clear hs0
    go_wp2_with fail
    go_loopw [19] (fun j wr => ∃ k : Nat, ∃ m : List Int, k ≤ 4 ∧ j = .int .i64 k ∧ Hid (m = fil (btf SM) (4 * i + k) Z64) ∧ Hid (Bl w [⟨w.heap.size, kc K, 28⟩, ⟨w.heap.size + 1, kc N, 73⟩, ⟨w.heap.size + 1 + 1, kc Z64, 69⟩, ⟨h7, uc V, 88⟩, ⟨h10, uc X, 88⟩, ⟨h16, kc m, 69⟩] wr)) (fun j _ => 4 - (intOf j).toNat)
    case atStart => exact ⟨0, m, by omega, rfl, hm, hB⟩
    case round =>
    clear hB hm hml m
    obtain ⟨k, m, hk, rfl, hm, hB⟩ := hrel
    have hml : m.length = 64 := by rw [unhide hm, fil_len _ _ _ (by omega)]; rfl
    by_cases hkl : k < 4
    · obtain ⟨o, ho⟩ : ∃ x, x = 4 * i := ⟨_, rfl⟩
      obtain ⟨t, ht⟩ : ∃ x, x = 4 * i + k := ⟨_, rfl⟩
      obtain ⟨k8, hk8⟩ : ∃ x, x = 8 * k := ⟨_, rfl⟩
      have hbt : btf SM t = s / 2 ^ k8 % 256 := by
        unfold btf
        rw [show t / 4 = i from by omega, show t % 4 * 8 = k8 from by omega, unhide hs]
      have c1 := kc_cell ((unhide hB).get 5 (x := ⟨h16, kc m, 69⟩) rfl) t (by omega)
      have fz := froz_of (i := t) ((unhide hB).get 5 (x := ⟨h16, kc m, 69⟩) rfl)
      generalize m.getD t 0 = z at c1
      have hm2 : Hid (m.set t (s / 2 ^ k8 % 256) = fil (btf SM) (4 * i + (k + 1)) Z64) := by
        rw [unhide hm, ← hbt, ht]
        exact fil_set _ _ _ (by omega)
      have hB2 := (unhide hB).cell 5 (x := ⟨h16, kc m, 69⟩) rfl t (.int .u8 (s / 2 ^ k8 % 256))
      simp only [List.set_cons_zero, List.set_cons_succ, kc_set] at hB2
      clear hbt
      replace hB2 := hide hB2
      have f1 : 4 * (i : Int) = (o : Int) := by omega
      have f2 : (o : Int) + (k : Int) = (t : Int) := by omega
      have f3 : 8 * (k : Int) = (k8 : Int) := by omega
      have f4 : IntKind.i64.wrap (o : Int) = (o : Int) := by rw [IntKind.wrap_i64]; omega
      have f5 : IntKind.i64.wrap (t : Int) = (t : Int) := by rw [IntKind.wrap_i64]; omega
      have f6 : IntKind.i64.wrap (k8 : Int) = (k8 : Int) := by rw [IntKind.wrap_i64]; omega
      have f7 : (t : Int) < 64 := by omega
      have f8 : t < 64 := by omega
      have f9 : 0 ≤ (k8 : Int) := by omega
      have f10 : min k8 32 = k8 := by omega
      have f11 : k8 ≤ 32 := by omega
      have kI : (k : Int) < 4 := by omega
      replace ho := hide ho
      replace ht := hide ht
      replace hk8 := hide hk8
      go_wp2_with fail
      go_roundw
      case rel => exact ⟨k + 1, _, by omega, by go_num, hm2, hB2⟩
      case measure => simp [intOf]; omega
    have ek : k = 4 := by omega
    subst ek
    have hm2 : Hid (m = fil (btf SM) (4 * (i + 1)) Z64) := by rw [unhide hm]; exact rfl
    clear hm
    go_wp2_with fail
    go_roundw
    case rel => exact ⟨i + 1, _, by omega, by go_num, hm2, hB⟩
    case measure => simp [intOf]; omega
  have ei : i = 16 := by omega
  subst ei
  have hM : m = bk K N c := by
    rw [← unhide hfin, unhide hm]
    have h := fil_all (btf SM) Z64
    rw [hzl] at h
    exact h
  clear hm
  go_upto_region 35 with fail
  replace hB := unhide hB
  refine wp_region_lit ?_
  refine list_val (.agg (kc m)) (by kernel_rfl) (exec_arr _ 69 (.tmp 16) rfl (h16) (by kernel_rfl) (kc m) 69 _ (hB.get 5 (x := ⟨h16, kc m, 69⟩) rfl) Tryd.underlying69 rfl (by rw [Tryd.info64, kc_size, hml])) ?_
  simp only [Act.put, List.setIfInBounds_toArray, List.set_cons_zero, List.set_cons_succ, List.getElem_toArray, List.getElem_cons_zero, List.getElem_cons_succ]
  refine list_store 69 (.tmp 6) (.tmp 109) (w.heap.size + 1 + 1) (kc m) 69 (kc Z64) (by kernel_rfl) rfl (by kernel_rfl) (by kernel_rfl) (hB.get 2 (x := ⟨w.heap.size + 1 + 1, kc Z64, 69⟩) rfl) (by rw [Tryd.info64, kc_size, hml]) ((show (kc Z64).size = 64 from rfl).trans ((kc_size _).trans hml).symm) (kc_one _) ?_
  replace hB := hB.set 2 (x := ⟨w.heap.size + 1 + 1, kc Z64, 69⟩) rfl (kc m)
  simp only [List.set_cons_zero, List.set_cons_succ] at hB
  generalize World.setRow _ _ _ = u12 at *
  simp only [Act.put, List.setIfInBounds_toArray, List.set_cons_zero, List.set_cons_succ, List.getElem_toArray, List.getElem_cons_zero, List.getElem_cons_succ]
  refine wpList_nil ?_
  go_wp2_with fail
  rw [unhide hT, ← hM]
  exact bodyPost_ret (v := .agg (kc m)) (results_cell_row Tryd.results28 _ _ (w.heap.size + 1 + 1) 69 (kc m) (0, 0) _ rfl (hB.get 2 (x := ⟨w.heap.size + 1 + 1, kc m, 69⟩) rfl) Tryd.underlying69 rfl (by rw [Tryd.info64, kc_size, hml])) rfl (⟨rfl, hB.gr⟩)

/-- blocks of another kind stay as bytes are put behind others -/
theorem Bl.grown {w v v' : World} {L : List Blk} (h : Bl w L v) {b : Nat} {x : Value} {M : List Int} (ho : Ob b v x M) (hb : w.heap.size ≤ b) (k : v.grownBy v' x.ownBlock) (ht : ∀ y ∈ L, y.t ≠ 5) : Bl w L v' := by
  refine ⟨Ob.grown ho hb h.gr k, fun y hy => ?_, h.ne⟩
  obtain ⟨h1, h2⟩ := h.at_ y hy
  refine ⟨?_, h2⟩
  rw [k.block y.g (lt_of_block h1) ?_]
  · exact h1
  · intro e
    rcases ho.2 with ⟨rfl, _⟩ | ⟨g, cap, cur, rfl, _, h3, _⟩
    · cases e
    · have e2 : y.g = g := by simpa [Value.ownBlock] using e
      rw [e2] at h1
      rw [h3] at h1
      simp only [Blk.obj, Option.some.injEq, Obj.cells.injEq] at h1
      exact ht y hy h1.2.1.symm
/-- the first m bytes -/
def pre (K N : List Int) (c : Int) (B : List Int) (m : Nat) : List Int := (List.range m).map (xf K N c B)
theorem pre_len (K N : List Int) (c : Int) (B : List Int) (m : Nat) : (pre K N c B m).length = m := by simp [pre]
theorem pre_succ (K N : List Int) (c : Int) (B : List Int) (m : Nat) : pre K N c B m ++ [xf K N c B m] = pre K N c B (m + 1) := by
  unfold pre
  rw [List.range_succ, List.map_append]
  rfl
def Xr (K N : List Int) (c : Int) (B : List Int) (w : World) (r : Ending) (w' : World) : Prop := ∃ v, r = .returned v ∧ Ob w.heap.size w' v (xl K N c B) ∧ Gr w w'
theorem Ob.other {b : Nat} {w : World} {v : Value} {L : List Int} (h : Ob b w v L) {g : Nat} {c : Array Value} {t : TypeId} (hg : w.heap[g]? = some (.cells c t (0, 0))) (ht : t ≠ 5) (cs : Array Value) : Ob b (w.setRow g cs) v L := by
  rcases h with ⟨h0, h1 | ⟨g', cap, cur, h1, h2, h3, h4⟩⟩
  · exact ⟨h0, .inl h1⟩
  · refine ⟨h0, .inr ⟨g', cap, cur, h1, h2, ?_, h4⟩⟩
    have hne : g' ≠ g := by
      rintro rfl
      rw [hg] at h3
      simp only [Option.some.injEq, Obj.cells.injEq] at h3
      exact ht h3.2.1
    exact (setRow_other w g g' cs hne).trans h3
end Go.Proofs.YtdfcdklnngfhkaaDoor
