/-
  A nil disk does nothing: the walk of DiskNone.
-/
import Derived.Test.YthgchjdjacbcgaaDkP
namespace Go.Proofs.Ythgchjdjacbcgaa
open Go.RowKit
set_option maxRecDepth 100000
set_option linter.unusedSimpArgs false
set_option linter.unusedVariables false
set_option maxHeartbeats 4000000 in
theorem does_nil (o : Opl) (ho : o.Ok) (ka : Option Addr) (kn kp : Nat) (w : World) (hK : Kp w ka kn kp o.keep) : Calls Try.prog 13 #[.pointer none, .agg (opv o ka kn kp)] w (Vl (.tuple #[.agg (kc ZB), .int .i64 1]) w) := by
  obtain ⟨T, hT⟩ : ∃ T, T = Vl (.tuple #[.agg (kc ZB), .int .i64 1]) w := ⟨_, rfl⟩
  rw [← hT]
  replace hT := hide hT
  obtain ⟨SO, hSO⟩ : ∃ X, X = opv o ka kn kp := ⟨_, rfl⟩
  rw [← hSO]
  replace hSO := hide hSO; replace hK := hide hK; replace ho := hide ho
  go_enter Try.func13, Try.ntmps13
  go_upto_region 1 with fail
  have hB := (((Bl.nil w).new SO 37).new #[.int .u8 0, .int .u8 0, .int .u8 0, .int .u8 0, .int .u8 0, .int .u8 0, .int .u8 0, .int .u8 0, .int .u8 0, .int .u8 0, .int .u8 0, .int .u8 0, .int .u8 0, .int .u8 0, .int .u8 0, .int .u8 0, .int .u8 0, .int .u8 0, .int .u8 0, .int .u8 0, .int .u8 0, .int .u8 0, .int .u8 0, .int .u8 0, .int .u8 0, .int .u8 0, .int .u8 0, .int .u8 0, .int .u8 0, .int .u8 0, .int .u8 0, .int .u8 0, .int .u8 0, .int .u8 0, .int .u8 0, .int .u8 0, .int .u8 0, .int .u8 0, .int .u8 0, .int .u8 0, .int .u8 0, .int .u8 0, .int .u8 0, .int .u8 0, .int .u8 0, .int .u8 0, .int .u8 0, .int .u8 0, .int .u8 0, .int .u8 0, .int .u8 0, .int .u8 0, .int .u8 0, .int .u8 0, .int .u8 0, .int .u8 0, .int .u8 0, .int .u8 0, .int .u8 0, .int .u8 0, .int .u8 0, .int .u8 0, .int .u8 0, .int .u8 0] 39)
  simp only [size_alloc, List.nil_append, List.cons_append] at hB
  generalize World.alloc _ _ = u at *
  rw [unhide hSO] at hB
  replace hB : Bl w [⟨w.heap.size, opv o ka kn kp, 37⟩, ⟨w.heap.size + 1, kc ZB, 39⟩] u := hB
  refine wp_region_lit ?_
  refine list_val (.agg (opv o ka kn kp)) (by kernel_rfl) (exec_arr _ 37 (.tmp 3) rfl (w.heap.size) (by kernel_rfl) (opv o ka kn kp) 37 _ (hB.get 0 (x := ⟨w.heap.size, opv o ka kn kp, 37⟩) rfl) Try.underlying37 rfl (by rw [Try.infoO]; rfl)) ?_
  simp only [Act.put, List.setIfInBounds_toArray, List.set_cons_zero, List.set_cons_succ, List.getElem_toArray, List.getElem_cons_zero, List.getElem_cons_succ]
  refine list_call 29 #[.agg (opv o ka kn kp)] (by kernel_rfl) (by kernel_rfl) ((kind_ok o (unhide ho) ka kn kp _).mono ?_)
  rintro r v1 ⟨rfl, hg⟩
  refine ⟨_, rfl, ?_⟩
  replace hB := hB.more hg
  obtain ⟨kk, hkk⟩ : ∃ kk, kk = o.k := ⟨_, rfl⟩
  rw [← hkk]
  have hk5 : kk < 5 := by rw [hkk]; exact o.k_lt
  clear hg
  simp only [Act.put, List.setIfInBounds_toArray, List.set_cons_zero, List.set_cons_succ, List.getElem_toArray, List.getElem_cons_zero, List.getElem_cons_succ]
  refine wpList_nil ?_
  have hcs : kk = 0 ∨ kk = 1 ∨ kk = 2 ∨ kk = 3 ∨ kk = 4 := by omega
  rcases hcs with rfl | rfl | rfl | rfl | rfl
  · skip
    replace hkk := hide hkk
    replace hB := hide hB
    go_upto_region 3 with fail
    replace hB := unhide hB
    refine wp_region_lit ?_
    refine list_val (.pointer none) (by kernel_rfl) (by kernel_rfl) ?_
    simp only [Act.put, List.setIfInBounds_toArray, List.set_cons_zero, List.set_cons_succ, List.getElem_toArray, List.getElem_cons_zero, List.getElem_cons_succ]
    refine list_val (.pointer (some ⟨w.heap.size, 1, none⟩)) (by kernel_rfl) (by kernel_rfl) ?_
    simp only [Act.put, List.setIfInBounds_toArray, List.set_cons_zero, List.set_cons_succ, List.getElem_toArray, List.getElem_cons_zero, List.getElem_cons_succ]
    refine list_val (.int .i64 o.at_) (by kernel_rfl) (exec_i64 _ (.tmp 11) rfl (w.heap.size) 1 (by kernel_rfl) o.at_ (cell_of (hB.get 0 (x := ⟨w.heap.size, opv o ka kn kp, 37⟩) rfl) (i := 1) rfl)) ?_
    simp only [Act.put, List.setIfInBounds_toArray, List.set_cons_zero, List.set_cons_succ, List.getElem_toArray, List.getElem_cons_zero, List.getElem_cons_succ]
    refine list_call 17 #[.pointer none, .int .i64 o.at_] (by kernel_rfl) (by kernel_rfl) ((dread_nil o.at_ _).mono ?_)
    rintro r v2 ⟨rfl, hg⟩
    refine ⟨_, rfl, ?_⟩
    replace hB := hB.more hg
    clear hg
    simp only [Act.put, List.setIfInBounds_toArray, List.set_cons_zero, List.set_cons_succ, List.getElem_toArray, List.getElem_cons_zero, List.getElem_cons_succ]
    refine list_val (.agg (kc ZB)) (by kernel_rfl) (by kernel_rfl) ?_
    simp only [Act.put, List.setIfInBounds_toArray, List.set_cons_zero, List.set_cons_succ, List.getElem_toArray, List.getElem_cons_zero, List.getElem_cons_succ]
    refine list_val (.int .i64 1) (by kernel_rfl) (by kernel_rfl) ?_
    simp only [Act.put, List.setIfInBounds_toArray, List.set_cons_zero, List.set_cons_succ, List.getElem_toArray, List.getElem_cons_zero, List.getElem_cons_succ]
    refine list_store 39 (.tmp 4) (.tmp 14) (w.heap.size + 1) (kc ZB) 39 (kc ZB) (by kernel_rfl) rfl (by kernel_rfl) (by kernel_rfl) (hB.get 1 (x := ⟨w.heap.size + 1, kc ZB, 39⟩) rfl) (by rw [Try.infoB, kc_size, ZB_len]) ((show (kc ZB).size = 64 from rfl).trans ((kc_size _).trans ZB_len).symm) (kc_one _) ?_
    replace hB := hB.set 1 (x := ⟨w.heap.size + 1, kc ZB, 39⟩) rfl (kc ZB)
    simp only [List.set_cons_zero, List.set_cons_succ] at hB
    generalize World.setRow _ _ _ = v3 at *
    replace hB : Bl w [⟨w.heap.size, opv o ka kn kp, 37⟩, ⟨w.heap.size + 1, kc ZB, 39⟩] v3 := hB
    simp only [Act.put, List.setIfInBounds_toArray, List.set_cons_zero, List.set_cons_succ, List.getElem_toArray, List.getElem_cons_zero, List.getElem_cons_succ]
    (refine wpList_step fun K hK => ?_; replace hK := hide hK; go_simp; refine unhide hK _ _ ?_; clear hK K)
    refine wpList_nil ?_
    have hR1 := hide (hB.get 1 (x := ⟨w.heap.size + 1, kc ZB, 39⟩) rfl)
    have hP := hide hB.gr
    clear hB
    go_wp2_with fail
    rw [unhide hT]
    exact bodyPost_ret (v := .tuple #[.agg (kc ZB), .int .i64 1]) (results_cell_tmp Try.results13 _ _ (w.heap.size + 1) 39 (kc ZB) (0, 0) _ rfl (.int .i64 1) rfl (unhide hR1) Try.underlying39 rfl (by rw [Try.infoB]; rfl)) rfl ⟨rfl, unhide hP⟩
  · skip
    replace hkk := hide hkk
    replace hB := hide hB
    go_upto_region 5 with fail
    replace hB := unhide hB
    refine any_start (S := fun v => v.heap[w.heap.size]? = some (.cells (opv o ka kn kp) 37 (0, 0))) (by kernel_rfl) ?_
    have hKk := hK
    clear hK
    replace hB := hB.drew
    generalize World.drew _ = x0 at *
    simp only [List.size_toArray, List.length_cons, List.length_nil, Array.replicate, List.replicate]
    refine any_take (i := 0) (v := (.agg (kc ZB))) #[false, false, false, false, false, false, false, false, false, false] rfl (by kernel_rfl) (by kernel_rfl) (by kernel_rfl) (by kernel_rfl) (fun _ _ _ h => h) (.inl ⟨by kernel_rfl, fun x_ hu => by kernel_rfl⟩) (hB.get 0 (x := ⟨w.heap.size, opv o ka kn kp, 37⟩) rfl) ?_
    simp only [Act.put, List.setIfInBounds_toArray, List.set_cons_zero, List.set_cons_succ, List.getElem_toArray, List.getElem_cons_zero, List.getElem_cons_succ]
    refine any_take (i := 1) (v := (.pointer none)) #[true, false, false, false, false, false, false, false, false, false] rfl (by kernel_rfl) (by kernel_rfl) (by kernel_rfl) (by kernel_rfl) (fun _ _ _ h => h) (.inl ⟨by kernel_rfl, fun x_ hu => by kernel_rfl⟩) (hB.get 0 (x := ⟨w.heap.size, opv o ka kn kp, 37⟩) rfl) ?_
    simp only [Act.put, List.setIfInBounds_toArray, List.set_cons_zero, List.set_cons_succ, List.getElem_toArray, List.getElem_cons_zero, List.getElem_cons_succ]
    refine any_take (i := 2) (v := (.pointer (some ⟨w.heap.size, 1, none⟩))) #[true, true, false, false, false, false, false, false, false, false] rfl (by kernel_rfl) (by kernel_rfl) (by kernel_rfl) (by kernel_rfl) (fun _ _ _ h => h) (.inl ⟨by kernel_rfl, fun x_ hu => by kernel_rfl⟩) (hB.get 0 (x := ⟨w.heap.size, opv o ka kn kp, 37⟩) rfl) ?_
    simp only [Act.put, List.setIfInBounds_toArray, List.set_cons_zero, List.set_cons_succ, List.getElem_toArray, List.getElem_cons_zero, List.getElem_cons_succ]
    refine any_take (i := 3) (v := (.int .i64 o.at_)) #[true, true, true, false, false, false, false, false, false, false] rfl (by kernel_rfl) (by kernel_rfl) (by kernel_rfl) (by kernel_rfl) (fun _ _ _ h => h) (.inl ⟨by kernel_rfl, fun x_ hu => exec_i64 _ (.tmp 20) rfl (w.heap.size) 1 (by kernel_rfl) o.at_ (cell_of hu (i := 1) rfl)⟩) (hB.get 0 (x := ⟨w.heap.size, opv o ka kn kp, 37⟩) rfl) ?_
    simp only [Act.put, List.setIfInBounds_toArray, List.set_cons_zero, List.set_cons_succ, List.getElem_toArray, List.getElem_cons_zero, List.getElem_cons_succ]
    refine any_take (i := 4) (v := (.pointer (some ⟨w.heap.size, 2, none⟩))) #[true, true, true, true, false, false, false, false, false, false] rfl (by kernel_rfl) (by kernel_rfl) (by kernel_rfl) (by kernel_rfl) (fun _ _ _ h => h) (.inl ⟨by kernel_rfl, fun x_ hu => by kernel_rfl⟩) (hB.get 0 (x := ⟨w.heap.size, opv o ka kn kp, 37⟩) rfl) ?_
    simp only [Act.put, List.setIfInBounds_toArray, List.set_cons_zero, List.set_cons_succ, List.getElem_toArray, List.getElem_cons_zero, List.getElem_cons_succ]
    refine any_take (i := 5) (v := (.int .u8 o.fill)) #[true, true, true, true, true, false, false, false, false, false] rfl (by kernel_rfl) (by kernel_rfl) (by kernel_rfl) (by kernel_rfl) (fun _ _ _ h => h) (.inl ⟨by kernel_rfl, fun x_ hu => exec_b _ (.tmp 22) rfl (w.heap.size) 2 (by kernel_rfl) o.fill (cell_of hu (i := 2) rfl)⟩) (hB.get 0 (x := ⟨w.heap.size, opv o ka kn kp, 37⟩) rfl) ?_
    simp only [Act.put, List.setIfInBounds_toArray, List.set_cons_zero, List.set_cons_succ, List.getElem_toArray, List.getElem_cons_zero, List.getElem_cons_succ]
    refine any_one (i := 6) (by kernel_rfl) rfl (fun K_ hQ => ?_)
    refine step_callw (by kernel_rfl) 30 #[.int .u8 o.fill] (by kernel_rfl) ((block_ok o.fill _).mono ?_)
    rintro r x1 ⟨rfl, hg⟩
    refine ⟨_, rfl, ?_⟩
    replace hB := hB.more hg
    clear hg
    refine hQ.out _ _ (hB.get 0 (x := ⟨w.heap.size, opv o ka kn kp, 37⟩) rfl) (fun _ => ?_)
    clear hQ K_
    simp only [Act.put, List.setIfInBounds_toArray, List.set_cons_zero, List.set_cons_succ, List.getElem_toArray, List.getElem_cons_zero, List.getElem_cons_succ]
    refine any_one (i := 7) (by kernel_rfl) rfl (fun K_ hQ => ?_)
    refine step_callw (by kernel_rfl) 31 #[.pointer none, .int .i64 o.at_, .agg (kc (blkL o.fill))] (by kernel_rfl) ((dwrite_nil o.at_ (blkL o.fill) (blkL_bb _) _).mono ?_)
    rintro r x2 ⟨rfl, hg⟩
    refine ⟨_, rfl, ?_⟩
    replace hB := hB.more hg
    clear hg
    refine hQ.out _ _ (hB.get 0 (x := ⟨w.heap.size, opv o ka kn kp, 37⟩) rfl) (fun _ => ?_)
    clear hQ K_
    simp only [Act.put, List.setIfInBounds_toArray, List.set_cons_zero, List.set_cons_succ, List.getElem_toArray, List.getElem_cons_zero, List.getElem_cons_succ]
    refine any_one (i := 8) (by kernel_rfl) rfl (fun K_ hQ => ?_)
    rw [if_pos (by kernel_rfl)]
    refine wp_store_row 39 (.tmp 4) (.tmp 18) rfl (w.heap.size + 1) (kc ZB) (by kernel_rfl) (by kernel_rfl) 39 (kc ZB) (hB.get 1 (x := ⟨w.heap.size + 1, kc ZB, 39⟩) rfl) (by rw [Try.infoB]; rfl) rfl (kc_one _) ?_
    replace hB := hB.set 1 (x := ⟨w.heap.size + 1, kc ZB, 39⟩) rfl (kc ZB)
    simp only [List.set_cons_zero, List.set_cons_succ] at hB
    generalize World.setRow _ _ _ = x3 at *
    replace hB : Bl w [⟨w.heap.size, opv o ka kn kp, 37⟩, ⟨w.heap.size + 1, kc ZB, 39⟩] x3 := hB
    refine hQ.out _ _ (hB.get 0 (x := ⟨w.heap.size, opv o ka kn kp, 37⟩) rfl) (fun _ => ?_)
    clear hQ K_
    simp only [Act.put, List.setIfInBounds_toArray, List.set_cons_zero, List.set_cons_succ, List.getElem_toArray, List.getElem_cons_zero, List.getElem_cons_succ]
    refine any_one (i := 9) (by kernel_rfl) rfl (fun K_ hQ => ?_)
    replace hQ := hide hQ
    go_simp
    refine (unhide hQ).out _ _ (hB.get 0 (x := ⟨w.heap.size, opv o ka kn kp, 37⟩) rfl) (fun _ => ?_)
    clear hQ K_
    refine any_done (by kernel_rfl) ?_
    have hR1 := hide (hB.get 1 (x := ⟨w.heap.size + 1, kc ZB, 39⟩) rfl)
    have hP := hide hB.gr
    clear hB
    go_wp2_with fail
    rw [unhide hT]
    exact bodyPost_ret (v := .tuple #[.agg (kc ZB), .int .i64 1]) (results_cell_tmp Try.results13 _ _ (w.heap.size + 1) 39 (kc ZB) (0, 0) _ rfl (.int .i64 1) rfl (unhide hR1) Try.underlying39 rfl (by rw [Try.infoB]; rfl)) rfl ⟨rfl, unhide hP⟩
  · skip
    replace hkk := hide hkk
    replace hB := hide hB
    go_upto_region 7 with fail
    replace hB := unhide hB
    refine wp_region_lit ?_
    refine list_val (.agg (kc ZB)) (by kernel_rfl) (by kernel_rfl) ?_
    simp only [Act.put, List.setIfInBounds_toArray, List.set_cons_zero, List.set_cons_succ, List.getElem_toArray, List.getElem_cons_zero, List.getElem_cons_succ]
    refine list_val (.pointer none) (by kernel_rfl) (by kernel_rfl) ?_
    simp only [Act.put, List.setIfInBounds_toArray, List.set_cons_zero, List.set_cons_succ, List.getElem_toArray, List.getElem_cons_zero, List.getElem_cons_succ]
    refine list_call 26 #[.pointer none] (by kernel_rfl) (by kernel_rfl) ((dsync_nil _).mono ?_)
    rintro r v2 ⟨rfl, hg⟩
    refine ⟨_, rfl, ?_⟩
    replace hB := hB.more hg
    clear hg
    simp only [Act.put, List.setIfInBounds_toArray, List.set_cons_zero, List.set_cons_succ, List.getElem_toArray, List.getElem_cons_zero, List.getElem_cons_succ]
    refine list_store 39 (.tmp 4) (.tmp 28) (w.heap.size + 1) (kc ZB) 39 (kc ZB) (by kernel_rfl) rfl (by kernel_rfl) (by kernel_rfl) (hB.get 1 (x := ⟨w.heap.size + 1, kc ZB, 39⟩) rfl) (by rw [Try.infoB, kc_size, ZB_len]) ((show (kc ZB).size = 64 from rfl).trans ((kc_size _).trans ZB_len).symm) (kc_one _) ?_
    replace hB := hB.set 1 (x := ⟨w.heap.size + 1, kc ZB, 39⟩) rfl (kc ZB)
    simp only [List.set_cons_zero, List.set_cons_succ] at hB
    generalize World.setRow _ _ _ = v3 at *
    replace hB : Bl w [⟨w.heap.size, opv o ka kn kp, 37⟩, ⟨w.heap.size + 1, kc ZB, 39⟩] v3 := hB
    simp only [Act.put, List.setIfInBounds_toArray, List.set_cons_zero, List.set_cons_succ, List.getElem_toArray, List.getElem_cons_zero, List.getElem_cons_succ]
    (refine wpList_step fun K hK => ?_; replace hK := hide hK; go_simp; refine unhide hK _ _ ?_; clear hK K)
    refine wpList_nil ?_
    have hR1 := hide (hB.get 1 (x := ⟨w.heap.size + 1, kc ZB, 39⟩) rfl)
    have hP := hide hB.gr
    clear hB
    go_wp2_with fail
    rw [unhide hT]
    exact bodyPost_ret (v := .tuple #[.agg (kc ZB), .int .i64 1]) (results_cell_tmp Try.results13 _ _ (w.heap.size + 1) 39 (kc ZB) (0, 0) _ rfl (.int .i64 1) rfl (unhide hR1) Try.underlying39 rfl (by rw [Try.infoB]; rfl)) rfl ⟨rfl, unhide hP⟩
  · skip
    replace hkk := hide hkk
    replace hB := hide hB
    go_upto_region 9 with fail
    replace hB := unhide hB
    refine wp_region_lit ?_
    refine list_val (.agg (kc ZB)) (by kernel_rfl) (by kernel_rfl) ?_
    simp only [Act.put, List.setIfInBounds_toArray, List.set_cons_zero, List.set_cons_succ, List.getElem_toArray, List.getElem_cons_zero, List.getElem_cons_succ]
    refine list_val (.pointer none) (by kernel_rfl) (by kernel_rfl) ?_
    simp only [Act.put, List.setIfInBounds_toArray, List.set_cons_zero, List.set_cons_succ, List.getElem_toArray, List.getElem_cons_zero, List.getElem_cons_succ]
    refine list_val (.pointer (some ⟨w.heap.size, 1, none⟩)) (by kernel_rfl) (by kernel_rfl) ?_
    simp only [Act.put, List.setIfInBounds_toArray, List.set_cons_zero, List.set_cons_succ, List.getElem_toArray, List.getElem_cons_zero, List.getElem_cons_succ]
    refine list_val (.int .i64 o.at_) (by kernel_rfl) (exec_i64 _ (.tmp 35) rfl (w.heap.size) 1 (by kernel_rfl) o.at_ (cell_of (hB.get 0 (x := ⟨w.heap.size, opv o ka kn kp, 37⟩) rfl) (i := 1) rfl)) ?_
    simp only [Act.put, List.setIfInBounds_toArray, List.set_cons_zero, List.set_cons_succ, List.getElem_toArray, List.getElem_cons_zero, List.getElem_cons_succ]
    refine list_call 28 #[.pointer none, .int .i64 o.at_] (by kernel_rfl) (by kernel_rfl) ((darm_nil o.at_ _).mono ?_)
    rintro r v2 ⟨rfl, hg⟩
    refine ⟨_, rfl, ?_⟩
    replace hB := hB.more hg
    clear hg
    simp only [Act.put, List.setIfInBounds_toArray, List.set_cons_zero, List.set_cons_succ, List.getElem_toArray, List.getElem_cons_zero, List.getElem_cons_succ]
    refine list_store 39 (.tmp 4) (.tmp 33) (w.heap.size + 1) (kc ZB) 39 (kc ZB) (by kernel_rfl) rfl (by kernel_rfl) (by kernel_rfl) (hB.get 1 (x := ⟨w.heap.size + 1, kc ZB, 39⟩) rfl) (by rw [Try.infoB, kc_size, ZB_len]) ((show (kc ZB).size = 64 from rfl).trans ((kc_size _).trans ZB_len).symm) (kc_one _) ?_
    replace hB := hB.set 1 (x := ⟨w.heap.size + 1, kc ZB, 39⟩) rfl (kc ZB)
    simp only [List.set_cons_zero, List.set_cons_succ] at hB
    generalize World.setRow _ _ _ = v3 at *
    replace hB : Bl w [⟨w.heap.size, opv o ka kn kp, 37⟩, ⟨w.heap.size + 1, kc ZB, 39⟩] v3 := hB
    simp only [Act.put, List.setIfInBounds_toArray, List.set_cons_zero, List.set_cons_succ, List.getElem_toArray, List.getElem_cons_zero, List.getElem_cons_succ]
    (refine wpList_step fun K hK => ?_; replace hK := hide hK; go_simp; refine unhide hK _ _ ?_; clear hK K)
    refine wpList_nil ?_
    have hR1 := hide (hB.get 1 (x := ⟨w.heap.size + 1, kc ZB, 39⟩) rfl)
    have hP := hide hB.gr
    clear hB
    go_wp2_with fail
    rw [unhide hT]
    exact bodyPost_ret (v := .tuple #[.agg (kc ZB), .int .i64 1]) (results_cell_tmp Try.results13 _ _ (w.heap.size + 1) 39 (kc ZB) (0, 0) _ rfl (.int .i64 1) rfl (unhide hR1) Try.underlying39 rfl (by rw [Try.infoB]; rfl)) rfl ⟨rfl, unhide hP⟩
  · skip
    replace hkk := hide hkk
    replace hB := hide hB
    go_upto_region 10 with fail
    replace hB := unhide hB
    refine wp_region_lit ?_
    refine list_val (.agg (kc ZB)) (by kernel_rfl) (by kernel_rfl) ?_
    simp only [Act.put, List.setIfInBounds_toArray, List.set_cons_zero, List.set_cons_succ, List.getElem_toArray, List.getElem_cons_zero, List.getElem_cons_succ]
    refine list_val (.pointer none) (by kernel_rfl) (by kernel_rfl) ?_
    simp only [Act.put, List.setIfInBounds_toArray, List.set_cons_zero, List.set_cons_succ, List.getElem_toArray, List.getElem_cons_zero, List.getElem_cons_succ]
    refine list_val (.pointer (some ⟨w.heap.size, 3, none⟩)) (by kernel_rfl) (by kernel_rfl) ?_
    simp only [Act.put, List.setIfInBounds_toArray, List.set_cons_zero, List.set_cons_succ, List.getElem_toArray, List.getElem_cons_zero, List.getElem_cons_succ]
    refine list_val (.slice ka kn kp) (by kernel_rfl) (exec_sk _ (.tmp 40) rfl (w.heap.size) 3 (by kernel_rfl) ka kn kp (cell_of (hB.get 0 (x := ⟨w.heap.size, opv o ka kn kp, 37⟩) rfl) (i := 3) rfl)) ?_
    simp only [Act.put, List.setIfInBounds_toArray, List.set_cons_zero, List.set_cons_succ, List.getElem_toArray, List.getElem_cons_zero, List.getElem_cons_succ]
    refine list_call 32 #[.slice ka kn kp] (by kernel_rfl) (by kernel_rfl) ((keeps_ok o.keep ka kn kp (by have h1 := (unhide ho).kl; have h2 := (unhide hK).len; omega) _ ((unhide hK).gr hB.gr)).mono ?_)
    rintro r v2 ⟨a2, c2, rfl, -, -, hg⟩
    refine ⟨_, rfl, ?_⟩
    replace hB := hB.more hg
    clear hg
    simp only [Act.put, List.setIfInBounds_toArray, List.set_cons_zero, List.set_cons_succ, List.getElem_toArray, List.getElem_cons_zero, List.getElem_cons_succ]
    refine list_call 25 #[.pointer none, .slice a2 kn c2] (by kernel_rfl) (by kernel_rfl) ((dcrash_nil a2 kn c2 _).mono ?_)
    rintro r v3 ⟨rfl, hg⟩
    refine ⟨_, rfl, ?_⟩
    replace hB := hB.more hg
    clear hg
    simp only [Act.put, List.setIfInBounds_toArray, List.set_cons_zero, List.set_cons_succ, List.getElem_toArray, List.getElem_cons_zero, List.getElem_cons_succ]
    refine list_store 39 (.tmp 4) (.tmp 38) (w.heap.size + 1) (kc ZB) 39 (kc ZB) (by kernel_rfl) rfl (by kernel_rfl) (by kernel_rfl) (hB.get 1 (x := ⟨w.heap.size + 1, kc ZB, 39⟩) rfl) (by rw [Try.infoB, kc_size, ZB_len]) ((show (kc ZB).size = 64 from rfl).trans ((kc_size _).trans ZB_len).symm) (kc_one _) ?_
    replace hB := hB.set 1 (x := ⟨w.heap.size + 1, kc ZB, 39⟩) rfl (kc ZB)
    simp only [List.set_cons_zero, List.set_cons_succ] at hB
    generalize World.setRow _ _ _ = v4 at *
    replace hB : Bl w [⟨w.heap.size, opv o ka kn kp, 37⟩, ⟨w.heap.size + 1, kc ZB, 39⟩] v4 := hB
    simp only [Act.put, List.setIfInBounds_toArray, List.set_cons_zero, List.set_cons_succ, List.getElem_toArray, List.getElem_cons_zero, List.getElem_cons_succ]
    (refine wpList_step fun K hK => ?_; replace hK := hide hK; go_simp; refine unhide hK _ _ ?_; clear hK K)
    refine wpList_nil ?_
    have hR1 := hide (hB.get 1 (x := ⟨w.heap.size + 1, kc ZB, 39⟩) rfl)
    have hP := hide hB.gr
    clear hB
    go_wp2_with fail
    rw [unhide hT]
    exact bodyPost_ret (v := .tuple #[.agg (kc ZB), .int .i64 1]) (results_cell_tmp Try.results13 _ _ (w.heap.size + 1) 39 (kc ZB) (0, 0) _ rfl (.int .i64 1) rfl (unhide hR1) Try.underlying39 rfl (by rw [Try.infoB]; rfl)) rfl ⟨rfl, unhide hP⟩
theorem exec_eqB {a : Act} {o : Oper} (w : World) (x y : Operand) (ho : o.op = .binOp .eql 39 x y 39) (b c : List Int) (hb : b.length = 64) (hc : c.length = 64) (hx : a.eval x = .agg (kc b)) (hy : a.eval y = .agg (kc c)) : (execOp a.eval o).run Try.prog w = .ok (.value (.bool (decide (b = c)))) w := by
  have h1 := eq_B b c hb hc w
  unfold execOp
  simp only [ho, hx, hy]
  go_simp
set_option maxHeartbeats 4000000 in
theorem none_law (o : Opl) (ho : o.Ok) (ka : Option Addr) (kn kp : Nat) (w : World) (hK : Kp w ka kn kp o.keep) : Calls Try.prog 5 #[.agg (opv o ka kn kp)] w (Woke w) := by
  obtain ⟨T, hT⟩ : ∃ T, T = Woke w := ⟨_, rfl⟩
  rw [← hT]
  replace hT := hide hT
  obtain ⟨SO, hSO⟩ : ∃ X, X = opv o ka kn kp := ⟨_, rfl⟩
  rw [← hSO]
  replace hSO := hide hSO; replace hK := hide hK; replace ho := hide ho
  go_enter Try.func5, Try.ntmps5
  go_upto_region 1 with fail
  have hB := ((Bl.nil w).new SO 37)
  simp only [size_alloc, List.nil_append, List.cons_append] at hB
  generalize World.alloc _ _ = u at *
  rw [unhide hSO] at hB
  replace hB : Bl w [⟨w.heap.size, opv o ka kn kp, 37⟩] u := hB
  refine wp_region_lit ?_
  refine list_call 9 #[] (by kernel_rfl) (by kernel_rfl) ((wakes_ok _).mono ?_)
  rintro r v ⟨rfl, hg⟩
  refine ⟨_, rfl, ?_⟩
  replace hB := hB.more hg
  clear hg
  simp only [Act.put, List.setIfInBounds_toArray, List.set_cons_zero, List.set_cons_succ, List.getElem_toArray, List.getElem_cons_zero, List.getElem_cons_succ]
  refine list_val (.bool false) (by kernel_rfl) (by kernel_rfl) ?_
  simp only [Act.put, List.setIfInBounds_toArray, List.set_cons_zero, List.set_cons_succ, List.getElem_toArray, List.getElem_cons_zero, List.getElem_cons_succ]
  refine wpList_nil ?_
  replace hB := hide hB
  go_upto_region 4 with fail
  replace hB := unhide hB
  refine wp_region_lit ?_
  refine list_val (.pointer none) (by kernel_rfl) (by kernel_rfl) ?_
  simp only [Act.put, List.setIfInBounds_toArray, List.set_cons_zero, List.set_cons_succ, List.getElem_toArray, List.getElem_cons_zero, List.getElem_cons_succ]
  refine list_val (.agg (opv o ka kn kp)) (by kernel_rfl) (exec_arr _ 37 (.tmp 1) rfl (w.heap.size) (by kernel_rfl) (opv o ka kn kp) 37 _ (hB.get 0 (x := ⟨w.heap.size, opv o ka kn kp, 37⟩) rfl) Try.underlying37 rfl (by rw [Try.infoO]; rfl)) ?_
  simp only [Act.put, List.setIfInBounds_toArray, List.set_cons_zero, List.set_cons_succ, List.getElem_toArray, List.getElem_cons_zero, List.getElem_cons_succ]
  refine list_call 13 #[.pointer none, .agg (opv o ka kn kp)] (by kernel_rfl) (by kernel_rfl) ((does_nil o (unhide ho) ka kn kp _ ((unhide hK).gr hB.gr)).mono ?_)
  rintro r v1 ⟨rfl, hg⟩
  refine ⟨_, rfl, ?_⟩
  replace hB := hB.more hg
  clear hg
  simp only [Act.put, List.setIfInBounds_toArray, List.set_cons_zero, List.set_cons_succ, List.getElem_toArray, List.getElem_cons_zero, List.getElem_cons_succ]
  refine list_val (.tuple #[.agg (kc ZB), .int .i64 1]) (by kernel_rfl) (by kernel_rfl) ?_
  simp only [Act.put, List.setIfInBounds_toArray, List.set_cons_zero, List.set_cons_succ, List.getElem_toArray, List.getElem_cons_zero, List.getElem_cons_succ]
  refine list_val (.agg (kc ZB)) (by kernel_rfl) (by kernel_rfl) ?_
  simp only [Act.put, List.setIfInBounds_toArray, List.set_cons_zero, List.set_cons_succ, List.getElem_toArray, List.getElem_cons_zero, List.getElem_cons_succ]
  refine list_val (.int .i64 1) (by kernel_rfl) (by kernel_rfl) ?_
  simp only [Act.put, List.setIfInBounds_toArray, List.set_cons_zero, List.set_cons_succ, List.getElem_toArray, List.getElem_cons_zero, List.getElem_cons_succ]
  refine list_valw (.pointer (some ⟨v1.heap.size, 0, none⟩)) (v1.alloc (.cells (kc ZB) 39 (0, 0))) (by kernel_rfl) (by kernel_rfl) ?_
  replace hB := hB.new (kc ZB) 39
  simp only [List.nil_append, List.cons_append] at hB
  generalize World.alloc _ _ = v2 at *
  generalize v1.heap.size = gb at *
  replace hB : Bl w [⟨w.heap.size, opv o ka kn kp, 37⟩, ⟨gb, kc ZB, 39⟩] v2 := hB
  simp only [Act.put, List.setIfInBounds_toArray, List.set_cons_zero, List.set_cons_succ, List.getElem_toArray, List.getElem_cons_zero, List.getElem_cons_succ]
  refine list_store 39 (.tmp 4) (.tmp 12) (gb) (kc ZB) 39 (kc ZB) (by kernel_rfl) rfl (by kernel_rfl) (by kernel_rfl) (hB.get 1 (x := ⟨gb, kc ZB, 39⟩) rfl) (by rw [Try.infoB, kc_size, ZB_len]) ((show (kc ZB).size = 64 from rfl).trans ((kc_size _).trans ZB_len).symm) (kc_one _) ?_
  replace hB := hB.set 1 (x := ⟨gb, kc ZB, 39⟩) rfl (kc ZB)
  simp only [List.set_cons_zero, List.set_cons_succ] at hB
  generalize World.setRow _ _ _ = v3 at *
  replace hB : Bl w [⟨w.heap.size, opv o ka kn kp, 37⟩, ⟨gb, kc ZB, 39⟩] v3 := hB
  simp only [Act.put, List.setIfInBounds_toArray, List.set_cons_zero, List.set_cons_succ, List.getElem_toArray, List.getElem_cons_zero, List.getElem_cons_succ]
  (refine wpList_step fun K hK => ?_; replace hK := hide hK; go_simp; refine unhide hK _ _ ?_; clear hK K)
  refine wpList_nil ?_
  replace hB := hide hB
  go_upto_region 5 with fail
  replace hB := unhide hB
  refine wp_region_lit ?_
  refine list_val (.agg (kc ZB)) (by kernel_rfl) (exec_arr _ 39 (.tmp 4) rfl (gb) (by kernel_rfl) (kc ZB) 39 _ (hB.get 1 (x := ⟨gb, kc ZB, 39⟩) rfl) Try.underlying39 rfl (by rw [Try.infoB, kc_size, ZB_len])) ?_
  simp only [Act.put, List.setIfInBounds_toArray, List.set_cons_zero, List.set_cons_succ, List.getElem_toArray, List.getElem_cons_zero, List.getElem_cons_succ]
  refine list_val (.agg (kc ZB)) (by kernel_rfl) (by kernel_rfl) ?_
  simp only [Act.put, List.setIfInBounds_toArray, List.set_cons_zero, List.set_cons_succ, List.getElem_toArray, List.getElem_cons_zero, List.getElem_cons_succ]
  refine list_val (.bool true) (by kernel_rfl) ((exec_eqB _ (.tmp 14) (.tmp 15) rfl ZB ZB ZB_len ZB_len (by kernel_rfl) (by kernel_rfl)).trans (by rw [decide_eq_true rfl])) ?_
  simp only [Act.put, List.setIfInBounds_toArray, List.set_cons_zero, List.set_cons_succ, List.getElem_toArray, List.getElem_cons_zero, List.getElem_cons_succ]
  refine list_val (.bool true) (by kernel_rfl) (by kernel_rfl) ?_
  simp only [Act.put, List.setIfInBounds_toArray, List.set_cons_zero, List.set_cons_succ, List.getElem_toArray, List.getElem_cons_zero, List.getElem_cons_succ]
  refine list_val (.int .i64 1) (by kernel_rfl) (by kernel_rfl) ?_
  simp only [Act.put, List.setIfInBounds_toArray, List.set_cons_zero, List.set_cons_succ, List.getElem_toArray, List.getElem_cons_zero, List.getElem_cons_succ]
  refine list_val (.bool true) (by kernel_rfl) (by go_simp) ?_
  simp only [Act.put, List.setIfInBounds_toArray, List.set_cons_zero, List.set_cons_succ, List.getElem_toArray, List.getElem_cons_zero, List.getElem_cons_succ]
  refine list_val (.bool true) (by kernel_rfl) (by kernel_rfl) ?_
  simp only [Act.put, List.setIfInBounds_toArray, List.set_cons_zero, List.set_cons_succ, List.getElem_toArray, List.getElem_cons_zero, List.getElem_cons_succ]
  refine list_val (.bool true) (by kernel_rfl) (by kernel_rfl) ?_
  simp only [Act.put, List.setIfInBounds_toArray, List.set_cons_zero, List.set_cons_succ, List.getElem_toArray, List.getElem_cons_zero, List.getElem_cons_succ]
  refine list_val (.pointer none) (by kernel_rfl) (by kernel_rfl) ?_
  simp only [Act.put, List.setIfInBounds_toArray, List.set_cons_zero, List.set_cons_succ, List.getElem_toArray, List.getElem_cons_zero, List.getElem_cons_succ]
  refine list_call 16 #[.pointer none] (by kernel_rfl) (by kernel_rfl) ((dlen_nil _).mono ?_)
  rintro r z1 ⟨rfl, hg⟩
  refine ⟨_, rfl, ?_⟩
  replace hB := hB.more hg
  clear hg
  simp only [Act.put, List.setIfInBounds_toArray, List.set_cons_zero, List.set_cons_succ, List.getElem_toArray, List.getElem_cons_zero, List.getElem_cons_succ]
  refine list_val (.bool true) (by kernel_rfl) (by go_simp) ?_
  simp only [Act.put, List.setIfInBounds_toArray, List.set_cons_zero, List.set_cons_succ, List.getElem_toArray, List.getElem_cons_zero, List.getElem_cons_succ]
  refine list_val (.bool true) (by kernel_rfl) (by kernel_rfl) ?_
  simp only [Act.put, List.setIfInBounds_toArray, List.set_cons_zero, List.set_cons_succ, List.getElem_toArray, List.getElem_cons_zero, List.getElem_cons_succ]
  refine list_val (.bool true) (by kernel_rfl) (by kernel_rfl) ?_
  simp only [Act.put, List.setIfInBounds_toArray, List.set_cons_zero, List.set_cons_succ, List.getElem_toArray, List.getElem_cons_zero, List.getElem_cons_succ]
  refine list_val (.pointer none) (by kernel_rfl) (by kernel_rfl) ?_
  simp only [Act.put, List.setIfInBounds_toArray, List.set_cons_zero, List.set_cons_succ, List.getElem_toArray, List.getElem_cons_zero, List.getElem_cons_succ]
  refine list_call 20 #[.pointer none] (by kernel_rfl) (by kernel_rfl) ((dpending_nil _).mono ?_)
  rintro r z2 ⟨pa, pc, rfl, hg⟩
  refine ⟨_, rfl, ?_⟩
  replace hB := hB.more hg
  clear hg
  simp only [Act.put, List.setIfInBounds_toArray, List.set_cons_zero, List.set_cons_succ, List.getElem_toArray, List.getElem_cons_zero, List.getElem_cons_succ]
  refine list_val (.int .i64 0) (by kernel_rfl) (by kernel_rfl) ?_
  simp only [Act.put, List.setIfInBounds_toArray, List.set_cons_zero, List.set_cons_succ, List.getElem_toArray, List.getElem_cons_zero, List.getElem_cons_succ]
  refine list_val (.bool true) (by kernel_rfl) (by go_simp) ?_
  simp only [Act.put, List.setIfInBounds_toArray, List.set_cons_zero, List.set_cons_succ, List.getElem_toArray, List.getElem_cons_zero, List.getElem_cons_succ]
  refine list_val (.bool true) (by kernel_rfl) (by kernel_rfl) ?_
  simp only [Act.put, List.setIfInBounds_toArray, List.set_cons_zero, List.set_cons_succ, List.getElem_toArray, List.getElem_cons_zero, List.getElem_cons_succ]
  refine list_val (.bool true) (by kernel_rfl) (by kernel_rfl) ?_
  simp only [Act.put, List.setIfInBounds_toArray, List.set_cons_zero, List.set_cons_succ, List.getElem_toArray, List.getElem_cons_zero, List.getElem_cons_succ]
  refine list_val (.pointer none) (by kernel_rfl) (by kernel_rfl) ?_
  simp only [Act.put, List.setIfInBounds_toArray, List.set_cons_zero, List.set_cons_succ, List.getElem_toArray, List.getElem_cons_zero, List.getElem_cons_succ]
  refine list_call 21 #[.pointer none] (by kernel_rfl) (by kernel_rfl) ((ddead_nil _).mono ?_)
  rintro r z3 ⟨rfl, hg⟩
  refine ⟨_, rfl, ?_⟩
  replace hB := hB.more hg
  clear hg
  simp only [Act.put, List.setIfInBounds_toArray, List.set_cons_zero, List.set_cons_succ, List.getElem_toArray, List.getElem_cons_zero, List.getElem_cons_succ]
  refine list_val (.bool true) (by kernel_rfl) (by kernel_rfl) ?_
  simp only [Act.put, List.setIfInBounds_toArray, List.set_cons_zero, List.set_cons_succ, List.getElem_toArray, List.getElem_cons_zero, List.getElem_cons_succ]
  refine list_val (.bool true) (by kernel_rfl) (by kernel_rfl) ?_
  simp only [Act.put, List.setIfInBounds_toArray, List.set_cons_zero, List.set_cons_succ, List.getElem_toArray, List.getElem_cons_zero, List.getElem_cons_succ]
  refine list_val (.bool true) (by kernel_rfl) (by kernel_rfl) ?_
  simp only [Act.put, List.setIfInBounds_toArray, List.set_cons_zero, List.set_cons_succ, List.getElem_toArray, List.getElem_cons_zero, List.getElem_cons_succ]
  refine list_val (.pointer none) (by kernel_rfl) (by kernel_rfl) ?_
  simp only [Act.put, List.setIfInBounds_toArray, List.set_cons_zero, List.set_cons_succ, List.getElem_toArray, List.getElem_cons_zero, List.getElem_cons_succ]
  refine list_call 22 #[.pointer none] (by kernel_rfl) (by kernel_rfl) ((dops_nil _).mono ?_)
  rintro r z4 ⟨rfl, hg⟩
  refine ⟨_, rfl, ?_⟩
  replace hB := hB.more hg
  clear hg
  simp only [Act.put, List.setIfInBounds_toArray, List.set_cons_zero, List.set_cons_succ, List.getElem_toArray, List.getElem_cons_zero, List.getElem_cons_succ]
  refine list_val (.bool true) (by kernel_rfl) (by go_simp) ?_
  simp only [Act.put, List.setIfInBounds_toArray, List.set_cons_zero, List.set_cons_succ, List.getElem_toArray, List.getElem_cons_zero, List.getElem_cons_succ]
  refine list_val (.bool true) (by kernel_rfl) (by kernel_rfl) ?_
  simp only [Act.put, List.setIfInBounds_toArray, List.set_cons_zero, List.set_cons_succ, List.getElem_toArray, List.getElem_cons_zero, List.getElem_cons_succ]
  refine list_val (.bool true) (by kernel_rfl) (by kernel_rfl) ?_
  simp only [Act.put, List.setIfInBounds_toArray, List.set_cons_zero, List.set_cons_succ, List.getElem_toArray, List.getElem_cons_zero, List.getElem_cons_succ]
  refine list_val (.pointer none) (by kernel_rfl) (by kernel_rfl) ?_
  simp only [Act.put, List.setIfInBounds_toArray, List.set_cons_zero, List.set_cons_succ, List.getElem_toArray, List.getElem_cons_zero, List.getElem_cons_succ]
  refine list_call 19 #[.pointer none] (by kernel_rfl) (by kernel_rfl) ((dcopy_nil _).mono ?_)
  rintro r z5 ⟨rfl, hg⟩
  refine ⟨_, rfl, ?_⟩
  replace hB := hB.more hg
  clear hg
  simp only [Act.put, List.setIfInBounds_toArray, List.set_cons_zero, List.set_cons_succ, List.getElem_toArray, List.getElem_cons_zero, List.getElem_cons_succ]
  refine list_val (.bool true) (by kernel_rfl) (by go_simp) ?_
  simp only [Act.put, List.setIfInBounds_toArray, List.set_cons_zero, List.set_cons_succ, List.getElem_toArray, List.getElem_cons_zero, List.getElem_cons_succ]
  refine list_val (.bool true) (by kernel_rfl) (by kernel_rfl) ?_
  simp only [Act.put, List.setIfInBounds_toArray, List.set_cons_zero, List.set_cons_succ, List.getElem_toArray, List.getElem_cons_zero, List.getElem_cons_succ]
  (refine wpList_step fun K hK => ?_; replace hK := hide hK; go_simp; refine unhide hK _ _ ?_; clear hK K)
  refine wpList_nil ?_
  have hP := hide hB.gr
  clear hB
  go_wp2_with fail
  rw [unhide hT]
  exact ⟨rfl, unhide hP⟩
end Go.Proofs.Ythgchjdjacbcgaa
