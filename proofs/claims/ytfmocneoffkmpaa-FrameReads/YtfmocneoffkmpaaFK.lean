/-
  Layer 14: ups and downs are got.
-/
import Derived.Test.YtfmocneoffkmpaaFJ
namespace Go.Proofs.Ytfmocneoffkmpaa
open Go.RowKit
set_option maxRecDepth 100000
set_option linter.unusedSimpArgs false
set_option linter.unusedVariables false
set_option maxHeartbeats 4000000 in
theorem fgetup_no (a : Option Addr) (m c : Nat) (hm : m < 9223372036854775808) (hS : onS ((m : Int) - 11) = false) (w : World) : Calls Try.prog 42 #[.slice a m c] w (Rno #[.int .i64 0, .int .i64 0, .int .u64 0, .slice none 0 0] 240 w) := by
  obtain ⟨T, hT⟩ : ∃ T, T = Rno #[.int .i64 0, .int .i64 0, .int .u64 0, .slice none 0 0] 240 w := ⟨_, rfl⟩
  rw [← hT]
  replace hT := hide hT
  go_enter Try.func42, Try.ntmps42
  go_upto_region 1 with fail
  have hB := ((Bl.nil w).new #[.int .i64 0, .int .i64 0, .int .u64 0, .slice none 0 0] 78)
  simp only [size_alloc, List.nil_append, List.cons_append] at hB
  generalize World.alloc _ _ = u at *
  replace hB : Bl w [⟨w.heap.size, #[.int .i64 0, .int .i64 0, .int .u64 0, .slice none 0 0], 78⟩] u := hB
  refine wp_region_lit ?_
  refine list_val (.slice a m c) (by kernel_rfl) (by kernel_rfl) ?_
  simp only [Act.put, List.setIfInBounds_toArray, List.set_cons_zero, List.set_cons_succ, List.getElem_toArray, List.getElem_cons_zero, List.getElem_cons_succ]
  refine list_call 69 #[.slice a m c, .int .i64 2, .func (.func 48) #[] #[]] (by kernel_rfl) (by kernel_rfl) ((pof_up_no a m c hm hS u).mono ?_)
  rintro r u1 ⟨rfl, hg1⟩
  replace hB := hB.more hg1
  clear hg1
  refine ⟨_, rfl, ?_⟩
  simp only [Act.put, List.setIfInBounds_toArray, List.set_cons_zero, List.set_cons_succ, List.getElem_toArray, List.getElem_cons_zero, List.getElem_cons_succ]
  refine list_val (.tuple #[.agg #[.int .i64 0, .int .i64 0, .int .u64 0, .slice none 0 0], .int .i64 240]) (by kernel_rfl) (by kernel_rfl) ?_
  simp only [Act.put, List.setIfInBounds_toArray, List.set_cons_zero, List.set_cons_succ, List.getElem_toArray, List.getElem_cons_zero, List.getElem_cons_succ]
  refine list_val (.agg #[.int .i64 0, .int .i64 0, .int .u64 0, .slice none 0 0]) (by kernel_rfl) (by kernel_rfl) ?_
  simp only [Act.put, List.setIfInBounds_toArray, List.set_cons_zero, List.set_cons_succ, List.getElem_toArray, List.getElem_cons_zero, List.getElem_cons_succ]
  refine list_val (.int .i64 240) (by kernel_rfl) (by kernel_rfl) ?_
  simp only [Act.put, List.setIfInBounds_toArray, List.set_cons_zero, List.set_cons_succ, List.getElem_toArray, List.getElem_cons_zero, List.getElem_cons_succ]
  refine list_valw (.pointer (some ⟨u1.heap.size, 0, none⟩)) (u1.alloc (.cells #[.int .i64 0, .int .i64 0, .int .u64 0, .slice none 0 0] 113 (0, 0))) (by kernel_rfl) (by kernel_rfl) ?_
  skip
  replace hB := hB.new #[.int .i64 0, .int .i64 0, .int .u64 0, .slice none 0 0] 113
  simp only [List.nil_append, List.cons_append] at hB
  generalize World.alloc _ _ = u2 at *
  generalize u1.heap.size = q4 at *
  replace hB : Bl w [⟨w.heap.size, #[.int .i64 0, .int .i64 0, .int .u64 0, .slice none 0 0], 78⟩, ⟨q4, #[.int .i64 0, .int .i64 0, .int .u64 0, .slice none 0 0], 113⟩] u2 := hB
  simp only [Act.put, List.setIfInBounds_toArray, List.set_cons_zero, List.set_cons_succ, List.getElem_toArray, List.getElem_cons_zero, List.getElem_cons_succ]
  refine list_store 113 (.tmp 4) (.tmp 9) (q4) #[.int .i64 0, .int .i64 0, .int .u64 0, .slice none 0 0] 113 #[.int .i64 0, .int .i64 0, .int .u64 0, .slice none 0 0] (by kernel_rfl) rfl (by kernel_rfl) (by kernel_rfl) (hB.get 1 (x := ⟨q4, #[.int .i64 0, .int .i64 0, .int .u64 0, .slice none 0 0], 113⟩) rfl) (by rw [Try.infoP]; rfl) rfl (by simp [Value.oneCell']) ?_
  replace hB := hB.set 1 (x := ⟨q4, #[.int .i64 0, .int .i64 0, .int .u64 0, .slice none 0 0], 113⟩) rfl #[.int .i64 0, .int .i64 0, .int .u64 0, .slice none 0 0]
  simp only [List.set_cons_zero, List.set_cons_succ] at hB
  generalize World.setRow _ _ _ = u3 at *
  replace hB : Bl w [⟨w.heap.size, #[.int .i64 0, .int .i64 0, .int .u64 0, .slice none 0 0], 78⟩, ⟨q4, #[.int .i64 0, .int .i64 0, .int .u64 0, .slice none 0 0], 113⟩] u3 := hB
  simp only [Act.put, List.setIfInBounds_toArray, List.set_cons_zero, List.set_cons_succ, List.getElem_toArray, List.getElem_cons_zero, List.getElem_cons_succ]
  (refine wpList_step fun K hK => ?_; replace hK := hide hK; go_simp; refine unhide hK _ _ ?_; clear hK K)
  refine wpList_nil ?_
  replace hB := hide hB
  go_upto_region 2 with fail
  replace hB := unhide hB
  refine wp_region_lit ?_
  refine list_val (.pointer (some ⟨q4, 0, none⟩)) (by kernel_rfl) (by kernel_rfl) ?_
  simp only [Act.put, List.setIfInBounds_toArray, List.set_cons_zero, List.set_cons_succ, List.getElem_toArray, List.getElem_cons_zero, List.getElem_cons_succ]
  refine list_val (.int .i64 0) (by kernel_rfl) (exec_i64 _ (.tmp 11) rfl q4 0 (by kernel_rfl) 0 (cell_of (hB.get 1 (x := ⟨q4, #[.int .i64 0, .int .i64 0, .int .u64 0, .slice none 0 0], 113⟩) rfl) (i := 0) rfl)) ?_
  simp only [Act.put, List.setIfInBounds_toArray, List.set_cons_zero, List.set_cons_succ, List.getElem_toArray, List.getElem_cons_zero, List.getElem_cons_succ]
  refine list_val (.pointer (some ⟨q4, 1, none⟩)) (by kernel_rfl) (by kernel_rfl) ?_
  simp only [Act.put, List.setIfInBounds_toArray, List.set_cons_zero, List.set_cons_succ, List.getElem_toArray, List.getElem_cons_zero, List.getElem_cons_succ]
  refine list_val (.int .i64 0) (by kernel_rfl) (exec_i64 _ (.tmp 13) rfl q4 1 (by kernel_rfl) 0 (cell_of (hB.get 1 (x := ⟨q4, #[.int .i64 0, .int .i64 0, .int .u64 0, .slice none 0 0], 113⟩) rfl) (i := 1) rfl)) ?_
  simp only [Act.put, List.setIfInBounds_toArray, List.set_cons_zero, List.set_cons_succ, List.getElem_toArray, List.getElem_cons_zero, List.getElem_cons_succ]
  refine list_val (.pointer (some ⟨q4, 2, none⟩)) (by kernel_rfl) (by kernel_rfl) ?_
  simp only [Act.put, List.setIfInBounds_toArray, List.set_cons_zero, List.set_cons_succ, List.getElem_toArray, List.getElem_cons_zero, List.getElem_cons_succ]
  refine list_val (.int .u64 0) (by kernel_rfl) (exec_u64 _ (.tmp 15) rfl q4 2 (by kernel_rfl) 0 (cell_of (hB.get 1 (x := ⟨q4, #[.int .i64 0, .int .i64 0, .int .u64 0, .slice none 0 0], 113⟩) rfl) (i := 2) rfl)) ?_
  simp only [Act.put, List.setIfInBounds_toArray, List.set_cons_zero, List.set_cons_succ, List.getElem_toArray, List.getElem_cons_zero, List.getElem_cons_succ]
  refine list_val (.pointer (some ⟨q4, 3, none⟩)) (by kernel_rfl) (by kernel_rfl) ?_
  simp only [Act.put, List.setIfInBounds_toArray, List.set_cons_zero, List.set_cons_succ, List.getElem_toArray, List.getElem_cons_zero, List.getElem_cons_succ]
  refine list_val (.slice none 0 0) (by kernel_rfl) (exec_sby _ (.tmp 17) rfl q4 3 (by kernel_rfl) none 0 0 (cell_of (hB.get 1 (x := ⟨q4, #[.int .i64 0, .int .i64 0, .int .u64 0, .slice none 0 0], 113⟩) rfl) (i := 3) rfl)) ?_
  simp only [Act.put, List.setIfInBounds_toArray, List.set_cons_zero, List.set_cons_succ, List.getElem_toArray, List.getElem_cons_zero, List.getElem_cons_succ]
  refine list_val (.agg #[.int .i64 0, .int .i64 0, .int .u64 0, .slice none 0 0]) (by kernel_rfl) (by kernel_rfl) ?_
  simp only [Act.put, List.setIfInBounds_toArray, List.set_cons_zero, List.set_cons_succ, List.getElem_toArray, List.getElem_cons_zero, List.getElem_cons_succ]
  refine list_val (.int .i64 240) (by kernel_rfl) (by kernel_rfl) ?_
  simp only [Act.put, List.setIfInBounds_toArray, List.set_cons_zero, List.set_cons_succ, List.getElem_toArray, List.getElem_cons_zero, List.getElem_cons_succ]
  refine list_store 78 (.tmp 2) (.tmp 19) (w.heap.size) #[.int .i64 0, .int .i64 0, .int .u64 0, .slice none 0 0] 78 #[.int .i64 0, .int .i64 0, .int .u64 0, .slice none 0 0] (by kernel_rfl) rfl (by kernel_rfl) (by kernel_rfl) (hB.get 0 (x := ⟨w.heap.size, #[.int .i64 0, .int .i64 0, .int .u64 0, .slice none 0 0], 78⟩) rfl) (by rw [Try.infoU]; rfl) rfl (by simp [Value.oneCell']) ?_
  replace hB := hB.set 0 (x := ⟨w.heap.size, #[.int .i64 0, .int .i64 0, .int .u64 0, .slice none 0 0], 78⟩) rfl #[.int .i64 0, .int .i64 0, .int .u64 0, .slice none 0 0]
  simp only [List.set_cons_zero, List.set_cons_succ] at hB
  generalize World.setRow _ _ _ = u4 at *
  replace hB : Bl w [⟨w.heap.size, #[.int .i64 0, .int .i64 0, .int .u64 0, .slice none 0 0], 78⟩, ⟨q4, #[.int .i64 0, .int .i64 0, .int .u64 0, .slice none 0 0], 113⟩] u4 := hB
  simp only [Act.put, List.setIfInBounds_toArray, List.set_cons_zero, List.set_cons_succ, List.getElem_toArray, List.getElem_cons_zero, List.getElem_cons_succ]
  (refine wpList_step fun K hK => ?_; replace hK := hide hK; go_simp; refine unhide hK _ _ ?_; clear hK K)
  refine wpList_nil ?_
  have hbk : Hid (u4.heap[w.heap.size]? = some (.cells #[.int .i64 0, .int .i64 0, .int .u64 0, .slice none 0 0] 78 (0, 0))) := (hB.get 0 (x := ⟨w.heap.size, #[.int .i64 0, .int .i64 0, .int .u64 0, .slice none 0 0], 78⟩) rfl)
  have hP : Hid (T (.returned (.tuple #[.agg #[.int .i64 0, .int .i64 0, .int .u64 0, .slice none 0 0], .int .i64 240])) u4) := by
    rw [unhide hT]
    exact ⟨rfl, hB.gr⟩
  clear hB
  go_wp2_with fail
  exact bodyPost_ret (v := .tuple #[.agg #[.int .i64 0, .int .i64 0, .int .u64 0, .slice none 0 0], .int .i64 240]) (results_cell_tmp Try.results42 _ _ (w.heap.size) 78 #[.int .i64 0, .int .i64 0, .int .u64 0, .slice none 0 0] (0, 0) _ rfl (.int .i64 240) rfl (unhide hbk) Try.underlying78 rfl (by rw [Try.infoU]; rfl)) rfl (unhide hP)
set_option maxHeartbeats 4000000 in
theorem fgetup_ok (L : List Int) (a : Option Addr) (m c : Nat) (hS : onS ((m : Int) - 11) = true) (hF : L.getD 0 0 = 2) (hE : pkE L = true) (w : World) (hB0 : Lb w a m c L) : Calls Try.prog 42 #[.slice a m c] w (Gok L w) := by
  obtain ⟨T, hT⟩ : ∃ T, T = Gok L w := ⟨_, rfl⟩
  rw [← hT]
  replace hT := hide hT
  replace hB0 := hide hB0
  go_enter Try.func42, Try.ntmps42
  go_upto_region 1 with fail
  have hB := ((Bl.nil w).new #[.int .i64 0, .int .i64 0, .int .u64 0, .slice none 0 0] 78)
  simp only [size_alloc, List.nil_append, List.cons_append] at hB
  generalize World.alloc _ _ = u at *
  replace hB : Bl w [⟨w.heap.size, #[.int .i64 0, .int .i64 0, .int .u64 0, .slice none 0 0], 78⟩] u := hB
  refine wp_region_lit ?_
  refine list_val (.slice a m c) (by kernel_rfl) (by kernel_rfl) ?_
  simp only [Act.put, List.setIfInBounds_toArray, List.set_cons_zero, List.set_cons_succ, List.getElem_toArray, List.getElem_cons_zero, List.getElem_cons_succ]
  refine list_call 69 #[.slice a m c, .int .i64 2, .func (.func 48) #[] #[]] (by kernel_rfl) (by kernel_rfl) ((pof_up_ok L a m c hS hF hE u ((unhide hB0).gr hB.gr)).mono ?_)
  rintro r u1 ⟨v, rfl, hO, hg1⟩
  have hO2 := ob_base hO hB.gr.size
  clear hO
  obtain ⟨va, vc, rfl, _⟩ := ob_lb hO2 (isB_drop (unhide hB0).isB 11) rfl
  replace hO := hide hO2
  clear hO2
  replace hB := hB.more hg1
  clear hg1
  unfold Gok pkv at hT
  unfold pkv
  generalize L.getD 1 0 = x1 at *
  generalize L.getD 2 0 = x2 at *
  generalize lowN ((L.drop 3).take 8) = x3 at *
  generalize (L.drop 11).length = vn at *
  refine ⟨_, rfl, ?_⟩
  simp only [Act.put, List.setIfInBounds_toArray, List.set_cons_zero, List.set_cons_succ, List.getElem_toArray, List.getElem_cons_zero, List.getElem_cons_succ]
  refine list_val (.tuple #[.agg #[.int .i64 x1, .int .i64 x2, .int .u64 x3, .slice va vn vc], .int .i64 0]) (by kernel_rfl) (by kernel_rfl) ?_
  simp only [Act.put, List.setIfInBounds_toArray, List.set_cons_zero, List.set_cons_succ, List.getElem_toArray, List.getElem_cons_zero, List.getElem_cons_succ]
  refine list_val (.agg #[.int .i64 x1, .int .i64 x2, .int .u64 x3, .slice va vn vc]) (by kernel_rfl) (by kernel_rfl) ?_
  simp only [Act.put, List.setIfInBounds_toArray, List.set_cons_zero, List.set_cons_succ, List.getElem_toArray, List.getElem_cons_zero, List.getElem_cons_succ]
  refine list_val (.int .i64 0) (by kernel_rfl) (by kernel_rfl) ?_
  simp only [Act.put, List.setIfInBounds_toArray, List.set_cons_zero, List.set_cons_succ, List.getElem_toArray, List.getElem_cons_zero, List.getElem_cons_succ]
  refine list_valw (.pointer (some ⟨u1.heap.size, 0, none⟩)) (u1.alloc (.cells #[.int .i64 0, .int .i64 0, .int .u64 0, .slice none 0 0] 113 (0, 0))) (by kernel_rfl) (by kernel_rfl) ?_
  replace hO := hide ((unhide hO).gr ((Gr.refl u1).alloc (.cells #[.int .i64 0, .int .i64 0, .int .u64 0, .slice none 0 0] 113 (0, 0))))
  replace hB := hB.new #[.int .i64 0, .int .i64 0, .int .u64 0, .slice none 0 0] 113
  simp only [List.nil_append, List.cons_append] at hB
  generalize World.alloc _ _ = u2 at *
  generalize u1.heap.size = q4 at *
  replace hB : Bl w [⟨w.heap.size, #[.int .i64 0, .int .i64 0, .int .u64 0, .slice none 0 0], 78⟩, ⟨q4, #[.int .i64 0, .int .i64 0, .int .u64 0, .slice none 0 0], 113⟩] u2 := hB
  simp only [Act.put, List.setIfInBounds_toArray, List.set_cons_zero, List.set_cons_succ, List.getElem_toArray, List.getElem_cons_zero, List.getElem_cons_succ]
  refine list_store 113 (.tmp 4) (.tmp 9) (q4) #[.int .i64 x1, .int .i64 x2, .int .u64 x3, .slice va vn vc] 113 #[.int .i64 0, .int .i64 0, .int .u64 0, .slice none 0 0] (by kernel_rfl) rfl (by kernel_rfl) (by kernel_rfl) (hB.get 1 (x := ⟨q4, #[.int .i64 0, .int .i64 0, .int .u64 0, .slice none 0 0], 113⟩) rfl) (by rw [Try.infoP]; rfl) rfl (by simp [Value.oneCell']) ?_
  have hbt := setRow_bt u2 (q4) #[.int .i64 x1, .int .i64 x2, .int .u64 x3, .slice va vn vc]
  have hq5 := (hB.get 1 (x := ⟨q4, #[.int .i64 0, .int .i64 0, .int .u64 0, .slice none 0 0], 113⟩) rfl)
  dsimp only at hq5
  replace hO := hide (ob_bt (unhide hO) hq5 (by decide) hbt)
  clear hbt hq5
  replace hB := hB.set 1 (x := ⟨q4, #[.int .i64 0, .int .i64 0, .int .u64 0, .slice none 0 0], 113⟩) rfl #[.int .i64 x1, .int .i64 x2, .int .u64 x3, .slice va vn vc]
  simp only [List.set_cons_zero, List.set_cons_succ] at hB
  generalize World.setRow _ _ _ = u3 at *
  replace hB : Bl w [⟨w.heap.size, #[.int .i64 0, .int .i64 0, .int .u64 0, .slice none 0 0], 78⟩, ⟨q4, #[.int .i64 x1, .int .i64 x2, .int .u64 x3, .slice va vn vc], 113⟩] u3 := hB
  simp only [Act.put, List.setIfInBounds_toArray, List.set_cons_zero, List.set_cons_succ, List.getElem_toArray, List.getElem_cons_zero, List.getElem_cons_succ]
  (refine wpList_step fun K hK => ?_; replace hK := hide hK; go_simp; refine unhide hK _ _ ?_; clear hK K)
  refine wpList_nil ?_
  replace hB := hide hB
  go_upto_region 2 with fail
  replace hB := unhide hB
  refine wp_region_lit ?_
  refine list_val (.pointer (some ⟨q4, 0, none⟩)) (by kernel_rfl) (by kernel_rfl) ?_
  simp only [Act.put, List.setIfInBounds_toArray, List.set_cons_zero, List.set_cons_succ, List.getElem_toArray, List.getElem_cons_zero, List.getElem_cons_succ]
  refine list_val (.int .i64 x1) (by kernel_rfl) (exec_i64 _ (.tmp 11) rfl q4 0 (by kernel_rfl) x1 (cell_of (hB.get 1 (x := ⟨q4, #[.int .i64 x1, .int .i64 x2, .int .u64 x3, .slice va vn vc], 113⟩) rfl) (i := 0) rfl)) ?_
  simp only [Act.put, List.setIfInBounds_toArray, List.set_cons_zero, List.set_cons_succ, List.getElem_toArray, List.getElem_cons_zero, List.getElem_cons_succ]
  refine list_val (.pointer (some ⟨q4, 1, none⟩)) (by kernel_rfl) (by kernel_rfl) ?_
  simp only [Act.put, List.setIfInBounds_toArray, List.set_cons_zero, List.set_cons_succ, List.getElem_toArray, List.getElem_cons_zero, List.getElem_cons_succ]
  refine list_val (.int .i64 x2) (by kernel_rfl) (exec_i64 _ (.tmp 13) rfl q4 1 (by kernel_rfl) x2 (cell_of (hB.get 1 (x := ⟨q4, #[.int .i64 x1, .int .i64 x2, .int .u64 x3, .slice va vn vc], 113⟩) rfl) (i := 1) rfl)) ?_
  simp only [Act.put, List.setIfInBounds_toArray, List.set_cons_zero, List.set_cons_succ, List.getElem_toArray, List.getElem_cons_zero, List.getElem_cons_succ]
  refine list_val (.pointer (some ⟨q4, 2, none⟩)) (by kernel_rfl) (by kernel_rfl) ?_
  simp only [Act.put, List.setIfInBounds_toArray, List.set_cons_zero, List.set_cons_succ, List.getElem_toArray, List.getElem_cons_zero, List.getElem_cons_succ]
  refine list_val (.int .u64 x3) (by kernel_rfl) (exec_u64 _ (.tmp 15) rfl q4 2 (by kernel_rfl) x3 (cell_of (hB.get 1 (x := ⟨q4, #[.int .i64 x1, .int .i64 x2, .int .u64 x3, .slice va vn vc], 113⟩) rfl) (i := 2) rfl)) ?_
  simp only [Act.put, List.setIfInBounds_toArray, List.set_cons_zero, List.set_cons_succ, List.getElem_toArray, List.getElem_cons_zero, List.getElem_cons_succ]
  refine list_val (.pointer (some ⟨q4, 3, none⟩)) (by kernel_rfl) (by kernel_rfl) ?_
  simp only [Act.put, List.setIfInBounds_toArray, List.set_cons_zero, List.set_cons_succ, List.getElem_toArray, List.getElem_cons_zero, List.getElem_cons_succ]
  refine list_val (.slice va vn vc) (by kernel_rfl) (exec_sby _ (.tmp 17) rfl q4 3 (by kernel_rfl) va vn vc (cell_of (hB.get 1 (x := ⟨q4, #[.int .i64 x1, .int .i64 x2, .int .u64 x3, .slice va vn vc], 113⟩) rfl) (i := 3) rfl)) ?_
  simp only [Act.put, List.setIfInBounds_toArray, List.set_cons_zero, List.set_cons_succ, List.getElem_toArray, List.getElem_cons_zero, List.getElem_cons_succ]
  refine list_val (.agg #[.int .i64 x1, .int .i64 x2, .int .u64 x3, .slice va vn vc]) (by kernel_rfl) (by kernel_rfl) ?_
  simp only [Act.put, List.setIfInBounds_toArray, List.set_cons_zero, List.set_cons_succ, List.getElem_toArray, List.getElem_cons_zero, List.getElem_cons_succ]
  refine list_val (.int .i64 0) (by kernel_rfl) (by kernel_rfl) ?_
  simp only [Act.put, List.setIfInBounds_toArray, List.set_cons_zero, List.set_cons_succ, List.getElem_toArray, List.getElem_cons_zero, List.getElem_cons_succ]
  refine list_store 78 (.tmp 2) (.tmp 19) (w.heap.size) #[.int .i64 x1, .int .i64 x2, .int .u64 x3, .slice va vn vc] 78 #[.int .i64 0, .int .i64 0, .int .u64 0, .slice none 0 0] (by kernel_rfl) rfl (by kernel_rfl) (by kernel_rfl) (hB.get 0 (x := ⟨w.heap.size, #[.int .i64 0, .int .i64 0, .int .u64 0, .slice none 0 0], 78⟩) rfl) (by rw [Try.infoU]; rfl) rfl (by simp [Value.oneCell']) ?_
  have hbt := setRow_bt u3 (w.heap.size) #[.int .i64 x1, .int .i64 x2, .int .u64 x3, .slice va vn vc]
  have hq5 := (hB.get 0 (x := ⟨w.heap.size, #[.int .i64 0, .int .i64 0, .int .u64 0, .slice none 0 0], 78⟩) rfl)
  dsimp only at hq5
  replace hO := hide (ob_bt (unhide hO) hq5 (by decide) hbt)
  clear hbt hq5
  replace hB := hB.set 0 (x := ⟨w.heap.size, #[.int .i64 0, .int .i64 0, .int .u64 0, .slice none 0 0], 78⟩) rfl #[.int .i64 x1, .int .i64 x2, .int .u64 x3, .slice va vn vc]
  simp only [List.set_cons_zero, List.set_cons_succ] at hB
  generalize World.setRow _ _ _ = u4 at *
  replace hB : Bl w [⟨w.heap.size, #[.int .i64 x1, .int .i64 x2, .int .u64 x3, .slice va vn vc], 78⟩, ⟨q4, #[.int .i64 x1, .int .i64 x2, .int .u64 x3, .slice va vn vc], 113⟩] u4 := hB
  simp only [Act.put, List.setIfInBounds_toArray, List.set_cons_zero, List.set_cons_succ, List.getElem_toArray, List.getElem_cons_zero, List.getElem_cons_succ]
  (refine wpList_step fun K hK => ?_; replace hK := hide hK; go_simp; refine unhide hK _ _ ?_; clear hK K)
  refine wpList_nil ?_
  have hbk : Hid (u4.heap[w.heap.size]? = some (.cells #[.int .i64 x1, .int .i64 x2, .int .u64 x3, .slice va vn vc] 78 (0, 0))) := (hB.get 0 (x := ⟨w.heap.size, #[.int .i64 x1, .int .i64 x2, .int .u64 x3, .slice va vn vc], 78⟩) rfl)
  have hP : Hid (T (.returned (.tuple #[.agg #[.int .i64 x1, .int .i64 x2, .int .u64 x3, .slice va vn vc], .int .i64 0])) u4) := by
    rw [unhide hT]
    exact ⟨_, rfl, unhide hO, hB.gr⟩
  clear hB
  go_wp2_with fail
  exact bodyPost_ret (v := .tuple #[.agg #[.int .i64 x1, .int .i64 x2, .int .u64 x3, .slice va vn vc], .int .i64 0]) (results_cell_tmp Try.results42 _ _ (w.heap.size) 78 #[.int .i64 x1, .int .i64 x2, .int .u64 x3, .slice va vn vc] (0, 0) _ rfl (.int .i64 0) rfl (unhide hbk) Try.underlying78 rfl (by rw [Try.infoU]; rfl)) rfl (unhide hP)
set_option maxHeartbeats 4000000 in
theorem fgetup_bad (L : List Int) (a : Option Addr) (m c : Nat) (hS : onS ((m : Int) - 11) = true) (hF : L.getD 0 0 ≠ 2 ∨ pkE L = false) (w : World) (hB0 : Lb w a m c L) : Calls Try.prog 42 #[.slice a m c] w (Rno #[.int .i64 0, .int .i64 0, .int .u64 0, .slice none 0 0] 241 w) := by
  obtain ⟨T, hT⟩ : ∃ T, T = Rno #[.int .i64 0, .int .i64 0, .int .u64 0, .slice none 0 0] 241 w := ⟨_, rfl⟩
  rw [← hT]
  replace hT := hide hT
  replace hB0 := hide hB0
  go_enter Try.func42, Try.ntmps42
  go_upto_region 1 with fail
  have hB := ((Bl.nil w).new #[.int .i64 0, .int .i64 0, .int .u64 0, .slice none 0 0] 78)
  simp only [size_alloc, List.nil_append, List.cons_append] at hB
  generalize World.alloc _ _ = u at *
  replace hB : Bl w [⟨w.heap.size, #[.int .i64 0, .int .i64 0, .int .u64 0, .slice none 0 0], 78⟩] u := hB
  refine wp_region_lit ?_
  refine list_val (.slice a m c) (by kernel_rfl) (by kernel_rfl) ?_
  simp only [Act.put, List.setIfInBounds_toArray, List.set_cons_zero, List.set_cons_succ, List.getElem_toArray, List.getElem_cons_zero, List.getElem_cons_succ]
  refine list_call 69 #[.slice a m c, .int .i64 2, .func (.func 48) #[] #[]] (by kernel_rfl) (by kernel_rfl) ((pof_up_bad L a m c hS hF u ((unhide hB0).gr hB.gr)).mono ?_)
  rintro r u1 ⟨rfl, hg1⟩
  replace hB := hB.more hg1
  clear hg1
  refine ⟨_, rfl, ?_⟩
  simp only [Act.put, List.setIfInBounds_toArray, List.set_cons_zero, List.set_cons_succ, List.getElem_toArray, List.getElem_cons_zero, List.getElem_cons_succ]
  refine list_val (.tuple #[.agg #[.int .i64 0, .int .i64 0, .int .u64 0, .slice none 0 0], .int .i64 241]) (by kernel_rfl) (by kernel_rfl) ?_
  simp only [Act.put, List.setIfInBounds_toArray, List.set_cons_zero, List.set_cons_succ, List.getElem_toArray, List.getElem_cons_zero, List.getElem_cons_succ]
  refine list_val (.agg #[.int .i64 0, .int .i64 0, .int .u64 0, .slice none 0 0]) (by kernel_rfl) (by kernel_rfl) ?_
  simp only [Act.put, List.setIfInBounds_toArray, List.set_cons_zero, List.set_cons_succ, List.getElem_toArray, List.getElem_cons_zero, List.getElem_cons_succ]
  refine list_val (.int .i64 241) (by kernel_rfl) (by kernel_rfl) ?_
  simp only [Act.put, List.setIfInBounds_toArray, List.set_cons_zero, List.set_cons_succ, List.getElem_toArray, List.getElem_cons_zero, List.getElem_cons_succ]
  refine list_valw (.pointer (some ⟨u1.heap.size, 0, none⟩)) (u1.alloc (.cells #[.int .i64 0, .int .i64 0, .int .u64 0, .slice none 0 0] 113 (0, 0))) (by kernel_rfl) (by kernel_rfl) ?_
  skip
  replace hB := hB.new #[.int .i64 0, .int .i64 0, .int .u64 0, .slice none 0 0] 113
  simp only [List.nil_append, List.cons_append] at hB
  generalize World.alloc _ _ = u2 at *
  generalize u1.heap.size = q4 at *
  replace hB : Bl w [⟨w.heap.size, #[.int .i64 0, .int .i64 0, .int .u64 0, .slice none 0 0], 78⟩, ⟨q4, #[.int .i64 0, .int .i64 0, .int .u64 0, .slice none 0 0], 113⟩] u2 := hB
  simp only [Act.put, List.setIfInBounds_toArray, List.set_cons_zero, List.set_cons_succ, List.getElem_toArray, List.getElem_cons_zero, List.getElem_cons_succ]
  refine list_store 113 (.tmp 4) (.tmp 9) (q4) #[.int .i64 0, .int .i64 0, .int .u64 0, .slice none 0 0] 113 #[.int .i64 0, .int .i64 0, .int .u64 0, .slice none 0 0] (by kernel_rfl) rfl (by kernel_rfl) (by kernel_rfl) (hB.get 1 (x := ⟨q4, #[.int .i64 0, .int .i64 0, .int .u64 0, .slice none 0 0], 113⟩) rfl) (by rw [Try.infoP]; rfl) rfl (by simp [Value.oneCell']) ?_
  replace hB := hB.set 1 (x := ⟨q4, #[.int .i64 0, .int .i64 0, .int .u64 0, .slice none 0 0], 113⟩) rfl #[.int .i64 0, .int .i64 0, .int .u64 0, .slice none 0 0]
  simp only [List.set_cons_zero, List.set_cons_succ] at hB
  generalize World.setRow _ _ _ = u3 at *
  replace hB : Bl w [⟨w.heap.size, #[.int .i64 0, .int .i64 0, .int .u64 0, .slice none 0 0], 78⟩, ⟨q4, #[.int .i64 0, .int .i64 0, .int .u64 0, .slice none 0 0], 113⟩] u3 := hB
  simp only [Act.put, List.setIfInBounds_toArray, List.set_cons_zero, List.set_cons_succ, List.getElem_toArray, List.getElem_cons_zero, List.getElem_cons_succ]
  (refine wpList_step fun K hK => ?_; replace hK := hide hK; go_simp; refine unhide hK _ _ ?_; clear hK K)
  refine wpList_nil ?_
  replace hB := hide hB
  go_upto_region 2 with fail
  replace hB := unhide hB
  refine wp_region_lit ?_
  refine list_val (.pointer (some ⟨q4, 0, none⟩)) (by kernel_rfl) (by kernel_rfl) ?_
  simp only [Act.put, List.setIfInBounds_toArray, List.set_cons_zero, List.set_cons_succ, List.getElem_toArray, List.getElem_cons_zero, List.getElem_cons_succ]
  refine list_val (.int .i64 0) (by kernel_rfl) (exec_i64 _ (.tmp 11) rfl q4 0 (by kernel_rfl) 0 (cell_of (hB.get 1 (x := ⟨q4, #[.int .i64 0, .int .i64 0, .int .u64 0, .slice none 0 0], 113⟩) rfl) (i := 0) rfl)) ?_
  simp only [Act.put, List.setIfInBounds_toArray, List.set_cons_zero, List.set_cons_succ, List.getElem_toArray, List.getElem_cons_zero, List.getElem_cons_succ]
  refine list_val (.pointer (some ⟨q4, 1, none⟩)) (by kernel_rfl) (by kernel_rfl) ?_
  simp only [Act.put, List.setIfInBounds_toArray, List.set_cons_zero, List.set_cons_succ, List.getElem_toArray, List.getElem_cons_zero, List.getElem_cons_succ]
  refine list_val (.int .i64 0) (by kernel_rfl) (exec_i64 _ (.tmp 13) rfl q4 1 (by kernel_rfl) 0 (cell_of (hB.get 1 (x := ⟨q4, #[.int .i64 0, .int .i64 0, .int .u64 0, .slice none 0 0], 113⟩) rfl) (i := 1) rfl)) ?_
  simp only [Act.put, List.setIfInBounds_toArray, List.set_cons_zero, List.set_cons_succ, List.getElem_toArray, List.getElem_cons_zero, List.getElem_cons_succ]
  refine list_val (.pointer (some ⟨q4, 2, none⟩)) (by kernel_rfl) (by kernel_rfl) ?_
  simp only [Act.put, List.setIfInBounds_toArray, List.set_cons_zero, List.set_cons_succ, List.getElem_toArray, List.getElem_cons_zero, List.getElem_cons_succ]
  refine list_val (.int .u64 0) (by kernel_rfl) (exec_u64 _ (.tmp 15) rfl q4 2 (by kernel_rfl) 0 (cell_of (hB.get 1 (x := ⟨q4, #[.int .i64 0, .int .i64 0, .int .u64 0, .slice none 0 0], 113⟩) rfl) (i := 2) rfl)) ?_
  simp only [Act.put, List.setIfInBounds_toArray, List.set_cons_zero, List.set_cons_succ, List.getElem_toArray, List.getElem_cons_zero, List.getElem_cons_succ]
  refine list_val (.pointer (some ⟨q4, 3, none⟩)) (by kernel_rfl) (by kernel_rfl) ?_
  simp only [Act.put, List.setIfInBounds_toArray, List.set_cons_zero, List.set_cons_succ, List.getElem_toArray, List.getElem_cons_zero, List.getElem_cons_succ]
  refine list_val (.slice none 0 0) (by kernel_rfl) (exec_sby _ (.tmp 17) rfl q4 3 (by kernel_rfl) none 0 0 (cell_of (hB.get 1 (x := ⟨q4, #[.int .i64 0, .int .i64 0, .int .u64 0, .slice none 0 0], 113⟩) rfl) (i := 3) rfl)) ?_
  simp only [Act.put, List.setIfInBounds_toArray, List.set_cons_zero, List.set_cons_succ, List.getElem_toArray, List.getElem_cons_zero, List.getElem_cons_succ]
  refine list_val (.agg #[.int .i64 0, .int .i64 0, .int .u64 0, .slice none 0 0]) (by kernel_rfl) (by kernel_rfl) ?_
  simp only [Act.put, List.setIfInBounds_toArray, List.set_cons_zero, List.set_cons_succ, List.getElem_toArray, List.getElem_cons_zero, List.getElem_cons_succ]
  refine list_val (.int .i64 241) (by kernel_rfl) (by kernel_rfl) ?_
  simp only [Act.put, List.setIfInBounds_toArray, List.set_cons_zero, List.set_cons_succ, List.getElem_toArray, List.getElem_cons_zero, List.getElem_cons_succ]
  refine list_store 78 (.tmp 2) (.tmp 19) (w.heap.size) #[.int .i64 0, .int .i64 0, .int .u64 0, .slice none 0 0] 78 #[.int .i64 0, .int .i64 0, .int .u64 0, .slice none 0 0] (by kernel_rfl) rfl (by kernel_rfl) (by kernel_rfl) (hB.get 0 (x := ⟨w.heap.size, #[.int .i64 0, .int .i64 0, .int .u64 0, .slice none 0 0], 78⟩) rfl) (by rw [Try.infoU]; rfl) rfl (by simp [Value.oneCell']) ?_
  replace hB := hB.set 0 (x := ⟨w.heap.size, #[.int .i64 0, .int .i64 0, .int .u64 0, .slice none 0 0], 78⟩) rfl #[.int .i64 0, .int .i64 0, .int .u64 0, .slice none 0 0]
  simp only [List.set_cons_zero, List.set_cons_succ] at hB
  generalize World.setRow _ _ _ = u4 at *
  replace hB : Bl w [⟨w.heap.size, #[.int .i64 0, .int .i64 0, .int .u64 0, .slice none 0 0], 78⟩, ⟨q4, #[.int .i64 0, .int .i64 0, .int .u64 0, .slice none 0 0], 113⟩] u4 := hB
  simp only [Act.put, List.setIfInBounds_toArray, List.set_cons_zero, List.set_cons_succ, List.getElem_toArray, List.getElem_cons_zero, List.getElem_cons_succ]
  (refine wpList_step fun K hK => ?_; replace hK := hide hK; go_simp; refine unhide hK _ _ ?_; clear hK K)
  refine wpList_nil ?_
  have hbk : Hid (u4.heap[w.heap.size]? = some (.cells #[.int .i64 0, .int .i64 0, .int .u64 0, .slice none 0 0] 78 (0, 0))) := (hB.get 0 (x := ⟨w.heap.size, #[.int .i64 0, .int .i64 0, .int .u64 0, .slice none 0 0], 78⟩) rfl)
  have hP : Hid (T (.returned (.tuple #[.agg #[.int .i64 0, .int .i64 0, .int .u64 0, .slice none 0 0], .int .i64 241])) u4) := by
    rw [unhide hT]
    exact ⟨rfl, hB.gr⟩
  clear hB
  go_wp2_with fail
  exact bodyPost_ret (v := .tuple #[.agg #[.int .i64 0, .int .i64 0, .int .u64 0, .slice none 0 0], .int .i64 241]) (results_cell_tmp Try.results42 _ _ (w.heap.size) 78 #[.int .i64 0, .int .i64 0, .int .u64 0, .slice none 0 0] (0, 0) _ rfl (.int .i64 241) rfl (unhide hbk) Try.underlying78 rfl (by rw [Try.infoU]; rfl)) rfl (unhide hP)
set_option maxHeartbeats 4000000 in
theorem fgetdn_no (a : Option Addr) (m c : Nat) (hm : m < 9223372036854775808) (hS : rpS ((m : Int) - 11) = false) (w : World) : Calls Try.prog 43 #[.slice a m c] w (Rno #[.int .i64 0, .int .i64 0, .int .u64 0, .slice none 0 0] 240 w) := by
  obtain ⟨T, hT⟩ : ∃ T, T = Rno #[.int .i64 0, .int .i64 0, .int .u64 0, .slice none 0 0] 240 w := ⟨_, rfl⟩
  rw [← hT]
  replace hT := hide hT
  go_enter Try.func43, Try.ntmps43
  go_upto_region 1 with fail
  have hB := ((Bl.nil w).new #[.int .i64 0, .int .i64 0, .int .u64 0, .slice none 0 0] 80)
  simp only [size_alloc, List.nil_append, List.cons_append] at hB
  generalize World.alloc _ _ = u at *
  replace hB : Bl w [⟨w.heap.size, #[.int .i64 0, .int .i64 0, .int .u64 0, .slice none 0 0], 80⟩] u := hB
  refine wp_region_lit ?_
  refine list_val (.slice a m c) (by kernel_rfl) (by kernel_rfl) ?_
  simp only [Act.put, List.setIfInBounds_toArray, List.set_cons_zero, List.set_cons_succ, List.getElem_toArray, List.getElem_cons_zero, List.getElem_cons_succ]
  refine list_call 69 #[.slice a m c, .int .i64 3, .func (.func 49) #[] #[]] (by kernel_rfl) (by kernel_rfl) ((pof_dn_no a m c hm hS u).mono ?_)
  rintro r u1 ⟨rfl, hg1⟩
  replace hB := hB.more hg1
  clear hg1
  refine ⟨_, rfl, ?_⟩
  simp only [Act.put, List.setIfInBounds_toArray, List.set_cons_zero, List.set_cons_succ, List.getElem_toArray, List.getElem_cons_zero, List.getElem_cons_succ]
  refine list_val (.tuple #[.agg #[.int .i64 0, .int .i64 0, .int .u64 0, .slice none 0 0], .int .i64 240]) (by kernel_rfl) (by kernel_rfl) ?_
  simp only [Act.put, List.setIfInBounds_toArray, List.set_cons_zero, List.set_cons_succ, List.getElem_toArray, List.getElem_cons_zero, List.getElem_cons_succ]
  refine list_val (.agg #[.int .i64 0, .int .i64 0, .int .u64 0, .slice none 0 0]) (by kernel_rfl) (by kernel_rfl) ?_
  simp only [Act.put, List.setIfInBounds_toArray, List.set_cons_zero, List.set_cons_succ, List.getElem_toArray, List.getElem_cons_zero, List.getElem_cons_succ]
  refine list_val (.int .i64 240) (by kernel_rfl) (by kernel_rfl) ?_
  simp only [Act.put, List.setIfInBounds_toArray, List.set_cons_zero, List.set_cons_succ, List.getElem_toArray, List.getElem_cons_zero, List.getElem_cons_succ]
  refine list_valw (.pointer (some ⟨u1.heap.size, 0, none⟩)) (u1.alloc (.cells #[.int .i64 0, .int .i64 0, .int .u64 0, .slice none 0 0] 113 (0, 0))) (by kernel_rfl) (by kernel_rfl) ?_
  skip
  replace hB := hB.new #[.int .i64 0, .int .i64 0, .int .u64 0, .slice none 0 0] 113
  simp only [List.nil_append, List.cons_append] at hB
  generalize World.alloc _ _ = u2 at *
  generalize u1.heap.size = q4 at *
  replace hB : Bl w [⟨w.heap.size, #[.int .i64 0, .int .i64 0, .int .u64 0, .slice none 0 0], 80⟩, ⟨q4, #[.int .i64 0, .int .i64 0, .int .u64 0, .slice none 0 0], 113⟩] u2 := hB
  simp only [Act.put, List.setIfInBounds_toArray, List.set_cons_zero, List.set_cons_succ, List.getElem_toArray, List.getElem_cons_zero, List.getElem_cons_succ]
  refine list_store 113 (.tmp 4) (.tmp 9) (q4) #[.int .i64 0, .int .i64 0, .int .u64 0, .slice none 0 0] 113 #[.int .i64 0, .int .i64 0, .int .u64 0, .slice none 0 0] (by kernel_rfl) rfl (by kernel_rfl) (by kernel_rfl) (hB.get 1 (x := ⟨q4, #[.int .i64 0, .int .i64 0, .int .u64 0, .slice none 0 0], 113⟩) rfl) (by rw [Try.infoP]; rfl) rfl (by simp [Value.oneCell']) ?_
  replace hB := hB.set 1 (x := ⟨q4, #[.int .i64 0, .int .i64 0, .int .u64 0, .slice none 0 0], 113⟩) rfl #[.int .i64 0, .int .i64 0, .int .u64 0, .slice none 0 0]
  simp only [List.set_cons_zero, List.set_cons_succ] at hB
  generalize World.setRow _ _ _ = u3 at *
  replace hB : Bl w [⟨w.heap.size, #[.int .i64 0, .int .i64 0, .int .u64 0, .slice none 0 0], 80⟩, ⟨q4, #[.int .i64 0, .int .i64 0, .int .u64 0, .slice none 0 0], 113⟩] u3 := hB
  simp only [Act.put, List.setIfInBounds_toArray, List.set_cons_zero, List.set_cons_succ, List.getElem_toArray, List.getElem_cons_zero, List.getElem_cons_succ]
  (refine wpList_step fun K hK => ?_; replace hK := hide hK; go_simp; refine unhide hK _ _ ?_; clear hK K)
  refine wpList_nil ?_
  replace hB := hide hB
  go_upto_region 2 with fail
  replace hB := unhide hB
  refine wp_region_lit ?_
  refine list_val (.pointer (some ⟨q4, 0, none⟩)) (by kernel_rfl) (by kernel_rfl) ?_
  simp only [Act.put, List.setIfInBounds_toArray, List.set_cons_zero, List.set_cons_succ, List.getElem_toArray, List.getElem_cons_zero, List.getElem_cons_succ]
  refine list_val (.int .i64 0) (by kernel_rfl) (exec_i64 _ (.tmp 11) rfl q4 0 (by kernel_rfl) 0 (cell_of (hB.get 1 (x := ⟨q4, #[.int .i64 0, .int .i64 0, .int .u64 0, .slice none 0 0], 113⟩) rfl) (i := 0) rfl)) ?_
  simp only [Act.put, List.setIfInBounds_toArray, List.set_cons_zero, List.set_cons_succ, List.getElem_toArray, List.getElem_cons_zero, List.getElem_cons_succ]
  refine list_val (.pointer (some ⟨q4, 1, none⟩)) (by kernel_rfl) (by kernel_rfl) ?_
  simp only [Act.put, List.setIfInBounds_toArray, List.set_cons_zero, List.set_cons_succ, List.getElem_toArray, List.getElem_cons_zero, List.getElem_cons_succ]
  refine list_val (.int .i64 0) (by kernel_rfl) (exec_i64 _ (.tmp 13) rfl q4 1 (by kernel_rfl) 0 (cell_of (hB.get 1 (x := ⟨q4, #[.int .i64 0, .int .i64 0, .int .u64 0, .slice none 0 0], 113⟩) rfl) (i := 1) rfl)) ?_
  simp only [Act.put, List.setIfInBounds_toArray, List.set_cons_zero, List.set_cons_succ, List.getElem_toArray, List.getElem_cons_zero, List.getElem_cons_succ]
  refine list_val (.pointer (some ⟨q4, 2, none⟩)) (by kernel_rfl) (by kernel_rfl) ?_
  simp only [Act.put, List.setIfInBounds_toArray, List.set_cons_zero, List.set_cons_succ, List.getElem_toArray, List.getElem_cons_zero, List.getElem_cons_succ]
  refine list_val (.int .u64 0) (by kernel_rfl) (exec_u64 _ (.tmp 15) rfl q4 2 (by kernel_rfl) 0 (cell_of (hB.get 1 (x := ⟨q4, #[.int .i64 0, .int .i64 0, .int .u64 0, .slice none 0 0], 113⟩) rfl) (i := 2) rfl)) ?_
  simp only [Act.put, List.setIfInBounds_toArray, List.set_cons_zero, List.set_cons_succ, List.getElem_toArray, List.getElem_cons_zero, List.getElem_cons_succ]
  refine list_val (.pointer (some ⟨q4, 3, none⟩)) (by kernel_rfl) (by kernel_rfl) ?_
  simp only [Act.put, List.setIfInBounds_toArray, List.set_cons_zero, List.set_cons_succ, List.getElem_toArray, List.getElem_cons_zero, List.getElem_cons_succ]
  refine list_val (.slice none 0 0) (by kernel_rfl) (exec_sby _ (.tmp 17) rfl q4 3 (by kernel_rfl) none 0 0 (cell_of (hB.get 1 (x := ⟨q4, #[.int .i64 0, .int .i64 0, .int .u64 0, .slice none 0 0], 113⟩) rfl) (i := 3) rfl)) ?_
  simp only [Act.put, List.setIfInBounds_toArray, List.set_cons_zero, List.set_cons_succ, List.getElem_toArray, List.getElem_cons_zero, List.getElem_cons_succ]
  refine list_val (.agg #[.int .i64 0, .int .i64 0, .int .u64 0, .slice none 0 0]) (by kernel_rfl) (by kernel_rfl) ?_
  simp only [Act.put, List.setIfInBounds_toArray, List.set_cons_zero, List.set_cons_succ, List.getElem_toArray, List.getElem_cons_zero, List.getElem_cons_succ]
  refine list_val (.int .i64 240) (by kernel_rfl) (by kernel_rfl) ?_
  simp only [Act.put, List.setIfInBounds_toArray, List.set_cons_zero, List.set_cons_succ, List.getElem_toArray, List.getElem_cons_zero, List.getElem_cons_succ]
  refine list_store 80 (.tmp 2) (.tmp 19) (w.heap.size) #[.int .i64 0, .int .i64 0, .int .u64 0, .slice none 0 0] 80 #[.int .i64 0, .int .i64 0, .int .u64 0, .slice none 0 0] (by kernel_rfl) rfl (by kernel_rfl) (by kernel_rfl) (hB.get 0 (x := ⟨w.heap.size, #[.int .i64 0, .int .i64 0, .int .u64 0, .slice none 0 0], 80⟩) rfl) (by rw [Try.infoD]; rfl) rfl (by simp [Value.oneCell']) ?_
  replace hB := hB.set 0 (x := ⟨w.heap.size, #[.int .i64 0, .int .i64 0, .int .u64 0, .slice none 0 0], 80⟩) rfl #[.int .i64 0, .int .i64 0, .int .u64 0, .slice none 0 0]
  simp only [List.set_cons_zero, List.set_cons_succ] at hB
  generalize World.setRow _ _ _ = u4 at *
  replace hB : Bl w [⟨w.heap.size, #[.int .i64 0, .int .i64 0, .int .u64 0, .slice none 0 0], 80⟩, ⟨q4, #[.int .i64 0, .int .i64 0, .int .u64 0, .slice none 0 0], 113⟩] u4 := hB
  simp only [Act.put, List.setIfInBounds_toArray, List.set_cons_zero, List.set_cons_succ, List.getElem_toArray, List.getElem_cons_zero, List.getElem_cons_succ]
  (refine wpList_step fun K hK => ?_; replace hK := hide hK; go_simp; refine unhide hK _ _ ?_; clear hK K)
  refine wpList_nil ?_
  have hbk : Hid (u4.heap[w.heap.size]? = some (.cells #[.int .i64 0, .int .i64 0, .int .u64 0, .slice none 0 0] 80 (0, 0))) := (hB.get 0 (x := ⟨w.heap.size, #[.int .i64 0, .int .i64 0, .int .u64 0, .slice none 0 0], 80⟩) rfl)
  have hP : Hid (T (.returned (.tuple #[.agg #[.int .i64 0, .int .i64 0, .int .u64 0, .slice none 0 0], .int .i64 240])) u4) := by
    rw [unhide hT]
    exact ⟨rfl, hB.gr⟩
  clear hB
  go_wp2_with fail
  exact bodyPost_ret (v := .tuple #[.agg #[.int .i64 0, .int .i64 0, .int .u64 0, .slice none 0 0], .int .i64 240]) (results_cell_tmp Try.results43 _ _ (w.heap.size) 80 #[.int .i64 0, .int .i64 0, .int .u64 0, .slice none 0 0] (0, 0) _ rfl (.int .i64 240) rfl (unhide hbk) Try.underlying80 rfl (by rw [Try.infoD]; rfl)) rfl (unhide hP)
set_option maxHeartbeats 4000000 in
theorem fgetdn_ok (L : List Int) (a : Option Addr) (m c : Nat) (hS : rpS ((m : Int) - 11) = true) (hF : L.getD 0 0 = 3) (hE : pkE L = true) (w : World) (hB0 : Lb w a m c L) : Calls Try.prog 43 #[.slice a m c] w (Gok L w) := by
  obtain ⟨T, hT⟩ : ∃ T, T = Gok L w := ⟨_, rfl⟩
  rw [← hT]
  replace hT := hide hT
  replace hB0 := hide hB0
  go_enter Try.func43, Try.ntmps43
  go_upto_region 1 with fail
  have hB := ((Bl.nil w).new #[.int .i64 0, .int .i64 0, .int .u64 0, .slice none 0 0] 80)
  simp only [size_alloc, List.nil_append, List.cons_append] at hB
  generalize World.alloc _ _ = u at *
  replace hB : Bl w [⟨w.heap.size, #[.int .i64 0, .int .i64 0, .int .u64 0, .slice none 0 0], 80⟩] u := hB
  refine wp_region_lit ?_
  refine list_val (.slice a m c) (by kernel_rfl) (by kernel_rfl) ?_
  simp only [Act.put, List.setIfInBounds_toArray, List.set_cons_zero, List.set_cons_succ, List.getElem_toArray, List.getElem_cons_zero, List.getElem_cons_succ]
  refine list_call 69 #[.slice a m c, .int .i64 3, .func (.func 49) #[] #[]] (by kernel_rfl) (by kernel_rfl) ((pof_dn_ok L a m c hS hF hE u ((unhide hB0).gr hB.gr)).mono ?_)
  rintro r u1 ⟨v, rfl, hO, hg1⟩
  have hO2 := ob_base hO hB.gr.size
  clear hO
  obtain ⟨va, vc, rfl, _⟩ := ob_lb hO2 (isB_drop (unhide hB0).isB 11) rfl
  replace hO := hide hO2
  clear hO2
  replace hB := hB.more hg1
  clear hg1
  unfold Gok pkv at hT
  unfold pkv
  generalize L.getD 1 0 = x1 at *
  generalize L.getD 2 0 = x2 at *
  generalize lowN ((L.drop 3).take 8) = x3 at *
  generalize (L.drop 11).length = vn at *
  refine ⟨_, rfl, ?_⟩
  simp only [Act.put, List.setIfInBounds_toArray, List.set_cons_zero, List.set_cons_succ, List.getElem_toArray, List.getElem_cons_zero, List.getElem_cons_succ]
  refine list_val (.tuple #[.agg #[.int .i64 x1, .int .i64 x2, .int .u64 x3, .slice va vn vc], .int .i64 0]) (by kernel_rfl) (by kernel_rfl) ?_
  simp only [Act.put, List.setIfInBounds_toArray, List.set_cons_zero, List.set_cons_succ, List.getElem_toArray, List.getElem_cons_zero, List.getElem_cons_succ]
  refine list_val (.agg #[.int .i64 x1, .int .i64 x2, .int .u64 x3, .slice va vn vc]) (by kernel_rfl) (by kernel_rfl) ?_
  simp only [Act.put, List.setIfInBounds_toArray, List.set_cons_zero, List.set_cons_succ, List.getElem_toArray, List.getElem_cons_zero, List.getElem_cons_succ]
  refine list_val (.int .i64 0) (by kernel_rfl) (by kernel_rfl) ?_
  simp only [Act.put, List.setIfInBounds_toArray, List.set_cons_zero, List.set_cons_succ, List.getElem_toArray, List.getElem_cons_zero, List.getElem_cons_succ]
  refine list_valw (.pointer (some ⟨u1.heap.size, 0, none⟩)) (u1.alloc (.cells #[.int .i64 0, .int .i64 0, .int .u64 0, .slice none 0 0] 113 (0, 0))) (by kernel_rfl) (by kernel_rfl) ?_
  replace hO := hide ((unhide hO).gr ((Gr.refl u1).alloc (.cells #[.int .i64 0, .int .i64 0, .int .u64 0, .slice none 0 0] 113 (0, 0))))
  replace hB := hB.new #[.int .i64 0, .int .i64 0, .int .u64 0, .slice none 0 0] 113
  simp only [List.nil_append, List.cons_append] at hB
  generalize World.alloc _ _ = u2 at *
  generalize u1.heap.size = q4 at *
  replace hB : Bl w [⟨w.heap.size, #[.int .i64 0, .int .i64 0, .int .u64 0, .slice none 0 0], 80⟩, ⟨q4, #[.int .i64 0, .int .i64 0, .int .u64 0, .slice none 0 0], 113⟩] u2 := hB
  simp only [Act.put, List.setIfInBounds_toArray, List.set_cons_zero, List.set_cons_succ, List.getElem_toArray, List.getElem_cons_zero, List.getElem_cons_succ]
  refine list_store 113 (.tmp 4) (.tmp 9) (q4) #[.int .i64 x1, .int .i64 x2, .int .u64 x3, .slice va vn vc] 113 #[.int .i64 0, .int .i64 0, .int .u64 0, .slice none 0 0] (by kernel_rfl) rfl (by kernel_rfl) (by kernel_rfl) (hB.get 1 (x := ⟨q4, #[.int .i64 0, .int .i64 0, .int .u64 0, .slice none 0 0], 113⟩) rfl) (by rw [Try.infoP]; rfl) rfl (by simp [Value.oneCell']) ?_
  have hbt := setRow_bt u2 (q4) #[.int .i64 x1, .int .i64 x2, .int .u64 x3, .slice va vn vc]
  have hq5 := (hB.get 1 (x := ⟨q4, #[.int .i64 0, .int .i64 0, .int .u64 0, .slice none 0 0], 113⟩) rfl)
  dsimp only at hq5
  replace hO := hide (ob_bt (unhide hO) hq5 (by decide) hbt)
  clear hbt hq5
  replace hB := hB.set 1 (x := ⟨q4, #[.int .i64 0, .int .i64 0, .int .u64 0, .slice none 0 0], 113⟩) rfl #[.int .i64 x1, .int .i64 x2, .int .u64 x3, .slice va vn vc]
  simp only [List.set_cons_zero, List.set_cons_succ] at hB
  generalize World.setRow _ _ _ = u3 at *
  replace hB : Bl w [⟨w.heap.size, #[.int .i64 0, .int .i64 0, .int .u64 0, .slice none 0 0], 80⟩, ⟨q4, #[.int .i64 x1, .int .i64 x2, .int .u64 x3, .slice va vn vc], 113⟩] u3 := hB
  simp only [Act.put, List.setIfInBounds_toArray, List.set_cons_zero, List.set_cons_succ, List.getElem_toArray, List.getElem_cons_zero, List.getElem_cons_succ]
  (refine wpList_step fun K hK => ?_; replace hK := hide hK; go_simp; refine unhide hK _ _ ?_; clear hK K)
  refine wpList_nil ?_
  replace hB := hide hB
  go_upto_region 2 with fail
  replace hB := unhide hB
  refine wp_region_lit ?_
  refine list_val (.pointer (some ⟨q4, 0, none⟩)) (by kernel_rfl) (by kernel_rfl) ?_
  simp only [Act.put, List.setIfInBounds_toArray, List.set_cons_zero, List.set_cons_succ, List.getElem_toArray, List.getElem_cons_zero, List.getElem_cons_succ]
  refine list_val (.int .i64 x1) (by kernel_rfl) (exec_i64 _ (.tmp 11) rfl q4 0 (by kernel_rfl) x1 (cell_of (hB.get 1 (x := ⟨q4, #[.int .i64 x1, .int .i64 x2, .int .u64 x3, .slice va vn vc], 113⟩) rfl) (i := 0) rfl)) ?_
  simp only [Act.put, List.setIfInBounds_toArray, List.set_cons_zero, List.set_cons_succ, List.getElem_toArray, List.getElem_cons_zero, List.getElem_cons_succ]
  refine list_val (.pointer (some ⟨q4, 1, none⟩)) (by kernel_rfl) (by kernel_rfl) ?_
  simp only [Act.put, List.setIfInBounds_toArray, List.set_cons_zero, List.set_cons_succ, List.getElem_toArray, List.getElem_cons_zero, List.getElem_cons_succ]
  refine list_val (.int .i64 x2) (by kernel_rfl) (exec_i64 _ (.tmp 13) rfl q4 1 (by kernel_rfl) x2 (cell_of (hB.get 1 (x := ⟨q4, #[.int .i64 x1, .int .i64 x2, .int .u64 x3, .slice va vn vc], 113⟩) rfl) (i := 1) rfl)) ?_
  simp only [Act.put, List.setIfInBounds_toArray, List.set_cons_zero, List.set_cons_succ, List.getElem_toArray, List.getElem_cons_zero, List.getElem_cons_succ]
  refine list_val (.pointer (some ⟨q4, 2, none⟩)) (by kernel_rfl) (by kernel_rfl) ?_
  simp only [Act.put, List.setIfInBounds_toArray, List.set_cons_zero, List.set_cons_succ, List.getElem_toArray, List.getElem_cons_zero, List.getElem_cons_succ]
  refine list_val (.int .u64 x3) (by kernel_rfl) (exec_u64 _ (.tmp 15) rfl q4 2 (by kernel_rfl) x3 (cell_of (hB.get 1 (x := ⟨q4, #[.int .i64 x1, .int .i64 x2, .int .u64 x3, .slice va vn vc], 113⟩) rfl) (i := 2) rfl)) ?_
  simp only [Act.put, List.setIfInBounds_toArray, List.set_cons_zero, List.set_cons_succ, List.getElem_toArray, List.getElem_cons_zero, List.getElem_cons_succ]
  refine list_val (.pointer (some ⟨q4, 3, none⟩)) (by kernel_rfl) (by kernel_rfl) ?_
  simp only [Act.put, List.setIfInBounds_toArray, List.set_cons_zero, List.set_cons_succ, List.getElem_toArray, List.getElem_cons_zero, List.getElem_cons_succ]
  refine list_val (.slice va vn vc) (by kernel_rfl) (exec_sby _ (.tmp 17) rfl q4 3 (by kernel_rfl) va vn vc (cell_of (hB.get 1 (x := ⟨q4, #[.int .i64 x1, .int .i64 x2, .int .u64 x3, .slice va vn vc], 113⟩) rfl) (i := 3) rfl)) ?_
  simp only [Act.put, List.setIfInBounds_toArray, List.set_cons_zero, List.set_cons_succ, List.getElem_toArray, List.getElem_cons_zero, List.getElem_cons_succ]
  refine list_val (.agg #[.int .i64 x1, .int .i64 x2, .int .u64 x3, .slice va vn vc]) (by kernel_rfl) (by kernel_rfl) ?_
  simp only [Act.put, List.setIfInBounds_toArray, List.set_cons_zero, List.set_cons_succ, List.getElem_toArray, List.getElem_cons_zero, List.getElem_cons_succ]
  refine list_val (.int .i64 0) (by kernel_rfl) (by kernel_rfl) ?_
  simp only [Act.put, List.setIfInBounds_toArray, List.set_cons_zero, List.set_cons_succ, List.getElem_toArray, List.getElem_cons_zero, List.getElem_cons_succ]
  refine list_store 80 (.tmp 2) (.tmp 19) (w.heap.size) #[.int .i64 x1, .int .i64 x2, .int .u64 x3, .slice va vn vc] 80 #[.int .i64 0, .int .i64 0, .int .u64 0, .slice none 0 0] (by kernel_rfl) rfl (by kernel_rfl) (by kernel_rfl) (hB.get 0 (x := ⟨w.heap.size, #[.int .i64 0, .int .i64 0, .int .u64 0, .slice none 0 0], 80⟩) rfl) (by rw [Try.infoD]; rfl) rfl (by simp [Value.oneCell']) ?_
  have hbt := setRow_bt u3 (w.heap.size) #[.int .i64 x1, .int .i64 x2, .int .u64 x3, .slice va vn vc]
  have hq5 := (hB.get 0 (x := ⟨w.heap.size, #[.int .i64 0, .int .i64 0, .int .u64 0, .slice none 0 0], 80⟩) rfl)
  dsimp only at hq5
  replace hO := hide (ob_bt (unhide hO) hq5 (by decide) hbt)
  clear hbt hq5
  replace hB := hB.set 0 (x := ⟨w.heap.size, #[.int .i64 0, .int .i64 0, .int .u64 0, .slice none 0 0], 80⟩) rfl #[.int .i64 x1, .int .i64 x2, .int .u64 x3, .slice va vn vc]
  simp only [List.set_cons_zero, List.set_cons_succ] at hB
  generalize World.setRow _ _ _ = u4 at *
  replace hB : Bl w [⟨w.heap.size, #[.int .i64 x1, .int .i64 x2, .int .u64 x3, .slice va vn vc], 80⟩, ⟨q4, #[.int .i64 x1, .int .i64 x2, .int .u64 x3, .slice va vn vc], 113⟩] u4 := hB
  simp only [Act.put, List.setIfInBounds_toArray, List.set_cons_zero, List.set_cons_succ, List.getElem_toArray, List.getElem_cons_zero, List.getElem_cons_succ]
  (refine wpList_step fun K hK => ?_; replace hK := hide hK; go_simp; refine unhide hK _ _ ?_; clear hK K)
  refine wpList_nil ?_
  have hbk : Hid (u4.heap[w.heap.size]? = some (.cells #[.int .i64 x1, .int .i64 x2, .int .u64 x3, .slice va vn vc] 80 (0, 0))) := (hB.get 0 (x := ⟨w.heap.size, #[.int .i64 x1, .int .i64 x2, .int .u64 x3, .slice va vn vc], 80⟩) rfl)
  have hP : Hid (T (.returned (.tuple #[.agg #[.int .i64 x1, .int .i64 x2, .int .u64 x3, .slice va vn vc], .int .i64 0])) u4) := by
    rw [unhide hT]
    exact ⟨_, rfl, unhide hO, hB.gr⟩
  clear hB
  go_wp2_with fail
  exact bodyPost_ret (v := .tuple #[.agg #[.int .i64 x1, .int .i64 x2, .int .u64 x3, .slice va vn vc], .int .i64 0]) (results_cell_tmp Try.results43 _ _ (w.heap.size) 80 #[.int .i64 x1, .int .i64 x2, .int .u64 x3, .slice va vn vc] (0, 0) _ rfl (.int .i64 0) rfl (unhide hbk) Try.underlying80 rfl (by rw [Try.infoD]; rfl)) rfl (unhide hP)
set_option maxHeartbeats 4000000 in
theorem fgetdn_bad (L : List Int) (a : Option Addr) (m c : Nat) (hS : rpS ((m : Int) - 11) = true) (hF : L.getD 0 0 ≠ 3 ∨ pkE L = false) (w : World) (hB0 : Lb w a m c L) : Calls Try.prog 43 #[.slice a m c] w (Rno #[.int .i64 0, .int .i64 0, .int .u64 0, .slice none 0 0] 241 w) := by
  obtain ⟨T, hT⟩ : ∃ T, T = Rno #[.int .i64 0, .int .i64 0, .int .u64 0, .slice none 0 0] 241 w := ⟨_, rfl⟩
  rw [← hT]
  replace hT := hide hT
  replace hB0 := hide hB0
  go_enter Try.func43, Try.ntmps43
  go_upto_region 1 with fail
  have hB := ((Bl.nil w).new #[.int .i64 0, .int .i64 0, .int .u64 0, .slice none 0 0] 80)
  simp only [size_alloc, List.nil_append, List.cons_append] at hB
  generalize World.alloc _ _ = u at *
  replace hB : Bl w [⟨w.heap.size, #[.int .i64 0, .int .i64 0, .int .u64 0, .slice none 0 0], 80⟩] u := hB
  refine wp_region_lit ?_
  refine list_val (.slice a m c) (by kernel_rfl) (by kernel_rfl) ?_
  simp only [Act.put, List.setIfInBounds_toArray, List.set_cons_zero, List.set_cons_succ, List.getElem_toArray, List.getElem_cons_zero, List.getElem_cons_succ]
  refine list_call 69 #[.slice a m c, .int .i64 3, .func (.func 49) #[] #[]] (by kernel_rfl) (by kernel_rfl) ((pof_dn_bad L a m c hS hF u ((unhide hB0).gr hB.gr)).mono ?_)
  rintro r u1 ⟨rfl, hg1⟩
  replace hB := hB.more hg1
  clear hg1
  refine ⟨_, rfl, ?_⟩
  simp only [Act.put, List.setIfInBounds_toArray, List.set_cons_zero, List.set_cons_succ, List.getElem_toArray, List.getElem_cons_zero, List.getElem_cons_succ]
  refine list_val (.tuple #[.agg #[.int .i64 0, .int .i64 0, .int .u64 0, .slice none 0 0], .int .i64 241]) (by kernel_rfl) (by kernel_rfl) ?_
  simp only [Act.put, List.setIfInBounds_toArray, List.set_cons_zero, List.set_cons_succ, List.getElem_toArray, List.getElem_cons_zero, List.getElem_cons_succ]
  refine list_val (.agg #[.int .i64 0, .int .i64 0, .int .u64 0, .slice none 0 0]) (by kernel_rfl) (by kernel_rfl) ?_
  simp only [Act.put, List.setIfInBounds_toArray, List.set_cons_zero, List.set_cons_succ, List.getElem_toArray, List.getElem_cons_zero, List.getElem_cons_succ]
  refine list_val (.int .i64 241) (by kernel_rfl) (by kernel_rfl) ?_
  simp only [Act.put, List.setIfInBounds_toArray, List.set_cons_zero, List.set_cons_succ, List.getElem_toArray, List.getElem_cons_zero, List.getElem_cons_succ]
  refine list_valw (.pointer (some ⟨u1.heap.size, 0, none⟩)) (u1.alloc (.cells #[.int .i64 0, .int .i64 0, .int .u64 0, .slice none 0 0] 113 (0, 0))) (by kernel_rfl) (by kernel_rfl) ?_
  skip
  replace hB := hB.new #[.int .i64 0, .int .i64 0, .int .u64 0, .slice none 0 0] 113
  simp only [List.nil_append, List.cons_append] at hB
  generalize World.alloc _ _ = u2 at *
  generalize u1.heap.size = q4 at *
  replace hB : Bl w [⟨w.heap.size, #[.int .i64 0, .int .i64 0, .int .u64 0, .slice none 0 0], 80⟩, ⟨q4, #[.int .i64 0, .int .i64 0, .int .u64 0, .slice none 0 0], 113⟩] u2 := hB
  simp only [Act.put, List.setIfInBounds_toArray, List.set_cons_zero, List.set_cons_succ, List.getElem_toArray, List.getElem_cons_zero, List.getElem_cons_succ]
  refine list_store 113 (.tmp 4) (.tmp 9) (q4) #[.int .i64 0, .int .i64 0, .int .u64 0, .slice none 0 0] 113 #[.int .i64 0, .int .i64 0, .int .u64 0, .slice none 0 0] (by kernel_rfl) rfl (by kernel_rfl) (by kernel_rfl) (hB.get 1 (x := ⟨q4, #[.int .i64 0, .int .i64 0, .int .u64 0, .slice none 0 0], 113⟩) rfl) (by rw [Try.infoP]; rfl) rfl (by simp [Value.oneCell']) ?_
  replace hB := hB.set 1 (x := ⟨q4, #[.int .i64 0, .int .i64 0, .int .u64 0, .slice none 0 0], 113⟩) rfl #[.int .i64 0, .int .i64 0, .int .u64 0, .slice none 0 0]
  simp only [List.set_cons_zero, List.set_cons_succ] at hB
  generalize World.setRow _ _ _ = u3 at *
  replace hB : Bl w [⟨w.heap.size, #[.int .i64 0, .int .i64 0, .int .u64 0, .slice none 0 0], 80⟩, ⟨q4, #[.int .i64 0, .int .i64 0, .int .u64 0, .slice none 0 0], 113⟩] u3 := hB
  simp only [Act.put, List.setIfInBounds_toArray, List.set_cons_zero, List.set_cons_succ, List.getElem_toArray, List.getElem_cons_zero, List.getElem_cons_succ]
  (refine wpList_step fun K hK => ?_; replace hK := hide hK; go_simp; refine unhide hK _ _ ?_; clear hK K)
  refine wpList_nil ?_
  replace hB := hide hB
  go_upto_region 2 with fail
  replace hB := unhide hB
  refine wp_region_lit ?_
  refine list_val (.pointer (some ⟨q4, 0, none⟩)) (by kernel_rfl) (by kernel_rfl) ?_
  simp only [Act.put, List.setIfInBounds_toArray, List.set_cons_zero, List.set_cons_succ, List.getElem_toArray, List.getElem_cons_zero, List.getElem_cons_succ]
  refine list_val (.int .i64 0) (by kernel_rfl) (exec_i64 _ (.tmp 11) rfl q4 0 (by kernel_rfl) 0 (cell_of (hB.get 1 (x := ⟨q4, #[.int .i64 0, .int .i64 0, .int .u64 0, .slice none 0 0], 113⟩) rfl) (i := 0) rfl)) ?_
  simp only [Act.put, List.setIfInBounds_toArray, List.set_cons_zero, List.set_cons_succ, List.getElem_toArray, List.getElem_cons_zero, List.getElem_cons_succ]
  refine list_val (.pointer (some ⟨q4, 1, none⟩)) (by kernel_rfl) (by kernel_rfl) ?_
  simp only [Act.put, List.setIfInBounds_toArray, List.set_cons_zero, List.set_cons_succ, List.getElem_toArray, List.getElem_cons_zero, List.getElem_cons_succ]
  refine list_val (.int .i64 0) (by kernel_rfl) (exec_i64 _ (.tmp 13) rfl q4 1 (by kernel_rfl) 0 (cell_of (hB.get 1 (x := ⟨q4, #[.int .i64 0, .int .i64 0, .int .u64 0, .slice none 0 0], 113⟩) rfl) (i := 1) rfl)) ?_
  simp only [Act.put, List.setIfInBounds_toArray, List.set_cons_zero, List.set_cons_succ, List.getElem_toArray, List.getElem_cons_zero, List.getElem_cons_succ]
  refine list_val (.pointer (some ⟨q4, 2, none⟩)) (by kernel_rfl) (by kernel_rfl) ?_
  simp only [Act.put, List.setIfInBounds_toArray, List.set_cons_zero, List.set_cons_succ, List.getElem_toArray, List.getElem_cons_zero, List.getElem_cons_succ]
  refine list_val (.int .u64 0) (by kernel_rfl) (exec_u64 _ (.tmp 15) rfl q4 2 (by kernel_rfl) 0 (cell_of (hB.get 1 (x := ⟨q4, #[.int .i64 0, .int .i64 0, .int .u64 0, .slice none 0 0], 113⟩) rfl) (i := 2) rfl)) ?_
  simp only [Act.put, List.setIfInBounds_toArray, List.set_cons_zero, List.set_cons_succ, List.getElem_toArray, List.getElem_cons_zero, List.getElem_cons_succ]
  refine list_val (.pointer (some ⟨q4, 3, none⟩)) (by kernel_rfl) (by kernel_rfl) ?_
  simp only [Act.put, List.setIfInBounds_toArray, List.set_cons_zero, List.set_cons_succ, List.getElem_toArray, List.getElem_cons_zero, List.getElem_cons_succ]
  refine list_val (.slice none 0 0) (by kernel_rfl) (exec_sby _ (.tmp 17) rfl q4 3 (by kernel_rfl) none 0 0 (cell_of (hB.get 1 (x := ⟨q4, #[.int .i64 0, .int .i64 0, .int .u64 0, .slice none 0 0], 113⟩) rfl) (i := 3) rfl)) ?_
  simp only [Act.put, List.setIfInBounds_toArray, List.set_cons_zero, List.set_cons_succ, List.getElem_toArray, List.getElem_cons_zero, List.getElem_cons_succ]
  refine list_val (.agg #[.int .i64 0, .int .i64 0, .int .u64 0, .slice none 0 0]) (by kernel_rfl) (by kernel_rfl) ?_
  simp only [Act.put, List.setIfInBounds_toArray, List.set_cons_zero, List.set_cons_succ, List.getElem_toArray, List.getElem_cons_zero, List.getElem_cons_succ]
  refine list_val (.int .i64 241) (by kernel_rfl) (by kernel_rfl) ?_
  simp only [Act.put, List.setIfInBounds_toArray, List.set_cons_zero, List.set_cons_succ, List.getElem_toArray, List.getElem_cons_zero, List.getElem_cons_succ]
  refine list_store 80 (.tmp 2) (.tmp 19) (w.heap.size) #[.int .i64 0, .int .i64 0, .int .u64 0, .slice none 0 0] 80 #[.int .i64 0, .int .i64 0, .int .u64 0, .slice none 0 0] (by kernel_rfl) rfl (by kernel_rfl) (by kernel_rfl) (hB.get 0 (x := ⟨w.heap.size, #[.int .i64 0, .int .i64 0, .int .u64 0, .slice none 0 0], 80⟩) rfl) (by rw [Try.infoD]; rfl) rfl (by simp [Value.oneCell']) ?_
  replace hB := hB.set 0 (x := ⟨w.heap.size, #[.int .i64 0, .int .i64 0, .int .u64 0, .slice none 0 0], 80⟩) rfl #[.int .i64 0, .int .i64 0, .int .u64 0, .slice none 0 0]
  simp only [List.set_cons_zero, List.set_cons_succ] at hB
  generalize World.setRow _ _ _ = u4 at *
  replace hB : Bl w [⟨w.heap.size, #[.int .i64 0, .int .i64 0, .int .u64 0, .slice none 0 0], 80⟩, ⟨q4, #[.int .i64 0, .int .i64 0, .int .u64 0, .slice none 0 0], 113⟩] u4 := hB
  simp only [Act.put, List.setIfInBounds_toArray, List.set_cons_zero, List.set_cons_succ, List.getElem_toArray, List.getElem_cons_zero, List.getElem_cons_succ]
  (refine wpList_step fun K hK => ?_; replace hK := hide hK; go_simp; refine unhide hK _ _ ?_; clear hK K)
  refine wpList_nil ?_
  have hbk : Hid (u4.heap[w.heap.size]? = some (.cells #[.int .i64 0, .int .i64 0, .int .u64 0, .slice none 0 0] 80 (0, 0))) := (hB.get 0 (x := ⟨w.heap.size, #[.int .i64 0, .int .i64 0, .int .u64 0, .slice none 0 0], 80⟩) rfl)
  have hP : Hid (T (.returned (.tuple #[.agg #[.int .i64 0, .int .i64 0, .int .u64 0, .slice none 0 0], .int .i64 241])) u4) := by
    rw [unhide hT]
    exact ⟨rfl, hB.gr⟩
  clear hB
  go_wp2_with fail
  exact bodyPost_ret (v := .tuple #[.agg #[.int .i64 0, .int .i64 0, .int .u64 0, .slice none 0 0], .int .i64 241]) (results_cell_tmp Try.results43 _ _ (w.heap.size) 80 #[.int .i64 0, .int .i64 0, .int .u64 0, .slice none 0 0] (0, 0) _ rfl (.int .i64 241) rfl (unhide hbk) Try.underlying80 rfl (by rw [Try.infoD]; rfl)) rfl (unhide hP)
end Go.Proofs.Ytfmocneoffkmpaa
