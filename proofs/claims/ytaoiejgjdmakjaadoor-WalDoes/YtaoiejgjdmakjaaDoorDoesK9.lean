/-
  Of layer 12: what the proof leans on.
-/
import Derived.RangeFuncWrites
import Derived.RangeFuncLeaves
import Derived.RangeFuncCalls
import Derived.Shelf.Abstract
import Derived.Test.YtaoiejgjdmakjaaDoorDoesK8
namespace Go.Proofs.YtaoiejgjdmakjaaDoor
open Go.RowKit
set_option maxRecDepth 100000
set_option linter.unusedSimpArgs false
set_option linter.unusedVariables false
theorem mr48_of (m : Mr) (h : m.h.length = 16) : (((([1] ++ lowL (m.t : Int) 8) ++ lowL (m.k : Int) 4) ++ lowL (m.n : Int) 4) ++ m.h) ++ List.replicate 31 0 = m.b48 ++ List.replicate 16 0 := by
  unfold Mr.b48
  rw [show (31 : Nat) = 15 + 16 from rfl, ← List.replicate_append_replicate]
  simp only [List.append_assoc, List.cons_append, List.nil_append]
set_option maxHeartbeats 4000000 in
theorem mblock_ok (m : Mr) (hm : m.Ok) (w : World) (hf : Fst w) : Calls Tryd.prog 62 #[.agg (mrv m)] w (Vl (.agg (kc m.blk)) w) := by
  obtain ⟨T, hT⟩ : ∃ T, T = Vl (.agg (kc m.blk)) w := ⟨_, rfl⟩
  rw [← hT]
  replace hT := hide hT
  obtain ⟨SK, hSK⟩ : ∃ X, X = mrv m := ⟨_, rfl⟩
  rw [← hSK]
  have ht := hm.t
  have hk := hm.k
  have hz := hm.n
  have hhl := hm.hl
  replace hSK := hide hSK; replace hm := hide hm; replace hf := hide hf
  go_enter Tryd.func62, Tryd.ntmps62
  go_upto_region 2 with fail
  have hB := ((((Bl.nil w).new SK 101).new #[.int .u8 0, .int .u8 0, .int .u8 0, .int .u8 0, .int .u8 0, .int .u8 0, .int .u8 0, .int .u8 0, .int .u8 0, .int .u8 0, .int .u8 0, .int .u8 0, .int .u8 0, .int .u8 0, .int .u8 0, .int .u8 0, .int .u8 0, .int .u8 0, .int .u8 0, .int .u8 0, .int .u8 0, .int .u8 0, .int .u8 0, .int .u8 0, .int .u8 0, .int .u8 0, .int .u8 0, .int .u8 0, .int .u8 0, .int .u8 0, .int .u8 0, .int .u8 0, .int .u8 0, .int .u8 0, .int .u8 0, .int .u8 0, .int .u8 0, .int .u8 0, .int .u8 0, .int .u8 0, .int .u8 0, .int .u8 0, .int .u8 0, .int .u8 0, .int .u8 0, .int .u8 0, .int .u8 0, .int .u8 0, .int .u8 0, .int .u8 0, .int .u8 0, .int .u8 0, .int .u8 0, .int .u8 0, .int .u8 0, .int .u8 0, .int .u8 0, .int .u8 0, .int .u8 0, .int .u8 0, .int .u8 0, .int .u8 0, .int .u8 0, .int .u8 0] 50).new #[.int .u8 0, .int .u8 0, .int .u8 0, .int .u8 0, .int .u8 0, .int .u8 0, .int .u8 0, .int .u8 0, .int .u8 0, .int .u8 0, .int .u8 0, .int .u8 0, .int .u8 0, .int .u8 0, .int .u8 0, .int .u8 0, .int .u8 0, .int .u8 0, .int .u8 0, .int .u8 0, .int .u8 0, .int .u8 0, .int .u8 0, .int .u8 0, .int .u8 0, .int .u8 0, .int .u8 0, .int .u8 0, .int .u8 0, .int .u8 0, .int .u8 0, .int .u8 0, .int .u8 0, .int .u8 0, .int .u8 0, .int .u8 0, .int .u8 0, .int .u8 0, .int .u8 0, .int .u8 0, .int .u8 0, .int .u8 0, .int .u8 0, .int .u8 0, .int .u8 0, .int .u8 0, .int .u8 0, .int .u8 0, .int .u8 0, .int .u8 0, .int .u8 0, .int .u8 0, .int .u8 0, .int .u8 0, .int .u8 0, .int .u8 0, .int .u8 0, .int .u8 0, .int .u8 0, .int .u8 0, .int .u8 0, .int .u8 0, .int .u8 0, .int .u8 0] 50)
  simp only [size_alloc, List.nil_append, List.cons_append] at hB
  generalize World.alloc _ _ = u at *
  rw [unhide hSK] at hB
  replace hB : Bl w [⟨w.heap.size, mrv m, 101⟩, ⟨w.heap.size + 1, kc ZB, 50⟩, ⟨w.heap.size + 1 + 1, kc ZB, 50⟩] u := hB
  refine wp_region_lit ?_
  refine list_valw (.pointer (some ⟨u.heap.size, 0, none⟩)) (u.alloc (.cells (#[.int .i64 0]) 3 (0, 0))) (by kernel_rfl) (by kernel_rfl) ?_
  replace hB := hB.new (#[.int .i64 0]) 3
  simp only [List.nil_append, List.cons_append] at hB
  generalize World.alloc _ _ = u1 at *
  generalize u.heap.size = ga at *
  replace hB : Bl w [⟨w.heap.size, mrv m, 101⟩, ⟨w.heap.size + 1, kc ZB, 50⟩, ⟨w.heap.size + 1 + 1, kc ZB, 50⟩, ⟨ga, #[.int .i64 0], 3⟩] u1 := hB
  simp only [nrm]
  have c4 := cell_of (hB.get 3 (x := ⟨ga, #[.int .i64 0], 3⟩) rfl) (i := 0) rfl
  have fz := froz_of (i := 0) (hB.get 3 (x := ⟨ga, #[.int .i64 0], 3⟩) rfl)
  have hB2 := hB.cell 3 (x := ⟨ga, #[.int .i64 0], 3⟩) rfl 0 (.int .i64 ((0 : Nat) : Int))
  simp only [List.set_cons_zero, List.set_cons_succ] at hB2
  replace hB2 : Bl w [⟨w.heap.size, mrv m, 101⟩, ⟨w.heap.size + 1, kc ZB, 50⟩, ⟨w.heap.size + 1 + 1, kc ZB, 50⟩, ⟨ga, #[.int .i64 ((0 : Nat) : Int)], 3⟩] _ := hB2
  clear hB
  replace hB2 := hide hB2
  dsimp only at c4 fz
  (refine wpList_step fun K hK => ?_; replace hK := hide hK; go_simp; refine unhide hK _ _ ?_; clear hK K)
  clear c4 fz
  have hB := unhide hB2
  clear hB2
  generalize World.setCell _ _ _ = u2 at *
  refine wpList_nil ?_
  replace hB := hide hB
  go_upto_region 3 with fail
  replace hB := unhide hB
  refine wp_region_lit ?_
  refine list_val (.func (.func 84) #[] #[.pointer (some ⟨ga, 0, none⟩), .pointer (some ⟨w.heap.size + 1 + 1, 0, none⟩)]) (by kernel_rfl) (by kernel_rfl) ?_
  simp only [nrm]
  (refine wpList_step fun K hK => ?_; replace hK := hide hK; go_simp; refine unhide hK _ _ ?_; clear hK K)
  refine wpList_nil ?_
  replace hB := hide hB
  go_upto_region 4 with fail
  replace hB := unhide hB
  have lC0 : ZB.length = 64 := rfl
  obtain ⟨C0, eC0⟩ : ∃ x, x = ZB := ⟨_, rfl⟩
  replace hB : Bl w [⟨w.heap.size, mrv m, 101⟩, ⟨w.heap.size + 1, kc ZB, 50⟩, ⟨w.heap.size + 1 + 1, kc C0, 50⟩, ⟨ga, #[.int .i64 ((0 : Nat) : Int)], 3⟩] u2 := by rw [eC0]; exact hB
  rw [← eC0] at lC0
  replace eC0 := hide eC0
  refine wp_region_lit ?_
  refine list_val (.func (.func 84) #[] #[.pointer (some ⟨ga, 0, none⟩), .pointer (some ⟨w.heap.size + 1 + 1, 0, none⟩)]) (by kernel_rfl) (by kernel_rfl) ?_
  simp only [nrm]
  refine list_valw (.slice (some ⟨u2.heap.size, 0, none⟩) 1 1) (u2.alloc (.cells (kc [1]) 5 (0, 0))) (by kernel_rfl) (by kernel_rfl) ?_
  have l2 : Lb (u2.alloc (.cells (kc [1]) 5 (0, 0))) (some ⟨u2.heap.size, 0, none⟩) 1 1 [1] := nw_lb (blk_new _ _) (by intro x hx; simp at hx; omega) rfl (by omega)
  have hg := (Gr.refl u2).alloc (.cells (kc [1]) 5 (0, 0))
  replace hB := hB.more hg
  clear hg
  generalize World.alloc _ _ = u3 at *
  generalize u2.heap.size = h1 at *
  simp only [nrm]
  refine list_call 84 #[.slice (some ⟨h1, 0, none⟩) 1 1, .pointer (some ⟨ga, 0, none⟩), .pointer (some ⟨w.heap.size + 1 + 1, 0, none⟩)] (by kernel_rfl) (by kernel_rfl) ((wput_ok ga (w.heap.size + 1 + 1) 0 C0 ([1]) lC0 (some ⟨h1, 0, none⟩) 1 1 u3 (hB.get 3 (x := ⟨ga, #[.int .i64 ((0 : Nat) : Int)], 3⟩) rfl) (hB.get 2 (x := ⟨w.heap.size + 1 + 1, kc C0, 50⟩) rfl) (l2) (by omega) (by omega)).mono ?_)
  rintro r u4 ⟨rfl, hc1, hc2, hch⟩
  have hB2 := hB.chg2 3 2 (by decide) (x := ⟨ga, #[.int .i64 ((0 : Nat) : Int)], 3⟩) (y := ⟨w.heap.size + 1 + 1, kc C0, 50⟩) rfl rfl hch hc1 hc2
  simp only [List.set_cons_zero, List.set_cons_succ] at hB2
  have lC1 : (lay C0 0 ([1])).length = 64 := (lay_len _ _ _ (by rw [(l2).len, lC0]; omega)).trans lC0
  have eC1 : Hid (lay C0 0 ([1]) = lay C0 0 ([1])) := rfl
  generalize hq_ : lay C0 0 ([1]) = C1 at *
  replace eC1 : Hid (C1 = lay C0 0 ([1])) := hq_.symm
  clear hB hc1 hc2 hch hq_
  replace hB2 : Bl w [⟨w.heap.size, mrv m, 101⟩, ⟨w.heap.size + 1, kc ZB, 50⟩, ⟨w.heap.size + 1 + 1, kc C1, 50⟩, ⟨ga, #[.int .i64 ((1 : Nat) : Int)], 3⟩] u4 := hB2
  have hB := hB2
  clear hB2
  refine ⟨_, rfl, ?_⟩
  simp only [nrm]
  refine wpList_nil ?_
  clear l2
  replace hB := hide hB
  go_upto_region 5 with fail
  replace hB := unhide hB
  refine wp_region_lit ?_
  refine list_val (.func (.func 84) #[] #[.pointer (some ⟨ga, 0, none⟩), .pointer (some ⟨w.heap.size + 1 + 1, 0, none⟩)]) (by kernel_rfl) (by kernel_rfl) ?_
  simp only [nrm]
  refine list_val (.pointer (some ⟨w.heap.size, 0, none⟩)) (by kernel_rfl) (by kernel_rfl) ?_
  simp only [nrm]
  refine list_val (.int .u64 (m.t : Int)) (by kernel_rfl) (exec_u64 _ (.tmp 12) rfl (w.heap.size) 0 (by kernel_rfl) _ (mrv_cells (hB.get 0 (x := ⟨w.heap.size, mrv m, 101⟩) rfl)).1) ?_
  simp only [nrm]
  refine list_call 75 #[.slice none 0 0, .int .u64 (m.t : Int)] (by kernel_rfl) (by kernel_rfl) ((put64_ok [] none 0 0 (m.t : Int) (by omega) (by omega) _ (Lb.nil0 _)).mono ?_)
  rintro r u7 ⟨h3, rfl, hg1, hg2, hg3⟩
  replace hB := hB.more hg3
  rw [List.nil_append] at hg2
  have l3 := kc_lb hg2 (lowL_len _ _) (lowL_isB _ _) (by omega)
  have hl3 := lowL_len (m.t : Int) 8
  clear hg1 hg2 hg3
  refine ⟨_, rfl, ?_⟩
  rw [List.nil_append]
  rw [hl3]
  obtain ⟨N8, eN8⟩ : ∃ x, x = lowL (m.t : Int) 8 := ⟨_, rfl⟩
  rw [← eN8] at l3
  replace eN8 := hide eN8
  simp only [nrm]
  refine list_call 84 #[.slice (some ⟨h3, 0, none⟩) 8 8, .pointer (some ⟨ga, 0, none⟩), .pointer (some ⟨w.heap.size + 1 + 1, 0, none⟩)] (by kernel_rfl) (by kernel_rfl) ((wput_ok ga (w.heap.size + 1 + 1) 1 C1 (N8) lC1 (some ⟨h3, 0, none⟩) 8 8 u7 (hB.get 3 (x := ⟨ga, #[.int .i64 ((1 : Nat) : Int)], 3⟩) rfl) (hB.get 2 (x := ⟨w.heap.size + 1 + 1, kc C1, 50⟩) rfl) (l3) (by omega) (by omega)).mono ?_)
  rintro r u8 ⟨rfl, hc1, hc2, hch⟩
  have hB2 := hB.chg2 3 2 (by decide) (x := ⟨ga, #[.int .i64 ((1 : Nat) : Int)], 3⟩) (y := ⟨w.heap.size + 1 + 1, kc C1, 50⟩) rfl rfl hch hc1 hc2
  simp only [List.set_cons_zero, List.set_cons_succ] at hB2
  have lC2 : (lay C1 1 (N8)).length = 64 := (lay_len _ _ _ (by rw [(l3).len, lC1]; omega)).trans lC1
  have eC2 : Hid (lay C1 1 (N8) = lay C1 1 (N8)) := rfl
  generalize hq_ : lay C1 1 (N8) = C2 at *
  replace eC2 : Hid (C2 = lay C1 1 (N8)) := hq_.symm
  clear hB hc1 hc2 hch hq_
  replace hB2 : Bl w [⟨w.heap.size, mrv m, 101⟩, ⟨w.heap.size + 1, kc ZB, 50⟩, ⟨w.heap.size + 1 + 1, kc C2, 50⟩, ⟨ga, #[.int .i64 ((9 : Nat) : Int)], 3⟩] u8 := hB2
  have hB := hB2
  clear hB2
  refine ⟨_, rfl, ?_⟩
  simp only [nrm]
  refine wpList_nil ?_
  clear l3 hl3
  replace hB := hide hB
  go_upto_region 6 with fail
  replace hB := unhide hB
  refine wp_region_lit ?_
  refine list_val (.func (.func 84) #[] #[.pointer (some ⟨ga, 0, none⟩), .pointer (some ⟨w.heap.size + 1 + 1, 0, none⟩)]) (by kernel_rfl) (by kernel_rfl) ?_
  simp only [nrm]
  refine list_val (.pointer (some ⟨w.heap.size, 1, none⟩)) (by kernel_rfl) (by kernel_rfl) ?_
  simp only [nrm]
  refine list_val (.int .u32 (m.k : Int)) (by kernel_rfl) (exec_w32 _ (.tmp 17) rfl (w.heap.size) 1 (by kernel_rfl) _ (mrv_cells (hB.get 0 (x := ⟨w.heap.size, mrv m, 101⟩) rfl)).2.1) ?_
  simp only [nrm]
  refine list_call 76 #[.slice none 0 0, .int .u32 (m.k : Int)] (by kernel_rfl) (by kernel_rfl) ((put32_ok (m.k : Int) ⟨by omega, by omega⟩ _).mono ?_)
  rintro r u9 ⟨h4, rfl, hg1, hg2, hg3⟩
  replace hB := hB.more hg3
  skip
  have l3 := kc_lb hg2 (lowL_len _ _) (lowL_isB _ _) (by omega)
  have hl3 := lowL_len (m.k : Int) 4
  clear hg1 hg2 hg3
  refine ⟨_, rfl, ?_⟩
  skip
  rw [hl3]
  obtain ⟨N4, eN4⟩ : ∃ x, x = lowL (m.k : Int) 4 := ⟨_, rfl⟩
  rw [← eN4] at l3
  replace eN4 := hide eN4
  simp only [nrm]
  refine list_call 84 #[.slice (some ⟨h4, 0, none⟩) 4 4, .pointer (some ⟨ga, 0, none⟩), .pointer (some ⟨w.heap.size + 1 + 1, 0, none⟩)] (by kernel_rfl) (by kernel_rfl) ((wput_ok ga (w.heap.size + 1 + 1) 9 C2 (N4) lC2 (some ⟨h4, 0, none⟩) 4 4 u9 (hB.get 3 (x := ⟨ga, #[.int .i64 ((9 : Nat) : Int)], 3⟩) rfl) (hB.get 2 (x := ⟨w.heap.size + 1 + 1, kc C2, 50⟩) rfl) (l3) (by omega) (by omega)).mono ?_)
  rintro r u10 ⟨rfl, hc1, hc2, hch⟩
  have hB2 := hB.chg2 3 2 (by decide) (x := ⟨ga, #[.int .i64 ((9 : Nat) : Int)], 3⟩) (y := ⟨w.heap.size + 1 + 1, kc C2, 50⟩) rfl rfl hch hc1 hc2
  simp only [List.set_cons_zero, List.set_cons_succ] at hB2
  have lC3 : (lay C2 9 (N4)).length = 64 := (lay_len _ _ _ (by rw [(l3).len, lC2]; omega)).trans lC2
  have eC3 : Hid (lay C2 9 (N4) = lay C2 9 (N4)) := rfl
  generalize hq_ : lay C2 9 (N4) = C3 at *
  replace eC3 : Hid (C3 = lay C2 9 (N4)) := hq_.symm
  clear hB hc1 hc2 hch hq_
  replace hB2 : Bl w [⟨w.heap.size, mrv m, 101⟩, ⟨w.heap.size + 1, kc ZB, 50⟩, ⟨w.heap.size + 1 + 1, kc C3, 50⟩, ⟨ga, #[.int .i64 ((13 : Nat) : Int)], 3⟩] u10 := hB2
  have hB := hB2
  clear hB2
  refine ⟨_, rfl, ?_⟩
  simp only [nrm]
  refine wpList_nil ?_
  clear l3 hl3
  replace hB := hide hB
  go_upto_region 7 with fail
  replace hB := unhide hB
  refine wp_region_lit ?_
  refine list_val (.func (.func 84) #[] #[.pointer (some ⟨ga, 0, none⟩), .pointer (some ⟨w.heap.size + 1 + 1, 0, none⟩)]) (by kernel_rfl) (by kernel_rfl) ?_
  simp only [nrm]
  refine list_val (.pointer (some ⟨w.heap.size, 2, none⟩)) (by kernel_rfl) (by kernel_rfl) ?_
  simp only [nrm]
  refine list_val (.int .u32 (m.n : Int)) (by kernel_rfl) (exec_w32 _ (.tmp 22) rfl (w.heap.size) 2 (by kernel_rfl) _ (mrv_cells (hB.get 0 (x := ⟨w.heap.size, mrv m, 101⟩) rfl)).2.2) ?_
  simp only [nrm]
  refine list_call 76 #[.slice none 0 0, .int .u32 (m.n : Int)] (by kernel_rfl) (by kernel_rfl) ((put32_ok (m.n : Int) ⟨by omega, by omega⟩ _).mono ?_)
  rintro r u11 ⟨h5, rfl, hg1, hg2, hg3⟩
  replace hB := hB.more hg3
  skip
  have l3 := kc_lb hg2 (lowL_len _ _) (lowL_isB _ _) (by omega)
  have hl3 := lowL_len (m.n : Int) 4
  clear hg1 hg2 hg3
  refine ⟨_, rfl, ?_⟩
  skip
  rw [hl3]
  obtain ⟨N5, eN5⟩ : ∃ x, x = lowL (m.n : Int) 4 := ⟨_, rfl⟩
  rw [← eN5] at l3
  replace eN5 := hide eN5
  simp only [nrm]
  refine list_call 84 #[.slice (some ⟨h5, 0, none⟩) 4 4, .pointer (some ⟨ga, 0, none⟩), .pointer (some ⟨w.heap.size + 1 + 1, 0, none⟩)] (by kernel_rfl) (by kernel_rfl) ((wput_ok ga (w.heap.size + 1 + 1) 13 C3 (N5) lC3 (some ⟨h5, 0, none⟩) 4 4 u11 (hB.get 3 (x := ⟨ga, #[.int .i64 ((13 : Nat) : Int)], 3⟩) rfl) (hB.get 2 (x := ⟨w.heap.size + 1 + 1, kc C3, 50⟩) rfl) (l3) (by omega) (by omega)).mono ?_)
  rintro r u12 ⟨rfl, hc1, hc2, hch⟩
  have hB2 := hB.chg2 3 2 (by decide) (x := ⟨ga, #[.int .i64 ((13 : Nat) : Int)], 3⟩) (y := ⟨w.heap.size + 1 + 1, kc C3, 50⟩) rfl rfl hch hc1 hc2
  simp only [List.set_cons_zero, List.set_cons_succ] at hB2
  have lC4 : (lay C3 13 (N5)).length = 64 := (lay_len _ _ _ (by rw [(l3).len, lC3]; omega)).trans lC3
  have eC4 : Hid (lay C3 13 (N5) = lay C3 13 (N5)) := rfl
  generalize hq_ : lay C3 13 (N5) = C4 at *
  replace eC4 : Hid (C4 = lay C3 13 (N5)) := hq_.symm
  clear hB hc1 hc2 hch hq_
  replace hB2 : Bl w [⟨w.heap.size, mrv m, 101⟩, ⟨w.heap.size + 1, kc ZB, 50⟩, ⟨w.heap.size + 1 + 1, kc C4, 50⟩, ⟨ga, #[.int .i64 ((17 : Nat) : Int)], 3⟩] u12 := hB2
  have hB := hB2
  clear hB2
  refine ⟨_, rfl, ?_⟩
  simp only [nrm]
  refine wpList_nil ?_
  clear l3 hl3
  replace hB := hide hB
  go_upto_region 8 with fail
  replace hB := unhide hB
  refine wp_region_lit ?_
  refine list_val (.func (.func 84) #[] #[.pointer (some ⟨ga, 0, none⟩), .pointer (some ⟨w.heap.size + 1 + 1, 0, none⟩)]) (by kernel_rfl) (by kernel_rfl) ?_
  simp only [nrm]
  refine list_val (.pointer (some ⟨w.heap.size, 3, none⟩)) (by kernel_rfl) (by kernel_rfl) ?_
  simp only [nrm]
  refine list_val (.slice (some ⟨w.heap.size, 3, none⟩) 16 16) (by kernel_rfl) (by kernel_rfl) ?_
  simp only [nrm]
  refine list_call 84 #[.slice (some ⟨w.heap.size, 3, none⟩) 16 16, .pointer (some ⟨ga, 0, none⟩), .pointer (some ⟨w.heap.size + 1 + 1, 0, none⟩)] (by kernel_rfl) (by kernel_rfl) ((wput_ok ga (w.heap.size + 1 + 1) 17 C4 (m.h) lC4 (some ⟨w.heap.size, 3, none⟩) 16 16 u12 (hB.get 3 (x := ⟨ga, #[.int .i64 ((17 : Nat) : Int)], 3⟩) rfl) (hB.get 2 (x := ⟨w.heap.size + 1 + 1, kc C4, 50⟩) rfl) (mrv_hash (hB.get 0 (x := ⟨w.heap.size, mrv m, 101⟩) rfl) hhl (unhide hm).hb) (by omega) (by omega)).mono ?_)
  rintro r u13 ⟨rfl, hc1, hc2, hch⟩
  have hB2 := hB.chg2 3 2 (by decide) (x := ⟨ga, #[.int .i64 ((17 : Nat) : Int)], 3⟩) (y := ⟨w.heap.size + 1 + 1, kc C4, 50⟩) rfl rfl hch hc1 hc2
  simp only [List.set_cons_zero, List.set_cons_succ] at hB2
  have lC5 : (lay C4 17 (m.h)).length = 64 := (lay_len _ _ _ (by rw [(mrv_hash (hB.get 0 (x := ⟨w.heap.size, mrv m, 101⟩) rfl) hhl (unhide hm).hb).len, lC4]; omega)).trans lC4
  have eC5 : Hid (lay C4 17 (m.h) = lay C4 17 (m.h)) := rfl
  generalize hq_ : lay C4 17 (m.h) = C5 at *
  replace eC5 : Hid (C5 = lay C4 17 (m.h)) := hq_.symm
  clear hB hc1 hc2 hch hq_
  replace hB2 : Bl w [⟨w.heap.size, mrv m, 101⟩, ⟨w.heap.size + 1, kc ZB, 50⟩, ⟨w.heap.size + 1 + 1, kc C5, 50⟩, ⟨ga, #[.int .i64 ((33 : Nat) : Int)], 3⟩] u13 := hB2
  have hB := hB2
  clear hB2
  refine ⟨_, rfl, ?_⟩
  simp only [nrm]
  refine wpList_nil ?_
  replace hB := hide hB
  go_upto_region 9 with fail
  replace hB := unhide hB
  refine wp_region_lit ?_
  have c4 := cell_of (hB.get 3 (x := ⟨ga, #[.int .i64 ((33 : Nat) : Int)], 3⟩) rfl) (i := 0) rfl
  have fz := froz_of (i := 0) (hB.get 3 (x := ⟨ga, #[.int .i64 ((33 : Nat) : Int)], 3⟩) rfl)
  have hB2 := hB.cell 3 (x := ⟨ga, #[.int .i64 ((33 : Nat) : Int)], 3⟩) rfl 0 (.int .i64 ((48 : Nat) : Int))
  simp only [List.set_cons_zero, List.set_cons_succ] at hB2
  replace hB2 : Bl w [⟨w.heap.size, mrv m, 101⟩, ⟨w.heap.size + 1, kc ZB, 50⟩, ⟨w.heap.size + 1 + 1, kc C5, 50⟩, ⟨ga, #[.int .i64 ((48 : Nat) : Int)], 3⟩] _ := hB2
  clear hB
  replace hB2 := hide hB2
  dsimp only at c4 fz
  (refine wpList_step fun K hK => ?_; replace hK := hide hK; go_simp; refine unhide hK _ _ ?_; clear hK K)
  clear c4 fz
  have hB := unhide hB2
  clear hB2
  generalize World.setCell _ _ _ = u14 at *
  refine wpList_nil ?_
  have eA : Hid (C5 = m.b48 ++ List.replicate 16 0) := by
    show C5 = _
    have z0 : C0 = [] ++ List.replicate 64 0 := unhide eC0
    have z1 : C1 = [1] ++ List.replicate 63 0 := by rw [unhide eC1, z0]; exact lay_zero [] [1] 64 (by decide)
    have z2 : C2 = ([1] ++ lowL (m.t : Int) 8) ++ List.replicate 55 0 := by
      have h := lay_zero [1] (lowL (m.t : Int) 8) 63 (by rw [lowL_len]; omega)
      rw [lowL_len] at h
      rw [unhide eC2, z1, unhide eN8]
      exact h
    have z3 : C3 = (([1] ++ lowL (m.t : Int) 8) ++ lowL (m.k : Int) 4) ++ List.replicate 51 0 := by
      have h := lay_zero ([1] ++ lowL (m.t : Int) 8) (lowL (m.k : Int) 4) 55 (by rw [lowL_len]; omega)
      rw [lowL_len, List.length_append, lowL_len] at h
      rw [unhide eC3, z2, unhide eN4]
      exact h
    have z4 : C4 = ((([1] ++ lowL (m.t : Int) 8) ++ lowL (m.k : Int) 4) ++ lowL (m.n : Int) 4) ++ List.replicate 47 0 := by
      have h := lay_zero (([1] ++ lowL (m.t : Int) 8) ++ lowL (m.k : Int) 4) (lowL (m.n : Int) 4) 51 (by rw [lowL_len]; omega)
      rw [lowL_len, List.length_append, lowL_len, List.length_append, lowL_len] at h
      rw [unhide eC4, z3, unhide eN5]
      exact h
    have h := lay_zero ((([1] ++ lowL (m.t : Int) 8) ++ lowL (m.k : Int) 4) ++ lowL (m.n : Int) 4) m.h 47 (by rw [hhl]; omega)
    rw [hhl, List.length_append, lowL_len, List.length_append, lowL_len, List.length_append, lowL_len] at h
    rw [unhide eC5, z4, ← mr48_of m hhl]
    exact h
  have hb48 : Hid (C5.take 48 = m.b48) := by show C5.take 48 = m.b48; rw [unhide eA]; exact take_app _ _ 48 (Mr.b48_len hhl)
  have hok := Mr.blk_bb (unhide hm)
  have hi48 : IsB m.b48 := fun x hx => hok.2 x (by unfold Mr.blk; exact List.mem_append_left _ hx)
  have hl48 := Mr.b48_len hhl
  have hbl : Hid (m.blk = m.b48 ++ sh16 m.b48) := rfl
  have hB4 : Hid (lay C5 48 (sh16 m.b48) = m.blk) := by
    show lay C5 48 (sh16 m.b48) = m.blk
    rw [unhide hbl]
    have h := lay_zero m.b48 (sh16 m.b48) 16 (by rw [sh16_len]; omega)
    rw [hl48, sh16_len] at h
    rw [unhide eA, h]
    exact List.append_nil _
  clear eC1 eC2 eC3 eC4 eC5 eC0 eA hok hbl
  generalize m.b48 = S48 at *
  replace hB := hide hB
  go_upto_region 10 with fail
  replace hB := unhide hB
  refine wp_region_lit ?_
  refine list_val (.int .i64 ((48 : Nat) : Int)) (by kernel_rfl) (exec_i64 _ (.tmp 4) rfl ga 0 (by kernel_rfl) _ (cell_of (hB.get 3 (x := ⟨ga, #[.int .i64 ((48 : Nat) : Int)], 3⟩) rfl) (i := 0) rfl)) ?_
  simp only [nrm]
  refine list_val (.slice (some ⟨w.heap.size + 1 + 1, 0, none⟩) 48 64) (by kernel_rfl) (by kernel_rfl) ?_
  simp only [nrm]
  have hlb : Lb u14 (some ⟨w.heap.size + 1 + 1, 0, none⟩) 48 64 S48 := by
    refine ⟨hl48, hi48, .inr ⟨_, 0, rfl, ?_⟩, by omega, by omega⟩
    have h2 := (kc_at (hB.get 2 (x := ⟨w.heap.size + 1 + 1, kc C5, 50⟩) rfl)).take 48
    rw [unhide hb48] at h2
    exact h2
  refine list_call 57 #[.slice (some ⟨w.heap.size + 1 + 1, 0, none⟩) 48 64] (by kernel_rfl) (by kernel_rfl) ((wdigest_ok S48 (some ⟨w.heap.size + 1 + 1, 0, none⟩) 48 64 u14 hlb (by omega) ((unhide hf).gr hB.gr)).mono ?_)
  rintro r u15 ⟨rfl, hg⟩
  replace hB := hB.more hg
  have hHl := sh16_len S48
  have hHb := sh16_isB S48 (sumL_isB S48)
  clear hg hlb
  generalize sh16 S48 = H at *
  refine ⟨_, rfl, ?_⟩
  simp only [nrm]
  refine list_valw (.pointer (some ⟨u15.heap.size, 0, none⟩)) (u15.alloc (.cells (kc Z16) 99 (0, 0))) (by kernel_rfl) (by kernel_rfl) ?_
  replace hB := hB.new (kc Z16) 99
  simp only [List.nil_append, List.cons_append] at hB
  generalize World.alloc _ _ = u16 at *
  generalize u15.heap.size = gm at *
  replace hB : Bl w [⟨w.heap.size, mrv m, 101⟩, ⟨w.heap.size + 1, kc ZB, 50⟩, ⟨w.heap.size + 1 + 1, kc C5, 50⟩, ⟨ga, #[.int .i64 ((48 : Nat) : Int)], 3⟩, ⟨gm, kc Z16, 99⟩] u16 := hB
  simp only [nrm]
  refine list_store 99 (.tmp 6) (.tmp 32) (gm) (kc H) 99 (kc Z16) (by kernel_rfl) rfl (by kernel_rfl) (by kernel_rfl) (hB.get 4 (x := ⟨gm, kc Z16, 99⟩) rfl) (by rw [Tryd.infoBg, kc_size, hHl]) (by rw [kc_size, kc_size, hHl]; rfl) (kc_one _) ?_
  replace hB := hB.set 4 (x := ⟨gm, kc Z16, 99⟩) rfl (kc H)
  simp only [List.set_cons_zero, List.set_cons_succ] at hB
  generalize World.setRow _ _ _ = u17 at *
  replace hB : Bl w [⟨w.heap.size, mrv m, 101⟩, ⟨w.heap.size + 1, kc ZB, 50⟩, ⟨w.heap.size + 1 + 1, kc C5, 50⟩, ⟨ga, #[.int .i64 ((48 : Nat) : Int)], 3⟩, ⟨gm, kc H, 99⟩] u17 := hB
  simp only [nrm]
  refine wpList_nil ?_
  replace hB := hide hB
  go_upto_region 11 with fail
  replace hB := unhide hB
  refine wp_region_lit ?_
  refine list_val (.func (.func 84) #[] #[.pointer (some ⟨ga, 0, none⟩), .pointer (some ⟨w.heap.size + 1 + 1, 0, none⟩)]) (by kernel_rfl) (by kernel_rfl) ?_
  simp only [nrm]
  refine list_val (.slice (some ⟨gm, 0, none⟩) 16 16) (by kernel_rfl) (by kernel_rfl) ?_
  simp only [nrm]
  refine list_call 84 #[.slice (some ⟨gm, 0, none⟩) 16 16, .pointer (some ⟨ga, 0, none⟩), .pointer (some ⟨w.heap.size + 1 + 1, 0, none⟩)] (by kernel_rfl) (by kernel_rfl) ((wput_ok ga (w.heap.size + 1 + 1) 48 C5 (H) lC5 (some ⟨gm, 0, none⟩) 16 16 u17 (hB.get 3 (x := ⟨ga, #[.int .i64 ((48 : Nat) : Int)], 3⟩) rfl) (hB.get 2 (x := ⟨w.heap.size + 1 + 1, kc C5, 50⟩) rfl) ((nw_lb0 (hB.get 4 (x := ⟨gm, kc H, 99⟩) rfl) hHb hHl (by omega))) (by omega) (by omega)).mono ?_)
  rintro r u18 ⟨rfl, hc1, hc2, hch⟩
  have hB2 := hB.chg2 3 2 (by decide) (x := ⟨ga, #[.int .i64 ((48 : Nat) : Int)], 3⟩) (y := ⟨w.heap.size + 1 + 1, kc C5, 50⟩) rfl rfl hch hc1 hc2
  simp only [List.set_cons_zero, List.set_cons_succ] at hB2
  have lC6 : (lay C5 48 (H)).length = 64 := (lay_len _ _ _ (by rw [((nw_lb0 (hB.get 4 (x := ⟨gm, kc H, 99⟩) rfl) hHb hHl (by omega))).len, lC5]; omega)).trans lC5
  have eC6 : Hid (lay C5 48 (H) = lay C5 48 (H)) := rfl
  generalize hq_ : lay C5 48 (H) = C6 at *
  replace eC6 : Hid (C6 = lay C5 48 (H)) := hq_.symm
  clear hB hc1 hc2 hch hq_
  replace hB2 : Bl w [⟨w.heap.size, mrv m, 101⟩, ⟨w.heap.size + 1, kc ZB, 50⟩, ⟨w.heap.size + 1 + 1, kc C6, 50⟩, ⟨ga, #[.int .i64 ((64 : Nat) : Int)], 3⟩, ⟨gm, kc H, 99⟩] u18 := hB2
  have hB := hB2
  clear hB2
  refine ⟨_, rfl, ?_⟩
  simp only [nrm]
  refine wpList_nil ?_
  replace hB := hide hB
  go_upto_region 12 with fail
  replace hB := unhide hB
  refine wp_region_lit ?_
  refine list_val (.agg (kc C6)) (by kernel_rfl) (exec_arr _ 50 (.tmp 3) rfl (w.heap.size + 1 + 1) (by kernel_rfl) (kc C6) 50 _ (hB.get 2 (x := ⟨w.heap.size + 1 + 1, kc C6, 50⟩) rfl) Tryd.underlying50 rfl (by rw [Tryd.infoB, kc_size, lC6])) ?_
  simp only [nrm]
  refine list_store 50 (.tmp 2) (.tmp 36) (w.heap.size + 1) (kc C6) 50 (kc ZB) (by kernel_rfl) rfl (by kernel_rfl) (by kernel_rfl) (hB.get 1 (x := ⟨w.heap.size + 1, kc ZB, 50⟩) rfl) (by rw [Tryd.infoB, kc_size, lC6]) ((show (kc ZB).size = 64 from rfl).trans ((kc_size _).trans lC6).symm) (kc_one _) ?_
  replace hB := hB.set 1 (x := ⟨w.heap.size + 1, kc ZB, 50⟩) rfl (kc C6)
  simp only [List.set_cons_zero, List.set_cons_succ] at hB
  generalize World.setRow _ _ _ = u19 at *
  replace hB : Bl w [⟨w.heap.size, mrv m, 101⟩, ⟨w.heap.size + 1, kc C6, 50⟩, ⟨w.heap.size + 1 + 1, kc C6, 50⟩, ⟨ga, #[.int .i64 ((64 : Nat) : Int)], 3⟩, ⟨gm, kc H, 99⟩] u19 := hB
  simp only [nrm]
  refine wpList_nil ?_
  have e9 : C6 = m.blk := unhide hB4
  replace e9 := hide e9
  clear eC6 hB4 hb48
  replace hB := hide hB
  go_wp2_with fail
  replace hB := unhide hB
  rw [unhide hT, ← unhide e9]
  exact bodyPost_ret (v := .agg (kc C6)) (results_cell_row Tryd.results62 _ _ (w.heap.size + 1) 50 (kc C6) (0, 0) _ rfl (hB.get 1 (x := ⟨w.heap.size + 1, kc C6, 50⟩) rfl) Tryd.underlying50 rfl (by rw [Tryd.infoB, kc_size, lC6])) rfl (⟨rfl, hB.gr⟩)
def mrOf (t k : Nat) (b : List Int) : Mr := ⟨t, k, cn4 b, (b.drop 17).take 16⟩
theorem mrOf_ok {t k : Nat} {b : List Int} (ht : t < 18446744073709551616) (hk : k < 4294967296) (hb : BB b) : (mrOf t k b).Ok := by
  have hl := hb.1
  have h4 := cn4_is hb
  have hr : ∀ i, i < 64 → 0 ≤ b.getD i 0 ∧ b.getD i 0 < 256 := fun i hi => hb.2 _ (mem_of_getD (by rw [hl]; exact hi))
  have r0 := hr 13 (by omega)
  have r1 := hr 14 (by omega)
  have r2 := hr 15 (by omega)
  have r3 := hr 16 (by omega)
  refine ⟨ht, hk, ?_, ?_, fun x hx => hb.2 x (List.mem_of_mem_drop (List.mem_of_mem_take hx))⟩
  · show cn4 b < _
    omega
  · show ((b.drop 17).take 16).length = 16
    rw [List.length_take, List.length_drop]
    omega
theorem cn4_low {b : List Int} (hb : BB b) : lowN ((b.drop 13).take 4) = (cn4 b : Int) := by
  have h4 := cn4_is hb
  have hl := hb.1
  have h0 : 0 ≤ lowN ((b.drop 13).take 4) := (lowN_bd _ (fun x hx => hb.2 x (List.mem_of_mem_drop (List.mem_of_mem_take hx)))).1
  unfold cn4
  omega
def Rdm (t k : Nat) (b : List Int) (w : World) (r : Ending) (w' : World) : Prop := r = .returned (.tuple #[.agg (mrv (mrOf t k b)), .bool (decide ((mrOf t k b).blk = b))]) ∧ Gr w w'
set_option maxHeartbeats 4000000 in
theorem wread_ok (t k : Nat) (ht : t < 18446744073709551616) (hk : k < 4294967296) (b : List Int) (hb : BB b) (w : World) (hf : Fst w) : Calls Tryd.prog 55 #[.agg (kc b), .int .u64 (t : Int), .int .i64 (k : Int)] w (Rdm t k b w) := by
  obtain ⟨T, hT⟩ : ∃ T, T = Rdm t k b w := ⟨_, rfl⟩
  rw [← hT]
  replace hT := hide hT
  obtain ⟨SK, hSK⟩ : ∃ X, X = kc b := ⟨_, rfl⟩
  rw [← hSK]
  have hok := mrOf_ok ht hk hb
  have hbl := hb.1
  have hhl := hok.hl
  have hwk : IntKind.u32.wrap (k : Int) = (k : Int) := by rw [IntKind.wrap_u32]; omega
  have hR0 : Hid (T = fun r w' => r = .returned (.tuple #[.agg (mrv (mrOf t k b)), .bool (decide ((mrOf t k b).blk = b))]) ∧ Gr w w') := hT
  clear hT
  have t2 : lowN ((((b.drop 13).take 51).drop 0).take 4) = ((mrOf t k b).n : Int) := by rw [sub_sub b 13 51 0 4 (by omega)]; exact cn4_low hb
  have t3 : (((b.drop 13).take 51).drop 4).take 16 = (mrOf t k b).h := by rw [sub_sub b 13 51 4 16 (by omega)]; rfl
  have e1 : (mrOf t k b).t = t := rfl
  have e2 : (mrOf t k b).k = k := rfl
  have hBl : ((b.drop 13).take 51).length = 51 := by rw [List.length_take, List.length_drop, hbl]; rfl
  generalize mrOf t k b = m at *
  obtain ⟨rt, hrt⟩ : ∃ r, r = decide (m.blk = b) := ⟨_, rfl⟩
  rw [← hrt] at hR0
  replace hSK := hide hSK; replace hf := hide hf; replace hb := hide hb; replace e1 := hide e1; replace e2 := hide e2; replace t2 := hide t2; replace t3 := hide t3; replace hrt := hide hrt; replace hok := hide hok
  go_enter Tryd.func55, Tryd.ntmps55
  go_upto_region 1 with fail
  have hB := (((Bl.nil w).new SK 50).new #[.int .u64 0, .int .u32 0, .int .u32 0, .int .u8 0, .int .u8 0, .int .u8 0, .int .u8 0, .int .u8 0, .int .u8 0, .int .u8 0, .int .u8 0, .int .u8 0, .int .u8 0, .int .u8 0, .int .u8 0, .int .u8 0, .int .u8 0, .int .u8 0, .int .u8 0] 101)
  simp only [size_alloc, List.nil_append, List.cons_append] at hB
  generalize World.alloc _ _ = u at *
  rw [unhide hSK] at hB
  replace hB : Bl w [⟨w.heap.size, kc b, 50⟩, ⟨w.heap.size + 1, mrv ZMr, 101⟩] u := hB
  refine wp_region_lit ?_
  refine list_val (.int .u64 (t : Int)) (by kernel_rfl) (by kernel_rfl) ?_
  simp only [nrm]
  refine list_val (.int .i64 (k : Int)) (by kernel_rfl) (by kernel_rfl) ?_
  simp only [nrm]
  refine list_val (.int .u32 (k : Int)) (by kernel_rfl) (by go_simp) ?_
  simp only [nrm]
  refine list_val (.agg (mrv ⟨t, k, 0, Z16⟩)) (by kernel_rfl) (by kernel_rfl) ?_
  simp only [nrm]
  refine list_valw (.pointer (some ⟨u.heap.size, 0, none⟩)) (u.alloc (.cells (mrv ZMr) 101 (0, 0))) (by kernel_rfl) (by kernel_rfl) ?_
  replace hB := hB.new (mrv ZMr) 101
  simp only [List.nil_append, List.cons_append] at hB
  generalize World.alloc _ _ = u1 at *
  generalize u.heap.size = gs at *
  replace hB : Bl w [⟨w.heap.size, kc b, 50⟩, ⟨w.heap.size + 1, mrv ZMr, 101⟩, ⟨gs, mrv ZMr, 101⟩] u1 := hB
  simp only [nrm]
  refine list_store 101 (.tmp 8) (.tmp 13) (gs) (mrv ⟨t, k, 0, Z16⟩) 101 (mrv ZMr) (by kernel_rfl) rfl (by kernel_rfl) (by kernel_rfl) (hB.get 2 (x := ⟨gs, mrv ZMr, 101⟩) rfl) (by rw [Tryd.infoMr, mrv_size (m := ⟨t, k, 0, Z16⟩) (by first | rfl | exact hhl)]) (by rw [mrv_size (m := ⟨t, k, 0, Z16⟩) (by first | rfl | exact hhl)]; rfl) (mrv_one _) ?_
  replace hB := hB.set 2 (x := ⟨gs, mrv ZMr, 101⟩) rfl (mrv ⟨t, k, 0, Z16⟩)
  simp only [List.set_cons_zero, List.set_cons_succ] at hB
  generalize World.setRow _ _ _ = u2 at *
  replace hB : Bl w [⟨w.heap.size, kc b, 50⟩, ⟨w.heap.size + 1, mrv ZMr, 101⟩, ⟨gs, mrv ⟨t, k, 0, Z16⟩, 101⟩] u2 := hB
  simp only [nrm]
  refine wpList_nil ?_
  replace hB := hide hB
  go_upto_region 2 with fail
  replace hB := unhide hB
  refine wp_region_lit ?_
  refine list_val (.slice (some ⟨w.heap.size, 13, none⟩) 51 51) (by kernel_rfl) (exec_afrom _ (.tmp 3) (.const (.int .i64 13)) rfl (w.heap.size) 13 (by kernel_rfl) (by kernel_rfl) (by omega)) ?_
  simp only [nrm]
  have hlb : Lb u2 (some ⟨w.heap.size, 13, none⟩) 51 51 ((b.drop 13).take 51) := sub_lb (hB.get 0 (x := ⟨w.heap.size, kc b, 50⟩) rfl) (unhide hb).2 13 51 51 (by omega) (by omega) (by omega)
  refine list_call 80 #[.slice (some ⟨w.heap.size, 13, none⟩) 51 51] (by kernel_rfl) (by kernel_rfl) ((oread_ok _ (w.heap.size) 13 51 51 u2 hlb (by omega) (by omega)).mono ?_)
  rintro r u3 ⟨gr, p, c, rfl, hg1, hg2, hR, hg⟩
  rw [hBl] at hR
  have hgs : gs < u2.heap.size := lt_of_block (hB.get 2 (x := ⟨gs, mrv ⟨t, k, 0, Z16⟩, 101⟩) rfl)
  have hne1 : gr ≠ gs := by omega
  have hne2 : p ≠ gs := by omega
  have hB2 := hB.join hg [⟨gr, rdr 0 p 51 c, 144⟩] (by intro x hx; rw [List.mem_singleton] at hx; subst hx; exact ⟨hR.cel, hg1⟩) (List.pairwise_singleton _ _)
  replace hB2 : Bl w [⟨w.heap.size, kc b, 50⟩, ⟨w.heap.size + 1, mrv ZMr, 101⟩, ⟨gs, mrv ⟨t, k, 0, Z16⟩, 101⟩, ⟨gr, rdr 0 p 51 c, 144⟩] u3 := hB2
  clear hB hg1 hg2 hg hgs hlb
  have hB := hB2
  clear hB2
  replace hR := hide hR
  generalize (b.drop 13).take 51 = B12 at *
  refine ⟨_, rfl, ?_⟩
  simp only [nrm]
  (refine wpList_step fun K hK => ?_; replace hK := hide hK; go_simp; refine unhide hK _ _ ?_; clear hK K)
  refine wpList_nil ?_
  replace hB := hide hB
  go_upto_region 3 with fail
  replace hB := unhide hB
  refine wp_region_lit ?_
  refine list_val (.pointer (some ⟨gr, 0, none⟩)) (by kernel_rfl) (by kernel_rfl) ?_
  simp only [nrm]
  refine list_call 81 #[P0 gr] (by kernel_rfl) (by kernel_rfl) ((ru32_ok gr p 51 c 0 B12 u3 (unhide hR) (by omega) (by omega)).mono ?_)
  rintro r u6 ⟨rfl, hR2, hbt⟩
  have hB2 := hB.but hbt 3 (x := ⟨gr, rdr 0 p 51 c, 144⟩) rfl rfl hR2.cel
  simp only [List.set_cons_zero, List.set_cons_succ] at hB2
  clear hB hR
  have hB : Bl w [⟨w.heap.size, kc b, 50⟩, ⟨w.heap.size + 1, mrv ZMr, 101⟩, ⟨gs, mrv ⟨t, k, 0, Z16⟩, 101⟩, ⟨gr, rdr 4 p 51 c, 144⟩] u6 := hB2
  rw [unhide t2]
  have hR : Hid (Rdr gr p 51 c 4 B12 u6) := hR2
  clear hB2 hR2 hbt
  refine ⟨_, rfl, ?_⟩
  simp only [nrm]
  refine list_val (.pointer (some ⟨gs, 2, none⟩)) (by kernel_rfl) (by kernel_rfl) ?_
  simp only [nrm]
  have hR2 := hide ((unhide hR).bt (Bt.setCell (g := gs) u6 2 (.int .u32 (m.n : Int))) hne1 hne2)
  clear hR
  have c4 := cell_of (hB.get 2 (x := ⟨gs, mrv ⟨t, k, 0, Z16⟩, 101⟩) rfl) (i := 2) rfl
  have fz := froz_of (i := 2) (hB.get 2 (x := ⟨gs, mrv ⟨t, k, 0, Z16⟩, 101⟩) rfl)
  have hB2 := hB.cell 2 (x := ⟨gs, mrv ⟨t, k, 0, Z16⟩, 101⟩) rfl 2 (.int .u32 (m.n : Int))
  simp only [List.set_cons_zero, List.set_cons_succ] at hB2
  replace hB2 : Bl w [⟨w.heap.size, kc b, 50⟩, ⟨w.heap.size + 1, mrv ZMr, 101⟩, ⟨gs, mrv ⟨t, k, m.n, Z16⟩, 101⟩, ⟨gr, rdr 4 p 51 c, 144⟩] _ := hB2
  clear hB
  replace hB2 := hide hB2
  dsimp only at c4 fz
  (refine wpList_step fun K hK => ?_; replace hK := hide hK; go_simp; refine unhide hK _ _ ?_; clear hK K)
  clear c4 fz
  have hB := unhide hB2
  clear hB2
  generalize World.setCell _ _ _ = u7 at *
  have hR := hR2
  clear hR2
  refine wpList_nil ?_
  replace hB := hide hB
  go_upto_region 4 with fail
  replace hB := unhide hB
  refine any_start (S := fun _ => True) (by kernel_rfl) ?_
  replace hB := hB.drew
  replace hR := hide ((unhide hR).gr (Gr.refl _).drew)
  generalize World.drew _ = x0 at *
  simp only [List.size_toArray, List.length_cons, List.length_nil, Array.replicate, List.replicate]
  refine any_take (i := 0) (v := (.pointer (some ⟨gs, 3, none⟩))) #[false, false, false, false, false] rfl (by kernel_rfl) (by kernel_rfl) (by kernel_rfl) (by kernel_rfl) (fun _ _ _ h => h) (.inl ⟨by kernel_rfl, fun x_ hu => by kernel_rfl⟩) trivial ?_
  simp only [nrm]
  refine any_take (i := 1) (v := (.slice (some ⟨gs, 3, none⟩) 16 16)) #[true, false, false, false, false] rfl (by kernel_rfl) (by kernel_rfl) (by kernel_rfl) (by kernel_rfl) (fun _ _ _ h => h) (.inl ⟨by kernel_rfl, fun x_ hu => by kernel_rfl⟩) trivial ?_
  simp only [nrm]
  refine any_take (i := 2) (v := (.pointer (some ⟨gr, 0, none⟩))) #[true, true, false, false, false] rfl (by kernel_rfl) (by kernel_rfl) (by kernel_rfl) (by kernel_rfl) (fun _ _ _ h => h) (.inl ⟨by kernel_rfl, fun x_ hu => by kernel_rfl⟩) trivial ?_
  simp only [nrm]
  refine any_one (i := 3) (by kernel_rfl) rfl (fun K_ hQ => ?_)
  refine step_callw (by kernel_rfl) 82 #[P0 gr, .int .i64 ((16 : Nat) : Int)] (by kernel_rfl) ((rraw_ok gr p 51 c 4 16 B12 x0 (unhide hR) (by omega) (by omega) (by omega)).mono ?_)
  rintro r u8 ⟨vr, rfl, hO, hR2, hbt⟩
  refine ⟨_, rfl, ?_⟩
  rw [unhide t3] at hO
  obtain ⟨ar, cr, rfl, hlr⟩ := ob_lb hO (unhide hok).hb hhl
  have hB2 := hB.but hbt 3 (x := ⟨gr, rdr 4 p 51 c, 144⟩) rfl rfl hR2.cel
  simp only [List.set_cons_zero, List.set_cons_succ] at hB2
  clear hB hR hO hbt hR2
  have hB : Bl w [⟨w.heap.size, kc b, 50⟩, ⟨w.heap.size + 1, mrv ZMr, 101⟩, ⟨gs, mrv ⟨t, k, m.n, Z16⟩, 101⟩, ⟨gr, rdr 20 p 51 c, 144⟩] u8 := hB2
  clear hB2
  refine hQ.out _ _ trivial (fun _ => ?_)
  clear hQ K_
  simp only [nrm]
  refine any_one (i := 4) (by kernel_rfl) rfl (fun K_ hQ => ?_)
  rw [if_pos (by kernel_rfl)]
  refine copy_wp (.tmp 20) (.tmp 22) rfl gs 3 16 16 ar 16 cr (by kernel_rfl) (by kernel_rfl) (mrl ⟨t, k, m.n, Z16⟩) 101 (hB.get 2 (x := ⟨gs, mrv ⟨t, k, m.n, Z16⟩, 101⟩) rfl) m.h (by rw [hhl]; rfl) hlr.sl (by have := mrl_len (m := ⟨t, k, m.n, Z16⟩) rfl; rw [hhl]; omega) ?_
  have hcell := setCells_heap (m.h.map (Value.int .u8)) u8 gs 3 (mrl ⟨t, k, m.n, Z16⟩) 101 (hB.get 2 (x := ⟨gs, mrv ⟨t, k, m.n, Z16⟩, 101⟩) rfl)
  rw [sp_mrl _ _ (by rw [hhl]; rfl)] at hcell
  have hB2 := hB.but (setCells_bt (m.h.map (Value.int .u8)) u8 gs 3) 2 (x := ⟨gs, mrv ⟨t, k, m.n, Z16⟩, 101⟩) rfl rfl hcell
  simp only [List.set_cons_zero, List.set_cons_succ] at hB2
  generalize World.setCells _ _ _ _ = u9 at *
  rw [hhl]
  have e9 : (⟨t, k, m.n, m.h⟩ : Mr) = m := by have h1 := unhide e1; have h2 := unhide e2; obtain ⟨a1, a2, a3, a4⟩ := m; dsimp only at h1 h2 ⊢; rw [h1, h2]
  rw [show mrl ⟨t, k, m.n, m.h⟩ = mrl m from congrArg mrl e9] at hB2
  clear hcell hB hlr e9
  have hB : Bl w [⟨w.heap.size, kc b, 50⟩, ⟨w.heap.size + 1, mrv ZMr, 101⟩, ⟨gs, mrv m, 101⟩, ⟨gr, rdr 20 p 51 c, 144⟩] u9 := hB2
  clear hB2
  refine hQ.out _ _ trivial (fun _ => ?_)
  clear hQ K_
  simp only [nrm]
  refine any_done (by kernel_rfl) ?_
  replace hB := hide hB
  go_upto_region 5 with fail
  replace hB := unhide hB
  refine any_start (S := fun (v : World) => v.heap[gs]? = some (.cells (mrv m) 101 (0, 0)) ∧ v.heap[w.heap.size]? = some (.cells (kc b) 50 (0, 0))) (by kernel_rfl) ?_
  replace hB := hB.drew
  generalize World.drew _ = x1 at *
  have hS : (fun (v : World) => v.heap[gs]? = some (.cells (mrv m) 101 (0, 0)) ∧ v.heap[w.heap.size]? = some (.cells (kc b) 50 (0, 0))) x1 := ⟨(hB.get 2 (x := ⟨gs, mrv m, 101⟩) rfl), (hB.get 0 (x := ⟨w.heap.size, kc b, 50⟩) rfl)⟩
  simp only [List.size_toArray, List.length_cons, List.length_nil, Array.replicate, List.replicate]
  refine any_take (i := 0) (v := (.agg (mrv m))) #[false, false, false, false, false, false, false] rfl (by kernel_rfl) (by kernel_rfl) (by kernel_rfl) (by kernel_rfl) (fun _ _ _ h => h) (.inl ⟨by kernel_rfl, fun x_ hu => exec_arr _ 101 (.tmp 8) rfl gs (by kernel_rfl) (mrv m) 101 _ hu.1 Tryd.underlying101 rfl (by rw [Tryd.infoMr, mrv_size hhl])⟩) hS ?_
  simp only [nrm]
  refine any_take (i := 1) (v := (.agg (mrv m))) #[true, false, false, false, false, false, false] rfl (by kernel_rfl) (by kernel_rfl) (by kernel_rfl) (by kernel_rfl) (fun _ _ _ h => h) (.inl ⟨by kernel_rfl, fun x_ hu => exec_arr _ 101 (.tmp 8) rfl gs (by kernel_rfl) (mrv m) 101 _ hu.1 Tryd.underlying101 rfl (by rw [Tryd.infoMr, mrv_size hhl])⟩) hS ?_
  simp only [nrm]
  refine any_take (i := 3) (v := (.agg (kc b))) #[true, true, false, false, false, false, false] rfl (by kernel_rfl) (by kernel_rfl) (by kernel_rfl) (by kernel_rfl) (fun _ _ _ h => h) (.inl ⟨by kernel_rfl, fun x_ hu => exec_arr _ 50 (.tmp 3) rfl (w.heap.size) (by kernel_rfl) (kc b) 50 _ hu.2 Tryd.underlying50 rfl (by rw [Tryd.infoB, kc_size, hbl])⟩) hS ?_
  simp only [nrm]
  refine any_one (i := 2) (by kernel_rfl) rfl (fun K_ hQ => ?_)
  refine step_callw (by kernel_rfl) 62 #[.agg (mrv m)] (by kernel_rfl) ((mblock_ok m (unhide hok) x1 ((unhide hf).gr hB.gr)).mono ?_)
  rintro r u11 ⟨rfl, hg⟩
  refine ⟨_, rfl, ?_⟩
  replace hB := hB.more hg
  have hKl := (Mr.blk_bb (unhide hok)).1
  obtain ⟨BK, hBK⟩ : ∃ x, x = m.blk := ⟨_, rfl⟩
  rw [← hBK] at hKl ⊢
  have hrq : rt = decide (BK = b) := by rw [hBK]; exact unhide hrt
  replace hrq := hide hrq
  replace hS : (fun (v : World) => v.heap[gs]? = some (.cells (mrv m) 101 (0, 0)) ∧ v.heap[w.heap.size]? = some (.cells (kc b) 50 (0, 0))) u11 := ⟨hg.blk hS.1, hg.blk hS.2⟩
  replace hBK := hide hBK
  clear hg
  refine hQ.out _ _ hS (fun _ => ?_)
  clear hQ K_
  simp only [nrm]
  refine any_take (i := 4) (v := (.bool rt)) #[true, true, true, true, false, false, false] rfl (by kernel_rfl) (by kernel_rfl) (by kernel_rfl) (by kernel_rfl) (fun _ _ _ h => h) (.inl ⟨by kernel_rfl, fun x_ hu => exec_eqB _ (.tmp 26) (.tmp 27) rfl BK b hKl hbl (by kernel_rfl) (by kernel_rfl) rt (unhide hrq)⟩) hS ?_
  simp only [nrm]
  refine any_one (i := 5) (by kernel_rfl) rfl (fun K_ hQ => ?_)
  rw [if_pos (by kernel_rfl)]
  refine wp_store_row 101 (.tmp 6) (.tmp 24) rfl (w.heap.size + 1) (mrv m) (by kernel_rfl) (by kernel_rfl) 101 (mrv ZMr) (hB.get 1 (x := ⟨w.heap.size + 1, mrv ZMr, 101⟩) rfl) (by rw [Tryd.infoMr, mrv_size hhl]) (by rw [mrv_size hhl]; rfl) (mrv_one _) ?_
  have hB2 := hB.set 1 (x := ⟨w.heap.size + 1, mrv ZMr, 101⟩) rfl (mrv m)
  simp only [List.set_cons_zero, List.set_cons_succ] at hB2
  generalize World.setRow _ _ _ = u12 at *
  clear hB hS
  have hB : Bl w [⟨w.heap.size, kc b, 50⟩, ⟨w.heap.size + 1, mrv m, 101⟩, ⟨gs, mrv m, 101⟩, ⟨gr, rdr 20 p 51 c, 144⟩] u12 := hB2
  clear hB2
  have hS : (fun (v : World) => v.heap[gs]? = some (.cells (mrv m) 101 (0, 0)) ∧ v.heap[w.heap.size]? = some (.cells (kc b) 50 (0, 0))) u12 := ⟨(hB.get 2 (x := ⟨gs, mrv m, 101⟩) rfl), (hB.get 0 (x := ⟨w.heap.size, kc b, 50⟩) rfl)⟩
  refine hQ.out _ _ hS (fun _ => ?_)
  clear hQ K_
  simp only [nrm]
  refine any_one (i := 6) (by kernel_rfl) rfl (fun K_ hQ => ?_)
  replace hQ := hide hQ
  go_simp
  refine (unhide hQ).out _ _ hS (fun _ => ?_)
  clear hQ K_
  refine any_done (by kernel_rfl) ?_
  replace hB := hide hB
  clear hS
  go_wp2_with fail
  replace hB := unhide hB
  rw [unhide hR0]
  exact bodyPost_ret (v := .tuple #[.agg (mrv m), .bool rt]) (results_cell_tmp Tryd.results55 _ _ (w.heap.size + 1) 101 (mrv m) (0, 0) _ rfl (.bool rt) rfl (hB.get 1 (x := ⟨w.heap.size + 1, mrv m, 101⟩) rfl) Tryd.underlying101 rfl (by rw [Tryd.infoMr, mrv_size hhl])) rfl ⟨rfl, hB.gr⟩
structure Fd2 (t : Nat) (f : Nat → List Int) (N : Nat) (w : World) (v : Value) (X : List (List Int)) (u : Nat) (wr : World) : Prop where
  at_ : u = usd X
  lay : Lay f N t 0 0 X
  ox : Ox w.heap.size wr v X
  gr : Gr w wr
theorem Fd2.more {t : Nat} {f : Nat → List Int} {N : Nat} {w : World} {v : Value} {X : List (List Int)} {u : Nat} {wr x : World} (h : Fd2 t f N w v X u wr) (g : Gr wr x) : Fd2 t f N w v X u x := ⟨h.at_, h.lay, h.ox.gr g, h.gr.trans g⟩
def Fnd (t : Nat) (f : Nat → List Int) (N : Nat) (w : World) (r : Ending) (w' : World) : Prop := ∃ v X, r = .returned (.tuple #[v, .int .i64 0]) ∧ Ox w.heap.size w' v X ∧ Tl f N t X ∧ usd X ≤ N ∧ Gr w w'
theorem eq_Bg (k m : List Int) (hk : k.length = 16) (hm : m.length = 16) (w : World) : Sem.run Tryd.prog (Op.equalIn 10000 99 (.agg (kc k)) (.agg (kc m))) w = .ok (decide (k = m)) w := by
  obtain ⟨i0, hi0, _⟩ := info_parts Tryd.info_b
  rw [run_equalIn_array (P := Tryd.prog) w 9999 (kc k) (kc m) Tryd.underlying99 hi0, Tryd.cells_b]
  refine (eqs_b k m (by omega) 9998 _ (by intro i hi; simp at hi; omega) w).trans ?_
  congr 1
  rw [decide_eq_decide]
  constructor
  · intro h
    exact list_ext (by omega) fun i hi => h i (by simp; omega)
  · rintro rfl i _
    rfl
theorem exec_neBg {a : Act} {o : Oper} (w : World) (x y : Operand) (ho : o.op = .binOp .neq 99 x y 99) (b d : List Int) (hb : b.length = 16) (hd : d.length = 16) (hx : a.eval x = .agg (kc b)) (hy : a.eval y = .agg (kc d)) (q : Bool) (hq : decide (b = d) = !q) : (execOp a.eval o).run Tryd.prog w = .ok (.value (.bool q)) w := by
  have h := eq_Bg b d hb hd w
  rw [hq] at h
  unfold execOp
  simp only [ho, hx, hy]
  go_simp
theorem exec_neB2 {a : Act} {o : Oper} (w : World) (x y : Operand) (ho : o.op = .binOp .neq 50 x y 50) (b d : List Int) (hb : b.length = 64) (hd : d.length = 64) (hx : a.eval x = .agg (kc b)) (hy : a.eval y = .agg (kc d)) (q : Bool) (hq : decide (b = d) = !q) : (execOp a.eval o).run Tryd.prog w = .ok (.value (.bool q)) w := by
  have h := eq_B b d hb hd w
  rw [hq] at h
  unfold execOp
  simp only [ho, hx, hy]
  go_simp
theorem ob_make (w : World) (b m : Nat) (hb : b ≤ w.heap.size) (hm : m ≤ maxLen) : Ob b (w.alloc (.cells (kc (List.replicate m 0)) 5 (0, 0))) (.slice (some ⟨w.heap.size, 0, none⟩) 0 m) [] :=
  ⟨rfl, .inr ⟨w.heap.size, m, _, rfl, hb, blk_new _ _, Nat.zero_le _, hm, by rw [kc_size, List.length_replicate, Nat.mul_one], by simp⟩⟩
theorem bod_slice {f : Nat → List Int} {o : Nat} : ∀ (K i : Nat), i < K → (∀ i, i < K → BB (f (o + i))) → ((bod f o K).drop (63 * i)).take 63 = (f (o + i)).drop 1
  | 0, i, h, _ => absurd h (Nat.not_lt_zero i)
  | K + 1, i, h, hb => by
    have hl := (bod_len (B := f) (o := o) K (fun i hi => hb i (by omega))).1
    have h1 := (hb i h).1
    rw [bod]
    by_cases hi : i < K
    · rw [List.drop_append_of_le_length (by rw [hl]; omega), List.take_append_of_le_length (by rw [List.length_drop, hl]; omega)]
      exact bod_slice K i hi (fun i hi => hb i (by omega))
    · have e : i = K := by omega
      subst e
      rw [← hl, List.drop_left]
      exact List.take_of_length_le (by rw [List.length_drop, h1]; omega)
theorem bod_part {f : Nat → List Int} {o K n i : Nat} (hi : i < K) (hb : ∀ i, i < K → BB (f (o + i))) : ((((bod f o K).take n).drop (63 * i)).take 63) = ((f (o + i)).drop 1).take (min 63 (n - 63 * i)) := by
  rw [← bod_slice K i hi hb, List.drop_take, List.take_take, List.take_take]
  congr 1
  omega
theorem take_more (x : List Int) (j : Nat) : x.take (63 * j) ++ (x.drop (63 * j)).take 63 = x.take (63 * (j + 1)) := by
  rw [← List.take_add, show 63 * j + 63 = 63 * (j + 1) from by omega]
theorem mkL_hash (t k : Nat) (x : List Int) : ((mkL t k x).drop 17).take 16 = sh16 x := by
  have hG := sh16_len x
  unfold mkL mk48
  generalize sh16 (1 :: (lowL (t : Int) 8 ++ (lowL (k : Int) 4 ++ (lowL (x.length : Int) 4 ++ (sh16 x ++ List.replicate 15 0))))) = H
  generalize sh16 x = G at *
  rw [List.cons_append, show (17 : Nat) = 16 + 1 from rfl, List.drop_succ_cons, List.append_assoc, show (16 : Nat) = 8 + 8 from rfl, drop_app _ _ 8 8 (lowL_len _ _), List.append_assoc, show (8 : Nat) = 4 + 4 from rfl, drop_app _ _ 4 4 (lowL_len _ _), List.append_assoc, show (4 : Nat) = 4 + 0 from rfl, drop_app _ _ 4 0 (lowL_len _ _), List.drop_zero, List.append_assoc]
  exact take_app _ _ 16 hG
theorem tx_says {f : Nat → List Int} {N t k u : Nat} {y : List Int} (hN : N ≤ 100000) (h : IsTx f N t k u y) : mrOf t k (f u) = ⟨t, k, y.length, sh16 y⟩ ∧ (mrOf t k (f u)).blk = f u := by
  have e : mrOf t k (f u) = ⟨t, k, y.length, sh16 y⟩ := by
    unfold mrOf
    rw [h.cnt hN, h.mrk, mkL_hash]
  refine ⟨e, ?_⟩
  rw [e, ← mkL_mr, h.mrk]
theorem mark_says {t k : Nat} {b x : List Int} (h : (mrOf t k b).blk = b) (hl : x.length = cn4 b) (hh : sh16 x = (b.drop 17).take 16) : b = mkL t k x := by
  rw [mkL_mr, hl, hh]
  exact h.symm
set_option maxHeartbeats 4000000 in
theorem wfind_ok (t N g : Nat) (ht : t < 18446744073709551616) (f : Nat → List Int) (hfb : ∀ i, i < N → BB (f i)) (hN : N ≤ 512) (w : World) (hsl : ∀ v, Gr w v → ∀ i : Nat, i < N → Calls Tryd.prog 23 #[P0 g, .int .i64 (i : Int)] v (Rrd (f i) 0 v)) (hf : Fst w) : Calls Tryd.prog 32 #[.int .u64 (t : Int), .int .i64 (N : Int), .func (.func 23) #[P0 g] #[]] w (Fnd t f N w) := by
  obtain ⟨T, hT⟩ : ∃ T, T = Fnd t f N w := ⟨_, rfl⟩
  rw [← hT]
  replace hT := hide hT
  have hT2 : Hid (T = fun r w' => ∃ v X, r = .returned (.tuple #[v, .int .i64 0]) ∧ Ox w.heap.size w' v X ∧ Tl f N t X ∧ usd X ≤ N ∧ Gr w w') := hT
  clear hT
  replace hfb := hide hfb; replace hsl := hide hsl; replace hf := hide hf
  have hI0 : Hid (Fd2 t f N w (.slice none 0 0) [] 0 w) := ⟨rfl, trivial, Ox.nil _ w, Gr.refl w⟩
  go_enter Tryd.func32, Tryd.ntmps32
  refine wp_seq ?_
  go_wp2_with fail
  refine wp_scope_straight ?_
  go_wp2_with fail
  refine wp_label ?_
  go_wp2_with fail
  go_loopw [8, 9] (fun v i wr => ∃ (X : List (List Int)) (u : Nat), u ≤ N ∧ i = .int .i64 (u : Int) ∧ Hid (Fd2 t f N w v X u wr)) (fun _ i _ => N - (intOf i).toNat)
  case atStart => exact ⟨[], 0, by omega, rfl, hI0⟩
  case round =>
  clear hI0
  obtain ⟨X, u, hu, rfl, hJ⟩ := hrel
  obtain ⟨xa, xc, rfl, hlq⟩ := (unhide hJ).ox.lq
  clear hlq
  have hxu : X.length ≤ N := by have h1 := (unhide hJ).at_; have h2 := usd_ge X; omega
  by_cases hun : u < N
  · skip
    have uI : (u : Int) < (N : Int) := by omega
    obtain ⟨b, hb⟩ : ∃ b, b = f u := ⟨_, rfl⟩
    have hbb := (unhide hfb) u hun
    rw [← hb] at hbb
    have hbl := hbb.1
    replace hb := hide hb; replace hbb := hide hbb
    have hB := Bl.nil wr
    go_upto_region 4 with fail
    refine wp_region_lit ?_
    refine list_val (.func (.func 23) #[P0 g] #[]) (by kernel_rfl) (by kernel_rfl) ?_
    simp only [nrm]
    refine list_val (.int .i64 (u : Int)) (by kernel_rfl) (by kernel_rfl) ?_
    simp only [nrm]
    refine list_call 23 #[P0 g, .int .i64 (u : Int)] (by kernel_rfl) (by kernel_rfl) (((unhide hsl) _ ((unhide hJ).gr.trans hB.gr) u hun).mono ?_)
    rintro r y0 ⟨rfl, hg⟩
    replace hB := hB.more hg
    clear hg
    rw [← unhide hb]
    refine ⟨_, rfl, ?_⟩
    simp only [nrm]
    refine list_val (.tuple #[.agg (kc b), .int .i64 0]) (by kernel_rfl) (by kernel_rfl) ?_
    simp only [nrm]
    refine list_val (.agg (kc b)) (by kernel_rfl) (by kernel_rfl) ?_
    simp only [nrm]
    refine list_val (.int .i64 0) (by kernel_rfl) (by kernel_rfl) ?_
    simp only [nrm]
    refine list_valw (.pointer (some ⟨y0.heap.size, 0, none⟩)) (y0.alloc (.cells (kc ZB) 50 (0, 0))) (by kernel_rfl) (by kernel_rfl) ?_
    replace hB := hB.new (kc ZB) 50
    simp only [List.nil_append, List.cons_append] at hB
    generalize World.alloc _ _ = y1 at *
    generalize y0.heap.size = gb at *
    replace hB : Bl wr [⟨gb, kc ZB, 50⟩] y1 := hB
    simp only [nrm]
    refine list_store 50 (.tmp 10) (.tmp 27) (gb) (kc b) 50 (kc ZB) (by kernel_rfl) rfl (by kernel_rfl) (by kernel_rfl) (hB.get 0 (x := ⟨gb, kc ZB, 50⟩) rfl) (by rw [Tryd.infoB, kc_size, hbl]) ((show (kc ZB).size = 64 from rfl).trans ((kc_size _).trans hbl).symm) (kc_one _) ?_
    replace hB := hB.set 0 (x := ⟨gb, kc ZB, 50⟩) rfl (kc b)
    simp only [List.set_cons_zero, List.set_cons_succ] at hB
    generalize World.setRow _ _ _ = y2 at *
    replace hB : Bl wr [⟨gb, kc b, 50⟩] y2 := hB
    simp only [nrm]
    (refine wpList_step fun K hK => ?_; replace hK := hide hK; go_simp; refine unhide hK _ _ ?_; clear hK K)
    refine wpList_nil ?_
    replace hB := hide hB
    go_upto_region 7 with fail
    replace hB := unhide hB
    obtain ⟨m, hm⟩ : ∃ m, m = mrOf t X.length b := ⟨_, rfl⟩
    obtain ⟨rt, hrt⟩ : ∃ r, r = decide (m.blk = b) := ⟨_, rfl⟩
    have hmo : m.Ok := by rw [hm]; exact mrOf_ok ht (by omega) (unhide hbb)
    obtain ⟨n, hn⟩ : ∃ n, n = m.n := ⟨_, rfl⟩
    have hnc : cn4 b = n := by rw [hn, hm]; rfl
    have hmh : m.h = (b.drop 17).take 16 := by rw [hm]; rfl
    have hnb : n < 4294967296 := by rw [hn]; exact hmo.n
    have hmhl := hmo.hl
    replace hm := hide hm; replace hrt := hide hrt; replace hmo := hide hmo; replace hn := hide hn; replace hnc := hide hnc; replace hmh := hide hmh
    refine wp_region_lit ?_
    refine list_val (.agg (kc b)) (by kernel_rfl) (exec_arr _ 50 (.tmp 10) rfl (gb) (by kernel_rfl) (kc b) 50 _ (hB.get 0 (x := ⟨gb, kc b, 50⟩) rfl) Tryd.underlying50 rfl (by rw [Tryd.infoB, kc_size, hbl])) ?_
    simp only [nrm]
    refine list_val (.int .u64 (t : Int)) (by kernel_rfl) (by kernel_rfl) ?_
    simp only [nrm]
    refine list_val (.slice xa X.length xc) (by kernel_rfl) (by kernel_rfl) ?_
    simp only [nrm]
    refine list_val (.int .i64 (X.length : Int)) (by kernel_rfl) (by kernel_rfl) ?_
    simp only [nrm]
    refine list_call 55 #[.agg (kc b), .int .u64 (t : Int), .int .i64 (X.length : Int)] (by kernel_rfl) (by kernel_rfl) ((wread_ok t X.length ht (by omega) b (unhide hbb) _ ((unhide hf).gr ((unhide hJ).gr.trans hB.gr))).mono ?_)
    rintro r y3 ⟨rfl, hg⟩
    rw [← unhide hm, ← unhide hrt]
    replace hB := hB.more hg
    clear hg
    refine ⟨_, rfl, ?_⟩
    simp only [nrm]
    refine list_val (.tuple #[.agg (mrv m), .bool rt]) (by kernel_rfl) (by kernel_rfl) ?_
    simp only [nrm]
    refine list_val (.agg (mrv m)) (by kernel_rfl) (by kernel_rfl) ?_
    simp only [nrm]
    refine list_val (.bool rt) (by kernel_rfl) (by kernel_rfl) ?_
    simp only [nrm]
    refine list_valw (.pointer (some ⟨y3.heap.size, 0, none⟩)) (y3.alloc (.cells (mrv ZMr) 101 (0, 0))) (by kernel_rfl) (by kernel_rfl) ?_
    replace hB := hB.new (mrv ZMr) 101
    simp only [List.nil_append, List.cons_append] at hB
    generalize World.alloc _ _ = y4 at *
    generalize y3.heap.size = gm at *
    replace hB : Bl wr [⟨gb, kc b, 50⟩, ⟨gm, mrv ZMr, 101⟩] y4 := hB
    simp only [nrm]
    refine list_store 101 (.tmp 12) (.tmp 38) gm (mrv m) 101 (mrv ZMr) (by kernel_rfl) rfl (by kernel_rfl) (by kernel_rfl) (hB.get 1 (x := ⟨gm, mrv ZMr, 101⟩) rfl) (by rw [Tryd.infoMr, mrv_size hmhl]) (by rw [mrv_size hmhl]; rfl) (mrv_one _) ?_
    replace hB := hB.set 1 (x := ⟨gm, mrv ZMr, 101⟩) rfl (mrv m)
    simp only [List.set_cons_zero, List.set_cons_succ] at hB
    generalize World.setRow _ _ _ = y5 at *
    replace hB : Bl wr [⟨gb, kc b, 50⟩, ⟨gm, mrv m, 101⟩] y5 := hB
    simp only [nrm]
    (refine wpList_step fun K hK => ?_; replace hK := hide hK; go_simp; refine unhide hK _ _ ?_; clear hK K)
    refine wpList_nil ?_
    have wn : IntKind.i64.wrap (n : Int) = (n : Int) := by rw [IntKind.wrap_i64]; omega
    replace hB := hide hB
    go_upto_region 8 with fail
    replace hB := unhide hB
    refine wp_region_lit ?_
    refine list_val (.pointer (some ⟨gm, 2, none⟩)) (by kernel_rfl) (by kernel_rfl) ?_
    simp only [nrm]
    refine list_val (.int .u32 (n : Int)) (by kernel_rfl) (exec_w32 _ (.tmp 40) rfl gm 2 (by kernel_rfl) _ (by rw [unhide hn]; exact (mrv_cells (hB.get 1 (x := ⟨gm, mrv m, 101⟩) rfl)).2.2)) ?_
    simp only [nrm]
    refine list_val (.int .i64 (n : Int)) (by kernel_rfl) (by go_simp) ?_
    simp only [nrm]
    (refine wpList_step fun K hK => ?_; replace hK := hide hK; go_simp; refine unhide hK _ _ ?_; clear hK K)
    refine wpList_nil ?_
    obtain ⟨K, hK⟩ : ∃ K, K = (n + 62) / 63 := ⟨_, rfl⟩
    have hnK : ned n = K + 1 := by unfold ned; omega
    have hKb : K < 100000000 := by omega
    have hnK2 : n ≤ 63 * K ∧ 63 * K < n + 63 := by omega
    obtain ⟨e, he⟩ : ∃ e, e = u + (K + 1) := ⟨_, rfl⟩
    have ewe : IntKind.i64.wrap ((u : Int) + ((K : Int) + 1)) = (e : Int) := by rw [IntKind.wrap_i64]; omega
    have ewn : IntKind.i64.wrap ((N : Int) - (u : Int)) = ((N - u : Nat) : Int) := by rw [IntKind.wrap_i64]; omega
    replace hK := hide hK; replace hnK := hide hnK; replace he := hide he
    have hgm0 : Hid (y5.heap[gm]? = some (.cells (mrv m) 101 (0, 0))) := (hB.get 1 (x := ⟨gm, mrv m, 101⟩) rfl)
    replace hJ := hide ((unhide hJ).more hB.gr)
    clear hB
    cases rt
    · skip
      go_upto_region 9 with fail
      refine wp_region_lit ?_
      refine list_val (.bool false) (by kernel_rfl) (by kernel_rfl) ?_
      simp only [nrm]
      refine list_val (.bool true) (by kernel_rfl) (by kernel_rfl) ?_
      simp only [nrm]
      refine list_val (.bool true) (by kernel_rfl) (by kernel_rfl) ?_
      simp only [nrm]
      refine wpList_step fun K hK => ?_
      rw [if_neg (ne_true_of_eq_false (by kernel_rfl))]
      refine hK _ _ ?_
      clear hK K
      simp only [nrm]
      refine wpList_step fun K hK => ?_
      rw [if_neg (ne_true_of_eq_false (by kernel_rfl))]
      refine hK _ _ ?_
      clear hK K
      simp only [nrm]
      refine wpList_step fun K hK => ?_
      rw [if_neg (ne_true_of_eq_false (by kernel_rfl))]
      refine hK _ _ ?_
      clear hK K
      simp only [nrm]
      refine wpList_step fun K hK => ?_
      rw [if_neg (ne_true_of_eq_false (by kernel_rfl))]
      refine hK _ _ ?_
      clear hK K
      simp only [nrm]
      refine wpList_step fun K hK => ?_
      rw [if_neg (ne_true_of_eq_false (by kernel_rfl))]
      refine hK _ _ ?_
      clear hK K
      simp only [nrm]
      refine wpList_step fun K hK => ?_
      rw [if_neg (ne_true_of_eq_false (by kernel_rfl))]
      refine hK _ _ ?_
      clear hK K
      simp only [nrm]
      refine list_val (.bool true) (by kernel_rfl) (by kernel_rfl) ?_
      simp only [nrm]
      refine wpList_nil ?_
      have hZ : Hid (∃ v Y, (Ending.returned (.tuple #[.slice xa X.length xc, .int .i64 0])) = .returned (.tuple #[v, .int .i64 0]) ∧ Ox w.heap.size y5 v Y ∧ Tl f N t Y ∧ usd Y ≤ N ∧ Gr w y5) := by
        have hj := unhide hJ
        refine ⟨_, X, rfl, hj.ox, ⟨hj.lay, fun x9 k9 => ?_⟩, by rw [← hj.at_]; exact hu, hj.gr⟩
        rw [← hj.at_] at k9
        have h1 := (tx_says (by omega) k9).2
        rw [← unhide hb, ← unhide hm] at h1
        have h2 := unhide hrt
        rw [decide_eq_true h1] at h2
        cases h2
      clear hJ
      go_wp2_with fail
      rw [unhide hT2]
      exact unhide hZ
    by_cases hfit : e ≤ N
    · skip
      have hB := Bl.nil y5
      go_upto_region 9 with fail
      refine wp_region_lit ?_
      refine list_val (.bool true) (by kernel_rfl) (by kernel_rfl) ?_
      simp only [nrm]
      refine list_val (.bool false) (by kernel_rfl) (by kernel_rfl) ?_
      simp only [nrm]
      refine list_val (.bool false) (by kernel_rfl) (by kernel_rfl) ?_
      simp only [nrm]
      refine list_val (.int .i64 (n : Int)) (by kernel_rfl) (by kernel_rfl) ?_
      simp only [nrm]
      refine list_val (.int .i64 (N : Int)) (by kernel_rfl) (by kernel_rfl) ?_
      simp only [nrm]
      refine list_val (.int .i64 (u : Int)) (by kernel_rfl) (by kernel_rfl) ?_
      simp only [nrm]
      refine list_val (.int .i64 ((N - u : Nat) : Int)) (by kernel_rfl) (by go_simp) ?_
      simp only [nrm]
      refine list_call 33 #[.int .i64 (n : Int), .int .i64 ((N - u : Nat) : Int)] (by kernel_rfl) (by kernel_rfl) ((wfits_ok (n : Int) ((N - u : Nat) : Int) (by omega) (by omega) _).mono ?_)
      rintro r y6 ⟨rfl, hg⟩
      have hde : decide (0 ≤ (n : Int) ∧ nedI (n : Int) ≤ ((N - u : Nat) : Int)) = true := by
        rw [nedI_nat, unhide hnK]
        have h1 := unhide he
        exact decide_eq_true ⟨by omega, by omega⟩
      rw [hde]
      clear hde
      replace hB := hB.more hg
      clear hg
      refine ⟨_, rfl, ?_⟩
      simp only [nrm]
      refine list_val (.bool false) (by kernel_rfl) (by kernel_rfl) ?_
      simp only [nrm]
      refine list_val (.bool false) (by kernel_rfl) (by kernel_rfl) ?_
      simp only [nrm]
      refine wpList_nil ?_
      replace hJ := hide ((unhide hJ).more hB.gr)
      replace hgm0 := hide (hB.gr.blk (unhide hgm0))
      clear hB
      have hB := Bl.nil y6
      go_upto_region 10 with fail
      refine wp_region_lit ?_
      refine list_val (.int .i64 (u : Int)) (by kernel_rfl) (by kernel_rfl) ?_
      simp only [nrm]
      refine list_val (.int .i64 (n : Int)) (by kernel_rfl) (by kernel_rfl) ?_
      simp only [nrm]
      refine list_call 25 #[.int .i64 (n : Int)] (by kernel_rfl) (by kernel_rfl) ((wneed_ok (n : Int) (by omega) (by omega) _).mono ?_)
      rintro r y7 ⟨rfl, hg⟩
      refine ⟨_, rfl, ?_⟩
      rw [nedI_nat, unhide hnK]
      replace hB := hB.more hg
      clear hg
      simp only [nrm]
      refine list_val (.int .i64 (e : Int)) (by kernel_rfl) (by go_simp) ?_
      simp only [nrm]
      (refine wpList_step fun K hK => ?_; replace hK := hide hK; go_simp; refine unhide hK _ _ ?_; clear hK K)
      refine wpList_nil ?_
      replace hJ := hide ((unhide hJ).more hB.gr)
      replace hgm0 := hide (hB.gr.blk (unhide hgm0))
      clear hB
      have hKN : K + 1 ≤ N := by have h2 := unhide he; omega
      obtain ⟨x, hx⟩ : ∃ x, x = (bod f (u + 1) K).take n := ⟨_, rfl⟩
      have hbk : ∀ i, i < K → BB (f (u + 1 + i)) := fun i hi => (unhide hfb) _ (by have := unhide he; omega)
      obtain ⟨hbd1, hbd2⟩ := bod_len (B := f) (o := u + 1) K hbk
      have hxl : x.length = n := by rw [hx, List.length_take, hbd1]; omega
      have hxb : IsB x := fun z hz => hbd2 z (by rw [hx] at hz; exact List.mem_of_mem_take hz)
      clear hbd1 hbd2
      replace hx := hide hx; replace hbk := hide hbk; replace hxl := hide hxl; replace hxb := hide hxb
      go_upto_region 11 with fail
      refine wp_region_lit ?_
      refine list_val (.int .i64 (n : Int)) (by kernel_rfl) (by kernel_rfl) ?_
      simp only [nrm]
      refine wpList_step fun K_ hQ => ?_
      rw [if_pos (by kernel_rfl)]
      refine make_op (.const (.int .i64 0)) (.tmp 57) rfl 0 n (by kernel_rfl) (by kernel_rfl) (by omega) (by omega) ?_
      have hO0 : Hid (Ob y7.heap.size (y7.alloc (.cells (kc (List.replicate n 0)) 5 (0, 0))) (.slice (some ⟨y7.heap.size, 0, none⟩) 0 n) (x.take (63 * 0))) := by
        show Ob _ _ _ _
        exact ob_make y7 y7.heap.size n (Nat.le_refl _) (by unfold maxLen; omega)
      have hg0 : Hid (Gr y7 (y7.alloc (.cells (kc (List.replicate n 0)) 5 (0, 0)))) := (Gr.refl y7).alloc _
      refine hQ _ _ ?_
      clear hQ K_
      generalize hal_ : World.alloc _ _ = y8 at *
      clear hal_
      obtain ⟨tv, htv⟩ : ∃ v, v = Value.slice (some ⟨y7.heap.size, 0, none⟩) 0 n := ⟨_, rfl⟩
      rw [← htv] at hO0 ⊢
      clear htv
      simp only [nrm]
      (refine wpList_step fun K hK => ?_; replace hK := hide hK; go_simp; refine unhide hK _ _ ?_; clear hK K)
      refine wpList_nil ?_
      obtain ⟨q0, hq0⟩ : ∃ q, q = u + 1 := ⟨_, rfl⟩
      have eq0 : IntKind.i64.wrap ((u : Int) + 1) = (q0 : Int) := by rw [IntKind.wrap_i64]; omega
      replace hq0 := hide hq0
      go_wp2_with fail
      go_loopw [9, 16] (fun i v wr => ∃ (j q : Nat), j ≤ K ∧ i = .int .i64 (q : Int) ∧ Hid (q = u + 1 + j ∧ Ob y7.heap.size wr v (x.take (63 * j)) ∧ Gr y7 wr ∧ ∀ i, i < j → f (u + 1 + i) = dat x i)) (fun i _ _ => e - (intOf i).toNat)
      case atStart => exact ⟨0, q0, by omega, rfl, ⟨by rw [unhide hq0], unhide hO0, unhide hg0, fun i hi => absurd hi (Nat.not_lt_zero i)⟩⟩
      case round =>
      clear hO0 hg0 hq0
      obtain ⟨j, q, hj, rfl, hA⟩ := hrel
      obtain ⟨hq, hO, hG, hda⟩ := unhide hA
      clear hA
      have hxi : IsB (x.take (63 * j)) := fun z hz => (unhide hxb) z (List.mem_of_mem_take hz)
      replace hO := hide hO; replace hG := hide hG; replace hq := hide hq; replace hda := hide hda; replace hxi := hide hxi
      by_cases hjK : j < K
      · skip
        have hj63 : 63 * j < n := by omega
        have hxtl : (x.take (63 * j)).length = 63 * j := by rw [List.length_take, unhide hxl]; omega
        obtain ⟨ta, tc, rfl, tl⟩ := ob_lb (unhide hO) (unhide hxi) (n := 63 * j) hxtl
        clear tl
        have qI : (q : Int) < (e : Int) := by have h1 := unhide hq; have h2 := unhide he; omega
        have hqN : q < N := by have h1 := unhide hq; have h2 := unhide he; omega
        obtain ⟨r, hr⟩ : ∃ r, r = min 63 (n - 63 * j) := ⟨_, rfl⟩
        have hr63 : r ≤ 63 := by omega
        have hrn : r ≤ n - 63 * j := by omega
        obtain ⟨S, hS⟩ : ∃ S, S = (x.drop (63 * j)).take 63 := ⟨_, rfl⟩
        obtain ⟨fq, hfq⟩ : ∃ s, s = f q := ⟨_, rfl⟩
        have hfb2 := (unhide hfb) q hqN
        rw [← hfq] at hfb2
        have hfl := hfb2.1
        have hS2 : S = (fq.drop 1).take r := by
          rw [hS, unhide hx, bod_part hjK (unhide hbk), hfq, unhide hq, hr]
        have hSl : S.length = r := by rw [hS2, List.length_take, List.length_drop, hfl]; omega
        have hdt : lay ZB 1 S = dat x j := by rw [hS]; exact lay_dat x j
        have hap : x.take (63 * j) ++ S = x.take (63 * (j + 1)) := by rw [hS]; exact take_more x j
        have hSn : Lb wr none 0 0 [] := Lb.nil0 wr
        have wsub : IntKind.i64.wrap ((n : Int) - 63 * (j : Int)) = ((n - 63 * j : Nat) : Int) := by rw [IntKind.wrap_i64]; omega
        clear hSn
        replace hr := hide hr; replace hS := hide hS; replace hfq := hide hfq; replace hfb2 := hide hfb2; replace hS2 := hide hS2; replace hdt := hide hdt; replace hap := hide hap; replace hSl := hide hSl; replace hxtl := hide hxtl
        have hB := Bl.nil wr
        go_upto_region 15 with fail
        refine wp_region_lit ?_
        refine list_val (.func (.func 23) #[P0 g] #[]) (by kernel_rfl) (by kernel_rfl) ?_
        simp only [nrm]
        refine list_val (.int .i64 (q : Int)) (by kernel_rfl) (by kernel_rfl) ?_
        simp only [nrm]
        refine list_call 23 #[P0 g, .int .i64 (q : Int)] (by kernel_rfl) (by kernel_rfl) (((unhide hsl) _ ((unhide hJ).gr.trans ((unhide hG).trans hB.gr)) q hqN).mono ?_)
        rintro r z0 ⟨rfl, hg⟩
        replace hB := hB.more hg
        clear hg
        rw [← unhide hfq]
        refine ⟨_, rfl, ?_⟩
        simp only [nrm]
        refine list_val (.tuple #[.agg (kc fq), .int .i64 0]) (by kernel_rfl) (by kernel_rfl) ?_
        simp only [nrm]
        refine list_val (.agg (kc fq)) (by kernel_rfl) (by kernel_rfl) ?_
        simp only [nrm]
        refine list_val (.int .i64 0) (by kernel_rfl) (by kernel_rfl) ?_
        simp only [nrm]
        refine list_valw (.pointer (some ⟨z0.heap.size, 0, none⟩)) (z0.alloc (.cells (kc ZB) 50 (0, 0))) (by kernel_rfl) (by kernel_rfl) ?_
        replace hB := hB.new (kc ZB) 50
        simp only [List.nil_append, List.cons_append] at hB
        generalize World.alloc _ _ = z1 at *
        generalize z0.heap.size = gx at *
        replace hB : Bl wr [⟨gx, kc ZB, 50⟩] z1 := hB
        simp only [nrm]
        refine list_store 50 (.tmp 17) (.tmp 70) (gx) (kc fq) 50 (kc ZB) (by kernel_rfl) rfl (by kernel_rfl) (by kernel_rfl) (hB.get 0 (x := ⟨gx, kc ZB, 50⟩) rfl) (by rw [Tryd.infoB, kc_size, hfl]) ((show (kc ZB).size = 64 from rfl).trans ((kc_size _).trans hfl).symm) (kc_one _) ?_
        replace hB := hB.set 0 (x := ⟨gx, kc ZB, 50⟩) rfl (kc fq)
        simp only [List.set_cons_zero, List.set_cons_succ] at hB
        generalize World.setRow _ _ _ = z2 at *
        replace hB : Bl wr [⟨gx, kc fq, 50⟩] z2 := hB
        simp only [nrm]
        (refine wpList_step fun K hK => ?_; replace hK := hide hK; go_simp; refine unhide hK _ _ ?_; clear hK K)
        refine wpList_nil ?_
        replace hB := hide hB
        go_upto_region 18 with fail
        replace hB := unhide hB
        refine wp_region_lit ?_
        refine list_val (.slice (some ⟨gx, 1, none⟩) 63 63) (by kernel_rfl) (exec_afrom _ (.tmp 17) (.const (.int .i64 1)) rfl gx 1 (by kernel_rfl) (by kernel_rfl) (by omega)) ?_
        simp only [nrm]
        refine list_val (.int .i64 (n : Int)) (by kernel_rfl) (by kernel_rfl) ?_
        simp only [nrm]
        refine list_val (.slice ta (63 * j) tc) (by kernel_rfl) (by kernel_rfl) ?_
        simp only [nrm]
        refine list_val (.int .i64 ((63 * j : Nat) : Int)) (by kernel_rfl) (by kernel_rfl) ?_
        simp only [nrm]
        refine list_val (.int .i64 ((n - 63 * j : Nat) : Int)) (by kernel_rfl) (by go_simp) ?_
        simp only [nrm]
        refine list_val (.int .i64 (r : Int)) (by kernel_rfl) (by have h9 := unhide hr; go_simp; omega) ?_
        simp only [nrm]
        refine list_val (.slice (some ⟨gx, 1, none⟩) r 63) (by kernel_rfl) (exec_upto2 _ (.tmp 75) (.tmp 80) rfl (some ⟨gx, 1, none⟩) 63 63 r (by kernel_rfl) (by kernel_rfl) (by omega) hr63) ?_
        simp only [nrm]
        (refine wpList_step fun K hK => ?_; replace hK := hide hK; go_simp; refine unhide hK _ _ ?_; clear hK K)
        refine wpList_nil ?_
        have hgx : Hid (z2.heap[gx]? = some (.cells (kc fq) 50 (0, 0))) := (hB.get 0 (x := ⟨gx, kc fq, 50⟩) rfl)
        have hG2 := hide ((unhide hG).trans hB.gr)
        replace hO := hide ((unhide hO).gr hB.gr)
        clear hB hG
        by_cases heq : fq = dat x j
        · skip
          obtain ⟨DX, hDX⟩ : ∃ d, d = dat x j := ⟨_, rfl⟩
          have hDl : DX.length = 64 := by rw [hDX]; exact dat_len x j
          have hde : decide (fq = DX) = !false := by rw [hDX]; exact decide_eq_true heq
          replace hDX := hide hDX; replace hde := hide hde; replace heq := hide heq
          go_upto_region 19 with fail
          refine any_start (S := fun (v : World) => v.heap[gx]? = some (.cells (kc fq) 50 (0, 0))) (by kernel_rfl) ?_
          have hG9 := (Gr.refl z2).drew
          generalize World.drew _ = x0 at *
          have hS9 : (fun (v : World) => v.heap[gx]? = some (.cells (kc fq) 50 (0, 0))) x0 := hG9.blk (unhide hgx)
          have hlb : Lb x0 (some ⟨gx, 1, none⟩) r 63 S := by
            rw [unhide hS2]
            exact sub_lb hS9 (unhide hfb2).2 1 r 63 (by rw [hfl]; omega) hr63 (by omega)
          simp only [List.size_toArray, List.length_cons, List.length_nil, Array.replicate, List.replicate]
          refine any_take (i := 0) (v := (.agg (kc fq))) #[false, false, false, false] rfl (by kernel_rfl) (by kernel_rfl) (by kernel_rfl) (by kernel_rfl) (fun _ _ _ h => h) (.inl ⟨by kernel_rfl, fun x_ hu => exec_arr _ 50 (.tmp 17) rfl gx (by kernel_rfl) (kc fq) 50 _ hu Tryd.underlying50 rfl (by rw [Tryd.infoB, kc_size, hfl])⟩) hS9 ?_
          simp only [nrm]
          refine any_take (i := 1) (v := (.slice (some ⟨gx, 1, none⟩) r 63)) #[true, false, false, false] rfl (by kernel_rfl) (by kernel_rfl) (by kernel_rfl) (by kernel_rfl) (fun _ _ _ h => h) (.inl ⟨by kernel_rfl, fun x_ hu => by kernel_rfl⟩) hS9 ?_
          simp only [nrm]
          refine any_one (i := 2) (by kernel_rfl) rfl (fun K_ hQ => ?_)
          refine step_callw (by kernel_rfl) 56 #[.slice (some ⟨gx, 1, none⟩) r 63] (by kernel_rfl) ((wsector_ok S (some ⟨gx, 1, none⟩) r 63 x0 hlb (by omega)).mono ?_)
          rintro r z3 ⟨rfl, hg⟩
          refine ⟨_, rfl, ?_⟩
          rw [unhide hdt, ← unhide hDX]
          replace hS9 : (fun (v : World) => v.heap[gx]? = some (.cells (kc fq) 50 (0, 0))) z3 := hg.blk hS9
          replace hG9 := hG9.trans hg
          clear hg hlb
          refine hQ.out _ _ hS9 (fun _ => ?_)
          clear hQ K_
          simp only [nrm]
          refine any_take (i := 3) (v := (.bool false)) #[true, true, true, false] rfl (by kernel_rfl) (by kernel_rfl) (by kernel_rfl) (by kernel_rfl) (fun _ _ _ h => h) (.inl ⟨by kernel_rfl, fun x_ hu => exec_neB2 _ (.tmp 82) (.tmp 84) rfl fq DX hfl hDl (by kernel_rfl) (by kernel_rfl) false (unhide hde)⟩) hS9 ?_
          simp only [nrm]
          refine any_done (by kernel_rfl) ?_
          replace hG2 := hide ((unhide hG2).trans hG9)
          replace hO := hide ((unhide hO).gr hG9)
          replace hgx := hide hS9
          clear hG9 hS9
          have hsl2 : Hid (Sl z3 (some ⟨gx, 1, none⟩) S) := by
            show Sl _ _ _
            rw [unhide hS2]
            exact (sub_lb (unhide hgx) (unhide hfb2).2 1 r 63 (by rw [hfl]; omega) hr63 (by omega)).sl
          go_upto_region 20 with fail
          refine wp_region_lit ?_
          refine list_val (.slice ta (63 * j) tc) (by kernel_rfl) (by kernel_rfl) ?_
          simp only [nrm]
          refine list_val (.slice (some ⟨gx, 1, none⟩) r 63) (by kernel_rfl) (by kernel_rfl) ?_
          simp only [nrm]
          refine app_bs (by kernel_rfl) (.tmp 86) (.tmp 87) rfl y7.heap.size _ _ rfl (unhide hO) (some ⟨gx, 1, none⟩) r 63 S rfl (unhide hSl) (unhide hsl2) (by rw [unhide hxtl]; omega) (unhide hG2).size ?_
          intro v2 z4 hO3 hgr
          have hG3 : Hid (Gr y7 z4) := (unhide hO).grown (Nat.le_refl _) (unhide hG2) hgr
          have hO4 : Hid (Ob y7.heap.size z4 v2 (x.take (63 * (j + 1)))) := by
            show Ob _ _ _ _
            rw [← unhide hap]
            exact hO3
          clear hO hO3 hgr hsl2 hG2
          simp only [nrm]
          (refine wpList_step fun K hK => ?_; replace hK := hide hK; go_simp; refine unhide hK _ _ ?_; clear hK K)
          refine wpList_nil ?_
          have eq1 : IntKind.i64.wrap ((q : Int) + 1) = ((q + 1 : Nat) : Int) := by rw [IntKind.wrap_i64]; omega
          have hda2 : Hid (∀ i, i < j + 1 → f (u + 1 + i) = dat x i) := by
            intro i hi
            rcases Nat.lt_or_eq_of_le (Nat.le_of_lt_succ hi) with h3 | h3
            · exact (unhide hda) i h3
            · rw [h3, ← unhide hq, ← unhide hfq]; exact unhide heq
          go_wp2_with fail
          go_roundw
          case rel => exact ⟨j + 1, q + 1, by omega, by go_num, ⟨by have := unhide hq; omega, unhide hO4, unhide hG3, unhide hda2⟩⟩
          case measure => have h1 := unhide hq; have h2 := unhide he; simp [intOf]; omega
        · skip
          obtain ⟨DX, hDX⟩ : ∃ d, d = dat x j := ⟨_, rfl⟩
          have hDl : DX.length = 64 := by rw [hDX]; exact dat_len x j
          have hde : decide (fq = DX) = !true := by rw [hDX]; exact decide_eq_false heq
          replace hDX := hide hDX; replace hde := hide hde; replace heq := hide heq
          go_upto_region 19 with fail
          refine any_start (S := fun (v : World) => v.heap[gx]? = some (.cells (kc fq) 50 (0, 0))) (by kernel_rfl) ?_
          have hG9 := (Gr.refl z2).drew
          generalize World.drew _ = x0 at *
          have hS9 : (fun (v : World) => v.heap[gx]? = some (.cells (kc fq) 50 (0, 0))) x0 := hG9.blk (unhide hgx)
          have hlb : Lb x0 (some ⟨gx, 1, none⟩) r 63 S := by
            rw [unhide hS2]
            exact sub_lb hS9 (unhide hfb2).2 1 r 63 (by rw [hfl]; omega) hr63 (by omega)
          simp only [List.size_toArray, List.length_cons, List.length_nil, Array.replicate, List.replicate]
          refine any_take (i := 0) (v := (.agg (kc fq))) #[false, false, false, false] rfl (by kernel_rfl) (by kernel_rfl) (by kernel_rfl) (by kernel_rfl) (fun _ _ _ h => h) (.inl ⟨by kernel_rfl, fun x_ hu => exec_arr _ 50 (.tmp 17) rfl gx (by kernel_rfl) (kc fq) 50 _ hu Tryd.underlying50 rfl (by rw [Tryd.infoB, kc_size, hfl])⟩) hS9 ?_
          simp only [nrm]
          refine any_take (i := 1) (v := (.slice (some ⟨gx, 1, none⟩) r 63)) #[true, false, false, false] rfl (by kernel_rfl) (by kernel_rfl) (by kernel_rfl) (by kernel_rfl) (fun _ _ _ h => h) (.inl ⟨by kernel_rfl, fun x_ hu => by kernel_rfl⟩) hS9 ?_
          simp only [nrm]
          refine any_one (i := 2) (by kernel_rfl) rfl (fun K_ hQ => ?_)
          refine step_callw (by kernel_rfl) 56 #[.slice (some ⟨gx, 1, none⟩) r 63] (by kernel_rfl) ((wsector_ok S (some ⟨gx, 1, none⟩) r 63 x0 hlb (by omega)).mono ?_)
          rintro r z3 ⟨rfl, hg⟩
          refine ⟨_, rfl, ?_⟩
          rw [unhide hdt, ← unhide hDX]
          replace hS9 : (fun (v : World) => v.heap[gx]? = some (.cells (kc fq) 50 (0, 0))) z3 := hg.blk hS9
          replace hG9 := hG9.trans hg
          clear hg hlb
          refine hQ.out _ _ hS9 (fun _ => ?_)
          clear hQ K_
          simp only [nrm]
          refine any_take (i := 3) (v := (.bool true)) #[true, true, true, false] rfl (by kernel_rfl) (by kernel_rfl) (by kernel_rfl) (by kernel_rfl) (fun _ _ _ h => h) (.inl ⟨by kernel_rfl, fun x_ hu => exec_neB2 _ (.tmp 82) (.tmp 84) rfl fq DX hfl hDl (by kernel_rfl) (by kernel_rfl) true (unhide hde)⟩) hS9 ?_
          simp only [nrm]
          refine any_done (by kernel_rfl) ?_
          replace hG2 := hide ((unhide hG2).trans hG9)
          replace hO := hide ((unhide hO).gr hG9)
          replace hgx := hide hS9
          clear hG9 hS9
          replace hJ := hide ((unhide hJ).more (unhide hG2))
          have hZ : Hid (∃ v Y, (Ending.returned (.tuple #[.slice xa X.length xc, .int .i64 0])) = .returned (.tuple #[v, .int .i64 0]) ∧ Ox w.heap.size z3 v Y ∧ Tl f N t Y ∧ usd Y ≤ N ∧ Gr w z3) := by
            have hj := unhide hJ
            refine ⟨_, X, rfl, hj.ox, ⟨hj.lay, fun x9 k9 => ?_⟩, by rw [← hj.at_]; exact hu, hj.gr⟩
            rw [← hj.at_] at k9
            obtain ⟨h1, h2, -⟩ := istx_to (by omega) k9
            rw [← unhide hb, unhide hnc] at h1
            rw [← unhide hb, unhide hnc, unhide hnK, Nat.add_sub_cancel, ← unhide hx] at h2
            have h3 := k9.da j (by rw [← h1]; exact hj63)
            rw [← h2, ← unhide hq, ← unhide hfq] at h3
            exact (unhide heq) h3
          clear hJ
          go_wp2_with fail
          rw [unhide hT2]
          exact unhide hZ
      obtain rfl : K = j := by omega
      have qI : ¬ (q : Int) < (e : Int) := by have h1 := unhide hq; have h2 := unhide he; omega
      have hOx := unhide hO
      rw [List.take_of_length_le (by rw [unhide hxl]; omega)] at hOx
      obtain ⟨ta, tc, rfl, hLx⟩ := ob_lb hOx (unhide hxb) (unhide hxl)
      replace hOx := hide hOx; replace hLx := hide hLx
      clear hO hxi
      have hgm1 : Hid (wr.heap[gm]? = some (.cells (mrv m) 101 (0, 0))) := (unhide hG).blk (unhide hgm0)
      by_cases heq : sh16 x = m.h
      · skip
        have hHl := sh16_len x
        obtain ⟨H, hH⟩ : ∃ h, h = sh16 x := ⟨_, rfl⟩
        rw [← hH] at hHl
        have hde : decide (H = m.h) = !false := by rw [hH]; exact decide_eq_true heq
        replace hH := hide hH; replace hde := hide hde; replace heq := hide heq
        go_upto_region 21 with fail
        refine any_start (S := fun (v : World) => v.heap[gm]? = some (.cells (mrv m) 101 (0, 0))) (by kernel_rfl) ?_
        have hG9 := (Gr.refl wr).drew
        generalize World.drew _ = x0 at *
        have hS9 : (fun (v : World) => v.heap[gm]? = some (.cells (mrv m) 101 (0, 0))) x0 := hG9.blk (unhide hgm1)
        simp only [List.size_toArray, List.length_cons, List.length_nil, Array.replicate, List.replicate]
        refine any_take (i := 0) (v := (.slice ta n tc)) #[false, false, false, false, false] rfl (by kernel_rfl) (by kernel_rfl) (by kernel_rfl) (by kernel_rfl) (fun _ _ _ h => h) (.inl ⟨by kernel_rfl, fun x_ hu => by kernel_rfl⟩) hS9 ?_
        simp only [nrm]
        refine any_take (i := 2) (v := (.pointer (some ⟨gm, 3, none⟩))) #[true, false, false, false, false] rfl (by kernel_rfl) (by kernel_rfl) (by kernel_rfl) (by kernel_rfl) (fun _ _ _ h => h) (.inl ⟨by kernel_rfl, fun x_ hu => by kernel_rfl⟩) hS9 ?_
        simp only [nrm]
        refine any_take (i := 3) (v := (.agg (kc m.h))) #[true, false, true, false, false] rfl (by kernel_rfl) (by kernel_rfl) (by kernel_rfl) (by kernel_rfl) (fun _ _ _ h => h) (.inl ⟨by kernel_rfl, fun x_ hu => exec_row _ 99 (.tmp 91) rfl gm 3 (by kernel_rfl) (bv m.h) _ (mrv_range hu) Tryd.underlying99 rfl (by rw [Tryd.infoBg, bv_len, hmhl])⟩) hS9 ?_
        simp only [nrm]
        refine any_one (i := 1) (by kernel_rfl) rfl (fun K_ hQ => ?_)
        refine step_callw (by kernel_rfl) 57 #[.slice ta n tc] (by kernel_rfl) ((wdigest_ok x ta n tc x0 ((unhide hLx).gr hG9) (by omega) ((unhide hf).gr ((unhide hJ).gr.trans ((unhide hG).trans hG9)))).mono ?_)
        rintro r z3 ⟨rfl, hg⟩
        refine ⟨_, rfl, ?_⟩
        rw [← unhide hH]
        replace hS9 : (fun (v : World) => v.heap[gm]? = some (.cells (mrv m) 101 (0, 0))) z3 := hg.blk hS9
        replace hG9 := hG9.trans hg
        clear hg
        refine hQ.out _ _ hS9 (fun _ => ?_)
        clear hQ K_
        simp only [nrm]
        refine any_take (i := 4) (v := (.bool false)) #[true, true, true, true, false] rfl (by kernel_rfl) (by kernel_rfl) (by kernel_rfl) (by kernel_rfl) (fun _ _ _ h => h) (.inl ⟨by kernel_rfl, fun x_ hu => exec_neBg _ (.tmp 90) (.tmp 92) rfl H m.h hHl hmhl (by kernel_rfl) (by kernel_rfl) false (unhide hde)⟩) hS9 ?_
        simp only [nrm]
        refine any_done (by kernel_rfl) ?_
        have hG2 := hide ((unhide hG).trans hG9)
        replace hOx := hide ((unhide hOx).gr hG9)
        clear hG9 hS9 hG hLx
        have hblk : m.blk = b := of_decide_eq_true (unhide hrt).symm
        have htx : IsTx f N t X.length u x := by
          refine ⟨by rw [unhide hxl, unhide hnK]; have := unhide he; omega, ?_, fun i hi => (unhide hda) i (by rw [unhide hxl] at hi; omega)⟩
          rw [← unhide hb]
          exact mark_says (by rw [← unhide hm]; exact hblk) (by rw [unhide hnc]; exact unhide hxl) (by rw [← unhide hmh]; exact unhide heq)
        have hj := (unhide hJ).more (unhide hG2)
        have hOb : Ob w.heap.size z3 (.slice ta n tc) x := ob_base (unhide hOx) (unhide hJ).gr.size
        obtain ⟨vs, v1, v2, v3⟩ := hj.ox.own
        have hisb := hj.ox.isB
        have hlay2 : Hid (e = usd (X ++ [x]) ∧ Lay f N t 0 0 (X ++ [x])) := by
          refine ⟨by rw [usd_app, usd_one, unhide hxl, unhide hnK, ← hj.at_]; exact unhide he, (Lay.app X [x]).2 ⟨hj.lay, ?_⟩⟩
          rw [Nat.zero_add, Nat.zero_add, ← hj.at_]
          exact ⟨htx, trivial⟩
        have hGw := hj.gr
        have hqe : q = e := by have h1 := unhide hq; have h2 := unhide he; omega
        replace hj := hide hj; replace htx := hide htx; replace hOb := hide hOb; replace v1 := hide v1; replace v2 := hide v2; replace v3 := hide v3; replace hisb := hide hisb; replace hGw := hide hGw; replace hblk := hide hblk; replace hqe := hide hqe
        clear hJ hG2
        go_upto_region 22 with fail
        refine wp_region_lit ?_
        refine list_val (.slice xa X.length xc) (by kernel_rfl) (by kernel_rfl) ?_
        simp only [nrm]
        refine list_val (.slice ta n tc) (by kernel_rfl) (by kernel_rfl) ?_
        simp only [nrm]
        refine list_valw (.slice (some ⟨z3.heap.size, 0, none⟩) 1 1) (z3.alloc (.cells #[.slice ta n tc] 32 (0, 0))) (by kernel_rfl) (by kernel_rfl) ?_
        have hls1 : Ls 1 (z3.alloc (.cells #[.slice ta n tc] 32 (0, 0))) (some ⟨z3.heap.size, 0, none⟩) 1 1 [[.slice ta n tc]] := by
          have h9 : Or_ 1 32 z3.heap.size (z3.alloc (.cells #[.slice ta n tc] 32 (0, 0))) (.slice (some ⟨z3.heap.size, 0, none⟩) 1 1) [[.slice ta n tc]] := ⟨by intro r hr; rw [List.mem_singleton] at hr; rw [hr]; rfl, rfl, .inr ⟨z3.heap.size, 1, _, rfl, Nat.le_refl _, blk_new _ _, Nat.le_refl _, by decide, rfl, rfl⟩⟩
          obtain ⟨a9, c9, h8, h7⟩ := h9.ls
          injection h8 with e1 e2 e3
          subst e1
          subst e3
          exact h7
        have hg := (Gr.refl z3).alloc (.cells #[.slice ta n tc] 32 (0, 0))
        generalize World.alloc _ _ = z4 at *
        generalize z3.heap.size = gz at *
        simp only [nrm]
        refine wpList_step fun K_ hQ => ?_
        rw [if_pos (by kernel_rfl)]
        refine app_rows lt_s (.tmp 94) (.tmp 96) rfl w.heap.size _ (vs.map fun s => [s]) rfl ((unhide v1).gr hg) (some ⟨gz, 0, none⟩) 1 1 [[.slice ta n tc]] rfl hls1 (by intro r hr; rw [List.mem_singleton] at hr; subst hr; intro q hq; rw [List.mem_singleton] at hq; subst hq; rfl) (by rw [List.length_map, unhide v2]; omega) ((unhide hGw).trans hg).size ?_
        intro v5_ z5 hor5 hgr
        have hox2 : Ox w.heap.size z5 v5_ (X ++ [x]) := Ox.snoc ((unhide v1).gr hg) (unhide v2) (fun i hi => ((unhide v3) i hi).gr hg) (unhide hisb) ((unhide hOb).gr hg) ⟨unhide hxb, by rw [unhide hxl]; omega⟩ hgr hor5
        have hG5 : Gr w z5 := grown_owned ((unhide v1).gr hg).2 (Nat.le_refl _) ((unhide hGw).trans hg) hgr
        have hI2 : Hid (Fd2 t f N w v5_ (X ++ [x]) q z5) := ⟨by rw [unhide hqe]; exact (unhide hlay2).1, (unhide hlay2).2, hox2, hG5⟩
        clear hgr hls1 hor5 hox2 hG5 hg hGw hj v1 v3
        refine hQ _ _ ?_
        clear hQ K_
        simp only [nrm]
        (refine wpList_step fun K hK => ?_; replace hK := hide hK; go_simp; refine unhide hK _ _ ?_; clear hK K)
        refine wpList_nil ?_
        go_wp2_with fail
        go_roundw
        case rel => exact ⟨X ++ [x], q, by have := unhide hqe; omega, rfl, hI2⟩
        case measure => have h1 := unhide hqe; have h2 := unhide he; simp [intOf]; omega
      · skip
        have hHl := sh16_len x
        obtain ⟨H, hH⟩ : ∃ h, h = sh16 x := ⟨_, rfl⟩
        rw [← hH] at hHl
        have hde : decide (H = m.h) = !true := by rw [hH]; exact decide_eq_false heq
        replace hH := hide hH; replace hde := hide hde; replace heq := hide heq
        go_upto_region 21 with fail
        refine any_start (S := fun (v : World) => v.heap[gm]? = some (.cells (mrv m) 101 (0, 0))) (by kernel_rfl) ?_
        have hG9 := (Gr.refl wr).drew
        generalize World.drew _ = x0 at *
        have hS9 : (fun (v : World) => v.heap[gm]? = some (.cells (mrv m) 101 (0, 0))) x0 := hG9.blk (unhide hgm1)
        simp only [List.size_toArray, List.length_cons, List.length_nil, Array.replicate, List.replicate]
        refine any_take (i := 0) (v := (.slice ta n tc)) #[false, false, false, false, false] rfl (by kernel_rfl) (by kernel_rfl) (by kernel_rfl) (by kernel_rfl) (fun _ _ _ h => h) (.inl ⟨by kernel_rfl, fun x_ hu => by kernel_rfl⟩) hS9 ?_
        simp only [nrm]
        refine any_take (i := 2) (v := (.pointer (some ⟨gm, 3, none⟩))) #[true, false, false, false, false] rfl (by kernel_rfl) (by kernel_rfl) (by kernel_rfl) (by kernel_rfl) (fun _ _ _ h => h) (.inl ⟨by kernel_rfl, fun x_ hu => by kernel_rfl⟩) hS9 ?_
        simp only [nrm]
        refine any_take (i := 3) (v := (.agg (kc m.h))) #[true, false, true, false, false] rfl (by kernel_rfl) (by kernel_rfl) (by kernel_rfl) (by kernel_rfl) (fun _ _ _ h => h) (.inl ⟨by kernel_rfl, fun x_ hu => exec_row _ 99 (.tmp 91) rfl gm 3 (by kernel_rfl) (bv m.h) _ (mrv_range hu) Tryd.underlying99 rfl (by rw [Tryd.infoBg, bv_len, hmhl])⟩) hS9 ?_
        simp only [nrm]
        refine any_one (i := 1) (by kernel_rfl) rfl (fun K_ hQ => ?_)
        refine step_callw (by kernel_rfl) 57 #[.slice ta n tc] (by kernel_rfl) ((wdigest_ok x ta n tc x0 ((unhide hLx).gr hG9) (by omega) ((unhide hf).gr ((unhide hJ).gr.trans ((unhide hG).trans hG9)))).mono ?_)
        rintro r z3 ⟨rfl, hg⟩
        refine ⟨_, rfl, ?_⟩
        rw [← unhide hH]
        replace hS9 : (fun (v : World) => v.heap[gm]? = some (.cells (mrv m) 101 (0, 0))) z3 := hg.blk hS9
        replace hG9 := hG9.trans hg
        clear hg
        refine hQ.out _ _ hS9 (fun _ => ?_)
        clear hQ K_
        simp only [nrm]
        refine any_take (i := 4) (v := (.bool true)) #[true, true, true, true, false] rfl (by kernel_rfl) (by kernel_rfl) (by kernel_rfl) (by kernel_rfl) (fun _ _ _ h => h) (.inl ⟨by kernel_rfl, fun x_ hu => exec_neBg _ (.tmp 90) (.tmp 92) rfl H m.h hHl hmhl (by kernel_rfl) (by kernel_rfl) true (unhide hde)⟩) hS9 ?_
        simp only [nrm]
        refine any_done (by kernel_rfl) ?_
        have hG2 := hide ((unhide hG).trans hG9)
        replace hOx := hide ((unhide hOx).gr hG9)
        clear hG9 hS9 hG hLx
        replace hJ := hide ((unhide hJ).more (unhide hG2))
        have hZ : Hid (∃ v Y, (Ending.returned (.tuple #[.slice xa X.length xc, .int .i64 0])) = .returned (.tuple #[v, .int .i64 0]) ∧ Ox w.heap.size z3 v Y ∧ Tl f N t Y ∧ usd Y ≤ N ∧ Gr w z3) := by
          have hj := unhide hJ
          refine ⟨_, X, rfl, hj.ox, ⟨hj.lay, fun x9 k9 => ?_⟩, by rw [← hj.at_]; exact hu, hj.gr⟩
          rw [← hj.at_] at k9
          obtain ⟨h1, h2, -⟩ := istx_to (by omega) k9
          rw [← unhide hb, unhide hnc, unhide hnK, Nat.add_sub_cancel, ← unhide hx] at h2
          have h3 := (tx_says (by omega) k9).1
          rw [← unhide hb, ← unhide hm] at h3
          refine (unhide heq) ?_
          rw [h2, h3]
        clear hJ
        go_wp2_with fail
        rw [unhide hT2]
        exact unhide hZ
    have hB := Bl.nil y5
    go_upto_region 9 with fail
    refine wp_region_lit ?_
    refine list_val (.bool true) (by kernel_rfl) (by kernel_rfl) ?_
    simp only [nrm]
    refine list_val (.bool false) (by kernel_rfl) (by kernel_rfl) ?_
    simp only [nrm]
    refine list_val (.bool false) (by kernel_rfl) (by kernel_rfl) ?_
    simp only [nrm]
    refine list_val (.int .i64 (n : Int)) (by kernel_rfl) (by kernel_rfl) ?_
    simp only [nrm]
    refine list_val (.int .i64 (N : Int)) (by kernel_rfl) (by kernel_rfl) ?_
    simp only [nrm]
    refine list_val (.int .i64 (u : Int)) (by kernel_rfl) (by kernel_rfl) ?_
    simp only [nrm]
    refine list_val (.int .i64 ((N - u : Nat) : Int)) (by kernel_rfl) (by go_simp) ?_
    simp only [nrm]
    refine list_call 33 #[.int .i64 (n : Int), .int .i64 ((N - u : Nat) : Int)] (by kernel_rfl) (by kernel_rfl) ((wfits_ok (n : Int) ((N - u : Nat) : Int) (by omega) (by omega) _).mono ?_)
    rintro r y6 ⟨rfl, hg⟩
    have hde : decide (0 ≤ (n : Int) ∧ nedI (n : Int) ≤ ((N - u : Nat) : Int)) = false := by
      rw [nedI_nat, unhide hnK]
      have h1 := unhide he
      exact decide_eq_false (fun h => by omega)
    rw [hde]
    clear hde
    replace hB := hB.more hg
    clear hg
    refine ⟨_, rfl, ?_⟩
    simp only [nrm]
    refine list_val (.bool true) (by kernel_rfl) (by kernel_rfl) ?_
    simp only [nrm]
    refine list_val (.bool true) (by kernel_rfl) (by kernel_rfl) ?_
    simp only [nrm]
    refine wpList_nil ?_
    replace hJ := hide ((unhide hJ).more hB.gr)
    replace hgm0 := hide (hB.gr.blk (unhide hgm0))
    clear hB
    have hZ : Hid (∃ v Y, (Ending.returned (.tuple #[.slice xa X.length xc, .int .i64 0])) = .returned (.tuple #[v, .int .i64 0]) ∧ Ox w.heap.size y6 v Y ∧ Tl f N t Y ∧ usd Y ≤ N ∧ Gr w y6) := by
      have hj := unhide hJ
      refine ⟨_, X, rfl, hj.ox, ⟨hj.lay, fun x9 k9 => ?_⟩, by rw [← hj.at_]; exact hu, hj.gr⟩
      rw [← hj.at_] at k9
      have h1 := k9.cnt (by omega)
      rw [← unhide hb, unhide hnc] at h1
      have h2 := k9.fit
      rw [← h1, unhide hnK] at h2
      have h3 := unhide he
      omega
    clear hJ
    go_wp2_with fail
    rw [unhide hT2]
    exact unhide hZ
  have uI : ¬ (u : Int) < (N : Int) := by omega
  have hZ : Hid (∃ v Y, (Ending.returned (.tuple #[.slice xa X.length xc, .int .i64 0])) = .returned (.tuple #[v, .int .i64 0]) ∧ Ox w.heap.size wr v Y ∧ Tl f N t Y ∧ usd Y ≤ N ∧ Gr w wr) := by
    have hj := unhide hJ
    refine ⟨_, X, rfl, hj.ox, ⟨hj.lay, fun x9 k9 => ?_⟩, by rw [← hj.at_]; exact hu, hj.gr⟩
    rw [← hj.at_] at k9
    have h2 := k9.fit
    unfold ned at h2
    omega
  clear hJ
  go_wp2_with fail
  rw [unhide hT2]
  exact unhide hZ
section
variable {P : Program} {Q : Exit → Act → World → Prop} {ops : Array Oper}
abbrev Rf (l : Nat) : Fence := Fence.wide.inRound l
def noDef (ops : Array Oper) : Bool := ops.toList.all fun o => match o.op with | .defer _ => false | _ => true
theorem noDef_at (h : noDef ops = true) {i : Nat} {o : Oper} (ho : ops[i]? = some o) : ∀ c, o.op ≠ .defer c := by
  intro c hc
  have h1 := List.all_eq_true.1 h o (Array.mem_toList_iff.2 (Array.mem_of_getElem? ho))
  simp only [hc] at h1
  cases h1
theorem upon_round (o : Oper) (a : Act) (l n : Nat) {K K' : Act → World → Prop} (hK : ∀ a w, K a w → K' a w) (r : Result Next) (h : o.upon P a K Q r) : o.uponIn (Rf l) n P a K' Q r := by
  cases r with
  | ok x w =>
    cases x with
    | value v => exact hK _ _ h
    | skip => exact hK _ _ h
    | defer d => exact hK _ _ h
    | enter f args =>
      refine ⟨fun e => (by cases e), ?_⟩
      refine CallsIn.inRound l (callsIn_wide.2 (Calls.mono h fun e w' hh => ?_))
      cases e with
      | returned v => exact hK _ _ hh
      | panicked ch => exact hh
      | outgrown => exact hh
    | row row args =>
      refine ⟨fun e => (by cases e), fun c cs _ => ?_⟩
      obtain ⟨v, w', h1, h2⟩ := h c cs
      exact ⟨v, w', hK _ _ h1, stepsIn_wide.2 h2⟩
    | _ => exact h.elim
  | halt x w =>
    cases x with
    | panic v => exact h
    | _ => exact h.elim
theorem ops_round (hd : noDef ops = true) (hQ : ¬ LetsOut Q) (l n : Nat) : ∀ (is : List Nat) (a : Act) (w : World), wpOps P ops Q is a w → wpOpsIn (Rf l) n P ops Q is a w
  | [], _, _, h => h
  | i :: rest, a, w, h => by
    unfold wpOps at h
    unfold wpOpsIn
    cases ho : ops[i]? with
    | none => rw [ho] at h; exact ops_round hd hQ l n rest a w h
    | some o =>
      rw [ho] at h
      dsimp only at h ⊢
      by_cases hw : Region.wanted o (yielded ops a.tmps) = true
      · rw [if_pos hw] at h ⊢
        rcases h with h | h
        · refine ⟨fun _ _ => trivial, ?_⟩
          rw [Oper.semAt_eq _ _ _ (noDef_at hd ho)]
          exact upon_round o a l n (ops_round hd hQ l n rest) _ h
        · exact absurd h.2 hQ
      · rw [if_neg hw] at h ⊢
        exact ⟨fun _ _ => trivial, ops_round hd hQ l n rest _ _ h⟩
theorem region_round {a : Act} {w : World} {id : Nat} {L : List Oper} (l n : Nat) (hd : noDef L.toArray = true) (hQ : ¬ LetsOut Q) (h : wpList P L.toArray Q L a w) : (Code.region id L.toArray false).wpIn (Rf l) n P Q a w := by
  refine wpIn_region (ops_round hd hQ l n _ _ _ ?_)
  rw [List.range_eq_range', List.size_toArray, wpOps_eq_wpList L 0 (by simp)]
  exact h
theorem any_round {a : Act} {w : World} {id : Nat} {S : World → Prop} (l n : Nat) (hd : noDef ops = true) (hQ : ¬ LetsOut Q) (hm : P.follows .mixedOrders = true) (h : Any P .any ops Q S (Array.replicate ops.size false) a w.drew) : (Code.region id ops true).wpIn (Rf l) n P Q a w := by
  refine wpIn_region_draw fun t => ops_round hd hQ l n _ _ _ ?_
  simp only [Region.schedule, hm, Bool.true_or, if_true]
  refine wpAny_sound ops.size t _ a _ (wpAny_of_held _ _ _ _ (h ops.size ?_))
  simp
end
section
variable {P : Program} {Q : Exit → Act → World → Prop} {ops : Array Oper} {a : Act} {w : World} {o : Oper} {rest : List Oper} {n : Nat}
theorem in_val (v : Value) (hw : Region.wanted o (yielded ops a.tmps) = true) (hx : (execOp a.eval o).run P w = .ok (.value v) w) (h : wpListIn Fence.wide n P ops Q rest (a.put o.dst v) w) : wpListIn Fence.wide n P ops Q (o :: rest) a w := by
  unfold wpListIn
  rw [if_pos hw]
  refine ⟨fun _ _ => trivial, ?_⟩
  show o.uponIn Fence.wide n P a _ Q ((execOp a.eval o).run P w)
  rw [hx]
  exact h
theorem in_call (f : FuncId) (args : Array Value) (hw : Region.wanted o (yielded ops a.tmps) = true) (hx : (execOp a.eval o).run P w = .ok (.enter f args) w) (hc : Calls P f args w fun e w' => ∃ v, e = .returned v ∧ wpListIn Fence.wide n P ops Q rest (a.put o.dst v) w') : wpListIn Fence.wide n P ops Q (o :: rest) a w := by
  unfold wpListIn
  rw [if_pos hw]
  refine ⟨fun _ _ => trivial, ?_⟩
  show o.uponIn Fence.wide n P a _ Q ((execOp a.eval o).run P w)
  rw [hx]
  refine ⟨fun e => (by cases e), callsIn_wide.2 (hc.mono ?_)⟩
  rintro e w' ⟨v, rfl, h⟩
  exact h
theorem in_yield (l : Nat) (args : Array Value) (hw : Region.wanted o (yielded ops a.tmps) = true) (hx : (execOp a.eval o).run P w = (Instr.yield l args).run P w) (hc : YieldAt Fence.wide (n - 1) P l args w fun e w' => ∃ v, e = .returned v ∧ wpListIn Fence.wide n P ops Q rest (a.put o.dst v) w') : wpListIn Fence.wide n P ops Q (o :: rest) a w := by
  unfold wpListIn
  rw [if_pos hw]
  refine ⟨fun _ _ => trivial, ?_⟩
  show o.uponIn Fence.wide n P a _ Q ((execOp a.eval o).run P w)
  obtain ⟨fn, tmps, assign, body, hy, hR⟩ := hc
  rw [hx, hy]
  refine ⟨fun e => (by cases e), hR.mono ?_⟩
  rintro e w' ⟨v, rfl, h⟩
  exact h
theorem in_region {id : Nat} {L : List Oper} (n : Nat) (h : wpListIn Fence.wide n P L.toArray Q L a w) : (Code.region id L.toArray false).wp P Q a w := wpIn_wide.1 (wpIn_region_lit h)
end
section
variable {P : Program} {Q : Exit → Act → World → Prop}
def lrc (tm : Array Value) (ps : Array Tmp) (assign body : Code) (D : Nat) (fn : FuncId) (st : LoopState) (pe : Option Code) : Loop := { state := st, pending := pe, fn, tmps := tm, params := ps, assign, body, defers := D }
structure Rcd (l D : Nat) (r : Loop) (W : World) : Prop where
  lo : W.heap[l]? = some (.loop r)
  de : W.heap[D]? = some (.deferred (some []))
theorem Rcd.gr {l D : Nat} {r : Loop} {W W' : World} (h : Rcd l D r W) (k : Gr W W') : Rcd l D r W' := ⟨k.blk h.lo, k.blk h.de⟩
theorem put_bt (W : World) (l : Nat) (o : Obj) : Bt l W (W.putObj l o) := ⟨rfl, rfl, rfl, by simp, fun i _ hn => World.putObj_heap_other (fun e => hn e)⟩
theorem put_get {W : World} {l : Nat} {o : Obj} (h : W.heap[l]? = some o) (o' : Obj) : (W.putObj l o').heap[l]? = some o' := World.putObj_heap_same (lt_of_block h)
def rndPost (l D : Nat) (r : Loop) (R : Bool → Option Code → World → Prop) : Exit → Act → World → Prop
  | .normal, _, W => Rcd l D r W ∧ R true none (W.putObj l (.loop { r with state := .ready, pending := none }))
  | .ret, _, W => Rcd l D r W ∧ R false (some .ret) (W.putObj l (.loop { r with state := .done, pending := some .ret }))
  | .exit id, _, W => Rcd l D r W ∧ R false (some (.exit id)) (W.putObj l (.loop { r with state := .done, pending := some (.exit id) }))
  | _, _, _ => False
theorem yield_law {tm : Array Value} {ps : Array Tmp} {assign body : Code} {l D : Nat} {fn : FuncId} {W : World} {args : Array Value} {R : Bool → Option Code → World → Prop} (n : Nat) (hr : Rcd l D (lrc tm ps assign body D fn .ready none) W) (hne : l ≠ D) (hs : args.size = ps.size) (a₁ : Act)
    (hassign : ∀ K : Act → World → Prop, K a₁ W → assign.wpIn (Rf l) n P (Exit.then K (fun _ _ _ => False)) { tmps := (ps.zip args).foldl (fun t (p, v) => t.setIfInBounds p v) tm, defers := [] } W)
    (hbody : ∀ W', W' = W.putObj l (.loop (lrc tm ps assign body D fn .busy none)) → Rcd l D (lrc tm ps assign body D fn .busy none) W' → body.wpIn (Rf l) n P (rndPost l D (lrc tm ps assign body D fn .busy none) R) a₁ W') :
    YieldAt Fence.wide n P l args W fun e W' => ∃ b c, e = .returned (.bool b) ∧ R b c W' := by
  refine ⟨fn, _, assign, body, run_yield hr.lo hs, roundIn_of_wpIn trivial (hassign _ ⟨_, run_beginRound hr.lo rfl, ?_⟩)⟩
  refine wpIn_mono (hbody _ rfl ⟨put_get hr.lo _, by rw [(put_bt W l _).block D (lt_of_block hr.de) (fun e => hne e.symm)]; exact hr.de⟩) ?_
  intro e a w h
  cases e with
  | normal => exact ⟨_, _, run_endRound none h.1.lo, true, none, rfl, h.2⟩
  | ret => exact ⟨_, _, run_endRound (some .ret) h.1.lo, false, _, rfl, h.2⟩
  | exit id => exact ⟨_, _, run_endRound (some (.exit id)) h.1.lo, false, _, rfl, h.2⟩
  | goto t => exact h.elim
  | panic c => exact h.elim
  | outgrown => exact h.elim
def dact (a : Act) (D : Nat) : Act := { a with defers := { target := .collected D, args := #[] } :: a.defers }
theorem range_law {g : Operand} {ps : Array Tmp} {assign body : Code} {a : Act} {w : World} {gf : Nat} {lb : Array Value} (n : Nat) (hg : a.eval g = .func (.func gf) #[] lb) (eg : ∀ (args : Array Value) (w : World), (callFunc gf args).run P w = .ok (.enter gf args) w)
    (h : ∀ (fn : FuncId) (W1 : World), Gr w W1 → Rcd (w.heap.size + 1) w.heap.size (lrc a.tmps ps assign body w.heap.size fn .ready none) W1 →
      CallsIn Fence.wide n P gf (#[.func (.yield (w.heap.size + 1)) #[] #[]] ++ lb) W1 fun e W2 => (∃ v, e = .returned v) ∧ ∃ pe,
        Rcd (w.heap.size + 1) w.heap.size (lrc a.tmps ps assign body w.heap.size fn (if pe.isNone then .ready else .done) pe) W2 ∧
        ∀ W3, W3 = W2.putObj (w.heap.size + 1) (.loop (lrc a.tmps ps assign body w.heap.size fn .exhausted pe)) → (match pe with | none => Q .normal (dact a w.heap.size) W3 | some c => c.wp P Q (dact a w.heap.size) W3)) :
    (Code.rangeFunc g ps assign body).wp P Q a w := by
  refine (wpIn_wide (n := n + 1)).1 (wpIn_rangeFunc ?_)
  intro fn hfn
  have hG : Gr w ((w.alloc (.deferred (some []))).alloc (.loop (lrc a.tmps ps assign body w.heap.size fn .ready none))) := ((Gr.refl w).alloc _).alloc _
  have hR : Rcd (w.heap.size + 1) w.heap.size (lrc a.tmps ps assign body w.heap.size fn .ready none) ((w.alloc (.deferred (some []))).alloc (.loop (lrc a.tmps ps assign body w.heap.size fn .ready none))) := by
    refine ⟨?_, ?_⟩
    · have := World.alloc_heap_new (w.alloc (.deferred (some []))) (.loop (lrc a.tmps ps assign body w.heap.size fn .ready none))
      rwa [World.size_alloc] at this
    · exact (Below.heap_alloc _ _ _ (by simp)).trans (World.alloc_heap_new w _)
  have hE : (Instr.enterLoop fn a.tmps ps assign body Fence.wide.round).run P w = .ok (w.heap.size + 1, [{ target := .collected w.heap.size, args := #[] }]) ((w.alloc (.deferred (some []))).alloc (.loop (lrc a.tmps ps assign body w.heap.size fn .ready none))) := run_enterLoop_outer _ _ _ _ _
  generalize (w.alloc (.deferred (some []))).alloc (.loop (lrc a.tmps ps assign body w.heap.size fn .ready none)) = W1 at *
  refine ⟨w.heap.size + 1, [{ target := .collected w.heap.size, args := #[] }], W1, { target := .fn (.func gf) lb, args := #[.func (.yield (w.heap.size + 1)) #[] #[]] }, W1, gf, #[.func (.yield (w.heap.size + 1)) #[] #[]] ++ lb, W1, hE, ?_, fun _ _ => trivial, ?_, fun e => (by cases e), ?_⟩
  · simp only [resolve, hg]
    simp [go_sem]
  · simp [invoke, go_sem, eg]
  · refine (h fn _ hG hR).mono ?_
    rintro e W2 ⟨⟨v, rfl⟩, pe, hr, hq⟩
    refine ⟨pe, W2.putObj (w.heap.size + 1) (.loop (lrc a.tmps ps assign body w.heap.size fn .exhausted pe)), ?_, ?_⟩
    · have := run_endLoop (P := P) hr.lo (by cases pe <;> simp [lrc])
      exact this
    · have := hq _ rfl
      cases pe with
      | none => exact this
      | some c => exact wpIn_wide.2 this
end
theorem exec_sx {op : Oper} {a : Act} (w : World) (x : Operand) (ho : op.op = .load 33 x) (g i : Nat) (hx : a.eval x = .pointer (some ⟨g, i, none⟩)) (s : Option Addr) (n c : Nat) (hc : w.cell? ⟨g, i, none⟩ = some (.slice s n c)) : (execOp a.eval op).run Tryd.prog w = .ok (.value (.slice s n c)) w := by
  unfold execOp
  simp only [ho, hx, Instr.loadAt, Instr.sureAddr, Sem.run_bind, Sem.run_pure, Result.andThen_ok]
  go_simp
theorem exec_win3 {a : Act} {o : Oper} (w : World) (x y z u : Operand) (ho : o.op = .slice 32 x (some y) (some z) (some u)) (p q len cap l h m : Nat) (hx : a.eval x = .slice (some ⟨p, q, none⟩) len cap) (hy : a.eval y = .int .i64 l) (hz : a.eval z = .int .i64 h) (hu : a.eval u = .int .i64 h) (h1 : h = l + m) (h0 : 0 < m) (h2 : h ≤ cap) :
    (execOp a.eval o).run Tryd.prog w = .ok (.value (.slice (some ⟨p, q + l, none⟩) m m)) w := by
  have e0 : h - l = m := by omega
  have e1 : (0 : Int) ≤ l := by omega
  have e2 : (l : Int) ≤ h := by omega
  have e3 : (h : Int) ≤ cap := by omega
  have hu2 : Tryd.prog.underlying 32 = some (.slice (Tryd.prog.elem 32)) := by kernel_rfl
  have hs : (sizeOf (Tryd.prog.elem 32)).run Tryd.prog w = .ok 1 w := by kernel_rfl
  have hne : ¬ h = l := by omega
  simp [execOp, ho, hx, hy, hz, hu, run_sliceAt_slice _ _ _ _ _ _ hu2, run_slice_lhm _ _ _ _ _ hu2 _ _ _ _ _ _ e1 e2 (Int.le_refl _) e3, hs, sliced, hne, Addr.add_mid, e0]
structure Nk (W W' : World) : Prop where
  os : W'.os = W.os
  tape : W'.tape = W.tape
  output : W'.output = W.output
  size : W.heap.size ≤ W'.heap.size
  blk : ∀ {i : Nat} {c : Array Value} {t : TypeId} {f : Nat × Nat}, W.heap[i]? = some (.cells c t f) → W'.heap[i]? = some (.cells c t f)
theorem Gr.nk {W W' : World} (h : Gr W W') : Nk W W' := ⟨h.os, h.tape, h.output, h.size, fun e => h.blk e⟩
theorem put_nk {W : World} {l : Nat} {o : Obj} (h : W.heap[l]? = some o) (ho : o.isCells = false) (o' : Obj) : Nk W (W.putObj l o') := by
  have hb := put_bt W l o'
  refine ⟨hb.os, hb.tape, hb.output, hb.size, fun {i c t f} e => ?_⟩
  rw [hb.block i (lt_of_block e) (fun q => ?_)]
  · exact e
  · rw [q, h] at e
    rw [Option.some.inj e] at ho
    cases ho
theorem owns_nk {b : Nat} {e : TypeId} {k n : Nat} {W W' : World} {v : Value} {xs : List Value} (h : W.ownsRow b e k v n xs) (g : Nk W W') : W'.ownsRow b e k v n xs := by
  refine ⟨h.1, ?_⟩
  rcases h.2 with h | ⟨p, cap, cur, h1, h2, h3, h4⟩
  · exact .inl h
  · exact .inr ⟨p, cap, cur, h1, h2, g.blk h3, h4⟩
theorem Ob.nk {b : Nat} {W W' : World} {v : Value} {L : List Int} (h : Ob b W v L) (k : Nk W W') : Ob b W' v L := owns_nk h k
theorem Ox.nk {b : Nat} {W W' : World} {v : Value} {X : List (List Int)} (h : Ox b W v X) (k : Nk W W') : Ox b W' v X := by
  obtain ⟨vs, h1, h2, h3⟩ := h.own
  exact ⟨⟨vs, ⟨h1.1, owns_nk h1.2 k⟩, h2, fun i hi => (h3 i hi).nk k⟩, h.isB⟩
theorem Lies.nk {F : List Nat} {g : Nat} {D : Dk} {W W' : World} (h : Lies F g D W) (k : Nk W W') : Lies F g D W' := by
  obtain ⟨sg, sc, C, pa, pc, l, h, rfl⟩ := h
  exact ⟨sg, sc, C, pa, pc, l, ⟨k.blk h.cel, k.blk h.saf, h.cov, h.len, h.cap, h.max, ⟨h.pnd.1, owns_nk h.pnd.2 k⟩, h.lf⟩, rfl⟩
theorem gr_put {w W : World} (h : Gr w W) {l : Nat} (hl : w.heap.size ≤ l) (o : Obj) : Gr w (W.putObj l o) := (put_bt W l o).gr h hl
def npost (Q : Exit → Act → World → Prop) : Exit → Act → World → Prop
  | .panic _, _, _ => False
  | e, a, w => Q e a w
theorem npost_mono {Q : Exit → Act → World → Prop} : ∀ (e : Exit) (a : Act) (w : World), npost Q e a w → Q e a w
  | .panic _, _, _, h => h.elim
  | .normal, _, _, h => h
  | .ret, _, _, h => h
  | .exit _, _, _, h => h
  | .goto _, _, _, h => h
  | .outgrown, _, _, h => h
theorem calls_range {P : Program} {f : FuncId} {fn : Func} {c : Code} {args : Array Value} {w : World} {R : Ending → World → Prop} (hf : P.funcs[f]? = some fn) (hb : fn.body = some c) (h : c.wp P (npost (bodyPostM Fence.wide 9 P fn R)) { tmps := args ++ Array.replicate (fn.ntmps - args.size) undef, defers := [] } w) : Calls P f args w R := callsIn_wide.1 (callsIn_of_wp_marks hf hb trivial (wpIn_wide.2 (Code.wp_mono npost_mono h)))
theorem postM_ret {P : Program} {fn : Func} {R : Ending → World → Prop} {tm : Array Value} {W : World} {v : Value} {D : Nat} (hD : W.heap[D]? = some (.deferred (some []))) (hr : (results fn tm).run P (W.putObj D (.deferred none)) = .ok v (W.putObj D (.deferred none))) (hR : R (.returned v) (W.putObj D (.deferred none))) : npost (bodyPostM Fence.wide 9 P fn R) .ret { tmps := tm, defers := [{ target := .collected D, args := #[] }] } W :=
  ⟨by simp, .inl ⟨D, _, rfl, run_takeDeferred hD, v, hr, hR⟩⟩
set_option maxHeartbeats 4000000 in
theorem clone_some (B : List Int) (x : Addr) (n c : Nat) (w : World) (hB0 : Lb w (some x) n c B) (hn : n ≤ 100000) : Calls Tryd.prog 35 #[.slice (some x) n c] w (Infd B w) := by
  obtain ⟨T, hT⟩ : ∃ T, T = Infd B w := ⟨_, rfl⟩
  rw [← hT]
  replace hT := hide hT
  replace hB0 := hide hB0
  go_enter Tryd.func35, Tryd.ntmps35
  go_upto_region 1 with fail
  refine wp_region_lit ?_
  refine list_val (.slice (some x) n c) (by kernel_rfl) (by kernel_rfl) ?_
  simp only [nrm]
  refine list_val (.bool false) (by kernel_rfl) (by kernel_rfl) ?_
  simp only [nrm]
  refine wpList_nil ?_
  go_upto_region 3 with fail
  refine wp_region_lit ?_
  refine list_valw (.slice (some ⟨w.heap.size, 0, none⟩) 0 0) (w.alloc (.cells #[] 5 (0, 0))) (by kernel_rfl) (by kernel_rfl) ?_
  have hO : Ob w.heap.size (w.alloc (.cells #[] 5 (0, 0))) (.slice (some ⟨w.heap.size, 0, none⟩) 0 0) [] := blk_bytes [] (Nat.le_refl _) (Nat.zero_le _)
  have hG := (Gr.refl w).alloc (.cells #[] 5 (0, 0))
  generalize World.alloc _ _ = u at *
  simp only [nrm]
  refine list_val (.slice (some x) n c) (by kernel_rfl) (by kernel_rfl) ?_
  simp only [nrm]
  refine app_bs (by kernel_rfl) (.tmp 5) (.tmp 6) rfl w.heap.size _ [] rfl hO (some x) n c B rfl (unhide hB0).len ((unhide hB0).gr hG).sl (by simp only [List.length_nil, Nat.zero_add]; omega) hG.size ?_
  intro v9 u9 hO9 hgr
  rw [List.nil_append] at hO9
  have hZ : Hid (Infd B w (.returned v9) u9) := ⟨v9, rfl, hO9, hO.grown (Nat.le_refl _) hG hgr⟩
  clear hO9 hgr hO hG
  simp only [nrm]
  (refine wpList_step fun K hK => ?_; replace hK := hide hK; go_simp; refine unhide hK _ _ ?_; clear hK K)
  refine wpList_nil ?_
  go_wp2_with fail
  rw [unhide hT]
  exact unhide hZ
theorem clone_any (B : List Int) (a : Option Addr) (n c : Nat) (w : World) (hB0 : Lb w a n c B) (hn : n ≤ 100000) : Calls Tryd.prog 35 #[.slice a n c] w (Infd B w) := by
  cases a with
  | some x => exact clone_some B x n c w hB0 hn
  | none =>
    have hb : B = [] := by
      rcases hB0.sl with e | ⟨p, o, e, _⟩
      · exact e
      · cases e
    subst hb
    have hZ : Hid (Infd [] w (.returned (.slice none 0 0)) w) := ⟨_, rfl, Ob.nil _ w, Gr.refl w⟩
    obtain ⟨T, hT⟩ : ∃ T, T = Infd [] w := ⟨_, rfl⟩
    rw [← hT]
    replace hT := hide hT
    clear hB0
    go_enter Tryd.func35, Tryd.ntmps35
    go_upto_region 1 with fail
    refine wp_region_lit ?_
    refine list_val (.slice none n c) (by kernel_rfl) (by kernel_rfl) ?_
    simp only [nrm]
    refine list_val (.bool true) (by kernel_rfl) (by kernel_rfl) ?_
    simp only [nrm]
    refine wpList_nil ?_
    go_wp2_with fail
    rw [unhide hT]
    exact unhide hZ
set_option maxHeartbeats 4000000 in
theorem all2_ok (l Bx : Nat) (xa : Option Addr) (xn xc : Nat) (X : List (List Int)) (hX : ∀ x ∈ X, x.length ≤ 100000) (hxn : xn ≤ 1000000) (J : Nat → World → Prop) (Jx : Option Code → World → Prop)
    (hJq : ∀ i W, J i W → W.heap[Bx]? = some (.cells #[.slice xa xn xc] 33 (0, 0)) ∧ Lq W xa xn xc X)
    (hY : ∀ (i : Nat) (W0 W : World) (v : Value), i < xn → J i W0 → Gr W0 W → Ob W0.heap.size W v (X.getD i []) → YieldAt Fence.wide 8 Tryd.prog l #[.int .i64 (i : Int), v] W fun e W' => ∃ b c, e = .returned (.bool b) ∧ (if b then J (i + 1) W' else Jx c W'))
    (W : World) (h0 : J 0 W) : Calls Tryd.prog 47 #[.func (.yield l) #[] #[], .pointer (some ⟨Bx, 0, none⟩)] W (fun e W' => e = .returned (.tuple #[]) ∧ (J xn W' ∨ ∃ c, Jx c W')) := by
  obtain ⟨T, hT⟩ : ∃ T : Ending → World → Prop, T = fun e W' => e = .returned (.tuple #[]) ∧ (J xn W' ∨ ∃ c, Jx c W') := ⟨_, rfl⟩
  rw [← hT]
  replace hT := hide hT; replace hY := hide hY; replace hX := hide hX
  have hq0 := hJq 0 W h0
  replace hJq := hide hJq; replace h0 := hide h0; replace hq0 := hide hq0
  go_enter Tryd.func47, Tryd.ntmps47
  go_upto_region 0 with fail
  refine wp_region_lit ?_
  refine list_val (.slice xa xn xc) (by kernel_rfl) (exec_sx _ (.tmp 1) rfl Bx 0 (by kernel_rfl) xa xn xc (cell_of (unhide hq0).1 (i := 0) rfl)) ?_
  simp only [nrm]
  refine list_val (.int .i64 xn) (by kernel_rfl) (by kernel_rfl) ?_
  simp only [nrm]
  refine list_val (.int .i64 0) (by kernel_rfl) (by kernel_rfl) ?_
  simp only [nrm]
  refine wpList_nil ?_
  clear hq0
  go_wp2_with fail
  go_loopw [7] (fun i wr => ∃ j : Nat, j ≤ xn ∧ i = .int .i64 (j : Int) ∧ Hid (J j wr)) (fun i _ => xn - (intOf i).toNat)
  case atStart => exact ⟨0, by omega, rfl, h0⟩
  case round =>
  clear h0
  obtain ⟨j, hj, rfl, hJ⟩ := hrel
  by_cases hlt : j < xn
  · skip
    have jI : (j : Int) < (xn : Int) := by omega
    obtain ⟨hbx, hlq⟩ := (unhide hJq) j wr (unhide hJ)
    obtain ⟨p, o, ai, ni, ci, rfl, hc, hlb, hni⟩ := hlq.at_ j hlt
    have hxl : (X.getD j []).length ≤ 100000 := (unhide hX) _ (mem_of_getD (by rw [hlq.len]; exact hlt))
    have hnl : ni ≤ 100000 := by rw [← hlb.len]; exact hxl
    replace hc := hide hc; replace hlb := hide hlb
    clear hbx hlq hni hxl
    go_upto_region 2 with fail
    refine wp_region_lit ?_
    refine list_val (.int .i64 (j : Int)) (by kernel_rfl) (by kernel_rfl) ?_
    simp only [nrm]
    refine list_val (.pointer (some ⟨p, o + j, none⟩)) (by kernel_rfl) (exec_ils _ (.tmp 5) (.tmp 7) rfl p o xn xc j (by kernel_rfl) (by kernel_rfl) hlt) ?_
    simp only [nrm]
    refine list_val (.slice ai ni ci) (by kernel_rfl) (exec_sby _ (.tmp 10) rfl p (o + j) (by kernel_rfl) ai ni ci (unhide hc)) ?_
    simp only [nrm]
    (refine wpList_step fun K hK => ?_; replace hK := hide hK; go_simp; refine unhide hK _ _ ?_; clear hK K)
    (refine wpList_step fun K hK => ?_; replace hK := hide hK; go_simp; refine unhide hK _ _ ?_; clear hK K)
    refine wpList_nil ?_
    go_upto_region 3 with fail
    refine in_region 9 ?_
    refine in_val (.func (.yield l) #[] #[]) (by kernel_rfl) (by kernel_rfl) ?_
    simp only [nrm]
    refine in_val (.int .i64 (j : Int)) (by kernel_rfl) (by kernel_rfl) ?_
    simp only [nrm]
    refine in_val (.slice ai ni ci) (by kernel_rfl) (by kernel_rfl) ?_
    simp only [nrm]
    refine in_call 35 #[.slice ai ni ci] (by kernel_rfl) (by kernel_rfl) ((clone_any (X.getD j []) ai ni ci _ (unhide hlb) hnl).mono ?_)
    rintro r u ⟨vv, rfl, hob, hg⟩
    refine ⟨_, rfl, ?_⟩
    simp only [nrm]
    refine in_yield l #[.int .i64 (j : Int), vv] (by kernel_rfl) (by kernel_rfl) ?_
    have hy := (unhide hY) j wr u vv hlt (unhide hJ) hg hob
    obtain ⟨fn_, tm_, as_, bo_, hy1, hy2⟩ := hy
    refine ⟨fn_, tm_, as_, bo_, hy1, hy2.mono ?_⟩
    clear hy1 hy2 hob hg hJ hc hlb
    rintro e_ u2 ⟨b, c_, rfl, hb⟩
    refine ⟨_, rfl, ?_⟩
    replace hb := hide hb
    simp only [nrm]
    refine in_val (.bool (!b)) (by kernel_rfl) (by kernel_rfl) ?_
    simp only [nrm]
    refine wpListIn_nil ?_
    cases b
    · skip
      have hZ : Hid (T (.returned (.tuple #[])) u2) := by show T _ _; rw [unhide hT]; exact ⟨rfl, .inr ⟨c_, unhide hb⟩⟩
      go_wp2_with fail
      refine bodyPost_ret (results_none Tryd.results47 _ _ _) rfl ?_
      exact unhide hZ
    have hJ2 : Hid (J (j + 1) u2) := unhide hb
    clear hb
    have ej : IntKind.i64.wrap ((j : Int) + 1) = ((j + 1 : Nat) : Int) := by rw [IntKind.wrap_i64]; omega
    go_wp2_with fail
    go_roundw
    case rel => exact ⟨j + 1, by omega, by go_num, hJ2⟩
    case measure => simp [intOf]; omega
  have jI : ¬ (j : Int) < (xn : Int) := by omega
  obtain rfl : j = xn := by omega
  have hZ : Hid (T (.returned (.tuple #[])) wr) := by show T _ _; rw [unhide hT]; exact ⟨rfl, .inl (unhide hJ)⟩
  go_wp2_with fail
  refine bodyPost_end (results_none Tryd.results47 _ _ _) rfl ?_
  exact unhide hZ
end Go.Proofs.YtaoiejgjdmakjaaDoor
