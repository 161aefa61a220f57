/-
  FrameBack: what was put is got.
-/
import Derived.Test.YtfmocneoffkmpabFV
namespace Go.Proofs.Ytfmocneoffkmpab
open Go.RowKit
set_option maxRecDepth 100000
set_option linter.unusedSimpArgs false
set_option linter.unusedVariables false
set_option maxHeartbeats 4000000 in
theorem back_law (K : List Int) (hK : K.length = 32) (bK : IsB K) (p q : Int) (hp : U4 p) (hq : U4 q) (B : List Int) (hB : B.length = 65) (bB : IsB B) (D : List Int) (hD : D.length = 16) (bD : IsB D) (X : List Int) (hX : X.length = 130) (bX : IsB X) (k a s : Int) (ha : U4 a) (hs : U4 s) (E : List Int) (hE : E.length = 105) (bE : IsB E) (w : World) : Calls Try.prog 3 #[.agg (msl K p q B).toArray, .agg (xcl D X).toArray, .agg (evl k a s E).toArray] w (Woke w) := by
  obtain ⟨T, hT⟩ : ∃ T, T = Woke w := ⟨_, rfl⟩
  rw [← hT]
  replace hT := hide hT
  obtain ⟨C0, hC0⟩ : ∃ C, C = (msl K p q B).toArray := ⟨_, rfl⟩
  obtain ⟨C1, hC1⟩ : ∃ C, C = (xcl D X).toArray := ⟨_, rfl⟩
  obtain ⟨C2, hC2⟩ : ∃ C, C = (evl k a s E).toArray := ⟨_, rfl⟩
  rw [← hC0, ← hC1, ← hC2]
  replace hC0 := hide hC0; replace hC1 := hide hC1; replace hC2 := hide hC2
  replace bK := hide bK; replace bB := hide bB; replace bD := hide bD; replace bX := hide bX; replace bE := hide bE
  go_enter Try.func3, Try.ntmps3
  go_upto_region 1 with fail
  have hW := ((((Bl.nil w).new C0 29).new C1 34).new C2 37)
  simp only [size_alloc, List.nil_append, List.cons_append] at hW
  generalize World.alloc _ _ = u at *
  rw [unhide hC0, unhide hC1, unhide hC2] at hW
  clear hC0 hC1 hC2
  replace hW : Bl w [⟨w.heap.size, (msl K p q B).toArray, 29⟩, ⟨w.heap.size + 1, (xcl D X).toArray, 34⟩, ⟨w.heap.size + 1 + 1, (evl k a s E).toArray, 37⟩] u := hW
  refine wp_region_lit ?_
  refine list_call 5 #[] (by kernel_rfl) (by kernel_rfl) ((jwakes_ok u).mono ?_)
  rintro r u1 ⟨rfl, hg⟩
  replace hW := hW.more hg
  clear hg
  refine ⟨_, rfl, ?_⟩
  simp only [Act.put, List.setIfInBounds_toArray, List.set_cons_zero, List.set_cons_succ, List.getElem_toArray, List.getElem_cons_zero, List.getElem_cons_succ]
  refine list_val (.bool false) (by kernel_rfl) (by kernel_rfl) ?_
  simp only [Act.put, List.setIfInBounds_toArray, List.set_cons_zero, List.set_cons_succ, List.getElem_toArray, List.getElem_cons_zero, List.getElem_cons_succ]
  refine wpList_nil ?_
  replace hW := hide hW
  go_upto_region 3 with fail
  replace hW := unhide hW
  refine wp_region_lit ?_
  refine list_val (.pointer (some ⟨w.heap.size, 0, none⟩)) (by kernel_rfl) (by kernel_rfl) ?_
  simp only [Act.put, List.setIfInBounds_toArray, List.set_cons_zero, List.set_cons_succ, List.getElem_toArray, List.getElem_cons_zero, List.getElem_cons_succ]
  refine list_val (.agg (hdl K p q).toArray) (by kernel_rfl) (exec_row _ 26 (.tmp 18) rfl (w.heap.size) 0 (by kernel_rfl) (hdl K p q) _ (range_mid (hW.get 0 (x := ⟨w.heap.size, (msl K p q B).toArray, 29⟩) rfl) (msl_hd0 K p q B) rfl) Try.underlying26 rfl (by rw [Try.infoH, hdl_len hK])) ?_
  simp only [Act.put, List.setIfInBounds_toArray, List.set_cons_zero, List.set_cons_succ, List.getElem_toArray, List.getElem_cons_zero, List.getElem_cons_succ]
  refine list_call 7 #[.agg (hdl K p q).toArray] (by kernel_rfl) (by kernel_rfl) ((fputh_ok K hK (unhide bK) p q hp hq u1).mono ?_)
  rintro r u2 ⟨v1, rfl, hO, hg⟩
  obtain ⟨a1, c1, rfl, hlb⟩ := ob_lb hO (hdB_isB (unhide bK) p q) (n := 40) (hdB_len hK p q)
  replace hW := hW.more hg
  clear hg hO
  refine ⟨_, rfl, ?_⟩
  simp only [Act.put, List.setIfInBounds_toArray, List.set_cons_zero, List.set_cons_succ, List.getElem_toArray, List.getElem_cons_zero, List.getElem_cons_succ]
  refine list_call 6 #[.slice a1 40 c1] (by kernel_rfl) (by kernel_rfl) ((fgeth_ok (hdB K p q) a1 c1 u2 hlb).mono ?_)
  rintro r u3 ⟨rfl, hg⟩
  have e9 := hdO_hdB hK hp hq []
  rw [List.append_nil] at e9
  rw [e9]
  clear e9
  replace hW := hW.more hg
  clear hg hlb
  refine ⟨_, rfl, ?_⟩
  simp only [Act.put, List.setIfInBounds_toArray, List.set_cons_zero, List.set_cons_succ, List.getElem_toArray, List.getElem_cons_zero, List.getElem_cons_succ]
  refine list_val (.tuple #[.agg (hdl K p q).toArray, .int .i64 0]) (by kernel_rfl) (by kernel_rfl) ?_
  simp only [Act.put, List.setIfInBounds_toArray, List.set_cons_zero, List.set_cons_succ, List.getElem_toArray, List.getElem_cons_zero, List.getElem_cons_succ]
  refine list_val (.agg (hdl K p q).toArray) (by kernel_rfl) (by kernel_rfl) ?_
  simp only [Act.put, List.setIfInBounds_toArray, List.set_cons_zero, List.set_cons_succ, List.getElem_toArray, List.getElem_cons_zero, List.getElem_cons_succ]
  refine list_val (.int .i64 0) (by kernel_rfl) (by kernel_rfl) ?_
  simp only [Act.put, List.setIfInBounds_toArray, List.set_cons_zero, List.set_cons_succ, List.getElem_toArray, List.getElem_cons_zero, List.getElem_cons_succ]
  refine list_valw (.pointer (some ⟨u3.heap.size, 0, none⟩)) (u3.alloc (.cells (hdl Z32 0 0).toArray 26 (0, 0))) (by kernel_rfl) (by kernel_rfl) ?_
  replace hW := hW.new (hdl Z32 0 0).toArray 26
  simp only [List.nil_append, List.cons_append] at hW
  generalize World.alloc _ _ = u4 at *
  generalize u3.heap.size = h7 at *
  replace hW : Bl w [⟨w.heap.size, (msl K p q B).toArray, 29⟩, ⟨w.heap.size + 1, (xcl D X).toArray, 34⟩, ⟨w.heap.size + 1 + 1, (evl k a s E).toArray, 37⟩, ⟨h7, (hdl Z32 0 0).toArray, 26⟩] u4 := hW
  simp only [Act.put, List.setIfInBounds_toArray, List.set_cons_zero, List.set_cons_succ, List.getElem_toArray, List.getElem_cons_zero, List.getElem_cons_succ]
  refine list_store 26 (.tmp 7) (.tmp 22) h7 (hdl K p q).toArray 26 (hdl Z32 0 0).toArray (by kernel_rfl) rfl (by kernel_rfl) (by kernel_rfl) (hW.get 3 (x := ⟨h7, (hdl Z32 0 0).toArray, 26⟩) rfl) (by rw [Try.infoH, List.size_toArray, hdl_len hK _ _]) (by rw [List.size_toArray, List.size_toArray, hdl_len hK _ _]; rfl) (hdl_one ..) ?_
  replace hW := hW.set 3 (x := ⟨h7, (hdl Z32 0 0).toArray, 26⟩) rfl (hdl K p q).toArray
  simp only [List.set_cons_zero, List.set_cons_succ] at hW
  generalize World.setRow _ _ _ = u5 at *
  replace hW : Bl w [⟨w.heap.size, (msl K p q B).toArray, 29⟩, ⟨w.heap.size + 1, (xcl D X).toArray, 34⟩, ⟨w.heap.size + 1 + 1, (evl k a s E).toArray, 37⟩, ⟨h7, (hdl K p q).toArray, 26⟩] u5 := hW
  simp only [Act.put, List.setIfInBounds_toArray, List.set_cons_zero, List.set_cons_succ, List.getElem_toArray, List.getElem_cons_zero, List.getElem_cons_succ]
  (refine wpList_step fun K hK => ?_; replace hK := hide hK; go_simp; refine unhide hK _ _ ?_; clear hK K)
  refine wpList_nil ?_
  replace hW := hide hW
  go_upto_region 4 with fail
  replace hW := unhide hW
  refine wp_region_lit ?_
  refine list_val (.agg (msl K p q B).toArray) (by kernel_rfl) (exec_arr _ 29 (.tmp 3) rfl (w.heap.size) (by kernel_rfl) (msl K p q B).toArray 29 _ (hW.get 0 (x := ⟨w.heap.size, (msl K p q B).toArray, 29⟩) rfl) Try.underlying29 rfl (by rw [Try.infoM, List.size_toArray, msl_len hK _ _ hB])) ?_
  simp only [Act.put, List.setIfInBounds_toArray, List.set_cons_zero, List.set_cons_succ, List.getElem_toArray, List.getElem_cons_zero, List.getElem_cons_succ]
  refine list_call 9 #[.agg (msl K p q B).toArray] (by kernel_rfl) (by kernel_rfl) ((fputm_ok K hK (unhide bK) p q hp hq B hB (unhide bB) u5).mono ?_)
  rintro r u6 ⟨v2, rfl, hO, hg⟩
  obtain ⟨a2, c2, rfl, hlb⟩ := ob_lb hO (isB_append (hdB_isB (unhide bK) p q) (unhide bB)) (n := 105) (by rw [List.length_append, hdB_len hK, hB])
  replace hW := hW.more hg
  clear hg hO
  refine ⟨_, rfl, ?_⟩
  simp only [Act.put, List.setIfInBounds_toArray, List.set_cons_zero, List.set_cons_succ, List.getElem_toArray, List.getElem_cons_zero, List.getElem_cons_succ]
  refine list_call 8 #[.slice a2 105 c2] (by kernel_rfl) (by kernel_rfl) ((fgetm_ok (hdB K p q ++ B) a2 c2 u6 hlb).mono ?_)
  rintro r u7 ⟨rfl, hg⟩
  rw [msO_msB hK hp hq hB]
  replace hW := hW.more hg
  clear hg hlb
  refine ⟨_, rfl, ?_⟩
  simp only [Act.put, List.setIfInBounds_toArray, List.set_cons_zero, List.set_cons_succ, List.getElem_toArray, List.getElem_cons_zero, List.getElem_cons_succ]
  refine list_val (.tuple #[.agg (msl K p q B).toArray, .int .i64 0]) (by kernel_rfl) (by kernel_rfl) ?_
  simp only [Act.put, List.setIfInBounds_toArray, List.set_cons_zero, List.set_cons_succ, List.getElem_toArray, List.getElem_cons_zero, List.getElem_cons_succ]
  refine list_val (.agg (msl K p q B).toArray) (by kernel_rfl) (by kernel_rfl) ?_
  simp only [Act.put, List.setIfInBounds_toArray, List.set_cons_zero, List.set_cons_succ, List.getElem_toArray, List.getElem_cons_zero, List.getElem_cons_succ]
  refine list_val (.int .i64 0) (by kernel_rfl) (by kernel_rfl) ?_
  simp only [Act.put, List.setIfInBounds_toArray, List.set_cons_zero, List.set_cons_succ, List.getElem_toArray, List.getElem_cons_zero, List.getElem_cons_succ]
  refine list_valw (.pointer (some ⟨u7.heap.size, 0, none⟩)) (u7.alloc (.cells (msl Z32 0 0 Z65).toArray 29 (0, 0))) (by kernel_rfl) (by kernel_rfl) ?_
  replace hW := hW.new (msl Z32 0 0 Z65).toArray 29
  simp only [List.nil_append, List.cons_append] at hW
  generalize World.alloc _ _ = u8 at *
  generalize u7.heap.size = h9 at *
  replace hW : Bl w [⟨w.heap.size, (msl K p q B).toArray, 29⟩, ⟨w.heap.size + 1, (xcl D X).toArray, 34⟩, ⟨w.heap.size + 1 + 1, (evl k a s E).toArray, 37⟩, ⟨h7, (hdl K p q).toArray, 26⟩, ⟨h9, (msl Z32 0 0 Z65).toArray, 29⟩] u8 := hW
  simp only [Act.put, List.setIfInBounds_toArray, List.set_cons_zero, List.set_cons_succ, List.getElem_toArray, List.getElem_cons_zero, List.getElem_cons_succ]
  refine list_store 29 (.tmp 9) (.tmp 28) h9 (msl K p q B).toArray 29 (msl Z32 0 0 Z65).toArray (by kernel_rfl) rfl (by kernel_rfl) (by kernel_rfl) (hW.get 4 (x := ⟨h9, (msl Z32 0 0 Z65).toArray, 29⟩) rfl) (by rw [Try.infoM, List.size_toArray, msl_len hK _ _ hB]) (by rw [List.size_toArray, List.size_toArray, msl_len hK _ _ hB]; rfl) (msl_one ..) ?_
  replace hW := hW.set 4 (x := ⟨h9, (msl Z32 0 0 Z65).toArray, 29⟩) rfl (msl K p q B).toArray
  simp only [List.set_cons_zero, List.set_cons_succ] at hW
  generalize World.setRow _ _ _ = u9 at *
  replace hW : Bl w [⟨w.heap.size, (msl K p q B).toArray, 29⟩, ⟨w.heap.size + 1, (xcl D X).toArray, 34⟩, ⟨w.heap.size + 1 + 1, (evl k a s E).toArray, 37⟩, ⟨h7, (hdl K p q).toArray, 26⟩, ⟨h9, (msl K p q B).toArray, 29⟩] u9 := hW
  simp only [Act.put, List.setIfInBounds_toArray, List.set_cons_zero, List.set_cons_succ, List.getElem_toArray, List.getElem_cons_zero, List.getElem_cons_succ]
  (refine wpList_step fun K hK => ?_; replace hK := hide hK; go_simp; refine unhide hK _ _ ?_; clear hK K)
  refine wpList_nil ?_
  replace hW := hide hW
  go_upto_region 5 with fail
  replace hW := unhide hW
  refine wp_region_lit ?_
  refine list_val (.agg (xcl D X).toArray) (by kernel_rfl) (exec_arr _ 34 (.tmp 4) rfl (w.heap.size + 1) (by kernel_rfl) (xcl D X).toArray 34 _ (hW.get 1 (x := ⟨w.heap.size + 1, (xcl D X).toArray, 34⟩) rfl) Try.underlying34 rfl (by rw [Try.infoX, List.size_toArray, xcl_len hD hX])) ?_
  simp only [Act.put, List.setIfInBounds_toArray, List.set_cons_zero, List.set_cons_succ, List.getElem_toArray, List.getElem_cons_zero, List.getElem_cons_succ]
  refine list_call 11 #[.agg (xcl D X).toArray] (by kernel_rfl) (by kernel_rfl) ((fputx_ok D hD (unhide bD) X hX (unhide bX) u9).mono ?_)
  rintro r u10 ⟨v3, rfl, hO, hg⟩
  obtain ⟨a3, c3, rfl, hlb⟩ := ob_lb hO (isB_append (unhide bD) (unhide bX)) (n := 146) (by rw [List.length_append, hD, hX])
  replace hW := hW.more hg
  clear hg hO
  refine ⟨_, rfl, ?_⟩
  simp only [Act.put, List.setIfInBounds_toArray, List.set_cons_zero, List.set_cons_succ, List.getElem_toArray, List.getElem_cons_zero, List.getElem_cons_succ]
  refine list_call 10 #[.slice a3 146 c3] (by kernel_rfl) (by kernel_rfl) ((fgetx_ok (D ++ X) a3 c3 u10 hlb).mono ?_)
  rintro r u11 ⟨rfl, hg⟩
  rw [xcO_xcB hD hX]
  replace hW := hW.more hg
  clear hg hlb
  refine ⟨_, rfl, ?_⟩
  simp only [Act.put, List.setIfInBounds_toArray, List.set_cons_zero, List.set_cons_succ, List.getElem_toArray, List.getElem_cons_zero, List.getElem_cons_succ]
  refine list_val (.tuple #[.agg (xcl D X).toArray, .int .i64 0]) (by kernel_rfl) (by kernel_rfl) ?_
  simp only [Act.put, List.setIfInBounds_toArray, List.set_cons_zero, List.set_cons_succ, List.getElem_toArray, List.getElem_cons_zero, List.getElem_cons_succ]
  refine list_val (.agg (xcl D X).toArray) (by kernel_rfl) (by kernel_rfl) ?_
  simp only [Act.put, List.setIfInBounds_toArray, List.set_cons_zero, List.set_cons_succ, List.getElem_toArray, List.getElem_cons_zero, List.getElem_cons_succ]
  refine list_val (.int .i64 0) (by kernel_rfl) (by kernel_rfl) ?_
  simp only [Act.put, List.setIfInBounds_toArray, List.set_cons_zero, List.set_cons_succ, List.getElem_toArray, List.getElem_cons_zero, List.getElem_cons_succ]
  refine list_valw (.pointer (some ⟨u11.heap.size, 0, none⟩)) (u11.alloc (.cells (xcl Z16 Z130).toArray 34 (0, 0))) (by kernel_rfl) (by kernel_rfl) ?_
  replace hW := hW.new (xcl Z16 Z130).toArray 34
  simp only [List.nil_append, List.cons_append] at hW
  generalize World.alloc _ _ = u12 at *
  generalize u11.heap.size = h11 at *
  replace hW : Bl w [⟨w.heap.size, (msl K p q B).toArray, 29⟩, ⟨w.heap.size + 1, (xcl D X).toArray, 34⟩, ⟨w.heap.size + 1 + 1, (evl k a s E).toArray, 37⟩, ⟨h7, (hdl K p q).toArray, 26⟩, ⟨h9, (msl K p q B).toArray, 29⟩, ⟨h11, (xcl Z16 Z130).toArray, 34⟩] u12 := hW
  simp only [Act.put, List.setIfInBounds_toArray, List.set_cons_zero, List.set_cons_succ, List.getElem_toArray, List.getElem_cons_zero, List.getElem_cons_succ]
  refine list_store 34 (.tmp 11) (.tmp 34) h11 (xcl D X).toArray 34 (xcl Z16 Z130).toArray (by kernel_rfl) rfl (by kernel_rfl) (by kernel_rfl) (hW.get 5 (x := ⟨h11, (xcl Z16 Z130).toArray, 34⟩) rfl) (by rw [Try.infoX, List.size_toArray, xcl_len hD hX]) (by rw [List.size_toArray, List.size_toArray, xcl_len hD hX]; rfl) (xcl_one ..) ?_
  replace hW := hW.set 5 (x := ⟨h11, (xcl Z16 Z130).toArray, 34⟩) rfl (xcl D X).toArray
  simp only [List.set_cons_zero, List.set_cons_succ] at hW
  generalize World.setRow _ _ _ = u13 at *
  replace hW : Bl w [⟨w.heap.size, (msl K p q B).toArray, 29⟩, ⟨w.heap.size + 1, (xcl D X).toArray, 34⟩, ⟨w.heap.size + 1 + 1, (evl k a s E).toArray, 37⟩, ⟨h7, (hdl K p q).toArray, 26⟩, ⟨h9, (msl K p q B).toArray, 29⟩, ⟨h11, (xcl D X).toArray, 34⟩] u13 := hW
  simp only [Act.put, List.setIfInBounds_toArray, List.set_cons_zero, List.set_cons_succ, List.getElem_toArray, List.getElem_cons_zero, List.getElem_cons_succ]
  (refine wpList_step fun K hK => ?_; replace hK := hide hK; go_simp; refine unhide hK _ _ ?_; clear hK K)
  refine wpList_nil ?_
  replace hW := hide hW
  go_upto_region 6 with fail
  replace hW := unhide hW
  refine wp_region_lit ?_
  refine list_val (.int .i64 0) (by kernel_rfl) (by kernel_rfl) ?_
  simp only [Act.put, List.setIfInBounds_toArray, List.set_cons_zero, List.set_cons_succ, List.getElem_toArray, List.getElem_cons_zero, List.getElem_cons_succ]
  refine list_val (.bool false) (by kernel_rfl) (by kernel_rfl) ?_
  simp only [Act.put, List.setIfInBounds_toArray, List.set_cons_zero, List.set_cons_succ, List.getElem_toArray, List.getElem_cons_zero, List.getElem_cons_succ]
  refine list_val (.bool false) (by kernel_rfl) (by kernel_rfl) ?_
  simp only [Act.put, List.setIfInBounds_toArray, List.set_cons_zero, List.set_cons_succ, List.getElem_toArray, List.getElem_cons_zero, List.getElem_cons_succ]
  refine list_val (.int .i64 0) (by kernel_rfl) (by kernel_rfl) ?_
  simp only [Act.put, List.setIfInBounds_toArray, List.set_cons_zero, List.set_cons_succ, List.getElem_toArray, List.getElem_cons_zero, List.getElem_cons_succ]
  refine list_val (.bool false) (by kernel_rfl) (by kernel_rfl) ?_
  simp only [Act.put, List.setIfInBounds_toArray, List.set_cons_zero, List.set_cons_succ, List.getElem_toArray, List.getElem_cons_zero, List.getElem_cons_succ]
  refine list_val (.bool false) (by kernel_rfl) (by kernel_rfl) ?_
  simp only [Act.put, List.setIfInBounds_toArray, List.set_cons_zero, List.set_cons_succ, List.getElem_toArray, List.getElem_cons_zero, List.getElem_cons_succ]
  refine list_val (.bool false) (by kernel_rfl) (by kernel_rfl) ?_
  simp only [Act.put, List.setIfInBounds_toArray, List.set_cons_zero, List.set_cons_succ, List.getElem_toArray, List.getElem_cons_zero, List.getElem_cons_succ]
  refine list_val (.int .i64 0) (by kernel_rfl) (by kernel_rfl) ?_
  simp only [Act.put, List.setIfInBounds_toArray, List.set_cons_zero, List.set_cons_succ, List.getElem_toArray, List.getElem_cons_zero, List.getElem_cons_succ]
  refine list_val (.bool false) (by kernel_rfl) (by kernel_rfl) ?_
  simp only [Act.put, List.setIfInBounds_toArray, List.set_cons_zero, List.set_cons_succ, List.getElem_toArray, List.getElem_cons_zero, List.getElem_cons_succ]
  refine list_val (.bool false) (by kernel_rfl) (by kernel_rfl) ?_
  simp only [Act.put, List.setIfInBounds_toArray, List.set_cons_zero, List.set_cons_succ, List.getElem_toArray, List.getElem_cons_zero, List.getElem_cons_succ]
  refine list_val (.bool false) (by kernel_rfl) (by kernel_rfl) ?_
  simp only [Act.put, List.setIfInBounds_toArray, List.set_cons_zero, List.set_cons_succ, List.getElem_toArray, List.getElem_cons_zero, List.getElem_cons_succ]
  refine list_val (.agg (hdl K p q).toArray) (by kernel_rfl) (exec_arr _ 26 (.tmp 7) rfl (h7) (by kernel_rfl) (hdl K p q).toArray 26 _ (hW.get 3 (x := ⟨h7, (hdl K p q).toArray, 26⟩) rfl) Try.underlying26 rfl (by rw [Try.infoH, List.size_toArray, hdl_len hK _ _])) ?_
  simp only [Act.put, List.setIfInBounds_toArray, List.set_cons_zero, List.set_cons_succ, List.getElem_toArray, List.getElem_cons_zero, List.getElem_cons_succ]
  refine list_val (.pointer (some ⟨w.heap.size, 0, none⟩)) (by kernel_rfl) (by kernel_rfl) ?_
  simp only [Act.put, List.setIfInBounds_toArray, List.set_cons_zero, List.set_cons_succ, List.getElem_toArray, List.getElem_cons_zero, List.getElem_cons_succ]
  refine list_val (.agg (hdl K p q).toArray) (by kernel_rfl) (exec_row _ 26 (.tmp 48) rfl (w.heap.size) 0 (by kernel_rfl) (hdl K p q) _ (range_mid (hW.get 0 (x := ⟨w.heap.size, (msl K p q B).toArray, 29⟩) rfl) (msl_hd0 K p q B) rfl) Try.underlying26 rfl (by rw [Try.infoH, hdl_len hK])) ?_
  simp only [Act.put, List.setIfInBounds_toArray, List.set_cons_zero, List.set_cons_succ, List.getElem_toArray, List.getElem_cons_zero, List.getElem_cons_succ]
  refine list_val (.bool false) (by kernel_rfl) (exec_neq_h _ (.tmp 47) (.tmp 49) rfl (hdl K p q).toArray (by kernel_rfl) (by kernel_rfl) (eq_hdl hK p q _)) ?_
  simp only [Act.put, List.setIfInBounds_toArray, List.set_cons_zero, List.set_cons_succ, List.getElem_toArray, List.getElem_cons_zero, List.getElem_cons_succ]
  refine list_val (.bool false) (by kernel_rfl) (by kernel_rfl) ?_
  simp only [Act.put, List.setIfInBounds_toArray, List.set_cons_zero, List.set_cons_succ, List.getElem_toArray, List.getElem_cons_zero, List.getElem_cons_succ]
  refine list_val (.bool false) (by kernel_rfl) (by kernel_rfl) ?_
  simp only [Act.put, List.setIfInBounds_toArray, List.set_cons_zero, List.set_cons_succ, List.getElem_toArray, List.getElem_cons_zero, List.getElem_cons_succ]
  refine list_val (.agg (msl K p q B).toArray) (by kernel_rfl) (exec_arr _ 29 (.tmp 9) rfl (h9) (by kernel_rfl) (msl K p q B).toArray 29 _ (hW.get 4 (x := ⟨h9, (msl K p q B).toArray, 29⟩) rfl) Try.underlying29 rfl (by rw [Try.infoM, List.size_toArray, msl_len hK _ _ hB])) ?_
  simp only [Act.put, List.setIfInBounds_toArray, List.set_cons_zero, List.set_cons_succ, List.getElem_toArray, List.getElem_cons_zero, List.getElem_cons_succ]
  refine list_val (.agg (msl K p q B).toArray) (by kernel_rfl) (exec_arr _ 29 (.tmp 3) rfl (w.heap.size) (by kernel_rfl) (msl K p q B).toArray 29 _ (hW.get 0 (x := ⟨w.heap.size, (msl K p q B).toArray, 29⟩) rfl) Try.underlying29 rfl (by rw [Try.infoM, List.size_toArray, msl_len hK _ _ hB])) ?_
  simp only [Act.put, List.setIfInBounds_toArray, List.set_cons_zero, List.set_cons_succ, List.getElem_toArray, List.getElem_cons_zero, List.getElem_cons_succ]
  refine list_val (.bool false) (by kernel_rfl) (exec_neq_m _ (.tmp 53) (.tmp 54) rfl (msl K p q B).toArray (by kernel_rfl) (by kernel_rfl) (eq_msl hK p q hB _)) ?_
  simp only [Act.put, List.setIfInBounds_toArray, List.set_cons_zero, List.set_cons_succ, List.getElem_toArray, List.getElem_cons_zero, List.getElem_cons_succ]
  refine list_val (.bool false) (by kernel_rfl) (by kernel_rfl) ?_
  simp only [Act.put, List.setIfInBounds_toArray, List.set_cons_zero, List.set_cons_succ, List.getElem_toArray, List.getElem_cons_zero, List.getElem_cons_succ]
  refine list_val (.bool false) (by kernel_rfl) (by kernel_rfl) ?_
  simp only [Act.put, List.setIfInBounds_toArray, List.set_cons_zero, List.set_cons_succ, List.getElem_toArray, List.getElem_cons_zero, List.getElem_cons_succ]
  refine list_val (.agg (xcl D X).toArray) (by kernel_rfl) (exec_arr _ 34 (.tmp 11) rfl (h11) (by kernel_rfl) (xcl D X).toArray 34 _ (hW.get 5 (x := ⟨h11, (xcl D X).toArray, 34⟩) rfl) Try.underlying34 rfl (by rw [Try.infoX, List.size_toArray, xcl_len hD hX])) ?_
  simp only [Act.put, List.setIfInBounds_toArray, List.set_cons_zero, List.set_cons_succ, List.getElem_toArray, List.getElem_cons_zero, List.getElem_cons_succ]
  refine list_val (.agg (xcl D X).toArray) (by kernel_rfl) (exec_arr _ 34 (.tmp 4) rfl (w.heap.size + 1) (by kernel_rfl) (xcl D X).toArray 34 _ (hW.get 1 (x := ⟨w.heap.size + 1, (xcl D X).toArray, 34⟩) rfl) Try.underlying34 rfl (by rw [Try.infoX, List.size_toArray, xcl_len hD hX])) ?_
  simp only [Act.put, List.setIfInBounds_toArray, List.set_cons_zero, List.set_cons_succ, List.getElem_toArray, List.getElem_cons_zero, List.getElem_cons_succ]
  refine list_val (.bool false) (by kernel_rfl) (exec_neq_x _ (.tmp 58) (.tmp 59) rfl (xcl D X).toArray (by kernel_rfl) (by kernel_rfl) (eq_xcl hD hX _)) ?_
  simp only [Act.put, List.setIfInBounds_toArray, List.set_cons_zero, List.set_cons_succ, List.getElem_toArray, List.getElem_cons_zero, List.getElem_cons_succ]
  refine list_val (.bool false) (by kernel_rfl) (by kernel_rfl) ?_
  simp only [Act.put, List.setIfInBounds_toArray, List.set_cons_zero, List.set_cons_succ, List.getElem_toArray, List.getElem_cons_zero, List.getElem_cons_succ]
  refine wpList_nil ?_
  replace hW := hide hW
  go_upto_region 8 with fail
  replace hW := unhide hW
  cases hR : evR k s E
  · skip
    refine wp_region_lit ?_
    refine list_val (.agg (evl k a s E).toArray) (by kernel_rfl) (exec_arr _ 37 (.tmp 5) rfl (w.heap.size + 1 + 1) (by kernel_rfl) (evl k a s E).toArray 37 _ (hW.get 2 (x := ⟨w.heap.size + 1 + 1, (evl k a s E).toArray, 37⟩) rfl) Try.underlying37 rfl (by rw [Try.infoE, List.size_toArray, evl_len _ _ _ hE])) ?_
    simp only [Act.put, List.setIfInBounds_toArray, List.set_cons_zero, List.set_cons_succ, List.getElem_toArray, List.getElem_cons_zero, List.getElem_cons_succ]
    refine list_call 12 #[.agg (evl k a s E).toArray] (by kernel_rfl) (by kernel_rfl) ((fpute_no k a s E hE (unhide bE) ha hs hR u13).mono ?_)
    rintro r u14 ⟨rfl, hg⟩
    have hZ : Hid (Woke w (.returned (.bool true)) u14) := ⟨rfl, hW.gr.trans hg⟩
    clear hW hg
    refine ⟨_, rfl, ?_⟩
    simp only [Act.put, List.setIfInBounds_toArray, List.set_cons_zero, List.set_cons_succ, List.getElem_toArray, List.getElem_cons_zero, List.getElem_cons_succ]
    refine list_val (.tuple #[.slice none 0 0, .int .i64 241]) (by kernel_rfl) (by kernel_rfl) ?_
    simp only [Act.put, List.setIfInBounds_toArray, List.set_cons_zero, List.set_cons_succ, List.getElem_toArray, List.getElem_cons_zero, List.getElem_cons_succ]
    refine list_val (.slice none 0 0) (by kernel_rfl) (by kernel_rfl) ?_
    simp only [Act.put, List.setIfInBounds_toArray, List.set_cons_zero, List.set_cons_succ, List.getElem_toArray, List.getElem_cons_zero, List.getElem_cons_succ]
    refine list_val (.int .i64 241) (by kernel_rfl) (by kernel_rfl) ?_
    simp only [Act.put, List.setIfInBounds_toArray, List.set_cons_zero, List.set_cons_succ, List.getElem_toArray, List.getElem_cons_zero, List.getElem_cons_succ]
    (refine wpList_step fun K hK => ?_; replace hK := hide hK; go_simp; refine unhide hK _ _ ?_; clear hK K)
    (refine wpList_step fun K hK => ?_; replace hK := hide hK; go_simp; refine unhide hK _ _ ?_; clear hK K)
    refine wpList_nil ?_
    go_wp2_with fail
    rw [unhide hT]
    exact unhide hZ
  · skip
    refine wp_region_lit ?_
    refine list_val (.agg (evl k a s E).toArray) (by kernel_rfl) (exec_arr _ 37 (.tmp 5) rfl (w.heap.size + 1 + 1) (by kernel_rfl) (evl k a s E).toArray 37 _ (hW.get 2 (x := ⟨w.heap.size + 1 + 1, (evl k a s E).toArray, 37⟩) rfl) Try.underlying37 rfl (by rw [Try.infoE, List.size_toArray, evl_len _ _ _ hE])) ?_
    simp only [Act.put, List.setIfInBounds_toArray, List.set_cons_zero, List.set_cons_succ, List.getElem_toArray, List.getElem_cons_zero, List.getElem_cons_succ]
    refine list_call 12 #[.agg (evl k a s E).toArray] (by kernel_rfl) (by kernel_rfl) ((fpute_ok k a s E hE (unhide bE) ha hs hR u13).mono ?_)
    rintro r u14 ⟨v4, rfl, hO, hg⟩
    obtain ⟨a4, c4, rfl, hlb⟩ := ob_lb hO (evB_isB (unhide bE) (evR_kind hR)) (n := 114) (evB_len k a s hE)
    replace hW := hW.more hg
    clear hg hO
    replace hlb := hide hlb
    refine ⟨_, rfl, ?_⟩
    simp only [Act.put, List.setIfInBounds_toArray, List.set_cons_zero, List.set_cons_succ, List.getElem_toArray, List.getElem_cons_zero, List.getElem_cons_succ]
    refine list_val (.tuple #[.slice a4 114 c4, .int .i64 0]) (by kernel_rfl) (by kernel_rfl) ?_
    simp only [Act.put, List.setIfInBounds_toArray, List.set_cons_zero, List.set_cons_succ, List.getElem_toArray, List.getElem_cons_zero, List.getElem_cons_succ]
    refine list_val (.slice a4 114 c4) (by kernel_rfl) (by kernel_rfl) ?_
    simp only [Act.put, List.setIfInBounds_toArray, List.set_cons_zero, List.set_cons_succ, List.getElem_toArray, List.getElem_cons_zero, List.getElem_cons_succ]
    refine list_val (.int .i64 0) (by kernel_rfl) (by kernel_rfl) ?_
    simp only [Act.put, List.setIfInBounds_toArray, List.set_cons_zero, List.set_cons_succ, List.getElem_toArray, List.getElem_cons_zero, List.getElem_cons_succ]
    (refine wpList_step fun K hK => ?_; replace hK := hide hK; go_simp; refine unhide hK _ _ ?_; clear hK K)
    (refine wpList_step fun K hK => ?_; replace hK := hide hK; go_simp; refine unhide hK _ _ ?_; clear hK K)
    refine wpList_nil ?_
    replace hW := hide hW
    go_upto_region 11 with fail
    replace hW := unhide hW
    refine wp_region_lit ?_
    refine list_val (.slice a4 114 c4) (by kernel_rfl) (by kernel_rfl) ?_
    simp only [Act.put, List.setIfInBounds_toArray, List.set_cons_zero, List.set_cons_succ, List.getElem_toArray, List.getElem_cons_zero, List.getElem_cons_succ]
    have e9 := evO_evB (k := k) ha hs hE
    refine list_call 13 #[.slice a4 114 c4] (by kernel_rfl) (by kernel_rfl) ((fgete_ok (evB k a s E) a4 c4 u14 (unhide hlb) (by rw [e9.2]; exact hR)).mono ?_)
    rintro r u15 ⟨rfl, hg⟩
    rw [e9.1]
    replace hW := hW.more hg
    clear hg e9
    refine ⟨_, rfl, ?_⟩
    simp only [Act.put, List.setIfInBounds_toArray, List.set_cons_zero, List.set_cons_succ, List.getElem_toArray, List.getElem_cons_zero, List.getElem_cons_succ]
    refine list_val (.tuple #[.agg (evl k a s E).toArray, .int .i64 0]) (by kernel_rfl) (by kernel_rfl) ?_
    simp only [Act.put, List.setIfInBounds_toArray, List.set_cons_zero, List.set_cons_succ, List.getElem_toArray, List.getElem_cons_zero, List.getElem_cons_succ]
    refine list_val (.agg (evl k a s E).toArray) (by kernel_rfl) (by kernel_rfl) ?_
    simp only [Act.put, List.setIfInBounds_toArray, List.set_cons_zero, List.set_cons_succ, List.getElem_toArray, List.getElem_cons_zero, List.getElem_cons_succ]
    refine list_val (.int .i64 0) (by kernel_rfl) (by kernel_rfl) ?_
    simp only [Act.put, List.setIfInBounds_toArray, List.set_cons_zero, List.set_cons_succ, List.getElem_toArray, List.getElem_cons_zero, List.getElem_cons_succ]
    refine list_valw (.pointer (some ⟨u15.heap.size, 0, none⟩)) (u15.alloc (.cells (evl 0 0 0 Z105).toArray 37 (0, 0))) (by kernel_rfl) (by kernel_rfl) ?_
    replace hW := hW.new (evl 0 0 0 Z105).toArray 37
    simp only [List.nil_append, List.cons_append] at hW
    generalize World.alloc _ _ = u16 at *
    generalize u15.heap.size = h14 at *
    replace hW : Bl w [⟨w.heap.size, (msl K p q B).toArray, 29⟩, ⟨w.heap.size + 1, (xcl D X).toArray, 34⟩, ⟨w.heap.size + 1 + 1, (evl k a s E).toArray, 37⟩, ⟨h7, (hdl K p q).toArray, 26⟩, ⟨h9, (msl K p q B).toArray, 29⟩, ⟨h11, (xcl D X).toArray, 34⟩, ⟨h14, (evl 0 0 0 Z105).toArray, 37⟩] u16 := hW
    simp only [Act.put, List.setIfInBounds_toArray, List.set_cons_zero, List.set_cons_succ, List.getElem_toArray, List.getElem_cons_zero, List.getElem_cons_succ]
    refine list_store 37 (.tmp 14) (.tmp 75) h14 (evl k a s E).toArray 37 (evl 0 0 0 Z105).toArray (by kernel_rfl) rfl (by kernel_rfl) (by kernel_rfl) (hW.get 6 (x := ⟨h14, (evl 0 0 0 Z105).toArray, 37⟩) rfl) (by rw [Try.infoE, List.size_toArray, evl_len _ _ _ hE]) (by rw [List.size_toArray, List.size_toArray, evl_len _ _ _ hE]; rfl) (evl_one ..) ?_
    replace hW := hW.set 6 (x := ⟨h14, (evl 0 0 0 Z105).toArray, 37⟩) rfl (evl k a s E).toArray
    simp only [List.set_cons_zero, List.set_cons_succ] at hW
    generalize World.setRow _ _ _ = u17 at *
    replace hW : Bl w [⟨w.heap.size, (msl K p q B).toArray, 29⟩, ⟨w.heap.size + 1, (xcl D X).toArray, 34⟩, ⟨w.heap.size + 1 + 1, (evl k a s E).toArray, 37⟩, ⟨h7, (hdl K p q).toArray, 26⟩, ⟨h9, (msl K p q B).toArray, 29⟩, ⟨h11, (xcl D X).toArray, 34⟩, ⟨h14, (evl k a s E).toArray, 37⟩] u17 := hW
    simp only [Act.put, List.setIfInBounds_toArray, List.set_cons_zero, List.set_cons_succ, List.getElem_toArray, List.getElem_cons_zero, List.getElem_cons_succ]
    (refine wpList_step fun K hK => ?_; replace hK := hide hK; go_simp; refine unhide hK _ _ ?_; clear hK K)
    refine wpList_nil ?_
    replace hW := hide hW
    go_upto_region 12 with fail
    replace hW := unhide hW
    refine wp_region_lit ?_
    refine list_val (.int .i64 0) (by kernel_rfl) (by kernel_rfl) ?_
    simp only [Act.put, List.setIfInBounds_toArray, List.set_cons_zero, List.set_cons_succ, List.getElem_toArray, List.getElem_cons_zero, List.getElem_cons_succ]
    refine list_val (.bool true) (by kernel_rfl) (by kernel_rfl) ?_
    simp only [Act.put, List.setIfInBounds_toArray, List.set_cons_zero, List.set_cons_succ, List.getElem_toArray, List.getElem_cons_zero, List.getElem_cons_succ]
    refine list_val (.bool true) (by kernel_rfl) (by kernel_rfl) ?_
    simp only [Act.put, List.setIfInBounds_toArray, List.set_cons_zero, List.set_cons_succ, List.getElem_toArray, List.getElem_cons_zero, List.getElem_cons_succ]
    refine list_val (.agg (evl k a s E).toArray) (by kernel_rfl) (exec_arr _ 37 (.tmp 14) rfl (h14) (by kernel_rfl) (evl k a s E).toArray 37 _ (hW.get 6 (x := ⟨h14, (evl k a s E).toArray, 37⟩) rfl) Try.underlying37 rfl (by rw [Try.infoE, List.size_toArray, evl_len _ _ _ hE])) ?_
    simp only [Act.put, List.setIfInBounds_toArray, List.set_cons_zero, List.set_cons_succ, List.getElem_toArray, List.getElem_cons_zero, List.getElem_cons_succ]
    refine list_val (.agg (evl k a s E).toArray) (by kernel_rfl) (exec_arr _ 37 (.tmp 5) rfl (w.heap.size + 1 + 1) (by kernel_rfl) (evl k a s E).toArray 37 _ (hW.get 2 (x := ⟨w.heap.size + 1 + 1, (evl k a s E).toArray, 37⟩) rfl) Try.underlying37 rfl (by rw [Try.infoE, List.size_toArray, evl_len _ _ _ hE])) ?_
    simp only [Act.put, List.setIfInBounds_toArray, List.set_cons_zero, List.set_cons_succ, List.getElem_toArray, List.getElem_cons_zero, List.getElem_cons_succ]
    refine list_val (.bool true) (by kernel_rfl) (exec_eql_e _ (.tmp 80) (.tmp 81) rfl (evl k a s E).toArray (by kernel_rfl) (by kernel_rfl) (eq_evl k a s hE _)) ?_
    simp only [Act.put, List.setIfInBounds_toArray, List.set_cons_zero, List.set_cons_succ, List.getElem_toArray, List.getElem_cons_zero, List.getElem_cons_succ]
    refine list_val (.bool true) (by kernel_rfl) (by kernel_rfl) ?_
    simp only [Act.put, List.setIfInBounds_toArray, List.set_cons_zero, List.set_cons_succ, List.getElem_toArray, List.getElem_cons_zero, List.getElem_cons_succ]
    refine list_val (.bool true) (by kernel_rfl) (by kernel_rfl) ?_
    simp only [Act.put, List.setIfInBounds_toArray, List.set_cons_zero, List.set_cons_succ, List.getElem_toArray, List.getElem_cons_zero, List.getElem_cons_succ]
    refine list_val (.slice a4 114 c4) (by kernel_rfl) (by kernel_rfl) ?_
    simp only [Act.put, List.setIfInBounds_toArray, List.set_cons_zero, List.set_cons_succ, List.getElem_toArray, List.getElem_cons_zero, List.getElem_cons_succ]
    refine list_val (.int .i64 114) (by kernel_rfl) (by kernel_rfl) ?_
    simp only [Act.put, List.setIfInBounds_toArray, List.set_cons_zero, List.set_cons_succ, List.getElem_toArray, List.getElem_cons_zero, List.getElem_cons_succ]
    refine list_val (.bool true) (by kernel_rfl) (by kernel_rfl) ?_
    simp only [Act.put, List.setIfInBounds_toArray, List.set_cons_zero, List.set_cons_succ, List.getElem_toArray, List.getElem_cons_zero, List.getElem_cons_succ]
    refine list_val (.bool true) (by kernel_rfl) (by kernel_rfl) ?_
    simp only [Act.put, List.setIfInBounds_toArray, List.set_cons_zero, List.set_cons_succ, List.getElem_toArray, List.getElem_cons_zero, List.getElem_cons_succ]
    (refine wpList_step fun K hK => ?_; replace hK := hide hK; go_simp; refine unhide hK _ _ ?_; clear hK K)
    refine wpList_nil ?_
    have hZ : Hid (Woke w (.returned (.bool true)) u17) := ⟨rfl, hW.gr⟩
    clear hW
    go_wp2_with fail
    rw [unhide hT]
    exact unhide hZ
end Go.Proofs.Ytfmocneoffkmpab
