/-
  Layer 14: headers, messages, exchanges are got.
-/
import Derived.Test.YtfmocneoffkmpaaFE
namespace Go.Proofs.Ytfmocneoffkmpaa
open Go.RowKit
set_option maxRecDepth 100000
set_option linter.unusedSimpArgs false
set_option linter.unusedVariables false
def Rno (z : Array Value) (e : Int) (w : World) (r : Ending) (w' : World) : Prop := r = .returned (.tuple #[.agg z, .int .i64 e]) ∧ Gr w w'
theorem Lb.some {w : World} {a : Option Addr} {n c : Nat} {B : List Int} (h : Lb w a n c B) (hn : 0 < n) : ∃ p q, a = Option.some ⟨p, q, none⟩ ∧ Lb w (Option.some ⟨p, q, none⟩) n c B := by
  rcases h.sl with h1 | ⟨p, q, h1, h2⟩
  · have := h.len
    rw [h1] at this
    simp at this
    omega
  · subst h1
    exact ⟨p, q, rfl, h⟩
theorem msl_setb (K : List Int) (hK : K.length = 32) (p q : Int) (B B' : List Int) (h : B'.length = B.length) : sp (msl K p q B) 34 (bv B') = msl K p q B' := by
  have := sp_mid (bv B') (hdl K p q) (bv B) [] (by rw [bv_len, bv_len, h])
  rw [hdl_len hK] at this
  rw [msl_hdl, this, ← msl_hdl]
theorem xcl_setd (D D' B : List Int) (h : D'.length = D.length) : sp (xcl D B) 0 (bv D') = xcl D' B := by
  have := sp_mid (bv D') [] (bv D) (bv B) (by rw [bv_len, bv_len, h])
  simpa [xcl] using this
theorem xcl_setb (D : List Int) (hD : D.length = 16) (B B' : List Int) (h : B'.length = B.length) : sp (xcl D B) 16 (bv B') = xcl D B' := by
  have := sp_mid (bv B') (bv D) (bv B) [] (by rw [bv_len, bv_len, h])
  rw [bv_len, hD] at this
  rw [xcl_body, this, ← xcl_body]
theorem hdO_len {L : List Int} {k n : Nat} (h : L.length = n) (hk : k + 40 ≤ n) : (hdO L k).length = 34 := hdl_len (sub_len h (by omega)) _ _
/-- what of a message's, an exchange's bytes is read -/
def msO (L : List Int) : List Value := msl ((L.drop 0).take 32) (lowN ((L.drop (0 + 32)).take 4)) (lowN ((L.drop (0 + 36)).take 4)) ((L.drop 40).take 65)
def xcO (L : List Int) : List Value := xcl ((L.drop 0).take 16) ((L.drop 16).take 130)
set_option maxHeartbeats 4000000 in
theorem fgeth_no (a : Option Addr) (m c : Nat) (hm : ¬ m = 40) (w : World) : Calls Try.prog 19 #[.slice a m c] w (Rno (hdl Z32 0 0).toArray 240 w) := by
  obtain ⟨T, hT⟩ : ∃ T, T = Rno (hdl Z32 0 0).toArray 240 w := ⟨_, rfl⟩
  rw [← hT]
  replace hT := hide hT
  have hmI : ¬ (m : Int) = 40 := by omega
  clear hm
  go_enter Try.func19, Try.ntmps19
  go_upto_region 1 with fail
  have hB := ((Bl.nil w).new #[.int .u8 0, .int .u8 0, .int .u8 0, .int .u8 0, .int .u8 0, .int .u8 0, .int .u8 0, .int .u8 0, .int .u8 0, .int .u8 0, .int .u8 0, .int .u8 0, .int .u8 0, .int .u8 0, .int .u8 0, .int .u8 0, .int .u8 0, .int .u8 0, .int .u8 0, .int .u8 0, .int .u8 0, .int .u8 0, .int .u8 0, .int .u8 0, .int .u8 0, .int .u8 0, .int .u8 0, .int .u8 0, .int .u8 0, .int .u8 0, .int .u8 0, .int .u8 0, .int .u32 0, .int .u32 0] 26)
  simp only [size_alloc, List.nil_append, List.cons_append] at hB
  generalize World.alloc _ _ = u at *
  replace hB : Bl w [⟨w.heap.size, (hdl Z32 0 0).toArray, 26⟩] u := hB
  refine wp_region_lit ?_
  refine list_val (.slice a m c) (by kernel_rfl) (by kernel_rfl) ?_
  simp only [Act.put, List.setIfInBounds_toArray, List.set_cons_zero, List.set_cons_succ, List.getElem_toArray, List.getElem_cons_zero, List.getElem_cons_succ]
  refine list_val (.int .i64 m) (by kernel_rfl) (by kernel_rfl) ?_
  simp only [Act.put, List.setIfInBounds_toArray, List.set_cons_zero, List.set_cons_succ, List.getElem_toArray, List.getElem_cons_zero, List.getElem_cons_succ]
  refine list_val (.bool true) (by kernel_rfl) (by go_simp) ?_
  simp only [Act.put, List.setIfInBounds_toArray, List.set_cons_zero, List.set_cons_succ, List.getElem_toArray, List.getElem_cons_zero, List.getElem_cons_succ]
  refine wpList_nil ?_
  replace hB := hide hB
  go_upto_region 2 with fail
  replace hB := unhide hB
  refine wp_region_lit ?_
  refine list_val (.agg (hdl Z32 0 0).toArray) (by kernel_rfl) (by kernel_rfl) ?_
  simp only [Act.put, List.setIfInBounds_toArray, List.set_cons_zero, List.set_cons_succ, List.getElem_toArray, List.getElem_cons_zero, List.getElem_cons_succ]
  refine list_store 26 (.tmp 2) (.tmp 7) (w.heap.size) (hdl Z32 0 0).toArray 26 (hdl Z32 0 0).toArray (by kernel_rfl) rfl (by kernel_rfl) (by kernel_rfl) (hB.get 0 (x := ⟨w.heap.size, (hdl Z32 0 0).toArray, 26⟩) rfl) (by rw [Try.infoH]; rfl) rfl (hdl_one ..) ?_
  replace hB := hB.set 0 (x := ⟨w.heap.size, (hdl Z32 0 0).toArray, 26⟩) rfl (hdl Z32 0 0).toArray
  simp only [List.set_cons_zero, List.set_cons_succ] at hB
  generalize World.setRow _ _ _ = u2 at *
  replace hB : Bl w [⟨w.heap.size, (hdl Z32 0 0).toArray, 26⟩] u2 := hB
  simp only [Act.put, List.setIfInBounds_toArray, List.set_cons_zero, List.set_cons_succ, List.getElem_toArray, List.getElem_cons_zero, List.getElem_cons_succ]
  (refine wpList_step fun K hK => ?_; replace hK := hide hK; go_simp; refine unhide hK _ _ ?_; clear hK K)
  refine wpList_nil ?_
  replace hB := hide hB
  go_wp2_with fail
  replace hB := unhide hB
  rw [unhide hT]
  exact bodyPost_ret (v := .tuple #[.agg (hdl Z32 0 0).toArray, .int .i64 240]) (results_cell_tmp Try.results19 _ _ (w.heap.size) 26 (hdl Z32 0 0).toArray (0, 0) _ rfl (.int .i64 240) rfl (hB.get 0 (x := ⟨w.heap.size, (hdl Z32 0 0).toArray, 26⟩) rfl) Try.underlying26 rfl (by rw [Try.infoH]; rfl)) rfl ⟨rfl, hB.gr⟩
set_option maxHeartbeats 4000000 in
theorem fgetm_no (a : Option Addr) (m c : Nat) (hm : ¬ m = 105) (w : World) : Calls Try.prog 20 #[.slice a m c] w (Rno (msl Z32 0 0 Z65).toArray 240 w) := by
  obtain ⟨T, hT⟩ : ∃ T, T = Rno (msl Z32 0 0 Z65).toArray 240 w := ⟨_, rfl⟩
  rw [← hT]
  replace hT := hide hT
  have hmI : ¬ (m : Int) = 105 := by omega
  clear hm
  go_enter Try.func20, Try.ntmps20
  go_upto_region 0 with fail
  refine wp_region_lit ?_
  refine list_valw (.pointer (some ⟨w.heap.size, 0, none⟩)) (w.alloc (.cells (msl Z32 0 0 Z65).toArray 29 (0, 0))) (by kernel_rfl) (by kernel_rfl) ?_
  have hB := (Bl.nil w).new (msl Z32 0 0 Z65).toArray 29
  simp only [List.nil_append] at hB
  generalize World.alloc _ _ = u at *
  replace hB : Bl w [⟨w.heap.size, (msl Z32 0 0 Z65).toArray, 29⟩] u := hB
  simp only [Act.put, List.setIfInBounds_toArray, List.set_cons_zero, List.set_cons_succ, List.getElem_toArray, List.getElem_cons_zero, List.getElem_cons_succ]
  (refine wpList_step fun K hK => ?_; replace hK := hide hK; go_simp; refine unhide hK _ _ ?_; clear hK K)
  refine wpList_nil ?_
  replace hB := hide hB
  go_upto_region 1 with fail
  replace hB := unhide hB
  refine wp_region_lit ?_
  refine list_val (.slice a m c) (by kernel_rfl) (by kernel_rfl) ?_
  simp only [Act.put, List.setIfInBounds_toArray, List.set_cons_zero, List.set_cons_succ, List.getElem_toArray, List.getElem_cons_zero, List.getElem_cons_succ]
  refine list_val (.int .i64 m) (by kernel_rfl) (by kernel_rfl) ?_
  simp only [Act.put, List.setIfInBounds_toArray, List.set_cons_zero, List.set_cons_succ, List.getElem_toArray, List.getElem_cons_zero, List.getElem_cons_succ]
  refine list_val (.bool true) (by kernel_rfl) (by go_simp) ?_
  simp only [Act.put, List.setIfInBounds_toArray, List.set_cons_zero, List.set_cons_succ, List.getElem_toArray, List.getElem_cons_zero, List.getElem_cons_succ]
  refine wpList_nil ?_
  replace hB := hide hB
  go_upto_region 2 with fail
  replace hB := unhide hB
  refine wp_region_lit ?_
  refine list_val (.agg (msl Z32 0 0 Z65).toArray) (by kernel_rfl) (by kernel_rfl) ?_
  simp only [Act.put, List.setIfInBounds_toArray, List.set_cons_zero, List.set_cons_succ, List.getElem_toArray, List.getElem_cons_zero, List.getElem_cons_succ]
  refine list_store 29 (.tmp 2) (.tmp 9) (w.heap.size) (msl Z32 0 0 Z65).toArray 29 (msl Z32 0 0 Z65).toArray (by kernel_rfl) rfl (by kernel_rfl) (by kernel_rfl) (hB.get 0 (x := ⟨w.heap.size, (msl Z32 0 0 Z65).toArray, 29⟩) rfl) (by rw [Try.infoM]; rfl) rfl (msl_one ..) ?_
  replace hB := hB.set 0 (x := ⟨w.heap.size, (msl Z32 0 0 Z65).toArray, 29⟩) rfl (msl Z32 0 0 Z65).toArray
  simp only [List.set_cons_zero, List.set_cons_succ] at hB
  generalize World.setRow _ _ _ = u2 at *
  replace hB : Bl w [⟨w.heap.size, (msl Z32 0 0 Z65).toArray, 29⟩] u2 := hB
  simp only [Act.put, List.setIfInBounds_toArray, List.set_cons_zero, List.set_cons_succ, List.getElem_toArray, List.getElem_cons_zero, List.getElem_cons_succ]
  (refine wpList_step fun K hK => ?_; replace hK := hide hK; go_simp; refine unhide hK _ _ ?_; clear hK K)
  refine wpList_nil ?_
  replace hB := hide hB
  go_wp2_with fail
  replace hB := unhide hB
  rw [unhide hT]
  exact bodyPost_ret (v := .tuple #[.agg (msl Z32 0 0 Z65).toArray, .int .i64 240]) (results_cell_tmp Try.results20 _ _ (w.heap.size) 29 (msl Z32 0 0 Z65).toArray (0, 0) _ rfl (.int .i64 240) rfl (hB.get 0 (x := ⟨w.heap.size, (msl Z32 0 0 Z65).toArray, 29⟩) rfl) Try.underlying29 rfl (by rw [Try.infoM]; rfl)) rfl ⟨rfl, hB.gr⟩
set_option maxHeartbeats 4000000 in
theorem fgetx_no (a : Option Addr) (m c : Nat) (hm : ¬ m = 146) (w : World) : Calls Try.prog 21 #[.slice a m c] w (Rno (xcl Z16 Z130).toArray 240 w) := by
  obtain ⟨T, hT⟩ : ∃ T, T = Rno (xcl Z16 Z130).toArray 240 w := ⟨_, rfl⟩
  rw [← hT]
  replace hT := hide hT
  have hmI : ¬ (m : Int) = 146 := by omega
  clear hm
  go_enter Try.func21, Try.ntmps21
  go_upto_region 0 with fail
  refine wp_region_lit ?_
  refine list_valw (.pointer (some ⟨w.heap.size, 0, none⟩)) (w.alloc (.cells (xcl Z16 Z130).toArray 34 (0, 0))) (by kernel_rfl) (by kernel_rfl) ?_
  have hB := (Bl.nil w).new (xcl Z16 Z130).toArray 34
  simp only [List.nil_append] at hB
  generalize World.alloc _ _ = u at *
  replace hB : Bl w [⟨w.heap.size, (xcl Z16 Z130).toArray, 34⟩] u := hB
  simp only [Act.put, List.setIfInBounds_toArray, List.set_cons_zero, List.set_cons_succ, List.getElem_toArray, List.getElem_cons_zero, List.getElem_cons_succ]
  (refine wpList_step fun K hK => ?_; replace hK := hide hK; go_simp; refine unhide hK _ _ ?_; clear hK K)
  refine wpList_nil ?_
  replace hB := hide hB
  go_upto_region 1 with fail
  replace hB := unhide hB
  refine wp_region_lit ?_
  refine list_val (.slice a m c) (by kernel_rfl) (by kernel_rfl) ?_
  simp only [Act.put, List.setIfInBounds_toArray, List.set_cons_zero, List.set_cons_succ, List.getElem_toArray, List.getElem_cons_zero, List.getElem_cons_succ]
  refine list_val (.int .i64 m) (by kernel_rfl) (by kernel_rfl) ?_
  simp only [Act.put, List.setIfInBounds_toArray, List.set_cons_zero, List.set_cons_succ, List.getElem_toArray, List.getElem_cons_zero, List.getElem_cons_succ]
  refine list_val (.bool true) (by kernel_rfl) (by go_simp) ?_
  simp only [Act.put, List.setIfInBounds_toArray, List.set_cons_zero, List.set_cons_succ, List.getElem_toArray, List.getElem_cons_zero, List.getElem_cons_succ]
  refine wpList_nil ?_
  replace hB := hide hB
  go_upto_region 2 with fail
  replace hB := unhide hB
  refine wp_region_lit ?_
  refine list_val (.agg (xcl Z16 Z130).toArray) (by kernel_rfl) (by kernel_rfl) ?_
  simp only [Act.put, List.setIfInBounds_toArray, List.set_cons_zero, List.set_cons_succ, List.getElem_toArray, List.getElem_cons_zero, List.getElem_cons_succ]
  refine list_store 34 (.tmp 2) (.tmp 9) (w.heap.size) (xcl Z16 Z130).toArray 34 (xcl Z16 Z130).toArray (by kernel_rfl) rfl (by kernel_rfl) (by kernel_rfl) (hB.get 0 (x := ⟨w.heap.size, (xcl Z16 Z130).toArray, 34⟩) rfl) (by rw [Try.infoX]; rfl) rfl (xcl_one ..) ?_
  replace hB := hB.set 0 (x := ⟨w.heap.size, (xcl Z16 Z130).toArray, 34⟩) rfl (xcl Z16 Z130).toArray
  simp only [List.set_cons_zero, List.set_cons_succ] at hB
  generalize World.setRow _ _ _ = u2 at *
  replace hB : Bl w [⟨w.heap.size, (xcl Z16 Z130).toArray, 34⟩] u2 := hB
  simp only [Act.put, List.setIfInBounds_toArray, List.set_cons_zero, List.set_cons_succ, List.getElem_toArray, List.getElem_cons_zero, List.getElem_cons_succ]
  (refine wpList_step fun K hK => ?_; replace hK := hide hK; go_simp; refine unhide hK _ _ ?_; clear hK K)
  refine wpList_nil ?_
  replace hB := hide hB
  go_wp2_with fail
  replace hB := unhide hB
  rw [unhide hT]
  exact bodyPost_ret (v := .tuple #[.agg (xcl Z16 Z130).toArray, .int .i64 240]) (results_cell_tmp Try.results21 _ _ (w.heap.size) 34 (xcl Z16 Z130).toArray (0, 0) _ rfl (.int .i64 240) rfl (hB.get 0 (x := ⟨w.heap.size, (xcl Z16 Z130).toArray, 34⟩) rfl) Try.underlying34 rfl (by rw [Try.infoX]; rfl)) rfl ⟨rfl, hB.gr⟩
set_option maxHeartbeats 4000000 in
theorem fgeth_ok (L : List Int) (a : Option Addr) (c0 : Nat) (w : World) (hB0 : Lb w a 40 c0 L)  : Calls Try.prog 19 #[.slice a 40 c0] w (Rno (hdO L 0).toArray 0 w) := by
  obtain ⟨T, hT⟩ : ∃ T, T = Rno (hdO L 0).toArray 0 w := ⟨_, rfl⟩
  rw [← hT]
  replace hT := hide hT
  obtain ⟨p0, q0, rfl, hB0⟩ := hB0.some (by omega)
  have hL := hB0.len
  have hLb := hide hB0.isB
  replace hB0 := hide hB0
  go_enter Try.func19, Try.ntmps19
  go_upto_region 1 with fail
  have hB := ((Bl.nil w).new #[.int .u8 0, .int .u8 0, .int .u8 0, .int .u8 0, .int .u8 0, .int .u8 0, .int .u8 0, .int .u8 0, .int .u8 0, .int .u8 0, .int .u8 0, .int .u8 0, .int .u8 0, .int .u8 0, .int .u8 0, .int .u8 0, .int .u8 0, .int .u8 0, .int .u8 0, .int .u8 0, .int .u8 0, .int .u8 0, .int .u8 0, .int .u8 0, .int .u8 0, .int .u8 0, .int .u8 0, .int .u8 0, .int .u8 0, .int .u8 0, .int .u8 0, .int .u8 0, .int .u32 0, .int .u32 0] 26)
  simp only [size_alloc, List.nil_append, List.cons_append] at hB
  generalize World.alloc _ _ = u at *
  replace hB : Bl w [⟨w.heap.size, (hdl Z32 0 0).toArray, 26⟩] u := hB
  refine wp_region_lit ?_
  refine list_val (.slice (some ⟨p0, q0, none⟩) 40 c0) (by kernel_rfl) (by kernel_rfl) ?_
  simp only [Act.put, List.setIfInBounds_toArray, List.set_cons_zero, List.set_cons_succ, List.getElem_toArray, List.getElem_cons_zero, List.getElem_cons_succ]
  refine list_val (.int .i64 40) (by kernel_rfl) (by kernel_rfl) ?_
  simp only [Act.put, List.setIfInBounds_toArray, List.set_cons_zero, List.set_cons_succ, List.getElem_toArray, List.getElem_cons_zero, List.getElem_cons_succ]
  refine list_val (.bool false) (by kernel_rfl) (by kernel_rfl) ?_
  simp only [Act.put, List.setIfInBounds_toArray, List.set_cons_zero, List.set_cons_succ, List.getElem_toArray, List.getElem_cons_zero, List.getElem_cons_succ]
  refine wpList_nil ?_
  replace hB := hide hB
  go_upto_region 3 with fail
  replace hB := unhide hB
  refine wp_region_lit ?_
  refine list_val (.slice (some ⟨p0, q0, none⟩) 40 c0) (by kernel_rfl) (by kernel_rfl) ?_
  simp only [Act.put, List.setIfInBounds_toArray, List.set_cons_zero, List.set_cons_succ, List.getElem_toArray, List.getElem_cons_zero, List.getElem_cons_succ]
  refine list_call 54 #[.slice (some ⟨p0, q0, none⟩) 40 c0] (by kernel_rfl) (by kernel_rfl) ((oreadt_ok L p0 q0 40 c0 u ((unhide hB0).gr hB.gr) (by omega) (by omega)).mono ?_)
  rintro r u1 ⟨g, p, c, rfl, hgg, hpp, hrd, hty, hgr⟩
  rw [hL] at hrd
  have hG : Gt g w [⟨w.heap.size, (hdl Z32 0 0).toArray, 26⟩] p 40 c 0 L u1 := hB.gt hgr hgg hpp hrd hty (by intro y hy; rw [List.mem_singleton.1 hy]; exact ⟨(by decide : (26 : TypeId) ≠ 126), (by decide : (26 : TypeId) ≠ 5)⟩)
  have hwg : w.heap.size ≤ g := Nat.le_trans hB.gr.size hgg
  clear hB hgr hgg hpp hrd hty
  refine ⟨_, rfl, ?_⟩
  simp only [Act.put, List.setIfInBounds_toArray, List.set_cons_zero, List.set_cons_succ, List.getElem_toArray, List.getElem_cons_zero, List.getElem_cons_succ]
  refine list_call 53 #[P0 g] (by kernel_rfl) (by kernel_rfl) ((fheader_ok g p 40 c 0 L u1 ⟨hG.rd, hG.ty⟩ (by omega) (by omega)).mono ?_)
  rintro r u2 ⟨rfl, hR1, hb1⟩
  replace hG := hG.read hR1 hb1
  clear hR1 hb1
  have hlo := hdO_len (k := 0) hL (by omega)
  obtain ⟨H, hH⟩ : ∃ H, H = hdO L 0 := ⟨_, rfl⟩
  have hon : H.toArray.all (·.oneCell') = true := by rw [hH]; exact hdl_one ..
  rw [← hH] at hlo hT ⊢
  clear hH
  refine ⟨_, rfl, ?_⟩
  simp only [Act.put, List.setIfInBounds_toArray, List.set_cons_zero, List.set_cons_succ, List.getElem_toArray, List.getElem_cons_zero, List.getElem_cons_succ]
  refine list_store 26 (.tmp 2) (.tmp 10) (w.heap.size) H.toArray 26 (hdl Z32 0 0).toArray (by kernel_rfl) rfl (by kernel_rfl) (by kernel_rfl) (hG.get 0 (x := ⟨w.heap.size, (hdl Z32 0 0).toArray, 26⟩) rfl) (by rw [Try.infoH, List.size_toArray, hlo]) (by rw [List.size_toArray, List.size_toArray, hlo]; rfl) hon ?_
  replace hG := hG.set 0 (x := ⟨w.heap.size, (hdl Z32 0 0).toArray, 26⟩) rfl H.toArray
  simp only [List.set_cons_zero, List.set_cons_succ] at hG
  generalize World.setRow _ _ _ = u3 at *
  replace hG : Gt g w [⟨w.heap.size, H.toArray, 26⟩] p 40 c (0 + 40) L u3 := hG
  simp only [Act.put, List.setIfInBounds_toArray, List.set_cons_zero, List.set_cons_succ, List.getElem_toArray, List.getElem_cons_zero, List.getElem_cons_succ]
  (refine wpList_step fun K hK => ?_; replace hK := hide hK; go_simp; refine unhide hK _ _ ?_; clear hK K)
  refine wpList_nil ?_
  have hbk : Hid (u3.heap[w.heap.size]? = some (.cells H.toArray 26 (0, 0))) := (hG.get 0 (x := ⟨w.heap.size, H.toArray, 26⟩) rfl)
  have hP : Hid (T (.returned (.tuple #[.agg H.toArray, .int .i64 0])) u3) := by
    rw [unhide hT]
    exact ⟨rfl, hG.gr hwg⟩
  clear hG
  go_wp2_with fail
  exact bodyPost_ret (v := .tuple #[.agg H.toArray, .int .i64 0]) (results_cell_tmp Try.results19 _ _ (w.heap.size) 26 H.toArray (0, 0) _ rfl (.int .i64 0) rfl (unhide hbk) Try.underlying26 rfl (by rw [Try.infoH, List.size_toArray, hlo])) rfl (unhide hP)
theorem exec_bm {a : Act} {o : Oper} (w : World) (x : Operand) (ho : o.op = .build 29 #[(0, x)]) (K : List Int) (p q : Int) (hK : K.length = 32) (hx : a.eval x = .agg (hdl K p q).toArray) :
    (execOp a.eval o).run Try.prog w = .ok (.value (.agg (msl K p q Z65).toArray)) w := by
  obtain ⟨X, hX⟩ : ∃ X, X = (hdl K p q).toArray := ⟨_, rfl⟩
  rw [← hX] at hx
  have hs : X.size = 34 := by rw [hX, List.size_toArray, hdl_len hK]
  have hb : Try.prog.built 29 [(0, .agg X)] = (if X.size ≠ 34 || 0 + X.size > (msl Z32 0 0 Z65).toArray.size then none else some (X.zipIdx.foldl (fun cs (c, j) => cs.setIfInBounds (0 + j) c) (msl Z32 0 0 Z65).toArray)) := by kernel_rfl
  have hz : (msl Z32 0 0 Z65).toArray.size = 99 := rfl
  rw [hs, hz, if_neg (by decide), hX] at hb
  have hf := fold_mid 0 (hdl K p q) [] (hdl Z32 0 0) (bv Z65) 0 rfl (by rw [hdl_len hK, hdl_len rfl])
  have e1 : (msl Z32 0 0 Z65) = [] ++ (hdl Z32 0 0 ++ bv Z65) := msl_hd0 ..
  have e2 : (msl K p q Z65) = [] ++ (hdl K p q ++ bv Z65) := msl_hd0 ..
  rw [← e1, ← e2] at hf
  have hb2 : Try.prog.built 29 [(0, .agg (hdl K p q).toArray)] = some (msl K p q Z65).toArray := by
    rw [hb]
    congr 1
    rw [← Array.foldl_toList]
    simpa using hf
  have h := run_build (P := Try.prog) w 29 #[(0, .agg (hdl K p q).toArray)] _ hb2
  unfold execOp
  simp only [ho, List.map_toArray, List.map_cons, List.map_nil, hx, hX, Sem.run_bind, h, Result.andThen_ok, Sem.run_pure]
set_option maxHeartbeats 4000000 in
theorem fgetm_ok (L : List Int) (a : Option Addr) (c0 : Nat) (w : World) (hB0 : Lb w a 105 c0 L)  : Calls Try.prog 20 #[.slice a 105 c0] w (Rno (msO L).toArray 0 w) := by
  obtain ⟨T, hT⟩ : ∃ T, T = Rno (msO L).toArray 0 w := ⟨_, rfl⟩
  rw [← hT]
  replace hT := hide hT
  obtain ⟨p0, q0, rfl, hB0⟩ := hB0.some (by omega)
  have hL := hB0.len
  have hLb := hide hB0.isB
  replace hB0 := hide hB0
  go_enter Try.func20, Try.ntmps20
  go_upto_region 0 with fail
  refine wp_region_lit ?_
  refine list_valw (.pointer (some ⟨w.heap.size, 0, none⟩)) (w.alloc (.cells (msl Z32 0 0 Z65).toArray 29 (0, 0))) (by kernel_rfl) (by kernel_rfl) ?_
  have hB := (Bl.nil w).new (msl Z32 0 0 Z65).toArray 29
  simp only [List.nil_append] at hB
  generalize World.alloc _ _ = u at *
  replace hB : Bl w [⟨w.heap.size, (msl Z32 0 0 Z65).toArray, 29⟩] u := hB
  simp only [Act.put, List.setIfInBounds_toArray, List.set_cons_zero, List.set_cons_succ, List.getElem_toArray, List.getElem_cons_zero, List.getElem_cons_succ]
  (refine wpList_step fun K hK => ?_; replace hK := hide hK; go_simp; refine unhide hK _ _ ?_; clear hK K)
  refine wpList_nil ?_
  replace hB := hide hB
  go_upto_region 1 with fail
  replace hB := unhide hB
  refine wp_region_lit ?_
  refine list_val (.slice (some ⟨p0, q0, none⟩) 105 c0) (by kernel_rfl) (by kernel_rfl) ?_
  simp only [Act.put, List.setIfInBounds_toArray, List.set_cons_zero, List.set_cons_succ, List.getElem_toArray, List.getElem_cons_zero, List.getElem_cons_succ]
  refine list_val (.int .i64 105) (by kernel_rfl) (by kernel_rfl) ?_
  simp only [Act.put, List.setIfInBounds_toArray, List.set_cons_zero, List.set_cons_succ, List.getElem_toArray, List.getElem_cons_zero, List.getElem_cons_succ]
  refine list_val (.bool false) (by kernel_rfl) (by kernel_rfl) ?_
  simp only [Act.put, List.setIfInBounds_toArray, List.set_cons_zero, List.set_cons_succ, List.getElem_toArray, List.getElem_cons_zero, List.getElem_cons_succ]
  refine wpList_nil ?_
  replace hB := hide hB
  go_upto_region 3 with fail
  replace hB := unhide hB
  refine wp_region_lit ?_
  refine list_val (.slice (some ⟨p0, q0, none⟩) 105 c0) (by kernel_rfl) (by kernel_rfl) ?_
  simp only [Act.put, List.setIfInBounds_toArray, List.set_cons_zero, List.set_cons_succ, List.getElem_toArray, List.getElem_cons_zero, List.getElem_cons_succ]
  refine list_call 54 #[.slice (some ⟨p0, q0, none⟩) 105 c0] (by kernel_rfl) (by kernel_rfl) ((oreadt_ok L p0 q0 105 c0 u ((unhide hB0).gr hB.gr) (by omega) (by omega)).mono ?_)
  rintro r u1 ⟨g, p, c, rfl, hgg, hpp, hrd, hty, hgr⟩
  rw [hL] at hrd
  have hG : Gt g w [⟨w.heap.size, (msl Z32 0 0 Z65).toArray, 29⟩] p 105 c 0 L u1 := hB.gt hgr hgg hpp hrd hty (by intro y hy; rw [List.mem_singleton.1 hy]; exact ⟨(by decide : (29 : TypeId) ≠ 126), (by decide : (29 : TypeId) ≠ 5)⟩)
  have hwg : w.heap.size ≤ g := Nat.le_trans hB.gr.size hgg
  clear hB hgr hgg hpp hrd hty
  refine ⟨_, rfl, ?_⟩
  simp only [Act.put, List.setIfInBounds_toArray, List.set_cons_zero, List.set_cons_succ, List.getElem_toArray, List.getElem_cons_zero, List.getElem_cons_succ]
  (refine wpList_step fun K hK => ?_; replace hK := hide hK; go_simp; refine unhide hK _ _ ?_; clear hK K)
  refine wpList_nil ?_
  replace hG := hide hG
  go_upto_region 4 with fail
  replace hG := unhide hG
  refine wp_region_lit ?_
  refine list_val (.pointer (some ⟨g, 0, none⟩)) (by kernel_rfl) (by kernel_rfl) ?_
  simp only [Act.put, List.setIfInBounds_toArray, List.set_cons_zero, List.set_cons_succ, List.getElem_toArray, List.getElem_cons_zero, List.getElem_cons_succ]
  refine list_call 53 #[P0 g] (by kernel_rfl) (by kernel_rfl) ((fheader_ok g p 105 c 0 L u1 ⟨hG.rd, hG.ty⟩ (by omega) (by omega)).mono ?_)
  rintro r u2 ⟨rfl, hR1, hb1⟩
  replace hG := hG.read hR1 hb1
  clear hR1 hb1
  have e32 := sub_len (k := 0) (m := 32) hL (by omega)
  unfold msO at hT
  unfold hdO
  generalize (L.drop 0).take 32 = K at *
  generalize lowN ((L.drop (0 + 32)).take 4) = p1 at *
  generalize lowN ((L.drop (0 + 36)).take 4) = q1 at *
  refine ⟨_, rfl, ?_⟩
  simp only [Act.put, List.setIfInBounds_toArray, List.set_cons_zero, List.set_cons_succ, List.getElem_toArray, List.getElem_cons_zero, List.getElem_cons_succ]
  refine list_val (.agg (msl K p1 q1 Z65).toArray) (by kernel_rfl) (exec_bm _ (.tmp 13) rfl K p1 q1 e32 (by kernel_rfl)) ?_
  simp only [Act.put, List.setIfInBounds_toArray, List.set_cons_zero, List.set_cons_succ, List.getElem_toArray, List.getElem_cons_zero, List.getElem_cons_succ]
  refine list_valw (.pointer (some ⟨u2.heap.size, 0, none⟩)) (u2.alloc (.cells (msl Z32 0 0 Z65).toArray 29 (0, 0))) (by kernel_rfl) (by kernel_rfl) ?_
  replace hG := hG.new (msl Z32 0 0 Z65).toArray 29 ⟨by decide, by decide⟩
  simp only [List.nil_append, List.cons_append] at hG
  generalize World.alloc _ _ = u3 at *
  generalize u2.heap.size = q5 at *
  replace hG : Gt g w [⟨w.heap.size, (msl Z32 0 0 Z65).toArray, 29⟩, ⟨q5, (msl Z32 0 0 Z65).toArray, 29⟩] p 105 c (0 + 40) L u3 := hG
  simp only [Act.put, List.setIfInBounds_toArray, List.set_cons_zero, List.set_cons_succ, List.getElem_toArray, List.getElem_cons_zero, List.getElem_cons_succ]
  refine list_store 29 (.tmp 5) (.tmp 14) (q5) (msl K p1 q1 Z65).toArray 29 (msl Z32 0 0 Z65).toArray (by kernel_rfl) rfl (by kernel_rfl) (by kernel_rfl) (hG.get 1 (x := ⟨q5, (msl Z32 0 0 Z65).toArray, 29⟩) rfl) (by rw [Try.infoM, List.size_toArray, msl_len e32 _ _ rfl]) (by rw [List.size_toArray, List.size_toArray, msl_len e32 _ _ rfl]; rfl) (msl_one ..) ?_
  replace hG := hG.set 1 (x := ⟨q5, (msl Z32 0 0 Z65).toArray, 29⟩) rfl (msl K p1 q1 Z65).toArray
  simp only [List.set_cons_zero, List.set_cons_succ] at hG
  generalize World.setRow _ _ _ = u4 at *
  replace hG : Gt g w [⟨w.heap.size, (msl Z32 0 0 Z65).toArray, 29⟩, ⟨q5, (msl K p1 q1 Z65).toArray, 29⟩] p 105 c (0 + 40) L u4 := hG
  simp only [Act.put, List.setIfInBounds_toArray, List.set_cons_zero, List.set_cons_succ, List.getElem_toArray, List.getElem_cons_zero, List.getElem_cons_succ]
  refine wpList_nil ?_
  replace hG : Gt g w [⟨w.heap.size, (msl Z32 0 0 Z65).toArray, 29⟩, ⟨q5, (msl K p1 q1 Z65).toArray, 29⟩] p 105 c (40) L u4 := hG
  replace hG := hide hG
  go_upto_region 5 with fail
  replace hG := unhide hG
  refine any_start (S := fun _ => True) (by kernel_rfl) ?_
  replace hG := hG.more (Gr.refl _).drew
  generalize World.drew _ = x_B at *
  simp only [List.size_toArray, List.length_cons, List.length_nil, Array.replicate, List.replicate]
  refine any_take (i := 0) (v := (.pointer (some ⟨q5, 34, none⟩))) #[false, false, false, false, false] rfl (by kernel_rfl) (by kernel_rfl) (by kernel_rfl) (by kernel_rfl) (fun _ _ _ h => h) (.inl ⟨by kernel_rfl, fun x_ hu => by kernel_rfl⟩) trivial ?_
  simp only [Act.put, List.setIfInBounds_toArray, List.set_cons_zero, List.set_cons_succ, List.getElem_toArray, List.getElem_cons_zero, List.getElem_cons_succ]
  refine any_take (i := 1) (v := (.slice (some ⟨q5, 34, none⟩) 65 65)) #[true, false, false, false, false] rfl (by kernel_rfl) (by kernel_rfl) (by kernel_rfl) (by kernel_rfl) (fun _ _ _ h => h) (.inl ⟨by kernel_rfl, fun x_ hu => by kernel_rfl⟩) trivial ?_
  simp only [Act.put, List.setIfInBounds_toArray, List.set_cons_zero, List.set_cons_succ, List.getElem_toArray, List.getElem_cons_zero, List.getElem_cons_succ]
  refine any_take (i := 2) (v := (.pointer (some ⟨g, 0, none⟩))) #[true, true, false, false, false] rfl (by kernel_rfl) (by kernel_rfl) (by kernel_rfl) (by kernel_rfl) (fun _ _ _ h => h) (.inl ⟨by kernel_rfl, fun x_ hu => by kernel_rfl⟩) trivial ?_
  simp only [Act.put, List.setIfInBounds_toArray, List.set_cons_zero, List.set_cons_succ, List.getElem_toArray, List.getElem_cons_zero, List.getElem_cons_succ]
  refine any_one (i := 3) (by kernel_rfl) rfl (fun K_ hQ => ?_)
  refine step_callw (by kernel_rfl) 55 #[P0 g, .int .i64 ((65 : Nat) : Int)] (by kernel_rfl) ((rraw_ok g p 105 c (40) 65 L x_B hG.rd (by omega) (by omega) (by omega)).mono ?_)
  rintro r y_B ⟨v, rfl, hO, hR1, hb1⟩
  refine ⟨_, rfl, ?_⟩
  obtain ⟨B, hB0⟩ : ∃ X, X = ((L.drop (40)).take 65) := ⟨_, rfl⟩
  rw [← hB0] at hO
  have hlB : B.length = 65 := by rw [hB0]; exact sub_len hL (by omega)
  have hbB : IsB B := by rw [hB0]; exact sub_isB (unhide hLb) _ _
  obtain ⟨ar_B, cr_B, rfl, hlr⟩ := ob_lb hO hbB hlB
  replace hG := hG.read hR1 hb1
  clear hO hR1 hb1
  replace hB0 := hide hB0; replace hbB := hide hbB
  refine hQ.out _ _ trivial (fun _ => ?_)
  clear hQ K_
  simp only [Act.put, List.setIfInBounds_toArray, List.set_cons_zero, List.set_cons_succ, List.getElem_toArray, List.getElem_cons_zero, List.getElem_cons_succ]
  refine any_one (i := 4) (by kernel_rfl) rfl (fun K_ hQ => ?_)
  rw [if_pos (by kernel_rfl)]
  refine copy_wp (.tmp 16) (.tmp 18) rfl (q5) 34 65 65 ar_B 65 cr_B (by kernel_rfl) (by kernel_rfl) (msl K p1 q1 Z65) 29 (hG.get 1 (x := ⟨q5, (msl K p1 q1 Z65).toArray, 29⟩) rfl) B (by rw [hlB]; rfl) hlr.sl (by rw [hlB, msl_len e32 _ _ rfl]; decide) ?_
  replace hG := hG.cells 1 (q := q5) (C := msl K p1 q1 Z65) (t := 29) rfl 34 (bv B)
  simp only [List.set_cons_zero, List.set_cons_succ] at hG
  rw [msl_setb K e32 p1 q1 Z65 B (by rw [hlB]; rfl)] at hG
  have eb : B.map (Value.int .u8) = bv B := rfl
  rw [eb]
  generalize World.setCells _ _ _ _ = u5 at *
  replace hG : Gt g w [⟨w.heap.size, (msl Z32 0 0 Z65).toArray, 29⟩, ⟨q5, (msl K p1 q1 B).toArray, 29⟩] p 105 c (40 + 65) L u5 := hG
  rw [hlB]
  clear hlr eb
  refine hQ.out _ _ trivial (fun _ => ?_)
  clear hQ K_
  simp only [Act.put, List.setIfInBounds_toArray, List.set_cons_zero, List.set_cons_succ, List.getElem_toArray, List.getElem_cons_zero, List.getElem_cons_succ]
  refine any_done (by kernel_rfl) ?_
  replace hG := hide hG
  go_upto_region 6 with fail
  replace hG := unhide hG
  refine wp_region_lit ?_
  refine list_val (.agg (msl K p1 q1 B).toArray) (by kernel_rfl) (exec_arr _ 29 (.tmp 5) rfl q5 (by kernel_rfl) (msl K p1 q1 B).toArray 29 _ (hG.get 1 (x := ⟨q5, (msl K p1 q1 B).toArray, 29⟩) rfl) Try.underlying29 rfl (by rw [Try.infoM, List.size_toArray, msl_len e32 _ _ hlB])) ?_
  simp only [Act.put, List.setIfInBounds_toArray, List.set_cons_zero, List.set_cons_succ, List.getElem_toArray, List.getElem_cons_zero, List.getElem_cons_succ]
  refine list_store 29 (.tmp 2) (.tmp 20) (w.heap.size) (msl K p1 q1 B).toArray 29 (msl Z32 0 0 Z65).toArray (by kernel_rfl) rfl (by kernel_rfl) (by kernel_rfl) (hG.get 0 (x := ⟨w.heap.size, (msl Z32 0 0 Z65).toArray, 29⟩) rfl) (by rw [Try.infoM, List.size_toArray, msl_len e32 _ _ hlB]) (by rw [List.size_toArray, List.size_toArray, msl_len e32 _ _ hlB]; rfl) (msl_one ..) ?_
  replace hG := hG.set 0 (x := ⟨w.heap.size, (msl Z32 0 0 Z65).toArray, 29⟩) rfl (msl K p1 q1 B).toArray
  simp only [List.set_cons_zero, List.set_cons_succ] at hG
  generalize World.setRow _ _ _ = u6 at *
  replace hG : Gt g w [⟨w.heap.size, (msl K p1 q1 B).toArray, 29⟩, ⟨q5, (msl K p1 q1 B).toArray, 29⟩] p 105 c (40 + 65) L u6 := hG
  simp only [Act.put, List.setIfInBounds_toArray, List.set_cons_zero, List.set_cons_succ, List.getElem_toArray, List.getElem_cons_zero, List.getElem_cons_succ]
  (refine wpList_step fun K hK => ?_; replace hK := hide hK; go_simp; refine unhide hK _ _ ?_; clear hK K)
  refine wpList_nil ?_
  have hbk : Hid (u6.heap[w.heap.size]? = some (.cells (msl K p1 q1 B).toArray 29 (0, 0))) := (hG.get 0 (x := ⟨w.heap.size, (msl K p1 q1 B).toArray, 29⟩) rfl)
  have hP : Hid (T (.returned (.tuple #[.agg (msl K p1 q1 B).toArray, .int .i64 0])) u6) := by
    rw [unhide hT]
    exact ⟨by rw [unhide hB0], hG.gr hwg⟩
  clear hG
  go_wp2_with fail
  exact bodyPost_ret (v := .tuple #[.agg (msl K p1 q1 B).toArray, .int .i64 0]) (results_cell_tmp Try.results20 _ _ (w.heap.size) 29 (msl K p1 q1 B).toArray (0, 0) _ rfl (.int .i64 0) rfl (unhide hbk) Try.underlying29 rfl (by rw [Try.infoM, List.size_toArray, msl_len e32 _ _ hlB])) rfl (unhide hP)
set_option maxHeartbeats 4000000 in
theorem fgetx_ok (L : List Int) (a : Option Addr) (c0 : Nat) (w : World) (hB0 : Lb w a 146 c0 L)  : Calls Try.prog 21 #[.slice a 146 c0] w (Rno (xcO L).toArray 0 w) := by
  obtain ⟨T, hT⟩ : ∃ T, T = Rno (xcO L).toArray 0 w := ⟨_, rfl⟩
  rw [← hT]
  replace hT := hide hT
  obtain ⟨p0, q0, rfl, hB0⟩ := hB0.some (by omega)
  have hL := hB0.len
  have hLb := hide hB0.isB
  replace hB0 := hide hB0
  go_enter Try.func21, Try.ntmps21
  go_upto_region 0 with fail
  refine wp_region_lit ?_
  refine list_valw (.pointer (some ⟨w.heap.size, 0, none⟩)) (w.alloc (.cells (xcl Z16 Z130).toArray 34 (0, 0))) (by kernel_rfl) (by kernel_rfl) ?_
  have hB := (Bl.nil w).new (xcl Z16 Z130).toArray 34
  simp only [List.nil_append] at hB
  generalize World.alloc _ _ = u at *
  replace hB : Bl w [⟨w.heap.size, (xcl Z16 Z130).toArray, 34⟩] u := hB
  simp only [Act.put, List.setIfInBounds_toArray, List.set_cons_zero, List.set_cons_succ, List.getElem_toArray, List.getElem_cons_zero, List.getElem_cons_succ]
  (refine wpList_step fun K hK => ?_; replace hK := hide hK; go_simp; refine unhide hK _ _ ?_; clear hK K)
  refine wpList_nil ?_
  replace hB := hide hB
  go_upto_region 1 with fail
  replace hB := unhide hB
  refine wp_region_lit ?_
  refine list_val (.slice (some ⟨p0, q0, none⟩) 146 c0) (by kernel_rfl) (by kernel_rfl) ?_
  simp only [Act.put, List.setIfInBounds_toArray, List.set_cons_zero, List.set_cons_succ, List.getElem_toArray, List.getElem_cons_zero, List.getElem_cons_succ]
  refine list_val (.int .i64 146) (by kernel_rfl) (by kernel_rfl) ?_
  simp only [Act.put, List.setIfInBounds_toArray, List.set_cons_zero, List.set_cons_succ, List.getElem_toArray, List.getElem_cons_zero, List.getElem_cons_succ]
  refine list_val (.bool false) (by kernel_rfl) (by kernel_rfl) ?_
  simp only [Act.put, List.setIfInBounds_toArray, List.set_cons_zero, List.set_cons_succ, List.getElem_toArray, List.getElem_cons_zero, List.getElem_cons_succ]
  refine wpList_nil ?_
  replace hB := hide hB
  go_upto_region 3 with fail
  replace hB := unhide hB
  refine wp_region_lit ?_
  refine list_val (.slice (some ⟨p0, q0, none⟩) 146 c0) (by kernel_rfl) (by kernel_rfl) ?_
  simp only [Act.put, List.setIfInBounds_toArray, List.set_cons_zero, List.set_cons_succ, List.getElem_toArray, List.getElem_cons_zero, List.getElem_cons_succ]
  refine list_call 54 #[.slice (some ⟨p0, q0, none⟩) 146 c0] (by kernel_rfl) (by kernel_rfl) ((oreadt_ok L p0 q0 146 c0 u ((unhide hB0).gr hB.gr) (by omega) (by omega)).mono ?_)
  rintro r u1 ⟨g, p, c, rfl, hgg, hpp, hrd, hty, hgr⟩
  rw [hL] at hrd
  have hG : Gt g w [⟨w.heap.size, (xcl Z16 Z130).toArray, 34⟩] p 146 c 0 L u1 := hB.gt hgr hgg hpp hrd hty (by intro y hy; rw [List.mem_singleton.1 hy]; exact ⟨(by decide : (34 : TypeId) ≠ 126), (by decide : (34 : TypeId) ≠ 5)⟩)
  have hwg : w.heap.size ≤ g := Nat.le_trans hB.gr.size hgg
  clear hB hgr hgg hpp hrd hty
  refine ⟨_, rfl, ?_⟩
  simp only [Act.put, List.setIfInBounds_toArray, List.set_cons_zero, List.set_cons_succ, List.getElem_toArray, List.getElem_cons_zero, List.getElem_cons_succ]
  (refine wpList_step fun K hK => ?_; replace hK := hide hK; go_simp; refine unhide hK _ _ ?_; clear hK K)
  refine wpList_nil ?_
  replace hG := hide hG
  go_upto_region 4 with fail
  replace hG := unhide hG
  refine wp_region_lit ?_
  refine list_valw (.pointer (some ⟨u1.heap.size, 0, none⟩)) (u1.alloc (.cells (xcl Z16 Z130).toArray 34 (0, 0))) (by kernel_rfl) (by kernel_rfl) ?_
  replace hG := hG.new (xcl Z16 Z130).toArray 34 ⟨by decide, by decide⟩
  simp only [List.nil_append, List.cons_append] at hG
  generalize World.alloc _ _ = u3 at *
  generalize u1.heap.size = q5 at *
  replace hG : Gt g w [⟨w.heap.size, (xcl Z16 Z130).toArray, 34⟩, ⟨q5, (xcl Z16 Z130).toArray, 34⟩] p 146 c (0) L u3 := hG
  simp only [Act.put, List.setIfInBounds_toArray, List.set_cons_zero, List.set_cons_succ, List.getElem_toArray, List.getElem_cons_zero, List.getElem_cons_succ]
  refine wpList_nil ?_
  replace hG := hide hG
  go_upto_region 5 with fail
  replace hG := unhide hG
  refine any_start (S := fun _ => True) (by kernel_rfl) ?_
  replace hG := hG.more (Gr.refl _).drew
  generalize World.drew _ = x_D at *
  simp only [List.size_toArray, List.length_cons, List.length_nil, Array.replicate, List.replicate]
  refine any_take (i := 0) (v := (.pointer (some ⟨q5, 0, none⟩))) #[false, false, false, false, false] rfl (by kernel_rfl) (by kernel_rfl) (by kernel_rfl) (by kernel_rfl) (fun _ _ _ h => h) (.inl ⟨by kernel_rfl, fun x_ hu => by kernel_rfl⟩) trivial ?_
  simp only [Act.put, List.setIfInBounds_toArray, List.set_cons_zero, List.set_cons_succ, List.getElem_toArray, List.getElem_cons_zero, List.getElem_cons_succ]
  refine any_take (i := 1) (v := (.slice (some ⟨q5, 0, none⟩) 16 16)) #[true, false, false, false, false] rfl (by kernel_rfl) (by kernel_rfl) (by kernel_rfl) (by kernel_rfl) (fun _ _ _ h => h) (.inl ⟨by kernel_rfl, fun x_ hu => by kernel_rfl⟩) trivial ?_
  simp only [Act.put, List.setIfInBounds_toArray, List.set_cons_zero, List.set_cons_succ, List.getElem_toArray, List.getElem_cons_zero, List.getElem_cons_succ]
  refine any_take (i := 2) (v := (.pointer (some ⟨g, 0, none⟩))) #[true, true, false, false, false] rfl (by kernel_rfl) (by kernel_rfl) (by kernel_rfl) (by kernel_rfl) (fun _ _ _ h => h) (.inl ⟨by kernel_rfl, fun x_ hu => by kernel_rfl⟩) trivial ?_
  simp only [Act.put, List.setIfInBounds_toArray, List.set_cons_zero, List.set_cons_succ, List.getElem_toArray, List.getElem_cons_zero, List.getElem_cons_succ]
  refine any_one (i := 3) (by kernel_rfl) rfl (fun K_ hQ => ?_)
  refine step_callw (by kernel_rfl) 55 #[P0 g, .int .i64 ((16 : Nat) : Int)] (by kernel_rfl) ((rraw_ok g p 146 c (0) 16 L x_D hG.rd (by omega) (by omega) (by omega)).mono ?_)
  rintro r y_D ⟨v, rfl, hO, hR1, hb1⟩
  refine ⟨_, rfl, ?_⟩
  obtain ⟨D, hD0⟩ : ∃ X, X = ((L.drop (0)).take 16) := ⟨_, rfl⟩
  rw [← hD0] at hO
  have hlD : D.length = 16 := by rw [hD0]; exact sub_len hL (by omega)
  have hbD : IsB D := by rw [hD0]; exact sub_isB (unhide hLb) _ _
  obtain ⟨ar_D, cr_D, rfl, hlr⟩ := ob_lb hO hbD hlD
  replace hG := hG.read hR1 hb1
  clear hO hR1 hb1
  replace hD0 := hide hD0; replace hbD := hide hbD
  refine hQ.out _ _ trivial (fun _ => ?_)
  clear hQ K_
  simp only [Act.put, List.setIfInBounds_toArray, List.set_cons_zero, List.set_cons_succ, List.getElem_toArray, List.getElem_cons_zero, List.getElem_cons_succ]
  refine any_one (i := 4) (by kernel_rfl) rfl (fun K_ hQ => ?_)
  rw [if_pos (by kernel_rfl)]
  refine copy_wp (.tmp 13) (.tmp 15) rfl (q5) 0 16 16 ar_D 16 cr_D (by kernel_rfl) (by kernel_rfl) (xcl Z16 Z130) 34 (hG.get 1 (x := ⟨q5, (xcl Z16 Z130).toArray, 34⟩) rfl) D (by rw [hlD]; rfl) hlr.sl (by rw [hlD, xcl_len rfl rfl]; decide) ?_
  replace hG := hG.cells 1 (q := q5) (C := xcl Z16 Z130) (t := 34) rfl 0 (bv D)
  simp only [List.set_cons_zero, List.set_cons_succ] at hG
  rw [xcl_setd Z16 D Z130 (by rw [hlD]; rfl)] at hG
  have eb : D.map (Value.int .u8) = bv D := rfl
  rw [eb]
  generalize World.setCells _ _ _ _ = u5 at *
  replace hG : Gt g w [⟨w.heap.size, (xcl Z16 Z130).toArray, 34⟩, ⟨q5, (xcl D Z130).toArray, 34⟩] p 146 c (0 + 16) L u5 := hG
  rw [hlD]
  clear hlr eb
  refine hQ.out _ _ trivial (fun _ => ?_)
  clear hQ K_
  simp only [Act.put, List.setIfInBounds_toArray, List.set_cons_zero, List.set_cons_succ, List.getElem_toArray, List.getElem_cons_zero, List.getElem_cons_succ]
  refine any_done (by kernel_rfl) ?_
  replace hG := hide hG
  go_upto_region 6 with fail
  replace hG := unhide hG
  replace hG : Gt g w [⟨w.heap.size, (xcl Z16 Z130).toArray, 34⟩, ⟨q5, (xcl D Z130).toArray, 34⟩] p 146 c (16) L u5 := hG
  refine any_start (S := fun _ => True) (by kernel_rfl) ?_
  replace hG := hG.more (Gr.refl _).drew
  generalize World.drew _ = x_B at *
  simp only [List.size_toArray, List.length_cons, List.length_nil, Array.replicate, List.replicate]
  refine any_take (i := 0) (v := (.pointer (some ⟨q5, 16, none⟩))) #[false, false, false, false, false] rfl (by kernel_rfl) (by kernel_rfl) (by kernel_rfl) (by kernel_rfl) (fun _ _ _ h => h) (.inl ⟨by kernel_rfl, fun x_ hu => by kernel_rfl⟩) trivial ?_
  simp only [Act.put, List.setIfInBounds_toArray, List.set_cons_zero, List.set_cons_succ, List.getElem_toArray, List.getElem_cons_zero, List.getElem_cons_succ]
  refine any_take (i := 1) (v := (.slice (some ⟨q5, 16, none⟩) 130 130)) #[true, false, false, false, false] rfl (by kernel_rfl) (by kernel_rfl) (by kernel_rfl) (by kernel_rfl) (fun _ _ _ h => h) (.inl ⟨by kernel_rfl, fun x_ hu => by kernel_rfl⟩) trivial ?_
  simp only [Act.put, List.setIfInBounds_toArray, List.set_cons_zero, List.set_cons_succ, List.getElem_toArray, List.getElem_cons_zero, List.getElem_cons_succ]
  refine any_take (i := 2) (v := (.pointer (some ⟨g, 0, none⟩))) #[true, true, false, false, false] rfl (by kernel_rfl) (by kernel_rfl) (by kernel_rfl) (by kernel_rfl) (fun _ _ _ h => h) (.inl ⟨by kernel_rfl, fun x_ hu => by kernel_rfl⟩) trivial ?_
  simp only [Act.put, List.setIfInBounds_toArray, List.set_cons_zero, List.set_cons_succ, List.getElem_toArray, List.getElem_cons_zero, List.getElem_cons_succ]
  refine any_one (i := 3) (by kernel_rfl) rfl (fun K_ hQ => ?_)
  refine step_callw (by kernel_rfl) 55 #[P0 g, .int .i64 ((130 : Nat) : Int)] (by kernel_rfl) ((rraw_ok g p 146 c (16) 130 L x_B hG.rd (by omega) (by omega) (by omega)).mono ?_)
  rintro r y_B ⟨v, rfl, hO, hR1, hb1⟩
  refine ⟨_, rfl, ?_⟩
  obtain ⟨B, hB0⟩ : ∃ X, X = ((L.drop (16)).take 130) := ⟨_, rfl⟩
  rw [← hB0] at hO
  have hlB : B.length = 130 := by rw [hB0]; exact sub_len hL (by omega)
  have hbB : IsB B := by rw [hB0]; exact sub_isB (unhide hLb) _ _
  obtain ⟨ar_B, cr_B, rfl, hlr⟩ := ob_lb hO hbB hlB
  replace hG := hG.read hR1 hb1
  clear hO hR1 hb1
  replace hB0 := hide hB0; replace hbB := hide hbB
  refine hQ.out _ _ trivial (fun _ => ?_)
  clear hQ K_
  simp only [Act.put, List.setIfInBounds_toArray, List.set_cons_zero, List.set_cons_succ, List.getElem_toArray, List.getElem_cons_zero, List.getElem_cons_succ]
  refine any_one (i := 4) (by kernel_rfl) rfl (fun K_ hQ => ?_)
  rw [if_pos (by kernel_rfl)]
  refine copy_wp (.tmp 18) (.tmp 20) rfl (q5) 16 130 130 ar_B 130 cr_B (by kernel_rfl) (by kernel_rfl) (xcl D Z130) 34 (hG.get 1 (x := ⟨q5, (xcl D Z130).toArray, 34⟩) rfl) B (by rw [hlB]; rfl) hlr.sl (by rw [hlB, xcl_len hlD rfl]; decide) ?_
  replace hG := hG.cells 1 (q := q5) (C := xcl D Z130) (t := 34) rfl 16 (bv B)
  simp only [List.set_cons_zero, List.set_cons_succ] at hG
  rw [xcl_setb D hlD Z130 B (by rw [hlB]; rfl)] at hG
  have eb : B.map (Value.int .u8) = bv B := rfl
  rw [eb]
  generalize World.setCells _ _ _ _ = u6 at *
  replace hG : Gt g w [⟨w.heap.size, (xcl Z16 Z130).toArray, 34⟩, ⟨q5, (xcl D B).toArray, 34⟩] p 146 c (16 + 130) L u6 := hG
  rw [hlB]
  clear hlr eb
  refine hQ.out _ _ trivial (fun _ => ?_)
  clear hQ K_
  simp only [Act.put, List.setIfInBounds_toArray, List.set_cons_zero, List.set_cons_succ, List.getElem_toArray, List.getElem_cons_zero, List.getElem_cons_succ]
  refine any_done (by kernel_rfl) ?_
  replace hG := hide hG
  go_upto_region 7 with fail
  replace hG := unhide hG
  refine wp_region_lit ?_
  refine list_val (.agg (xcl D B).toArray) (by kernel_rfl) (exec_arr _ 34 (.tmp 5) rfl q5 (by kernel_rfl) (xcl D B).toArray 34 _ (hG.get 1 (x := ⟨q5, (xcl D B).toArray, 34⟩) rfl) Try.underlying34 rfl (by rw [Try.infoX, List.size_toArray, xcl_len hlD hlB])) ?_
  simp only [Act.put, List.setIfInBounds_toArray, List.set_cons_zero, List.set_cons_succ, List.getElem_toArray, List.getElem_cons_zero, List.getElem_cons_succ]
  refine list_store 34 (.tmp 2) (.tmp 22) (w.heap.size) (xcl D B).toArray 34 (xcl Z16 Z130).toArray (by kernel_rfl) rfl (by kernel_rfl) (by kernel_rfl) (hG.get 0 (x := ⟨w.heap.size, (xcl Z16 Z130).toArray, 34⟩) rfl) (by rw [Try.infoX, List.size_toArray, xcl_len hlD hlB]) (by rw [List.size_toArray, List.size_toArray, xcl_len hlD hlB]; rfl) (xcl_one ..) ?_
  replace hG := hG.set 0 (x := ⟨w.heap.size, (xcl Z16 Z130).toArray, 34⟩) rfl (xcl D B).toArray
  simp only [List.set_cons_zero, List.set_cons_succ] at hG
  generalize World.setRow _ _ _ = u7 at *
  replace hG : Gt g w [⟨w.heap.size, (xcl D B).toArray, 34⟩, ⟨q5, (xcl D B).toArray, 34⟩] p 146 c (16 + 130) L u7 := hG
  simp only [Act.put, List.setIfInBounds_toArray, List.set_cons_zero, List.set_cons_succ, List.getElem_toArray, List.getElem_cons_zero, List.getElem_cons_succ]
  (refine wpList_step fun K hK => ?_; replace hK := hide hK; go_simp; refine unhide hK _ _ ?_; clear hK K)
  refine wpList_nil ?_
  have hbk : Hid (u7.heap[w.heap.size]? = some (.cells (xcl D B).toArray 34 (0, 0))) := (hG.get 0 (x := ⟨w.heap.size, (xcl D B).toArray, 34⟩) rfl)
  have hP : Hid (T (.returned (.tuple #[.agg (xcl D B).toArray, .int .i64 0])) u7) := by
    rw [unhide hT]
    exact ⟨by unfold xcO; rw [unhide hB0, unhide hD0], hG.gr hwg⟩
  clear hG
  go_wp2_with fail
  exact bodyPost_ret (v := .tuple #[.agg (xcl D B).toArray, .int .i64 0]) (results_cell_tmp Try.results21 _ _ (w.heap.size) 34 (xcl D B).toArray (0, 0) _ rfl (.int .i64 0) rfl (unhide hbk) Try.underlying34 rfl (by rw [Try.infoX, List.size_toArray, xcl_len hlD hlB])) rfl (unhide hP)
end Go.Proofs.Ytfmocneoffkmpaa
