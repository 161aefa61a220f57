/-
  Layer 14: headers, messages, exchanges are got.
-/
import Derived.Test.YtiejdpodffkdpaaFE
namespace Go.Proofs.Ytiejdpodffkdpaa
open Go.RowKit
set_option maxRecDepth 100000
set_option linter.unusedSimpArgs false
set_option linter.unusedVariables false
def Rno (z : Array Value) (e : Int) (w : World) (r : Ending) (w' : World) : Prop := r = .returned (.tuple #[.agg z, .int .i64 e]) ∧ Gr w w'
theorem Lb.some {w : World} {a : Option Addr} {n c : Nat} {B : List Int} (h : Lb w a n c B) (hn : 0 < n) : ∃ p q, a = Option.some ⟨p, q, none⟩ ∧ Lb w (Option.some ⟨p, q, none⟩) n c B := by
  rcases h.sl with h1 | ⟨p, q, h1, h2⟩
  · have := h.len
    rw [h1] at this
    simp at this
    omega
  · subst h1
    exact ⟨p, q, rfl, h⟩
theorem msl_setb (K : List Int) (hK : K.length = 32) (p q : Int) (B B' : List Int) (h : B'.length = B.length) : sp (msl K p q B) 34 (bv B') = msl K p q B' := by
  have := sp_mid (bv B') (hdl K p q) (bv B) [] (by rw [bv_len, bv_len, h])
  rw [hdl_len hK] at this
  rw [msl_hdl, this, ← msl_hdl]
theorem xcl_setd (D D' B : List Int) (h : D'.length = D.length) : sp (xcl D B) 0 (bv D') = xcl D' B := by
  have := sp_mid (bv D') [] (bv D) (bv B) (by rw [bv_len, bv_len, h])
  simpa [xcl] using this
theorem xcl_setb (D : List Int) (hD : D.length = 16) (B B' : List Int) (h : B'.length = B.length) : sp (xcl D B) 16 (bv B') = xcl D B' := by
  have := sp_mid (bv B') (bv D) (bv B) [] (by rw [bv_len, bv_len, h])
  rw [bv_len, hD] at this
  rw [xcl_body, this, ← xcl_body]
theorem hdO_len {L : List Int} {k n : Nat} (h : L.length = n) (hk : k + 40 ≤ n) : (hdO L k).length = 34 := hdl_len (sub_len h (by omega)) _ _
/-- what of a message's, an exchange's bytes is read -/
def msO (L : List Int) : List Value := msl ((L.drop 0).take 32) (lowN ((L.drop (0 + 32)).take 4)) (lowN ((L.drop (0 + 36)).take 4)) ((L.drop 40).take 65)
def xcO (L : List Int) : List Value := xcl ((L.drop 0).take 16) ((L.drop 16).take 130)
set_option maxHeartbeats 4000000 in
theorem fgeth_no (a : Option Addr) (m c : Nat) (hm : ¬ m = 40) (w : World) : Calls Try.prog 15 #[.slice a m c] w (Rno (hdl Z32 0 0).toArray 240 w) := by
  obtain ⟨T, hT⟩ : ∃ T, T = Rno (hdl Z32 0 0).toArray 240 w := ⟨_, rfl⟩
  rw [← hT]
  replace hT := hide hT
  have hmI : ¬ (m : Int) = 40 := by omega
  clear hm
  go_enter Try.func15, Try.ntmps15
  go_upto_region 1 with fail
  have hB := ((Bl.nil w).new #[.int .u8 0, .int .u8 0, .int .u8 0, .int .u8 0, .int .u8 0, .int .u8 0, .int .u8 0, .int .u8 0, .int .u8 0, .int .u8 0, .int .u8 0, .int .u8 0, .int .u8 0, .int .u8 0, .int .u8 0, .int .u8 0, .int .u8 0, .int .u8 0, .int .u8 0, .int .u8 0, .int .u8 0, .int .u8 0, .int .u8 0, .int .u8 0, .int .u8 0, .int .u8 0, .int .u8 0, .int .u8 0, .int .u8 0, .int .u8 0, .int .u8 0, .int .u8 0, .int .u32 0, .int .u32 0] 46)
  simp only [size_alloc, List.nil_append, List.cons_append] at hB
  generalize World.alloc _ _ = u at *
  replace hB : Bl w [⟨w.heap.size, (hdl Z32 0 0).toArray, 46⟩] u := hB
  refine wp_region_lit ?_
  refine list_val (.slice a m c) (by kernel_rfl) (by kernel_rfl) ?_
  simp only [Act.put, List.setIfInBounds_toArray, List.set_cons_zero, List.set_cons_succ, List.getElem_toArray, List.getElem_cons_zero, List.getElem_cons_succ]
  refine list_val (.int .i64 m) (by kernel_rfl) (by kernel_rfl) ?_
  simp only [Act.put, List.setIfInBounds_toArray, List.set_cons_zero, List.set_cons_succ, List.getElem_toArray, List.getElem_cons_zero, List.getElem_cons_succ]
  refine list_val (.bool true) (by kernel_rfl) (by go_simp) ?_
  simp only [Act.put, List.setIfInBounds_toArray, List.set_cons_zero, List.set_cons_succ, List.getElem_toArray, List.getElem_cons_zero, List.getElem_cons_succ]
  refine wpList_nil ?_
  replace hB := hide hB
  go_upto_region 2 with fail
  replace hB := unhide hB
  refine wp_region_lit ?_
  refine list_val (.agg (hdl Z32 0 0).toArray) (by kernel_rfl) (by kernel_rfl) ?_
  simp only [Act.put, List.setIfInBounds_toArray, List.set_cons_zero, List.set_cons_succ, List.getElem_toArray, List.getElem_cons_zero, List.getElem_cons_succ]
  refine list_store 46 (.tmp 2) (.tmp 7) (w.heap.size) (hdl Z32 0 0).toArray 46 (hdl Z32 0 0).toArray (by kernel_rfl) rfl (by kernel_rfl) (by kernel_rfl) (hB.get 0 (x := ⟨w.heap.size, (hdl Z32 0 0).toArray, 46⟩) rfl) (by rw [Try.infoH]; rfl) rfl (hdl_one ..) ?_
  replace hB := hB.set 0 (x := ⟨w.heap.size, (hdl Z32 0 0).toArray, 46⟩) rfl (hdl Z32 0 0).toArray
  simp only [List.set_cons_zero, List.set_cons_succ] at hB
  generalize World.setRow _ _ _ = u2 at *
  replace hB : Bl w [⟨w.heap.size, (hdl Z32 0 0).toArray, 46⟩] u2 := hB
  simp only [Act.put, List.setIfInBounds_toArray, List.set_cons_zero, List.set_cons_succ, List.getElem_toArray, List.getElem_cons_zero, List.getElem_cons_succ]
  (refine wpList_step fun K hK => ?_; replace hK := hide hK; go_simp; refine unhide hK _ _ ?_; clear hK K)
  refine wpList_nil ?_
  replace hB := hide hB
  go_wp2_with fail
  replace hB := unhide hB
  rw [unhide hT]
  exact bodyPost_ret (v := .tuple #[.agg (hdl Z32 0 0).toArray, .int .i64 240]) (results_cell_tmp Try.results15 _ _ (w.heap.size) 46 (hdl Z32 0 0).toArray (0, 0) _ rfl (.int .i64 240) rfl (hB.get 0 (x := ⟨w.heap.size, (hdl Z32 0 0).toArray, 46⟩) rfl) Try.underlying46 rfl (by rw [Try.infoH]; rfl)) rfl ⟨rfl, hB.gr⟩
set_option maxHeartbeats 4000000 in
theorem fgeth_ok (L : List Int) (a : Option Addr) (c0 : Nat) (w : World) (hB0 : Lb w a 40 c0 L)  : Calls Try.prog 15 #[.slice a 40 c0] w (Rno (hdO L 0).toArray 0 w) := by
  obtain ⟨T, hT⟩ : ∃ T, T = Rno (hdO L 0).toArray 0 w := ⟨_, rfl⟩
  rw [← hT]
  replace hT := hide hT
  obtain ⟨p0, q0, rfl, hB0⟩ := hB0.some (by omega)
  have hL := hB0.len
  have hLb := hide hB0.isB
  replace hB0 := hide hB0
  go_enter Try.func15, Try.ntmps15
  go_upto_region 1 with fail
  have hB := ((Bl.nil w).new #[.int .u8 0, .int .u8 0, .int .u8 0, .int .u8 0, .int .u8 0, .int .u8 0, .int .u8 0, .int .u8 0, .int .u8 0, .int .u8 0, .int .u8 0, .int .u8 0, .int .u8 0, .int .u8 0, .int .u8 0, .int .u8 0, .int .u8 0, .int .u8 0, .int .u8 0, .int .u8 0, .int .u8 0, .int .u8 0, .int .u8 0, .int .u8 0, .int .u8 0, .int .u8 0, .int .u8 0, .int .u8 0, .int .u8 0, .int .u8 0, .int .u8 0, .int .u8 0, .int .u32 0, .int .u32 0] 46)
  simp only [size_alloc, List.nil_append, List.cons_append] at hB
  generalize World.alloc _ _ = u at *
  replace hB : Bl w [⟨w.heap.size, (hdl Z32 0 0).toArray, 46⟩] u := hB
  refine wp_region_lit ?_
  refine list_val (.slice (some ⟨p0, q0, none⟩) 40 c0) (by kernel_rfl) (by kernel_rfl) ?_
  simp only [Act.put, List.setIfInBounds_toArray, List.set_cons_zero, List.set_cons_succ, List.getElem_toArray, List.getElem_cons_zero, List.getElem_cons_succ]
  refine list_val (.int .i64 40) (by kernel_rfl) (by kernel_rfl) ?_
  simp only [Act.put, List.setIfInBounds_toArray, List.set_cons_zero, List.set_cons_succ, List.getElem_toArray, List.getElem_cons_zero, List.getElem_cons_succ]
  refine list_val (.bool false) (by kernel_rfl) (by kernel_rfl) ?_
  simp only [Act.put, List.setIfInBounds_toArray, List.set_cons_zero, List.set_cons_succ, List.getElem_toArray, List.getElem_cons_zero, List.getElem_cons_succ]
  refine wpList_nil ?_
  replace hB := hide hB
  go_upto_region 3 with fail
  replace hB := unhide hB
  refine wp_region_lit ?_
  refine list_val (.slice (some ⟨p0, q0, none⟩) 40 c0) (by kernel_rfl) (by kernel_rfl) ?_
  simp only [Act.put, List.setIfInBounds_toArray, List.set_cons_zero, List.set_cons_succ, List.getElem_toArray, List.getElem_cons_zero, List.getElem_cons_succ]
  refine list_call 21 #[.slice (some ⟨p0, q0, none⟩) 40 c0] (by kernel_rfl) (by kernel_rfl) ((oreadt_ok L p0 q0 40 c0 u ((unhide hB0).gr hB.gr) (by omega) (by omega)).mono ?_)
  rintro r u1 ⟨g, p, c, rfl, hgg, hpp, hrd, hty, hgr⟩
  rw [hL] at hrd
  have hG : Gt g w [⟨w.heap.size, (hdl Z32 0 0).toArray, 46⟩] p 40 c 0 L u1 := hB.gt hgr hgg hpp hrd hty (by intro y hy; rw [List.mem_singleton.1 hy]; exact ⟨(by decide : (46 : TypeId) ≠ 70), (by decide : (46 : TypeId) ≠ 5)⟩)
  have hwg : w.heap.size ≤ g := Nat.le_trans hB.gr.size hgg
  clear hB hgr hgg hpp hrd hty
  refine ⟨_, rfl, ?_⟩
  simp only [Act.put, List.setIfInBounds_toArray, List.set_cons_zero, List.set_cons_succ, List.getElem_toArray, List.getElem_cons_zero, List.getElem_cons_succ]
  refine list_call 31 #[P0 g] (by kernel_rfl) (by kernel_rfl) ((fheader_ok g p 40 c 0 L u1 ⟨hG.rd, hG.ty⟩ (by omega) (by omega)).mono ?_)
  rintro r u2 ⟨rfl, hR1, hb1⟩
  replace hG := hG.read hR1 hb1
  clear hR1 hb1
  have hlo := hdO_len (k := 0) hL (by omega)
  obtain ⟨H, hH⟩ : ∃ H, H = hdO L 0 := ⟨_, rfl⟩
  have hon : H.toArray.all (·.oneCell') = true := by rw [hH]; exact hdl_one ..
  rw [← hH] at hlo hT ⊢
  clear hH
  refine ⟨_, rfl, ?_⟩
  simp only [Act.put, List.setIfInBounds_toArray, List.set_cons_zero, List.set_cons_succ, List.getElem_toArray, List.getElem_cons_zero, List.getElem_cons_succ]
  refine list_store 46 (.tmp 2) (.tmp 10) (w.heap.size) H.toArray 46 (hdl Z32 0 0).toArray (by kernel_rfl) rfl (by kernel_rfl) (by kernel_rfl) (hG.get 0 (x := ⟨w.heap.size, (hdl Z32 0 0).toArray, 46⟩) rfl) (by rw [Try.infoH, List.size_toArray, hlo]) (by rw [List.size_toArray, List.size_toArray, hlo]; rfl) hon ?_
  replace hG := hG.set 0 (x := ⟨w.heap.size, (hdl Z32 0 0).toArray, 46⟩) rfl H.toArray
  simp only [List.set_cons_zero, List.set_cons_succ] at hG
  generalize World.setRow _ _ _ = u3 at *
  replace hG : Gt g w [⟨w.heap.size, H.toArray, 46⟩] p 40 c (0 + 40) L u3 := hG
  simp only [Act.put, List.setIfInBounds_toArray, List.set_cons_zero, List.set_cons_succ, List.getElem_toArray, List.getElem_cons_zero, List.getElem_cons_succ]
  (refine wpList_step fun K hK => ?_; replace hK := hide hK; go_simp; refine unhide hK _ _ ?_; clear hK K)
  refine wpList_nil ?_
  have hbk : Hid (u3.heap[w.heap.size]? = some (.cells H.toArray 46 (0, 0))) := (hG.get 0 (x := ⟨w.heap.size, H.toArray, 46⟩) rfl)
  have hP : Hid (T (.returned (.tuple #[.agg H.toArray, .int .i64 0])) u3) := by
    rw [unhide hT]
    exact ⟨rfl, hG.gr hwg⟩
  clear hG
  go_wp2_with fail
  exact bodyPost_ret (v := .tuple #[.agg H.toArray, .int .i64 0]) (results_cell_tmp Try.results15 _ _ (w.heap.size) 46 H.toArray (0, 0) _ rfl (.int .i64 0) rfl (unhide hbk) Try.underlying46 rfl (by rw [Try.infoH, List.size_toArray, hlo])) rfl (unhide hP)
end Go.Proofs.Ytiejdpodffkdpaa
