/-
  Layer 14: headers, messages, exchanges are got.
-/
import Derived.Test.YtiejdpodffkdpaaFD
namespace Go.Proofs.Ytiejdpodffkdpaa
open Go.RowKit
set_option maxRecDepth 100000
set_option linter.unusedSimpArgs false
set_option linter.unusedVariables false
def Z65 : List Int := List.replicate 65 0
def Z16 : List Int := List.replicate 16 0
def Z130 : List Int := List.replicate 130 0
def Z105 : List Int := List.replicate 105 0
/-- a header of bytes from k on -/
def hdO (L : List Int) (k : Nat) : List Value := hdl ((L.drop k).take 32) (lowN ((L.drop (k + 32)).take 4)) (lowN ((L.drop (k + 36)).take 4))
theorem sub_len {L : List Int} {k m n : Nat} (h : L.length = n) (hk : k + m ≤ n) : ((L.drop k).take m).length = m := by rw [List.length_take, List.length_drop, h]; omega
theorem sub_isB {L : List Int} (h : IsB L) (k m : Nat) : IsB ((L.drop k).take m) := isB_take (isB_drop h k) m
theorem hdl_setk (K K' : List Int) (h : K.length = K'.length) (p q : Int) : sp (hdl K p q) 0 (bv K') = hdl K' p q := by
  have := sp_mid (bv K') [] (bv K) [.int .u32 p, .int .u32 q] (by rw [bv_len, bv_len, h])
  simpa [hdl] using this
theorem hdl_setp (K : List Int) (h : K.length = 32) (p q x : Int) : (hdl K p q).toArray.setIfInBounds 32 (.int .u32 x) = (hdl K x q).toArray := by
  rw [List.setIfInBounds_toArray]
  have e : (bv K).length = 32 := by rw [bv_len, h]
  unfold hdl
  rw [List.set_append_right _ _ (by omega), e]
  rfl
theorem hdl_setq (K : List Int) (h : K.length = 32) (p q x : Int) : (hdl K p q).toArray.setIfInBounds 33 (.int .u32 x) = (hdl K p x).toArray := by
  rw [List.setIfInBounds_toArray]
  have e : (bv K).length = 32 := by rw [bv_len, h]
  unfold hdl
  rw [List.set_append_right _ _ (by omega), e]
  rfl
/-- a Reader of the caller's, and what its bytes lie in -/
def Rdy (g p n c k : Nat) (L : List Int) (w : World) : Prop := Rdr g p n c k L w ∧ ∃ cur, w.heap[p]? = some (.cells cur 5 (0, 0))
set_option maxHeartbeats 4000000 in
theorem fheader_ok (g p n c k : Nat) (L : List Int) (w : World) (hR : Rdy g p n c k L w) (hkn : k + 40 ≤ n) (hn : n ≤ 100000) : Calls Try.prog 31 #[P0 g] w (fun r w' => r = .returned (.agg (hdO L k).toArray) ∧ Rdr g p n c (k + 40) L w' ∧ Bt g w w') := by
  obtain ⟨T, hT⟩ : ∃ T : Ending → World → Prop, T = fun r w' => r = .returned (.agg (hdO L k).toArray) ∧ Rdr g p n c (k + 40) L w' ∧ Bt g w w' := ⟨_, rfl⟩
  rw [← hT]
  replace hT := hide hT
  have hL := hR.1.len
  have hLb := hR.1.isB
  have hG := Gt.of hR.1 hR.2
  clear hR
  replace hLb := hide hLb
  have e32 := sub_len (k := k) (m := 32) hL (by omega)
  have e4 := sub_len (k := k + 32) (m := 4) hL (by omega)
  have e44 := sub_len (k := k + 36) (m := 4) hL (by omega)
  replace hG := hide hG
  go_enter Try.func31, Try.ntmps31
  go_upto_region 2 with fail
  have hG1 := (((unhide hG).new #[.int .u8 0, .int .u8 0, .int .u8 0, .int .u8 0, .int .u8 0, .int .u8 0, .int .u8 0, .int .u8 0, .int .u8 0, .int .u8 0, .int .u8 0, .int .u8 0, .int .u8 0, .int .u8 0, .int .u8 0, .int .u8 0, .int .u8 0, .int .u8 0, .int .u8 0, .int .u8 0, .int .u8 0, .int .u8 0, .int .u8 0, .int .u8 0, .int .u8 0, .int .u8 0, .int .u8 0, .int .u8 0, .int .u8 0, .int .u8 0, .int .u8 0, .int .u8 0, .int .u32 0, .int .u32 0] 46 ⟨by decide, by decide⟩).new #[.int .u8 0, .int .u8 0, .int .u8 0, .int .u8 0, .int .u8 0, .int .u8 0, .int .u8 0, .int .u8 0, .int .u8 0, .int .u8 0, .int .u8 0, .int .u8 0, .int .u8 0, .int .u8 0, .int .u8 0, .int .u8 0, .int .u8 0, .int .u8 0, .int .u8 0, .int .u8 0, .int .u8 0, .int .u8 0, .int .u8 0, .int .u8 0, .int .u8 0, .int .u8 0, .int .u8 0, .int .u8 0, .int .u8 0, .int .u8 0, .int .u8 0, .int .u8 0, .int .u32 0, .int .u32 0] 46 ⟨by decide, by decide⟩)
  simp only [size_alloc, List.nil_append, List.cons_append] at hG1
  clear hG
  generalize World.alloc _ _ = u at *
  replace hG : Gt g w [⟨w.heap.size, (hdl Z32 0 0).toArray, 46⟩, ⟨w.heap.size + 1, (hdl Z32 0 0).toArray, 46⟩] p n c (k) L u := hG1
  clear hG1
  refine wp_region_lit ?_
  refine list_val (.pointer (some ⟨g, 0, none⟩)) (by kernel_rfl) (by kernel_rfl) ?_
  simp only [Act.put, List.setIfInBounds_toArray, List.set_cons_zero, List.set_cons_succ, List.getElem_toArray, List.getElem_cons_zero, List.getElem_cons_succ]
  refine list_call 24 #[P0 g] (by kernel_rfl) (by kernel_rfl) ((rkey_ok g p n c k L u hG.rd (by omega) hn).mono ?_)
  rintro r u1 ⟨rfl, hR1, hb1⟩
  replace hG := hG.read hR1 hb1
  clear hR1 hb1
  obtain ⟨K, hK0⟩ : ∃ K, K = ((L.drop (k)).take 32) := ⟨_, rfl⟩
  rw [← hK0] at e32 ⊢
  refine ⟨_, rfl, ?_⟩
  replace hK0 := hide hK0
  simp only [Act.put, List.setIfInBounds_toArray, List.set_cons_zero, List.set_cons_succ, List.getElem_toArray, List.getElem_cons_zero, List.getElem_cons_succ]
  refine list_val (.pointer (some ⟨w.heap.size + 1, 0, none⟩)) (by kernel_rfl) (by kernel_rfl) ?_
  simp only [Act.put, List.setIfInBounds_toArray, List.set_cons_zero, List.set_cons_succ, List.getElem_toArray, List.getElem_cons_zero, List.getElem_cons_succ]
  refine wpList_step fun K_ hQ => ?_
  refine list_store_mid 30 (.tmp 6) (.tmp 5) (w.heap.size + 1) 0 (kc K) (by kernel_rfl) rfl (by kernel_rfl) (by kernel_rfl) (there_of (hG.get 1 (x := ⟨w.heap.size + 1, (hdl Z32 0 0).toArray, 46⟩) rfl) (by rw [kc_size, e32]; decide)) (by rw [Try.infoKy, kc_size, e32]) (kc_one _) ?_
  refine hQ _ _ ?_
  clear hQ K_
  replace hG := hG.cells 1 (q := w.heap.size + 1) (C := hdl Z32 0 0) (t := 46) rfl 0 (bv K)
  simp only [List.set_cons_zero, List.set_cons_succ] at hG
  rw [hdl_setk Z32 K (by rw [e32]; rfl)] at hG
  have eK : (kc K).toList = bv K := rfl
  rw [eK]
  generalize World.setCells _ _ _ _ = u2 at *
  replace hG : Gt g w [⟨w.heap.size, (hdl Z32 0 0).toArray, 46⟩, ⟨w.heap.size + 1, (hdl K 0 0).toArray, 46⟩] p n c (k + 32) L u2 := hG
  simp only [Act.put, List.setIfInBounds_toArray, List.set_cons_zero, List.set_cons_succ, List.getElem_toArray, List.getElem_cons_zero, List.getElem_cons_succ]
  refine wpList_nil ?_
  replace hG := hide hG
  go_upto_region 3 with fail
  replace hG := unhide hG
  refine wp_region_lit ?_
  refine list_val (.pointer (some ⟨g, 0, none⟩)) (by kernel_rfl) (by kernel_rfl) ?_
  simp only [Act.put, List.setIfInBounds_toArray, List.set_cons_zero, List.set_cons_succ, List.getElem_toArray, List.getElem_cons_zero, List.getElem_cons_succ]
  refine list_call 38 #[P0 g] (by kernel_rfl) (by kernel_rfl) ((ru32_ok g p n c (k + 32) L u2 hG.rd (by omega) hn).mono ?_)
  rintro r u3a ⟨rfl, hR1, hb1⟩
  replace hG := hG.read hR1 hb1
  clear hR1 hb1
  obtain ⟨p1, hp10⟩ : ∃ x, x = lowN ((L.drop (k + 32)).take 4) := ⟨_, rfl⟩
  rw [← hp10]
  refine ⟨_, rfl, ?_⟩
  replace hp10 := hide hp10
  simp only [Act.put, List.setIfInBounds_toArray, List.set_cons_zero, List.set_cons_succ, List.getElem_toArray, List.getElem_cons_zero, List.getElem_cons_succ]
  refine list_val (.pointer (some ⟨w.heap.size + 1, 32, none⟩)) (by kernel_rfl) (by kernel_rfl) ?_
  simp only [Act.put, List.setIfInBounds_toArray, List.set_cons_zero, List.set_cons_succ, List.getElem_toArray, List.getElem_cons_zero, List.getElem_cons_succ]
  have c4 := cell_of (hG.get 1 (x := ⟨w.heap.size + 1, (hdl K 0 0).toArray, 46⟩) rfl) (i := 32) (hd_prev e32 0 0)
  have fz := froz_of (i := 32) (hG.get 1 (x := ⟨w.heap.size + 1, (hdl K 0 0).toArray, 46⟩) rfl)
  have hG2 := hG.cell 1 (x := ⟨w.heap.size + 1, (hdl K 0 0).toArray, 46⟩) rfl 32 (.int .u32 p1)
  simp only [List.set_cons_zero, List.set_cons_succ] at hG2
  rw [hdl_setp K e32] at hG2
  clear hG
  replace hG2 := hide hG2
  dsimp only at c4 fz
  (refine wpList_step fun K hK => ?_; replace hK := hide hK; go_simp; refine unhide hK _ _ ?_; clear hK K)
  clear c4 fz
  have hG := unhide hG2
  clear hG2
  generalize World.setCell _ _ _ = u3 at *
  replace hG : Gt g w [⟨w.heap.size, (hdl Z32 0 0).toArray, 46⟩, ⟨w.heap.size + 1, (hdl K p1 0).toArray, 46⟩] p n c (k + 32 + 4) L u3 := hG
  refine wpList_nil ?_
  replace hG : Gt g w [⟨w.heap.size, (hdl Z32 0 0).toArray, 46⟩, ⟨w.heap.size + 1, (hdl K p1 0).toArray, 46⟩] p n c (k + 36) L u3 := hG
  replace hG := hide hG
  go_upto_region 4 with fail
  replace hG := unhide hG
  refine wp_region_lit ?_
  refine list_val (.pointer (some ⟨g, 0, none⟩)) (by kernel_rfl) (by kernel_rfl) ?_
  simp only [Act.put, List.setIfInBounds_toArray, List.set_cons_zero, List.set_cons_succ, List.getElem_toArray, List.getElem_cons_zero, List.getElem_cons_succ]
  refine list_call 38 #[P0 g] (by kernel_rfl) (by kernel_rfl) ((ru32_ok g p n c (k + 36) L u3 hG.rd (by omega) hn).mono ?_)
  rintro r u4a ⟨rfl, hR1, hb1⟩
  replace hG := hG.read hR1 hb1
  clear hR1 hb1
  obtain ⟨q1, hq10⟩ : ∃ x, x = lowN ((L.drop (k + 36)).take 4) := ⟨_, rfl⟩
  rw [← hq10]
  refine ⟨_, rfl, ?_⟩
  replace hq10 := hide hq10
  simp only [Act.put, List.setIfInBounds_toArray, List.set_cons_zero, List.set_cons_succ, List.getElem_toArray, List.getElem_cons_zero, List.getElem_cons_succ]
  refine list_val (.pointer (some ⟨w.heap.size + 1, 33, none⟩)) (by kernel_rfl) (by kernel_rfl) ?_
  simp only [Act.put, List.setIfInBounds_toArray, List.set_cons_zero, List.set_cons_succ, List.getElem_toArray, List.getElem_cons_zero, List.getElem_cons_succ]
  have c4 := cell_of (hG.get 1 (x := ⟨w.heap.size + 1, (hdl K p1 0).toArray, 46⟩) rfl) (i := 33) (hd_num e32 p1 0)
  have fz := froz_of (i := 33) (hG.get 1 (x := ⟨w.heap.size + 1, (hdl K p1 0).toArray, 46⟩) rfl)
  have hG2 := hG.cell 1 (x := ⟨w.heap.size + 1, (hdl K p1 0).toArray, 46⟩) rfl 33 (.int .u32 q1)
  simp only [List.set_cons_zero, List.set_cons_succ] at hG2
  rw [hdl_setq K e32] at hG2
  clear hG
  replace hG2 := hide hG2
  dsimp only at c4 fz
  (refine wpList_step fun K hK => ?_; replace hK := hide hK; go_simp; refine unhide hK _ _ ?_; clear hK K)
  clear c4 fz
  have hG := unhide hG2
  clear hG2
  generalize World.setCell _ _ _ = u4 at *
  replace hG : Gt g w [⟨w.heap.size, (hdl Z32 0 0).toArray, 46⟩, ⟨w.heap.size + 1, (hdl K p1 q1).toArray, 46⟩] p n c (k + 36 + 4) L u4 := hG
  refine wpList_nil ?_
  replace hG : Gt g w [⟨w.heap.size, (hdl Z32 0 0).toArray, 46⟩, ⟨w.heap.size + 1, (hdl K p1 q1).toArray, 46⟩] p n c (k + 40) L u4 := hG
  replace hG := hide hG
  go_upto_region 5 with fail
  replace hG := unhide hG
  refine wp_region_lit ?_
  refine list_val (.agg (hdl K p1 q1).toArray) (by kernel_rfl) (exec_arr _ 46 (.tmp 3) rfl (w.heap.size + 1) (by kernel_rfl) (hdl K p1 q1).toArray 46 _ (hG.get 1 (x := ⟨w.heap.size + 1, (hdl K p1 q1).toArray, 46⟩) rfl) Try.underlying46 rfl (by rw [Try.infoH, List.size_toArray, hdl_len e32])) ?_
  simp only [Act.put, List.setIfInBounds_toArray, List.set_cons_zero, List.set_cons_succ, List.getElem_toArray, List.getElem_cons_zero, List.getElem_cons_succ]
  refine list_store 46 (.tmp 2) (.tmp 13) (w.heap.size) (hdl K p1 q1).toArray 46 (hdl Z32 0 0).toArray (by kernel_rfl) rfl (by kernel_rfl) (by kernel_rfl) (hG.get 0 (x := ⟨w.heap.size, (hdl Z32 0 0).toArray, 46⟩) rfl) (by rw [Try.infoH, List.size_toArray, hdl_len e32]) (by rw [List.size_toArray, List.size_toArray, hdl_len e32, hdl_len rfl]) (hdl_one _ _ _) ?_
  replace hG := hG.set 0 (x := ⟨w.heap.size, (hdl Z32 0 0).toArray, 46⟩) rfl (hdl K p1 q1).toArray
  simp only [List.set_cons_zero, List.set_cons_succ] at hG
  generalize World.setRow _ _ _ = u5 at *
  replace hG : Gt g w [⟨w.heap.size, (hdl K p1 q1).toArray, 46⟩, ⟨w.heap.size + 1, (hdl K p1 q1).toArray, 46⟩] p n c (k + 40) L u5 := hG
  simp only [Act.put, List.setIfInBounds_toArray, List.set_cons_zero, List.set_cons_succ, List.getElem_toArray, List.getElem_cons_zero, List.getElem_cons_succ]
  refine wpList_nil ?_
  have hbk : Hid (u5.heap[w.heap.size]? = some (.cells (hdl K p1 q1).toArray 46 (0, 0))) := (hG.get 0 (x := ⟨w.heap.size, (hdl K p1 q1).toArray, 46⟩) rfl)
  have hP : Hid (T (.returned (.agg (hdl K p1 q1).toArray)) u5) := by
    rw [unhide hT]
    refine ⟨?_, hG.rd, hG.bt⟩
    unfold hdO
    rw [unhide hK0, unhide hp10, unhide hq10]
  clear hG
  go_wp2_with fail
  exact bodyPost_ret (v := .agg (hdl K p1 q1).toArray) (results_cell_row Try.results31 _ _ (w.heap.size) 46 (hdl K p1 q1).toArray (0, 0) _ rfl (unhide hbk) Try.underlying46 rfl (by rw [Try.infoH, List.size_toArray, hdl_len e32])) rfl (unhide hP)
end Go.Proofs.Ytiejdpodffkdpaa
