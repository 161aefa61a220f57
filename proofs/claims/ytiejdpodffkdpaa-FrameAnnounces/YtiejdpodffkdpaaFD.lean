/-
  Layer 14: headers, messages, exchanges are put and got.
-/
import Derived.Test.YtiejdpodffkdpaaFC
namespace Go.Proofs.Ytiejdpodffkdpaa
open Go.RowKit
set_option maxRecDepth 100000
set_option linter.unusedSimpArgs false
set_option linter.unusedVariables false
theorem Try.infoH : (Try.prog.info? 46).map (·.size) = some 34 := by kernel_rfl
/-- bytes of a header, a message -/
def hdB (K : List Int) (p q : Int) : List Int := (K ++ lowL p 4) ++ lowL q 4
theorem hdB_len {K : List Int} (h : K.length = 32) (p q : Int) : (hdB K p q).length = 40 := by unfold hdB; simp [h, lowL_len]
theorem hdB_isB {K : List Int} (h : IsB K) (p q : Int) : IsB (hdB K p q) := isB_append (isB_append h (lowL_isB _ _)) (lowL_isB _ _)
def U4 (x : Int) : Prop := 0 ≤ x ∧ x < 4294967296
theorem Mkd.inf {L : List Int} {w w' : World} {r : Ending} (h : Mkd L w r w') (hl : L.length ≤ 100000) : Infd L w r w' := by
  obtain ⟨g, rfl, h1, h2, h3⟩ := h
  exact ⟨_, rfl, ob_of h2 rfl h1 (by omega), h3⟩
theorem Infd.lb {L : List Int} {w w' : World} {r : Ending} (h : Infd L w r w') (hb : IsB L) {n : Nat} (hn : L.length = n) : ∃ a c, r = .returned (.slice a n c) ∧ Lb w' a n c L ∧ Ob w.heap.size w' (.slice a n c) L ∧ Gr w w' := by
  obtain ⟨v, rfl, h1, h2⟩ := h
  obtain ⟨a, c, rfl, h3⟩ := ob_lb h1 hb hn
  exact ⟨a, c, rfl, h3, h1, h2⟩
set_option maxHeartbeats 4000000 in
theorem fputh_ok (K : List Int) (hl : K.length = 32) (hb : IsB K) (p q : Int) (hp : U4 p) (hq : U4 q) (w : World) : Calls Try.prog 14 #[.agg (hdl K p q).toArray] w (Infd (hdB K p q) w) := by
  obtain ⟨T, hT⟩ : ∃ T, T = Infd (hdB K p q) w := ⟨_, rfl⟩
  rw [← hT]
  replace hT := hide hT
  obtain ⟨C, hC⟩ : ∃ C, C = (hdl K p q).toArray := ⟨_, rfl⟩
  rw [← hC]
  replace hC := hide hC
  replace hb := hide hb
  go_enter Try.func14, Try.ntmps14
  go_upto_region 1 with fail
  have hB := ((Bl.nil w).new C 46)
  simp only [size_alloc, List.nil_append, List.cons_append] at hB
  generalize World.alloc _ _ = u at *
  rw [unhide hC] at hB
  replace hB : Bl w [⟨w.heap.size, (hdl K p q).toArray, 46⟩] u := hB
  clear hC
  have hbl : Hid (u.heap[w.heap.size]? = some (.cells (hdl K p q).toArray 46 (0, 0))) := (hB.get 0 (x := ⟨w.heap.size, (hdl K p q).toArray, 46⟩) rfl)
  have hG := hB.gr
  clear hB
  refine wp_region_lit ?_
  refine list_val (.pointer (some ⟨w.heap.size, 0, none⟩)) (by kernel_rfl) (by kernel_rfl) ?_
  simp only [Act.put, List.setIfInBounds_toArray, List.set_cons_zero, List.set_cons_succ, List.getElem_toArray, List.getElem_cons_zero, List.getElem_cons_succ]
  refine list_val (.slice (some ⟨w.heap.size, 0, none⟩) 32 32) (by kernel_rfl) (by kernel_rfl) ?_
  simp only [Act.put, List.setIfInBounds_toArray, List.set_cons_zero, List.set_cons_succ, List.getElem_toArray, List.getElem_cons_zero, List.getElem_cons_succ]
  refine app_bs (by kernel_rfl) (.const (.slice none 0 0)) (.tmp 5) rfl w.heap.size _ [] rfl (ob_none _ _) (some ⟨w.heap.size, 0, none⟩) 32 32 K (by kernel_rfl) hl (.inr ⟨_, 0, rfl, at_mid (unhide hbl) (hdl_key K p q) rfl⟩) (by simp) hG.size ?_
  intro v1 u1 hO1 hgr
  rw [List.nil_append] at hO1
  have hg1 : Gr u u1 := (ob_none u.heap.size u).grown (Nat.le_refl _) (Gr.refl u) hgr
  obtain ⟨a1, c1, rfl, hlb1⟩ := ob_lb hO1 (unhide hb) hl
  clear hO1 hgr
  replace hG := hG.trans hg1
  replace hbl := hide (hg1.blk (unhide hbl))
  clear hg1
  replace hlb1 := hide hlb1
  simp only [Act.put, List.setIfInBounds_toArray, List.set_cons_zero, List.set_cons_succ, List.getElem_toArray, List.getElem_cons_zero, List.getElem_cons_succ]
  (refine wpList_step fun K hK => ?_; replace hK := hide hK; go_simp; refine unhide hK _ _ ?_; clear hK K)
  refine wpList_nil ?_
  go_upto_region 2 with fail
  refine wp_region_lit ?_
  refine list_val (.slice a1 32 c1) (by kernel_rfl) (by kernel_rfl) ?_
  simp only [Act.put, List.setIfInBounds_toArray, List.set_cons_zero, List.set_cons_succ, List.getElem_toArray, List.getElem_cons_zero, List.getElem_cons_succ]
  refine list_val (.pointer (some ⟨w.heap.size, 32, none⟩)) (by kernel_rfl) (by kernel_rfl) ?_
  simp only [Act.put, List.setIfInBounds_toArray, List.set_cons_zero, List.set_cons_succ, List.getElem_toArray, List.getElem_cons_zero, List.getElem_cons_succ]
  refine list_val (.int .u32 p) (by kernel_rfl) (exec_u32 _ (.tmp 8) rfl (w.heap.size) 32 (by kernel_rfl) p (cell_of (unhide hbl) (hd_prev hl p q))) ?_
  simp only [Act.put, List.setIfInBounds_toArray, List.set_cons_zero, List.set_cons_succ, List.getElem_toArray, List.getElem_cons_zero, List.getElem_cons_succ]
  refine list_call 30 #[.slice a1 32 c1, .int .u32 p] (by kernel_rfl) (by kernel_rfl) ((put32g_ok K a1 32 c1 p hp (by omega) u1 (unhide hlb1)).mono ?_)
  rintro r u2 ⟨h, rfl, hh1, hh2, hh3⟩
  have hl2 : (K ++ lowL p 4).length = 36 := by simp [hl, lowL_len]
  rw [hl2]
  have hlb2 := hide (kc_lb hh2 hl2 (isB_append (unhide hb) (lowL_isB _ _)) (by decide))
  replace hG := hG.trans hh3
  replace hbl := hide (hh3.blk (unhide hbl))
  clear hh1 hh2 hh3
  refine ⟨_, rfl, ?_⟩
  simp only [Act.put, List.setIfInBounds_toArray, List.set_cons_zero, List.set_cons_succ, List.getElem_toArray, List.getElem_cons_zero, List.getElem_cons_succ]
  (refine wpList_step fun K hK => ?_; replace hK := hide hK; go_simp; refine unhide hK _ _ ?_; clear hK K)
  refine wpList_nil ?_
  go_upto_region 3 with fail
  refine wp_region_lit ?_
  refine list_val (.slice (some ⟨h, 0, none⟩) 36 36) (by kernel_rfl) (by kernel_rfl) ?_
  simp only [Act.put, List.setIfInBounds_toArray, List.set_cons_zero, List.set_cons_succ, List.getElem_toArray, List.getElem_cons_zero, List.getElem_cons_succ]
  refine list_val (.pointer (some ⟨w.heap.size, 33, none⟩)) (by kernel_rfl) (by kernel_rfl) ?_
  simp only [Act.put, List.setIfInBounds_toArray, List.set_cons_zero, List.set_cons_succ, List.getElem_toArray, List.getElem_cons_zero, List.getElem_cons_succ]
  refine list_val (.int .u32 q) (by kernel_rfl) (exec_u32 _ (.tmp 12) rfl (w.heap.size) 33 (by kernel_rfl) q (cell_of (unhide hbl) (hd_num hl p q))) ?_
  simp only [Act.put, List.setIfInBounds_toArray, List.set_cons_zero, List.set_cons_succ, List.getElem_toArray, List.getElem_cons_zero, List.getElem_cons_succ]
  refine list_call 30 #[.slice (some ⟨h, 0, none⟩) 36 36, .int .u32 q] (by kernel_rfl) (by kernel_rfl) ((put32g_ok (K ++ lowL p 4) (some ⟨h, 0, none⟩) 36 36 q hq (by omega) u2 (unhide hlb2)).mono ?_)
  rintro r u3 ⟨h3, rfl, hh1, hh2, hh3⟩
  have hl3 : ((K ++ lowL p 4) ++ lowL q 4).length = 40 := by simp [hl, lowL_len]
  have hZ : Hid (Infd (hdB K p q) w (.returned (.slice (some ⟨h3, 0, none⟩) 40 40)) u3) := ⟨_, rfl, ob_of hh2 hl3 (Nat.le_trans hG.size hh1) (by omega), hG.trans hh3⟩
  rw [hl3]
  clear hh1 hh2 hh3
  refine ⟨_, rfl, ?_⟩
  simp only [Act.put, List.setIfInBounds_toArray, List.set_cons_zero, List.set_cons_succ, List.getElem_toArray, List.getElem_cons_zero, List.getElem_cons_succ]
  (refine wpList_step fun K hK => ?_; replace hK := hide hK; go_simp; refine unhide hK _ _ ?_; clear hK K)
  refine wpList_nil ?_
  go_wp2_with fail
  rw [unhide hT]
  exact unhide hZ
end Go.Proofs.Ytiejdpodffkdpaa
