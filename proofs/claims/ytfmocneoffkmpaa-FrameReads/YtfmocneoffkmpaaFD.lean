/-
  Layer 14: headers, messages, exchanges are put and got.
-/
import Derived.Test.YtfmocneoffkmpaaFC
namespace Go.Proofs.Ytfmocneoffkmpaa
open Go.RowKit
set_option maxRecDepth 100000
set_option linter.unusedSimpArgs false
set_option linter.unusedVariables false
theorem Try.infoH : (Try.prog.info? 26).map (·.size) = some 34 := by kernel_rfl
theorem Try.infoM : (Try.prog.info? 29).map (·.size) = some 99 := by kernel_rfl
theorem Try.infoX : (Try.prog.info? 34).map (·.size) = some 146 := by kernel_rfl
theorem Try.infoE : (Try.prog.info? 55).map (·.size) = some 108 := by kernel_rfl
/-- bytes of a header, a message -/
def hdB (K : List Int) (p q : Int) : List Int := (K ++ lowL p 4) ++ lowL q 4
theorem hdB_len {K : List Int} (h : K.length = 32) (p q : Int) : (hdB K p q).length = 40 := by unfold hdB; simp [h, lowL_len]
theorem hdB_isB {K : List Int} (h : IsB K) (p q : Int) : IsB (hdB K p q) := isB_append (isB_append h (lowL_isB _ _)) (lowL_isB _ _)
def U4 (x : Int) : Prop := 0 ≤ x ∧ x < 4294967296
theorem Mkd.inf {L : List Int} {w w' : World} {r : Ending} (h : Mkd L w r w') (hl : L.length ≤ 100000) : Infd L w r w' := by
  obtain ⟨g, rfl, h1, h2, h3⟩ := h
  exact ⟨_, rfl, ob_of h2 rfl h1 (by omega), h3⟩
theorem Infd.lb {L : List Int} {w w' : World} {r : Ending} (h : Infd L w r w') (hb : IsB L) {n : Nat} (hn : L.length = n) : ∃ a c, r = .returned (.slice a n c) ∧ Lb w' a n c L ∧ Ob w.heap.size w' (.slice a n c) L ∧ Gr w w' := by
  obtain ⟨v, rfl, h1, h2⟩ := h
  obtain ⟨a, c, rfl, h3⟩ := ob_lb h1 hb hn
  exact ⟨a, c, rfl, h3, h1, h2⟩
set_option maxHeartbeats 4000000 in
theorem fputh_ok (K : List Int) (hl : K.length = 32) (hb : IsB K) (p q : Int) (hp : U4 p) (hq : U4 q) (w : World) : Calls Try.prog 12 #[.agg (hdl K p q).toArray] w (Infd (hdB K p q) w) := by
  obtain ⟨T, hT⟩ : ∃ T, T = Infd (hdB K p q) w := ⟨_, rfl⟩
  rw [← hT]
  replace hT := hide hT
  obtain ⟨C, hC⟩ : ∃ C, C = (hdl K p q).toArray := ⟨_, rfl⟩
  rw [← hC]
  replace hC := hide hC
  replace hb := hide hb
  go_enter Try.func12, Try.ntmps12
  go_upto_region 1 with fail
  have hB := ((Bl.nil w).new C 26)
  simp only [size_alloc, List.nil_append, List.cons_append] at hB
  generalize World.alloc _ _ = u at *
  rw [unhide hC] at hB
  replace hB : Bl w [⟨w.heap.size, (hdl K p q).toArray, 26⟩] u := hB
  clear hC
  have hbl : Hid (u.heap[w.heap.size]? = some (.cells (hdl K p q).toArray 26 (0, 0))) := (hB.get 0 (x := ⟨w.heap.size, (hdl K p q).toArray, 26⟩) rfl)
  have hG := hB.gr
  clear hB
  refine wp_region_lit ?_
  refine list_val (.pointer (some ⟨w.heap.size, 0, none⟩)) (by kernel_rfl) (by kernel_rfl) ?_
  simp only [Act.put, List.setIfInBounds_toArray, List.set_cons_zero, List.set_cons_succ, List.getElem_toArray, List.getElem_cons_zero, List.getElem_cons_succ]
  refine list_val (.slice (some ⟨w.heap.size, 0, none⟩) 32 32) (by kernel_rfl) (by kernel_rfl) ?_
  simp only [Act.put, List.setIfInBounds_toArray, List.set_cons_zero, List.set_cons_succ, List.getElem_toArray, List.getElem_cons_zero, List.getElem_cons_succ]
  refine app_bs (by kernel_rfl) (.const (.slice none 0 0)) (.tmp 5) rfl w.heap.size _ [] rfl (ob_none _ _) (some ⟨w.heap.size, 0, none⟩) 32 32 K (by kernel_rfl) hl (.inr ⟨_, 0, rfl, at_mid (unhide hbl) (hdl_key K p q) rfl⟩) (by simp) hG.size ?_
  intro v1 u1 hO1 hgr
  rw [List.nil_append] at hO1
  have hg1 : Gr u u1 := (ob_none u.heap.size u).grown (Nat.le_refl _) (Gr.refl u) hgr
  obtain ⟨a1, c1, rfl, hlb1⟩ := ob_lb hO1 (unhide hb) hl
  clear hO1 hgr
  replace hG := hG.trans hg1
  replace hbl := hide (hg1.blk (unhide hbl))
  clear hg1
  replace hlb1 := hide hlb1
  simp only [Act.put, List.setIfInBounds_toArray, List.set_cons_zero, List.set_cons_succ, List.getElem_toArray, List.getElem_cons_zero, List.getElem_cons_succ]
  (refine wpList_step fun K hK => ?_; replace hK := hide hK; go_simp; refine unhide hK _ _ ?_; clear hK K)
  refine wpList_nil ?_
  go_upto_region 2 with fail
  refine wp_region_lit ?_
  refine list_val (.slice a1 32 c1) (by kernel_rfl) (by kernel_rfl) ?_
  simp only [Act.put, List.setIfInBounds_toArray, List.set_cons_zero, List.set_cons_succ, List.getElem_toArray, List.getElem_cons_zero, List.getElem_cons_succ]
  refine list_val (.pointer (some ⟨w.heap.size, 32, none⟩)) (by kernel_rfl) (by kernel_rfl) ?_
  simp only [Act.put, List.setIfInBounds_toArray, List.set_cons_zero, List.set_cons_succ, List.getElem_toArray, List.getElem_cons_zero, List.getElem_cons_succ]
  refine list_val (.int .u32 p) (by kernel_rfl) (exec_u32 _ (.tmp 8) rfl (w.heap.size) 32 (by kernel_rfl) p (cell_of (unhide hbl) (hd_prev hl p q))) ?_
  simp only [Act.put, List.setIfInBounds_toArray, List.set_cons_zero, List.set_cons_succ, List.getElem_toArray, List.getElem_cons_zero, List.getElem_cons_succ]
  refine list_call 50 #[.slice a1 32 c1, .int .u32 p] (by kernel_rfl) (by kernel_rfl) ((put32g_ok K a1 32 c1 p hp (by omega) u1 (unhide hlb1)).mono ?_)
  rintro r u2 ⟨h, rfl, hh1, hh2, hh3⟩
  have hl2 : (K ++ lowL p 4).length = 36 := by simp [hl, lowL_len]
  rw [hl2]
  have hlb2 := hide (kc_lb hh2 hl2 (isB_append (unhide hb) (lowL_isB _ _)) (by decide))
  replace hG := hG.trans hh3
  replace hbl := hide (hh3.blk (unhide hbl))
  clear hh1 hh2 hh3
  refine ⟨_, rfl, ?_⟩
  simp only [Act.put, List.setIfInBounds_toArray, List.set_cons_zero, List.set_cons_succ, List.getElem_toArray, List.getElem_cons_zero, List.getElem_cons_succ]
  (refine wpList_step fun K hK => ?_; replace hK := hide hK; go_simp; refine unhide hK _ _ ?_; clear hK K)
  refine wpList_nil ?_
  go_upto_region 3 with fail
  refine wp_region_lit ?_
  refine list_val (.slice (some ⟨h, 0, none⟩) 36 36) (by kernel_rfl) (by kernel_rfl) ?_
  simp only [Act.put, List.setIfInBounds_toArray, List.set_cons_zero, List.set_cons_succ, List.getElem_toArray, List.getElem_cons_zero, List.getElem_cons_succ]
  refine list_val (.pointer (some ⟨w.heap.size, 33, none⟩)) (by kernel_rfl) (by kernel_rfl) ?_
  simp only [Act.put, List.setIfInBounds_toArray, List.set_cons_zero, List.set_cons_succ, List.getElem_toArray, List.getElem_cons_zero, List.getElem_cons_succ]
  refine list_val (.int .u32 q) (by kernel_rfl) (exec_u32 _ (.tmp 12) rfl (w.heap.size) 33 (by kernel_rfl) q (cell_of (unhide hbl) (hd_num hl p q))) ?_
  simp only [Act.put, List.setIfInBounds_toArray, List.set_cons_zero, List.set_cons_succ, List.getElem_toArray, List.getElem_cons_zero, List.getElem_cons_succ]
  refine list_call 50 #[.slice (some ⟨h, 0, none⟩) 36 36, .int .u32 q] (by kernel_rfl) (by kernel_rfl) ((put32g_ok (K ++ lowL p 4) (some ⟨h, 0, none⟩) 36 36 q hq (by omega) u2 (unhide hlb2)).mono ?_)
  rintro r u3 ⟨h3, rfl, hh1, hh2, hh3⟩
  have hl3 : ((K ++ lowL p 4) ++ lowL q 4).length = 40 := by simp [hl, lowL_len]
  have hZ : Hid (Infd (hdB K p q) w (.returned (.slice (some ⟨h3, 0, none⟩) 40 40)) u3) := ⟨_, rfl, ob_of hh2 hl3 (Nat.le_trans hG.size hh1) (by omega), hG.trans hh3⟩
  rw [hl3]
  clear hh1 hh2 hh3
  refine ⟨_, rfl, ?_⟩
  simp only [Act.put, List.setIfInBounds_toArray, List.set_cons_zero, List.set_cons_succ, List.getElem_toArray, List.getElem_cons_zero, List.getElem_cons_succ]
  (refine wpList_step fun K hK => ?_; replace hK := hide hK; go_simp; refine unhide hK _ _ ?_; clear hK K)
  refine wpList_nil ?_
  go_wp2_with fail
  rw [unhide hT]
  exact unhide hZ
set_option maxHeartbeats 4000000 in
theorem fputm_ok (K : List Int) (hl : K.length = 32) (hb : IsB K) (p q : Int) (hp : U4 p) (hq : U4 q) (B : List Int) (hlB : B.length = 65) (hbB : IsB B) (w : World) : Calls Try.prog 14 #[.agg (msl K p q B).toArray] w (Infd (hdB K p q ++ B) w) := by
  obtain ⟨T, hT⟩ : ∃ T, T = Infd (hdB K p q ++ B) w := ⟨_, rfl⟩
  rw [← hT]
  replace hT := hide hT
  obtain ⟨C, hC⟩ : ∃ C, C = (msl K p q B).toArray := ⟨_, rfl⟩
  rw [← hC]
  replace hC := hide hC
  replace hb := hide hb
  replace hbB := hide hbB
  go_enter Try.func14, Try.ntmps14
  go_upto_region 1 with fail
  have hB := ((Bl.nil w).new C 29)
  simp only [size_alloc, List.nil_append, List.cons_append] at hB
  generalize World.alloc _ _ = u at *
  rw [unhide hC] at hB
  replace hB : Bl w [⟨w.heap.size, (msl K p q B).toArray, 29⟩] u := hB
  clear hC
  have hbl := (hB.get 0 (x := ⟨w.heap.size, (msl K p q B).toArray, 29⟩) rfl)
  have hG := hB.gr
  clear hB
  refine anyC_start 2 (fun (v : World) => v.heap[w.heap.size]? = some (.cells (msl K p q B).toArray 29 (0, 0))) (by kernel_rfl) ?_
  have hdr := (Gr.refl u).drew
  replace hbl := hdr.blk hbl
  replace hG := hG.trans hdr
  clear hdr
  generalize World.drew _ = x0 at *
  have hS : (fun (v : World) => v.heap[w.heap.size]? = some (.cells (msl K p q B).toArray 29 (0, 0))) x0 := hbl
  clear hbl
  simp only [List.size_toArray, List.length_cons, List.length_nil, Array.replicate, List.replicate]
  refine anyC_take (i := 0) (v := (.pointer (some ⟨w.heap.size, 0, none⟩))) (fun _ => True) (fun _ _ => trivial) (.inl (fun _ => trivial)) rfl (by kernel_rfl) (by kernel_rfl) (by kernel_rfl) (by decide) (by kernel_rfl) (by decide) (fun _ _ _ h => h) (.inl ⟨by kernel_rfl, fun x_ hu => by kernel_rfl⟩) hS ?_
  simp only [Act.put, List.setIfInBounds_toArray, List.set_cons_zero, List.set_cons_succ, List.getElem_toArray, List.getElem_cons_zero, List.getElem_cons_succ]
  refine anyC_take (i := 1) (v := (.agg (hdl K p q).toArray)) (fun (v : World) => v.heap[w.heap.size]? = some (.cells (msl K p q B).toArray 29 (0, 0))) (fun _ h_ => h_) (.inr (by kernel_rfl)) rfl (by kernel_rfl) (by kernel_rfl) (by kernel_rfl) (by decide) (by kernel_rfl) (by decide) (fun _ _ _ h => h) (.inl ⟨by kernel_rfl, fun x_ hu => exec_row _ 26 (.tmp 3) rfl (w.heap.size) 0 (by kernel_rfl) (hdl K p q) _ (range_mid hu (msl_hd0 K p q B) rfl) Try.underlying26 rfl (by rw [Try.infoH, hdl_len hl])⟩) hS ?_
  simp only [Act.put, List.setIfInBounds_toArray, List.set_cons_zero, List.set_cons_succ, List.getElem_toArray, List.getElem_cons_zero, List.getElem_cons_succ]
  refine anyC_take (i := 3) (v := (.pointer (some ⟨w.heap.size, 34, none⟩))) (fun _ => True) (fun _ _ => trivial) (.inl (fun _ => trivial)) rfl (by kernel_rfl) (by kernel_rfl) (by kernel_rfl) (by decide) (by kernel_rfl) (by decide) (fun _ _ _ h => h) (.inl ⟨by kernel_rfl, fun x_ hu => by kernel_rfl⟩) hS ?_
  simp only [Act.put, List.setIfInBounds_toArray, List.set_cons_zero, List.set_cons_succ, List.getElem_toArray, List.getElem_cons_zero, List.getElem_cons_succ]
  refine anyC_take (i := 4) (v := (.slice (some ⟨w.heap.size, 34, none⟩) 65 65)) (fun _ => True) (fun _ _ => trivial) (.inl (fun _ => trivial)) rfl (by kernel_rfl) (by kernel_rfl) (by kernel_rfl) (by decide) (by kernel_rfl) (by decide) (fun _ _ _ h => h) (.inl ⟨by kernel_rfl, fun x_ hu => by kernel_rfl⟩) hS ?_
  simp only [Act.put, List.setIfInBounds_toArray, List.set_cons_zero, List.set_cons_succ, List.getElem_toArray, List.getElem_cons_zero, List.getElem_cons_succ]
  refine anyC_last (by kernel_rfl) rfl (fun K_ hQ => ?_)
  refine step_callw (by kernel_rfl) 12 #[.agg (hdl K p q).toArray] (by kernel_rfl) ((fputh_ok K hl (unhide hb) p q hp hq x0).mono ?_)
  rintro r u1 ⟨v1, rfl, hO1, hg1⟩
  refine ⟨_, rfl, ?_⟩
  obtain ⟨a1, c1, rfl, hlb1⟩ := ob_lb hO1 (hdB_isB (unhide hb) p q) (hdB_len hl p q)
  have hS : (fun (v : World) => v.heap[w.heap.size]? = some (.cells (msl K p q B).toArray 29 (0, 0))) u1 := hg1.blk hS
  have hO2 := hide (ob_base hO1 (c := w.heap.size) hG.size)
  replace hG := hG.trans hg1
  clear hO1 hg1 hlb1
  refine hQ.out _ _ ?_
  clear hQ K_
  simp only [Act.put, List.setIfInBounds_toArray, List.set_cons_zero, List.set_cons_succ, List.getElem_toArray, List.getElem_cons_zero, List.getElem_cons_succ]
  refine any_one (i := 5) (by kernel_rfl) rfl (fun K_ hQ => ?_)
  rw [if_pos (by kernel_rfl)]
  refine app_op (.tmp 5) (.tmp 7) rfl w.heap.size _ (hdB K p q) (by kernel_rfl) (unhide hO2) (some ⟨w.heap.size, 34, none⟩) 65 65 B (by kernel_rfl) hlB (.inr ⟨_, 34, rfl, at_mid hS (msl_hdl K p q B) (hdl_len hl p q)⟩) (by rw [hdB_len hl]; omega) hG.size ?_
  intro v2 u2 hO3 hgr
  have hZ : Hid (Infd (hdB K p q ++ B) w (.returned v2) u2) := ⟨v2, rfl, hO3, (unhide hO2).grown (Nat.le_refl _) hG hgr⟩
  clear hO3
  refine hQ.out _ _ trivial (fun _ => ?_)
  clear hQ K_ hgr hS
  simp only [Act.put, List.setIfInBounds_toArray, List.set_cons_zero, List.set_cons_succ, List.getElem_toArray, List.getElem_cons_zero, List.getElem_cons_succ]
  refine any_one (i := 6) (by kernel_rfl) rfl (fun K_ hQ => ?_)
  replace hQ := hide hQ
  go_simp
  refine (unhide hQ).out _ _ trivial (fun _ => ?_)
  clear hQ K_
  refine any_done (by kernel_rfl) ?_
  go_wp2_with fail
  rw [unhide hT]
  exact unhide hZ
set_option maxHeartbeats 4000000 in
theorem fputx_ok (D : List Int) (hl : D.length = 16) (hb : IsB D) (B : List Int) (hlB : B.length = 130) (hbB : IsB B) (w : World) : Calls Try.prog 16 #[.agg (xcl D B).toArray] w (Infd (D ++ B) w) := by
  obtain ⟨T, hT⟩ : ∃ T, T = Infd (D ++ B) w := ⟨_, rfl⟩
  rw [← hT]
  replace hT := hide hT
  obtain ⟨C, hC⟩ : ∃ C, C = (xcl D B).toArray := ⟨_, rfl⟩
  rw [← hC]
  replace hC := hide hC
  replace hb := hide hb
  replace hbB := hide hbB
  go_enter Try.func16, Try.ntmps16
  go_upto_region 1 with fail
  have hB := ((Bl.nil w).new C 34)
  simp only [size_alloc, List.nil_append, List.cons_append] at hB
  generalize World.alloc _ _ = u at *
  rw [unhide hC] at hB
  replace hB : Bl w [⟨w.heap.size, (xcl D B).toArray, 34⟩] u := hB
  clear hC
  have hbl : Hid (u.heap[w.heap.size]? = some (.cells (xcl D B).toArray 34 (0, 0))) := (hB.get 0 (x := ⟨w.heap.size, (xcl D B).toArray, 34⟩) rfl)
  have hG := hB.gr
  clear hB
  refine wp_region_lit ?_
  refine list_val (.pointer (some ⟨w.heap.size, 0, none⟩)) (by kernel_rfl) (by kernel_rfl) ?_
  simp only [Act.put, List.setIfInBounds_toArray, List.set_cons_zero, List.set_cons_succ, List.getElem_toArray, List.getElem_cons_zero, List.getElem_cons_succ]
  refine list_val (.slice (some ⟨w.heap.size, 0, none⟩) 16 16) (by kernel_rfl) (by kernel_rfl) ?_
  simp only [Act.put, List.setIfInBounds_toArray, List.set_cons_zero, List.set_cons_succ, List.getElem_toArray, List.getElem_cons_zero, List.getElem_cons_succ]
  refine app_bs (by kernel_rfl) (.const (.slice none 0 0)) (.tmp 5) rfl w.heap.size _ [] rfl (ob_none _ _) (some ⟨w.heap.size, 0, none⟩) 16 16 D (by kernel_rfl) hl (.inr ⟨_, 0, rfl, at_mid (unhide hbl) (xcl_drop D B) rfl⟩) (by simp) hG.size ?_
  intro v1 u1 hO1 hgr
  rw [List.nil_append] at hO1
  have hg1 : Gr u u1 := (ob_none u.heap.size u).grown (Nat.le_refl _) (Gr.refl u) hgr
  clear hgr
  replace hG := hG.trans hg1
  replace hbl := hide (hg1.blk (unhide hbl))
  clear hg1
  replace hO1 := hide hO1
  simp only [Act.put, List.setIfInBounds_toArray, List.set_cons_zero, List.set_cons_succ, List.getElem_toArray, List.getElem_cons_zero, List.getElem_cons_succ]
  (refine wpList_step fun K hK => ?_; replace hK := hide hK; go_simp; refine unhide hK _ _ ?_; clear hK K)
  refine wpList_nil ?_
  go_upto_region 2 with fail
  refine wp_region_lit ?_
  refine list_val v1 (by kernel_rfl) (by kernel_rfl) ?_
  simp only [Act.put, List.setIfInBounds_toArray, List.set_cons_zero, List.set_cons_succ, List.getElem_toArray, List.getElem_cons_zero, List.getElem_cons_succ]
  refine list_val (.pointer (some ⟨w.heap.size, 16, none⟩)) (by kernel_rfl) (by kernel_rfl) ?_
  simp only [Act.put, List.setIfInBounds_toArray, List.set_cons_zero, List.set_cons_succ, List.getElem_toArray, List.getElem_cons_zero, List.getElem_cons_succ]
  refine list_val (.slice (some ⟨w.heap.size, 16, none⟩) 130 130) (by kernel_rfl) (by kernel_rfl) ?_
  simp only [Act.put, List.setIfInBounds_toArray, List.set_cons_zero, List.set_cons_succ, List.getElem_toArray, List.getElem_cons_zero, List.getElem_cons_succ]
  refine app_bs (by kernel_rfl) (.tmp 7) (.tmp 9) rfl w.heap.size _ D rfl (unhide hO1) (some ⟨w.heap.size, 16, none⟩) 130 130 B (by kernel_rfl) hlB (.inr ⟨_, 16, rfl, at_mid (unhide hbl) (xcl_body D B) (by rw [bv_len, hl])⟩) (by rw [hl]; omega) hG.size ?_
  intro v2 u2 hO3 hgr
  have hZ : Hid (Infd (D ++ B) w (.returned v2) u2) := ⟨v2, rfl, hO3, (unhide hO1).grown (Nat.le_refl _) hG hgr⟩
  clear hO3 hgr
  simp only [Act.put, List.setIfInBounds_toArray, List.set_cons_zero, List.set_cons_succ, List.getElem_toArray, List.getElem_cons_zero, List.getElem_cons_succ]
  (refine wpList_step fun K hK => ?_; replace hK := hide hK; go_simp; refine unhide hK _ _ ?_; clear hK K)
  refine wpList_nil ?_
  go_wp2_with fail
  rw [unhide hT]
  exact unhide hZ
end Go.Proofs.Ytfmocneoffkmpaa
