/-
  FrameEnvelopes: envelopes are their bytes, where they may be, and are read of them.
-/
import Derived.Test.YtfmocneoffkmpaaFT
import Derived.Test.YtfmocneoffkmpaaFV
namespace Go.Proofs.Ytfmocneoffkmpaa
open Go.RowKit
set_option maxRecDepth 100000
set_option linter.unusedSimpArgs false
set_option linter.unusedVariables false
theorem evO_len {L : List Int} (h : L.length = 114) : (evO L).length = 108 := evl_len _ _ _ (sub_len h (by omega))
set_option maxHeartbeats 4000000 in
theorem envelopes_pok (k a s : Int) (ha : U4 a) (hs : U4 s) (E : List Int) (hE : E.length = 105) (bE : IsB E) (l : List Int) (t : Option Addr) (len cap : Nat) (w : World) (lb : Lb w t len cap l) (hP : evR k s E = true) (hN : min len 1000 = 114) (hR : evRO (l.take (min len 1000)) = true) : Calls Try.prog 4 #[.agg (evl k a s E).toArray, .slice t len cap] w (Woke w) := by
  obtain ⟨T, hT⟩ : ∃ T, T = Woke w := ⟨_, rfl⟩
  rw [← hT]
  replace hT := hide hT
  obtain ⟨C0, hC0⟩ : ∃ C, C = (evl k a s E).toArray := ⟨_, rfl⟩
  rw [← hC0]
  replace hC0 := hide hC0
  replace bE := hide bE; replace lb := hide lb
  obtain ⟨n, hn0⟩ : ∃ n, n = min len 1000 := ⟨_, rfl⟩
  rw [← hn0] at hN hR
  obtain ⟨L, hL0⟩ : ∃ L, L = l.take n := ⟨_, rfl⟩
  rw [← hL0] at hR
  have hn9 : n ≤ 1000 := by omega
  obtain rfl : n = 114 := hN
  replace hn0 := hide hn0; replace hL0 := hide hL0
  go_enter Try.func4, Try.ntmps4
  go_upto_region 1 with fail
  have hW := ((Bl.nil w).new C0 55)
  simp only [size_alloc, List.nil_append, List.cons_append] at hW
  generalize World.alloc _ _ = u at *
  rw [unhide hC0] at hW
  clear hC0
  replace hW : Bl w [⟨w.heap.size, (evl k a s E).toArray, 55⟩] u := hW
  refine wp_region_lit ?_
  refine list_call 9 #[] (by kernel_rfl) (by kernel_rfl) ((jwakes_ok u).mono ?_)
  rintro r u1 ⟨rfl, hg⟩
  replace hW := hW.more hg
  clear hg
  refine ⟨_, rfl, ?_⟩
  simp only [Act.put, List.setIfInBounds_toArray, List.set_cons_zero, List.set_cons_succ, List.getElem_toArray, List.getElem_cons_zero, List.getElem_cons_succ]
  refine list_val (.bool false) (by kernel_rfl) (by kernel_rfl) ?_
  simp only [Act.put, List.setIfInBounds_toArray, List.set_cons_zero, List.set_cons_succ, List.getElem_toArray, List.getElem_cons_zero, List.getElem_cons_succ]
  refine wpList_nil ?_
  replace hW := hide hW
  go_upto_region 3 with fail
  replace hW := unhide hW
  refine wp_region_lit ?_
  refine list_val (.slice t len cap) (by kernel_rfl) (by kernel_rfl) ?_
  simp only [Act.put, List.setIfInBounds_toArray, List.set_cons_zero, List.set_cons_succ, List.getElem_toArray, List.getElem_cons_zero, List.getElem_cons_succ]
  refine list_call 10 #[.slice t len cap] (by kernel_rfl) (by kernel_rfl) ((jcut_ok l t len cap u1 ((unhide lb).gr hW.gr)).mono ?_)
  rintro r u2 ⟨s1, rfl, hs1, rfl⟩
  have hl := hs1 w (unhide lb)
  rw [← unhide hn0, ← unhide hL0] at hl
  rw [← unhide hn0]
  clear hs1 lb hL0 hn0
  have hLl := hl.len
  have hLb := hide hl.isB
  obtain ⟨p0, q0, rfl, hl⟩ := hl.some (by omega)
  replace hl := hide hl
  refine ⟨_, rfl, ?_⟩
  simp only [Act.put, List.setIfInBounds_toArray, List.set_cons_zero, List.set_cons_succ, List.getElem_toArray, List.getElem_cons_zero, List.getElem_cons_succ]
  (refine wpList_step fun K hK => ?_; replace hK := hide hK; go_simp; refine unhide hK _ _ ?_; clear hK K)
  refine wpList_nil ?_
  replace hW := hide hW
  go_upto_region 4 with fail
  replace hW := unhide hW
  refine wp_region_lit ?_
  refine list_val (.agg (evl k a s E).toArray) (by kernel_rfl) (exec_arr _ 55 (.tmp 2) rfl (w.heap.size) (by kernel_rfl) (evl k a s E).toArray 55 _ (hW.get 0 (x := ⟨w.heap.size, (evl k a s E).toArray, 55⟩) rfl) Try.underlying55 rfl (by rw [Try.infoE, List.size_toArray, evl_len _ _ _ hE])) ?_
  simp only [Act.put, List.setIfInBounds_toArray, List.set_cons_zero, List.set_cons_succ, List.getElem_toArray, List.getElem_cons_zero, List.getElem_cons_succ]
  refine list_call 25 #[.agg (evl k a s E).toArray] (by kernel_rfl) (by kernel_rfl) ((fpute_ok k a s E hE (unhide bE) ha hs hP u2).mono ?_)
  rintro r u3 ⟨v3, rfl, hO, hg⟩
  obtain ⟨a3, c3, rfl, hl3⟩ := ob_lb hO (evB_isB (unhide bE) (evR_kind hP)) (n := 114) (evB_len k a s hE)
  replace hl3 := hide hl3
  replace hW := hW.more hg
  clear hg hO
  refine ⟨_, rfl, ?_⟩
  simp only [Act.put, List.setIfInBounds_toArray, List.set_cons_zero, List.set_cons_succ, List.getElem_toArray, List.getElem_cons_zero, List.getElem_cons_succ]
  refine list_val (.tuple #[.slice a3 114 c3, .int .i64 0]) (by kernel_rfl) (by kernel_rfl) ?_
  simp only [Act.put, List.setIfInBounds_toArray, List.set_cons_zero, List.set_cons_succ, List.getElem_toArray, List.getElem_cons_zero, List.getElem_cons_succ]
  refine list_val (.slice a3 114 c3) (by kernel_rfl) (by kernel_rfl) ?_
  simp only [Act.put, List.setIfInBounds_toArray, List.set_cons_zero, List.set_cons_succ, List.getElem_toArray, List.getElem_cons_zero, List.getElem_cons_succ]
  refine list_val (.int .i64 0) (by kernel_rfl) (by kernel_rfl) ?_
  simp only [Act.put, List.setIfInBounds_toArray, List.set_cons_zero, List.set_cons_succ, List.getElem_toArray, List.getElem_cons_zero, List.getElem_cons_succ]
  (refine wpList_step fun K hK => ?_; replace hK := hide hK; go_simp; refine unhide hK _ _ ?_; clear hK K)
  (refine wpList_step fun K hK => ?_; replace hK := hide hK; go_simp; refine unhide hK _ _ ?_; clear hK K)
  refine wpList_nil ?_
  replace hW := hide hW
  go_upto_region 5 with fail
  replace hW := unhide hW
  refine wp_region_lit ?_
  refine list_val (.agg (evl k a s E).toArray) (by kernel_rfl) (exec_arr _ 55 (.tmp 2) rfl (w.heap.size) (by kernel_rfl) (evl k a s E).toArray 55 _ (hW.get 0 (x := ⟨w.heap.size, (evl k a s E).toArray, 55⟩) rfl) Try.underlying55 rfl (by rw [Try.infoE, List.size_toArray, evl_len _ _ _ hE])) ?_
  simp only [Act.put, List.setIfInBounds_toArray, List.set_cons_zero, List.set_cons_succ, List.getElem_toArray, List.getElem_cons_zero, List.getElem_cons_succ]
  refine list_call 26 #[.agg (evl k a s E).toArray] (by kernel_rfl) (by kernel_rfl) ((qrev_ok k a s E hE (unhide bE) u3).mono ?_)
  rintro r u4 ⟨rfl, hg⟩
  rw [hP]
  replace hl3 := hide ((unhide hl3).gr hg)
  replace hW := hW.more hg
  clear hg
  refine ⟨_, rfl, ?_⟩
  simp only [Act.put, List.setIfInBounds_toArray, List.set_cons_zero, List.set_cons_succ, List.getElem_toArray, List.getElem_cons_zero, List.getElem_cons_succ]
  refine wpList_nil ?_
  replace hW := hide hW
  go_upto_region 6 with fail
  replace hW := unhide hW
  refine wp_region_lit ?_
  refine list_val (.int .i64 0) (by kernel_rfl) (by kernel_rfl) ?_
  simp only [Act.put, List.setIfInBounds_toArray, List.set_cons_zero, List.set_cons_succ, List.getElem_toArray, List.getElem_cons_zero, List.getElem_cons_succ]
  refine list_val (.bool false) (by kernel_rfl) (by kernel_rfl) ?_
  simp only [Act.put, List.setIfInBounds_toArray, List.set_cons_zero, List.set_cons_succ, List.getElem_toArray, List.getElem_cons_zero, List.getElem_cons_succ]
  refine list_val (.bool false) (by kernel_rfl) (by kernel_rfl) ?_
  simp only [Act.put, List.setIfInBounds_toArray, List.set_cons_zero, List.set_cons_succ, List.getElem_toArray, List.getElem_cons_zero, List.getElem_cons_succ]
  refine list_val (.slice a3 114 c3) (by kernel_rfl) (by kernel_rfl) ?_
  simp only [Act.put, List.setIfInBounds_toArray, List.set_cons_zero, List.set_cons_succ, List.getElem_toArray, List.getElem_cons_zero, List.getElem_cons_succ]
  refine list_val (.agg (evl k a s E).toArray) (by kernel_rfl) (exec_arr _ 55 (.tmp 2) rfl (w.heap.size) (by kernel_rfl) (evl k a s E).toArray 55 _ (hW.get 0 (x := ⟨w.heap.size, (evl k a s E).toArray, 55⟩) rfl) Try.underlying55 rfl (by rw [Try.infoE, List.size_toArray, evl_len _ _ _ hE])) ?_
  simp only [Act.put, List.setIfInBounds_toArray, List.set_cons_zero, List.set_cons_succ, List.getElem_toArray, List.getElem_cons_zero, List.getElem_cons_succ]
  refine list_call 27 #[.agg (evl k a s E).toArray] (by kernel_rfl) (by kernel_rfl) ((qenv_ok k a s (evR_kind hP) ha hs E hE (unhide bE) u4).mono ?_)
  rintro r u5 ⟨v5, rfl, hO, hg⟩
  obtain ⟨a5, c5, rfl, hl5⟩ := ob_lb hO (evB_isB (unhide bE) (evR_kind hP)) (n := 114) (evB_len k a s hE)
  replace hl3 := hide ((unhide hl3).gr hg)
  replace hW := hW.more hg
  clear hg hO
  refine ⟨_, rfl, ?_⟩
  simp only [Act.put, List.setIfInBounds_toArray, List.set_cons_zero, List.set_cons_succ, List.getElem_toArray, List.getElem_cons_zero, List.getElem_cons_succ]
  refine list_call 11 #[.slice a3 114 c3, .slice a5 114 c5] (by kernel_rfl) (by kernel_rfl) ((beq_ok (evB k a s E) (evB k a s E) a3 a5 114 114 c3 c5 u5 (unhide hl3) hl5).mono ?_)
  rintro r z5 ⟨rfl, hg⟩
  rw [decide_eq_true rfl]
  replace hW := hW.more hg
  clear hg hl3 hl5
  refine ⟨_, rfl, ?_⟩
  simp only [Act.put, List.setIfInBounds_toArray, List.set_cons_zero, List.set_cons_succ, List.getElem_toArray, List.getElem_cons_zero, List.getElem_cons_succ]
  refine list_val (.bool false) (by kernel_rfl) (by kernel_rfl) ?_
  simp only [Act.put, List.setIfInBounds_toArray, List.set_cons_zero, List.set_cons_succ, List.getElem_toArray, List.getElem_cons_zero, List.getElem_cons_succ]
  refine list_val (.bool false) (by kernel_rfl) (by kernel_rfl) ?_
  simp only [Act.put, List.setIfInBounds_toArray, List.set_cons_zero, List.set_cons_succ, List.getElem_toArray, List.getElem_cons_zero, List.getElem_cons_succ]
  refine wpList_nil ?_
  replace hW := hide hW
  go_upto_region 10 with fail
  replace hW := unhide hW
  refine wp_region_lit ?_
  refine list_val (.slice (some ⟨p0, q0, none⟩) 114 cap) (by kernel_rfl) (by kernel_rfl) ?_
  simp only [Act.put, List.setIfInBounds_toArray, List.set_cons_zero, List.set_cons_succ, List.getElem_toArray, List.getElem_cons_zero, List.getElem_cons_succ]
  refine list_call 18 #[.slice (some ⟨p0, q0, none⟩) 114 cap] (by kernel_rfl) (by kernel_rfl) ((jroom_ok L (some ⟨p0, q0, none⟩) 114 cap (by omega) z5 ((unhide hl).gr hW.gr)).mono ?_)
  rintro r u6 ⟨go, co, rfl, hc1, hc2, hgo, hat, hg⟩
  rw [hLl] at hc1 ⊢
  have hlo : Lb u6 (some ⟨go, 0, none⟩) 114 co L := by
    have h9 := hat.take 114
    rw [List.take_append_of_le_length (by rw [hLl]; exact Nat.le_refl _), List.take_of_length_le (by rw [hLl]; exact Nat.le_refl _)] at h9
    exact ⟨hLl, unhide hLb, .inr ⟨go, 0, rfl, h9⟩, by omega, hc2⟩
  replace hlo := hide hlo
  have hWg := hide (hW.gr.trans hg)
  replace hl := hide ((unhide hl).gr (unhide hWg))
  clear hW hg hat hc1 hc2 hgo
  have hW := Bl.nil u6
  refine ⟨_, rfl, ?_⟩
  simp only [Act.put, List.setIfInBounds_toArray, List.set_cons_zero, List.set_cons_succ, List.getElem_toArray, List.getElem_cons_zero, List.getElem_cons_succ]
  refine list_call 28 #[.slice (some ⟨go, 0, none⟩) 114 co] (by kernel_rfl) (by kernel_rfl) ((fgete_ok L (some ⟨go, 0, none⟩) co u6 (unhide hlo) hR).mono ?_)
  rintro r u7 ⟨rfl, hg⟩
  replace hW := hW.more hg
  clear hg
  refine ⟨_, rfl, ?_⟩
  simp only [Act.put, List.setIfInBounds_toArray, List.set_cons_zero, List.set_cons_succ, List.getElem_toArray, List.getElem_cons_zero, List.getElem_cons_succ]
  refine list_val (.tuple #[.agg (evO L).toArray, .int .i64 0]) (by kernel_rfl) (by kernel_rfl) ?_
  simp only [Act.put, List.setIfInBounds_toArray, List.set_cons_zero, List.set_cons_succ, List.getElem_toArray, List.getElem_cons_zero, List.getElem_cons_succ]
  refine list_val (.agg (evO L).toArray) (by kernel_rfl) (by kernel_rfl) ?_
  simp only [Act.put, List.setIfInBounds_toArray, List.set_cons_zero, List.set_cons_succ, List.getElem_toArray, List.getElem_cons_zero, List.getElem_cons_succ]
  refine list_val (.int .i64 0) (by kernel_rfl) (by kernel_rfl) ?_
  simp only [Act.put, List.setIfInBounds_toArray, List.set_cons_zero, List.set_cons_succ, List.getElem_toArray, List.getElem_cons_zero, List.getElem_cons_succ]
  refine list_valw (.pointer (some ⟨u7.heap.size, 0, none⟩)) (u7.alloc (.cells (evl 0 0 0 Z105).toArray 55 (0, 0))) (by kernel_rfl) (by kernel_rfl) ?_
  replace hW := hW.new (evl 0 0 0 Z105).toArray 55
  simp only [List.nil_append, List.cons_append] at hW
  generalize World.alloc _ _ = u8 at *
  generalize u7.heap.size = qe at *
  replace hW : Bl u6 [⟨qe, (evl 0 0 0 Z105).toArray, 55⟩] u8 := hW
  simp only [Act.put, List.setIfInBounds_toArray, List.set_cons_zero, List.set_cons_succ, List.getElem_toArray, List.getElem_cons_zero, List.getElem_cons_succ]
  refine list_store 55 (.tmp 7) (.tmp 40) qe (evO L).toArray 55 (evl 0 0 0 Z105).toArray (by kernel_rfl) rfl (by kernel_rfl) (by kernel_rfl) (hW.get 0 (x := ⟨qe, (evl 0 0 0 Z105).toArray, 55⟩) rfl) (by rw [Try.infoE, List.size_toArray, evO_len hLl]) (by rw [List.size_toArray, List.size_toArray, evO_len hLl]; rfl) (evl_one ..) ?_
  replace hW := hW.set 0 (x := ⟨qe, (evl 0 0 0 Z105).toArray, 55⟩) rfl (evO L).toArray
  simp only [List.set_cons_zero, List.set_cons_succ] at hW
  generalize World.setRow _ _ _ = u9 at *
  replace hW : Bl u6 [⟨qe, (evO L).toArray, 55⟩] u9 := hW
  simp only [Act.put, List.setIfInBounds_toArray, List.set_cons_zero, List.set_cons_succ, List.getElem_toArray, List.getElem_cons_zero, List.getElem_cons_succ]
  (refine wpList_step fun K hK => ?_; replace hK := hide hK; go_simp; refine unhide hK _ _ ?_; clear hK K)
  refine wpList_nil ?_
  replace hW := hide hW
  go_upto_region 11 with fail
  replace hW := unhide hW
  refine wp_region_lit ?_
  refine list_val (.slice (some ⟨p0, q0, none⟩) 114 cap) (by kernel_rfl) (by kernel_rfl) ?_
  simp only [Act.put, List.setIfInBounds_toArray, List.set_cons_zero, List.set_cons_succ, List.getElem_toArray, List.getElem_cons_zero, List.getElem_cons_succ]
  refine list_val (.int .i64 114) (by kernel_rfl) (by kernel_rfl) ?_
  simp only [Act.put, List.setIfInBounds_toArray, List.set_cons_zero, List.set_cons_succ, List.getElem_toArray, List.getElem_cons_zero, List.getElem_cons_succ]
  refine list_val (.bool false) (by kernel_rfl) (by kernel_rfl) ?_
  simp only [Act.put, List.setIfInBounds_toArray, List.set_cons_zero, List.set_cons_succ, List.getElem_toArray, List.getElem_cons_zero, List.getElem_cons_succ]
  refine wpList_nil ?_
  replace hW := hide hW
  go_upto_region 13 with fail
  replace hW := unhide hW
  refine wp_region_lit ?_
  refine list_val (.slice (some ⟨p0, q0, none⟩) 114 cap) (by kernel_rfl) (by kernel_rfl) ?_
  simp only [Act.put, List.setIfInBounds_toArray, List.set_cons_zero, List.set_cons_succ, List.getElem_toArray, List.getElem_cons_zero, List.getElem_cons_succ]
  refine list_call 29 #[.slice (some ⟨p0, q0, none⟩) 114 cap] (by kernel_rfl) (by kernel_rfl) ((qgete_ok L p0 q0 cap u9 ((unhide hl).gr hW.gr)).mono ?_)
  rintro r v1 ⟨rfl, hg⟩
  replace hW := hW.more hg
  clear hg
  refine ⟨_, rfl, ?_⟩
  simp only [Act.put, List.setIfInBounds_toArray, List.set_cons_zero, List.set_cons_succ, List.getElem_toArray, List.getElem_cons_zero, List.getElem_cons_succ]
  refine list_valw (.pointer (some ⟨v1.heap.size, 0, none⟩)) (v1.alloc (.cells (evl 0 0 0 Z105).toArray 55 (0, 0))) (by kernel_rfl) (by kernel_rfl) ?_
  replace hW := hW.new (evl 0 0 0 Z105).toArray 55
  simp only [List.nil_append, List.cons_append] at hW
  generalize World.alloc _ _ = v2 at *
  generalize v1.heap.size = qr at *
  replace hW : Bl u6 [⟨qe, (evO L).toArray, 55⟩, ⟨qr, (evl 0 0 0 Z105).toArray, 55⟩] v2 := hW
  simp only [Act.put, List.setIfInBounds_toArray, List.set_cons_zero, List.set_cons_succ, List.getElem_toArray, List.getElem_cons_zero, List.getElem_cons_succ]
  refine list_store 55 (.tmp 8) (.tmp 53) qr (evO L).toArray 55 (evl 0 0 0 Z105).toArray (by kernel_rfl) rfl (by kernel_rfl) (by kernel_rfl) (hW.get 1 (x := ⟨qr, (evl 0 0 0 Z105).toArray, 55⟩) rfl) (by rw [Try.infoE, List.size_toArray, evO_len hLl]) (by rw [List.size_toArray, List.size_toArray, evO_len hLl]; rfl) (evl_one ..) ?_
  replace hW := hW.set 1 (x := ⟨qr, (evl 0 0 0 Z105).toArray, 55⟩) rfl (evO L).toArray
  simp only [List.set_cons_zero, List.set_cons_succ] at hW
  generalize World.setRow _ _ _ = v3 at *
  replace hW : Bl u6 [⟨qe, (evO L).toArray, 55⟩, ⟨qr, (evO L).toArray, 55⟩] v3 := hW
  simp only [Act.put, List.setIfInBounds_toArray, List.set_cons_zero, List.set_cons_succ, List.getElem_toArray, List.getElem_cons_zero, List.getElem_cons_succ]
  refine wpList_nil ?_
  replace hW := hide hW
  go_upto_region 14 with fail
  replace hW := unhide hW
  refine wp_region_lit ?_
  refine list_val (.agg (evO L).toArray) (by kernel_rfl) (exec_arr _ 55 (.tmp 8) rfl qr (by kernel_rfl) (evO L).toArray 55 _ (hW.get 1 (x := ⟨qr, (evO L).toArray, 55⟩) rfl) Try.underlying55 rfl (by rw [Try.infoE, List.size_toArray, evO_len hLl])) ?_
  simp only [Act.put, List.setIfInBounds_toArray, List.set_cons_zero, List.set_cons_succ, List.getElem_toArray, List.getElem_cons_zero, List.getElem_cons_succ]
  refine list_call 26 #[.agg (evO L).toArray] (by kernel_rfl) (by kernel_rfl) ((show Calls Try.prog 26 #[.agg (evO L).toArray] v3 (Vl (.bool (evRO L)) v3) from qrev_ok _ _ _ _ (sub_len hLl (by omega)) (sub_isB (unhide hLb) _ _) v3).mono ?_)
  rintro r v4 ⟨rfl, hg⟩
  rw [hR]
  replace hW := hW.more hg
  clear hg
  refine ⟨_, rfl, ?_⟩
  simp only [Act.put, List.setIfInBounds_toArray, List.set_cons_zero, List.set_cons_succ, List.getElem_toArray, List.getElem_cons_zero, List.getElem_cons_succ]
  refine list_val (.bool false) (by kernel_rfl) (by kernel_rfl) ?_
  simp only [Act.put, List.setIfInBounds_toArray, List.set_cons_zero, List.set_cons_succ, List.getElem_toArray, List.getElem_cons_zero, List.getElem_cons_succ]
  refine wpList_nil ?_
  replace hW := hide hW
  go_upto_region 16 with fail
  replace hW := unhide hW
  refine wp_region_lit ?_
  refine list_val (.int .i64 0) (by kernel_rfl) (by kernel_rfl) ?_
  simp only [Act.put, List.setIfInBounds_toArray, List.set_cons_zero, List.set_cons_succ, List.getElem_toArray, List.getElem_cons_zero, List.getElem_cons_succ]
  refine list_val (.bool true) (by kernel_rfl) (by kernel_rfl) ?_
  simp only [Act.put, List.setIfInBounds_toArray, List.set_cons_zero, List.set_cons_succ, List.getElem_toArray, List.getElem_cons_zero, List.getElem_cons_succ]
  refine list_val (.bool true) (by kernel_rfl) (by kernel_rfl) ?_
  simp only [Act.put, List.setIfInBounds_toArray, List.set_cons_zero, List.set_cons_succ, List.getElem_toArray, List.getElem_cons_zero, List.getElem_cons_succ]
  refine list_val (.agg (evO L).toArray) (by kernel_rfl) (exec_arr _ 55 (.tmp 7) rfl qe (by kernel_rfl) (evO L).toArray 55 _ (hW.get 0 (x := ⟨qe, (evO L).toArray, 55⟩) rfl) Try.underlying55 rfl (by rw [Try.infoE, List.size_toArray, evO_len hLl])) ?_
  simp only [Act.put, List.setIfInBounds_toArray, List.set_cons_zero, List.set_cons_succ, List.getElem_toArray, List.getElem_cons_zero, List.getElem_cons_succ]
  refine list_val (.agg (evO L).toArray) (by kernel_rfl) (exec_arr _ 55 (.tmp 8) rfl qr (by kernel_rfl) (evO L).toArray 55 _ (hW.get 1 (x := ⟨qr, (evO L).toArray, 55⟩) rfl) Try.underlying55 rfl (by rw [Try.infoE, List.size_toArray, evO_len hLl])) ?_
  simp only [Act.put, List.setIfInBounds_toArray, List.set_cons_zero, List.set_cons_succ, List.getElem_toArray, List.getElem_cons_zero, List.getElem_cons_succ]
  refine list_val (.bool true) (by kernel_rfl) (exec_eql_e _ (.tmp 67) (.tmp 68) rfl (evO L).toArray (by kernel_rfl) (by kernel_rfl) (eq_evl _ _ _ (sub_len hLl (by omega)) _)) ?_
  simp only [Act.put, List.setIfInBounds_toArray, List.set_cons_zero, List.set_cons_succ, List.getElem_toArray, List.getElem_cons_zero, List.getElem_cons_succ]
  refine list_val (.bool true) (by kernel_rfl) (by kernel_rfl) ?_
  simp only [Act.put, List.setIfInBounds_toArray, List.set_cons_zero, List.set_cons_succ, List.getElem_toArray, List.getElem_cons_zero, List.getElem_cons_succ]
  (refine wpList_step fun K hK => ?_; replace hK := hide hK; go_simp; refine unhide hK _ _ ?_; clear hK K)
  refine wpList_nil ?_
  have hZ : Hid (Woke w (.returned (.bool true)) v4) := ⟨rfl, (unhide hWg).trans hW.gr⟩
  clear hW
  go_wp2_with fail
  rw [unhide hT]
  exact unhide hZ
set_option maxHeartbeats 4000000 in
theorem envelopes_pbad (k a s : Int) (ha : U4 a) (hs : U4 s) (E : List Int) (hE : E.length = 105) (bE : IsB E) (l : List Int) (t : Option Addr) (len cap : Nat) (w : World) (lb : Lb w t len cap l) (hP : evR k s E = true) (hN : min len 1000 = 114) (hR : evRO (l.take (min len 1000)) = false) : Calls Try.prog 4 #[.agg (evl k a s E).toArray, .slice t len cap] w (Woke w) := by
  obtain ⟨T, hT⟩ : ∃ T, T = Woke w := ⟨_, rfl⟩
  rw [← hT]
  replace hT := hide hT
  obtain ⟨C0, hC0⟩ : ∃ C, C = (evl k a s E).toArray := ⟨_, rfl⟩
  rw [← hC0]
  replace hC0 := hide hC0
  replace bE := hide bE; replace lb := hide lb
  obtain ⟨n, hn0⟩ : ∃ n, n = min len 1000 := ⟨_, rfl⟩
  rw [← hn0] at hN hR
  obtain ⟨L, hL0⟩ : ∃ L, L = l.take n := ⟨_, rfl⟩
  rw [← hL0] at hR
  have hn9 : n ≤ 1000 := by omega
  obtain rfl : n = 114 := hN
  replace hn0 := hide hn0; replace hL0 := hide hL0
  go_enter Try.func4, Try.ntmps4
  go_upto_region 1 with fail
  have hW := ((Bl.nil w).new C0 55)
  simp only [size_alloc, List.nil_append, List.cons_append] at hW
  generalize World.alloc _ _ = u at *
  rw [unhide hC0] at hW
  clear hC0
  replace hW : Bl w [⟨w.heap.size, (evl k a s E).toArray, 55⟩] u := hW
  refine wp_region_lit ?_
  refine list_call 9 #[] (by kernel_rfl) (by kernel_rfl) ((jwakes_ok u).mono ?_)
  rintro r u1 ⟨rfl, hg⟩
  replace hW := hW.more hg
  clear hg
  refine ⟨_, rfl, ?_⟩
  simp only [Act.put, List.setIfInBounds_toArray, List.set_cons_zero, List.set_cons_succ, List.getElem_toArray, List.getElem_cons_zero, List.getElem_cons_succ]
  refine list_val (.bool false) (by kernel_rfl) (by kernel_rfl) ?_
  simp only [Act.put, List.setIfInBounds_toArray, List.set_cons_zero, List.set_cons_succ, List.getElem_toArray, List.getElem_cons_zero, List.getElem_cons_succ]
  refine wpList_nil ?_
  replace hW := hide hW
  go_upto_region 3 with fail
  replace hW := unhide hW
  refine wp_region_lit ?_
  refine list_val (.slice t len cap) (by kernel_rfl) (by kernel_rfl) ?_
  simp only [Act.put, List.setIfInBounds_toArray, List.set_cons_zero, List.set_cons_succ, List.getElem_toArray, List.getElem_cons_zero, List.getElem_cons_succ]
  refine list_call 10 #[.slice t len cap] (by kernel_rfl) (by kernel_rfl) ((jcut_ok l t len cap u1 ((unhide lb).gr hW.gr)).mono ?_)
  rintro r u2 ⟨s1, rfl, hs1, rfl⟩
  have hl := hs1 w (unhide lb)
  rw [← unhide hn0, ← unhide hL0] at hl
  rw [← unhide hn0]
  clear hs1 lb hL0 hn0
  have hLl := hl.len
  have hLb := hide hl.isB
  obtain ⟨p0, q0, rfl, hl⟩ := hl.some (by omega)
  replace hl := hide hl
  refine ⟨_, rfl, ?_⟩
  simp only [Act.put, List.setIfInBounds_toArray, List.set_cons_zero, List.set_cons_succ, List.getElem_toArray, List.getElem_cons_zero, List.getElem_cons_succ]
  (refine wpList_step fun K hK => ?_; replace hK := hide hK; go_simp; refine unhide hK _ _ ?_; clear hK K)
  refine wpList_nil ?_
  replace hW := hide hW
  go_upto_region 4 with fail
  replace hW := unhide hW
  refine wp_region_lit ?_
  refine list_val (.agg (evl k a s E).toArray) (by kernel_rfl) (exec_arr _ 55 (.tmp 2) rfl (w.heap.size) (by kernel_rfl) (evl k a s E).toArray 55 _ (hW.get 0 (x := ⟨w.heap.size, (evl k a s E).toArray, 55⟩) rfl) Try.underlying55 rfl (by rw [Try.infoE, List.size_toArray, evl_len _ _ _ hE])) ?_
  simp only [Act.put, List.setIfInBounds_toArray, List.set_cons_zero, List.set_cons_succ, List.getElem_toArray, List.getElem_cons_zero, List.getElem_cons_succ]
  refine list_call 25 #[.agg (evl k a s E).toArray] (by kernel_rfl) (by kernel_rfl) ((fpute_ok k a s E hE (unhide bE) ha hs hP u2).mono ?_)
  rintro r u3 ⟨v3, rfl, hO, hg⟩
  obtain ⟨a3, c3, rfl, hl3⟩ := ob_lb hO (evB_isB (unhide bE) (evR_kind hP)) (n := 114) (evB_len k a s hE)
  replace hl3 := hide hl3
  replace hW := hW.more hg
  clear hg hO
  refine ⟨_, rfl, ?_⟩
  simp only [Act.put, List.setIfInBounds_toArray, List.set_cons_zero, List.set_cons_succ, List.getElem_toArray, List.getElem_cons_zero, List.getElem_cons_succ]
  refine list_val (.tuple #[.slice a3 114 c3, .int .i64 0]) (by kernel_rfl) (by kernel_rfl) ?_
  simp only [Act.put, List.setIfInBounds_toArray, List.set_cons_zero, List.set_cons_succ, List.getElem_toArray, List.getElem_cons_zero, List.getElem_cons_succ]
  refine list_val (.slice a3 114 c3) (by kernel_rfl) (by kernel_rfl) ?_
  simp only [Act.put, List.setIfInBounds_toArray, List.set_cons_zero, List.set_cons_succ, List.getElem_toArray, List.getElem_cons_zero, List.getElem_cons_succ]
  refine list_val (.int .i64 0) (by kernel_rfl) (by kernel_rfl) ?_
  simp only [Act.put, List.setIfInBounds_toArray, List.set_cons_zero, List.set_cons_succ, List.getElem_toArray, List.getElem_cons_zero, List.getElem_cons_succ]
  (refine wpList_step fun K hK => ?_; replace hK := hide hK; go_simp; refine unhide hK _ _ ?_; clear hK K)
  (refine wpList_step fun K hK => ?_; replace hK := hide hK; go_simp; refine unhide hK _ _ ?_; clear hK K)
  refine wpList_nil ?_
  replace hW := hide hW
  go_upto_region 5 with fail
  replace hW := unhide hW
  refine wp_region_lit ?_
  refine list_val (.agg (evl k a s E).toArray) (by kernel_rfl) (exec_arr _ 55 (.tmp 2) rfl (w.heap.size) (by kernel_rfl) (evl k a s E).toArray 55 _ (hW.get 0 (x := ⟨w.heap.size, (evl k a s E).toArray, 55⟩) rfl) Try.underlying55 rfl (by rw [Try.infoE, List.size_toArray, evl_len _ _ _ hE])) ?_
  simp only [Act.put, List.setIfInBounds_toArray, List.set_cons_zero, List.set_cons_succ, List.getElem_toArray, List.getElem_cons_zero, List.getElem_cons_succ]
  refine list_call 26 #[.agg (evl k a s E).toArray] (by kernel_rfl) (by kernel_rfl) ((qrev_ok k a s E hE (unhide bE) u3).mono ?_)
  rintro r u4 ⟨rfl, hg⟩
  rw [hP]
  replace hl3 := hide ((unhide hl3).gr hg)
  replace hW := hW.more hg
  clear hg
  refine ⟨_, rfl, ?_⟩
  simp only [Act.put, List.setIfInBounds_toArray, List.set_cons_zero, List.set_cons_succ, List.getElem_toArray, List.getElem_cons_zero, List.getElem_cons_succ]
  refine wpList_nil ?_
  replace hW := hide hW
  go_upto_region 6 with fail
  replace hW := unhide hW
  refine wp_region_lit ?_
  refine list_val (.int .i64 0) (by kernel_rfl) (by kernel_rfl) ?_
  simp only [Act.put, List.setIfInBounds_toArray, List.set_cons_zero, List.set_cons_succ, List.getElem_toArray, List.getElem_cons_zero, List.getElem_cons_succ]
  refine list_val (.bool false) (by kernel_rfl) (by kernel_rfl) ?_
  simp only [Act.put, List.setIfInBounds_toArray, List.set_cons_zero, List.set_cons_succ, List.getElem_toArray, List.getElem_cons_zero, List.getElem_cons_succ]
  refine list_val (.bool false) (by kernel_rfl) (by kernel_rfl) ?_
  simp only [Act.put, List.setIfInBounds_toArray, List.set_cons_zero, List.set_cons_succ, List.getElem_toArray, List.getElem_cons_zero, List.getElem_cons_succ]
  refine list_val (.slice a3 114 c3) (by kernel_rfl) (by kernel_rfl) ?_
  simp only [Act.put, List.setIfInBounds_toArray, List.set_cons_zero, List.set_cons_succ, List.getElem_toArray, List.getElem_cons_zero, List.getElem_cons_succ]
  refine list_val (.agg (evl k a s E).toArray) (by kernel_rfl) (exec_arr _ 55 (.tmp 2) rfl (w.heap.size) (by kernel_rfl) (evl k a s E).toArray 55 _ (hW.get 0 (x := ⟨w.heap.size, (evl k a s E).toArray, 55⟩) rfl) Try.underlying55 rfl (by rw [Try.infoE, List.size_toArray, evl_len _ _ _ hE])) ?_
  simp only [Act.put, List.setIfInBounds_toArray, List.set_cons_zero, List.set_cons_succ, List.getElem_toArray, List.getElem_cons_zero, List.getElem_cons_succ]
  refine list_call 27 #[.agg (evl k a s E).toArray] (by kernel_rfl) (by kernel_rfl) ((qenv_ok k a s (evR_kind hP) ha hs E hE (unhide bE) u4).mono ?_)
  rintro r u5 ⟨v5, rfl, hO, hg⟩
  obtain ⟨a5, c5, rfl, hl5⟩ := ob_lb hO (evB_isB (unhide bE) (evR_kind hP)) (n := 114) (evB_len k a s hE)
  replace hl3 := hide ((unhide hl3).gr hg)
  replace hW := hW.more hg
  clear hg hO
  refine ⟨_, rfl, ?_⟩
  simp only [Act.put, List.setIfInBounds_toArray, List.set_cons_zero, List.set_cons_succ, List.getElem_toArray, List.getElem_cons_zero, List.getElem_cons_succ]
  refine list_call 11 #[.slice a3 114 c3, .slice a5 114 c5] (by kernel_rfl) (by kernel_rfl) ((beq_ok (evB k a s E) (evB k a s E) a3 a5 114 114 c3 c5 u5 (unhide hl3) hl5).mono ?_)
  rintro r z5 ⟨rfl, hg⟩
  rw [decide_eq_true rfl]
  replace hW := hW.more hg
  clear hg hl3 hl5
  refine ⟨_, rfl, ?_⟩
  simp only [Act.put, List.setIfInBounds_toArray, List.set_cons_zero, List.set_cons_succ, List.getElem_toArray, List.getElem_cons_zero, List.getElem_cons_succ]
  refine list_val (.bool false) (by kernel_rfl) (by kernel_rfl) ?_
  simp only [Act.put, List.setIfInBounds_toArray, List.set_cons_zero, List.set_cons_succ, List.getElem_toArray, List.getElem_cons_zero, List.getElem_cons_succ]
  refine list_val (.bool false) (by kernel_rfl) (by kernel_rfl) ?_
  simp only [Act.put, List.setIfInBounds_toArray, List.set_cons_zero, List.set_cons_succ, List.getElem_toArray, List.getElem_cons_zero, List.getElem_cons_succ]
  refine wpList_nil ?_
  replace hW := hide hW
  go_upto_region 10 with fail
  replace hW := unhide hW
  refine wp_region_lit ?_
  refine list_val (.slice (some ⟨p0, q0, none⟩) 114 cap) (by kernel_rfl) (by kernel_rfl) ?_
  simp only [Act.put, List.setIfInBounds_toArray, List.set_cons_zero, List.set_cons_succ, List.getElem_toArray, List.getElem_cons_zero, List.getElem_cons_succ]
  refine list_call 18 #[.slice (some ⟨p0, q0, none⟩) 114 cap] (by kernel_rfl) (by kernel_rfl) ((jroom_ok L (some ⟨p0, q0, none⟩) 114 cap (by omega) z5 ((unhide hl).gr hW.gr)).mono ?_)
  rintro r u6 ⟨go, co, rfl, hc1, hc2, hgo, hat, hg⟩
  rw [hLl] at hc1 ⊢
  have hlo : Lb u6 (some ⟨go, 0, none⟩) 114 co L := by
    have h9 := hat.take 114
    rw [List.take_append_of_le_length (by rw [hLl]; exact Nat.le_refl _), List.take_of_length_le (by rw [hLl]; exact Nat.le_refl _)] at h9
    exact ⟨hLl, unhide hLb, .inr ⟨go, 0, rfl, h9⟩, by omega, hc2⟩
  replace hlo := hide hlo
  have hWg := hide (hW.gr.trans hg)
  replace hl := hide ((unhide hl).gr (unhide hWg))
  clear hW hg hat hc1 hc2 hgo
  have hW := Bl.nil u6
  refine ⟨_, rfl, ?_⟩
  simp only [Act.put, List.setIfInBounds_toArray, List.set_cons_zero, List.set_cons_succ, List.getElem_toArray, List.getElem_cons_zero, List.getElem_cons_succ]
  refine list_call 28 #[.slice (some ⟨go, 0, none⟩) 114 co] (by kernel_rfl) (by kernel_rfl) ((fgete_bad L (some ⟨go, 0, none⟩) co u6 (unhide hlo) hR).mono ?_)
  rintro r u7 ⟨rfl, hg⟩
  replace hW := hW.more hg
  clear hg
  refine ⟨_, rfl, ?_⟩
  simp only [Act.put, List.setIfInBounds_toArray, List.set_cons_zero, List.set_cons_succ, List.getElem_toArray, List.getElem_cons_zero, List.getElem_cons_succ]
  refine list_val (.tuple #[.agg (evl 0 0 0 Z105).toArray, .int .i64 241]) (by kernel_rfl) (by kernel_rfl) ?_
  simp only [Act.put, List.setIfInBounds_toArray, List.set_cons_zero, List.set_cons_succ, List.getElem_toArray, List.getElem_cons_zero, List.getElem_cons_succ]
  refine list_val (.agg (evl 0 0 0 Z105).toArray) (by kernel_rfl) (by kernel_rfl) ?_
  simp only [Act.put, List.setIfInBounds_toArray, List.set_cons_zero, List.set_cons_succ, List.getElem_toArray, List.getElem_cons_zero, List.getElem_cons_succ]
  refine list_val (.int .i64 241) (by kernel_rfl) (by kernel_rfl) ?_
  simp only [Act.put, List.setIfInBounds_toArray, List.set_cons_zero, List.set_cons_succ, List.getElem_toArray, List.getElem_cons_zero, List.getElem_cons_succ]
  refine list_valw (.pointer (some ⟨u7.heap.size, 0, none⟩)) (u7.alloc (.cells (evl 0 0 0 Z105).toArray 55 (0, 0))) (by kernel_rfl) (by kernel_rfl) ?_
  replace hW := hW.new (evl 0 0 0 Z105).toArray 55
  simp only [List.nil_append, List.cons_append] at hW
  generalize World.alloc _ _ = u8 at *
  generalize u7.heap.size = qe at *
  replace hW : Bl u6 [⟨qe, (evl 0 0 0 Z105).toArray, 55⟩] u8 := hW
  simp only [Act.put, List.setIfInBounds_toArray, List.set_cons_zero, List.set_cons_succ, List.getElem_toArray, List.getElem_cons_zero, List.getElem_cons_succ]
  refine list_store 55 (.tmp 7) (.tmp 40) qe (evl 0 0 0 Z105).toArray 55 (evl 0 0 0 Z105).toArray (by kernel_rfl) rfl (by kernel_rfl) (by kernel_rfl) (hW.get 0 (x := ⟨qe, (evl 0 0 0 Z105).toArray, 55⟩) rfl) (by rw [Try.infoE]; rfl) (rfl) (evl_one ..) ?_
  replace hW := hW.set 0 (x := ⟨qe, (evl 0 0 0 Z105).toArray, 55⟩) rfl (evl 0 0 0 Z105).toArray
  simp only [List.set_cons_zero, List.set_cons_succ] at hW
  generalize World.setRow _ _ _ = u9 at *
  replace hW : Bl u6 [⟨qe, (evl 0 0 0 Z105).toArray, 55⟩] u9 := hW
  simp only [Act.put, List.setIfInBounds_toArray, List.set_cons_zero, List.set_cons_succ, List.getElem_toArray, List.getElem_cons_zero, List.getElem_cons_succ]
  (refine wpList_step fun K hK => ?_; replace hK := hide hK; go_simp; refine unhide hK _ _ ?_; clear hK K)
  refine wpList_nil ?_
  replace hW := hide hW
  go_upto_region 11 with fail
  replace hW := unhide hW
  refine wp_region_lit ?_
  refine list_val (.slice (some ⟨p0, q0, none⟩) 114 cap) (by kernel_rfl) (by kernel_rfl) ?_
  simp only [Act.put, List.setIfInBounds_toArray, List.set_cons_zero, List.set_cons_succ, List.getElem_toArray, List.getElem_cons_zero, List.getElem_cons_succ]
  refine list_val (.int .i64 114) (by kernel_rfl) (by kernel_rfl) ?_
  simp only [Act.put, List.setIfInBounds_toArray, List.set_cons_zero, List.set_cons_succ, List.getElem_toArray, List.getElem_cons_zero, List.getElem_cons_succ]
  refine list_val (.bool false) (by kernel_rfl) (by kernel_rfl) ?_
  simp only [Act.put, List.setIfInBounds_toArray, List.set_cons_zero, List.set_cons_succ, List.getElem_toArray, List.getElem_cons_zero, List.getElem_cons_succ]
  refine wpList_nil ?_
  replace hW := hide hW
  go_upto_region 13 with fail
  replace hW := unhide hW
  refine wp_region_lit ?_
  refine list_val (.slice (some ⟨p0, q0, none⟩) 114 cap) (by kernel_rfl) (by kernel_rfl) ?_
  simp only [Act.put, List.setIfInBounds_toArray, List.set_cons_zero, List.set_cons_succ, List.getElem_toArray, List.getElem_cons_zero, List.getElem_cons_succ]
  refine list_call 29 #[.slice (some ⟨p0, q0, none⟩) 114 cap] (by kernel_rfl) (by kernel_rfl) ((qgete_ok L p0 q0 cap u9 ((unhide hl).gr hW.gr)).mono ?_)
  rintro r v1 ⟨rfl, hg⟩
  replace hW := hW.more hg
  clear hg
  refine ⟨_, rfl, ?_⟩
  simp only [Act.put, List.setIfInBounds_toArray, List.set_cons_zero, List.set_cons_succ, List.getElem_toArray, List.getElem_cons_zero, List.getElem_cons_succ]
  refine list_valw (.pointer (some ⟨v1.heap.size, 0, none⟩)) (v1.alloc (.cells (evl 0 0 0 Z105).toArray 55 (0, 0))) (by kernel_rfl) (by kernel_rfl) ?_
  replace hW := hW.new (evl 0 0 0 Z105).toArray 55
  simp only [List.nil_append, List.cons_append] at hW
  generalize World.alloc _ _ = v2 at *
  generalize v1.heap.size = qr at *
  replace hW : Bl u6 [⟨qe, (evl 0 0 0 Z105).toArray, 55⟩, ⟨qr, (evl 0 0 0 Z105).toArray, 55⟩] v2 := hW
  simp only [Act.put, List.setIfInBounds_toArray, List.set_cons_zero, List.set_cons_succ, List.getElem_toArray, List.getElem_cons_zero, List.getElem_cons_succ]
  refine list_store 55 (.tmp 8) (.tmp 53) qr (evO L).toArray 55 (evl 0 0 0 Z105).toArray (by kernel_rfl) rfl (by kernel_rfl) (by kernel_rfl) (hW.get 1 (x := ⟨qr, (evl 0 0 0 Z105).toArray, 55⟩) rfl) (by rw [Try.infoE, List.size_toArray, evO_len hLl]) (by rw [List.size_toArray, List.size_toArray, evO_len hLl]; rfl) (evl_one ..) ?_
  replace hW := hW.set 1 (x := ⟨qr, (evl 0 0 0 Z105).toArray, 55⟩) rfl (evO L).toArray
  simp only [List.set_cons_zero, List.set_cons_succ] at hW
  generalize World.setRow _ _ _ = v3 at *
  replace hW : Bl u6 [⟨qe, (evl 0 0 0 Z105).toArray, 55⟩, ⟨qr, (evO L).toArray, 55⟩] v3 := hW
  simp only [Act.put, List.setIfInBounds_toArray, List.set_cons_zero, List.set_cons_succ, List.getElem_toArray, List.getElem_cons_zero, List.getElem_cons_succ]
  refine wpList_nil ?_
  replace hW := hide hW
  go_upto_region 14 with fail
  replace hW := unhide hW
  refine wp_region_lit ?_
  refine list_val (.agg (evO L).toArray) (by kernel_rfl) (exec_arr _ 55 (.tmp 8) rfl qr (by kernel_rfl) (evO L).toArray 55 _ (hW.get 1 (x := ⟨qr, (evO L).toArray, 55⟩) rfl) Try.underlying55 rfl (by rw [Try.infoE, List.size_toArray, evO_len hLl])) ?_
  simp only [Act.put, List.setIfInBounds_toArray, List.set_cons_zero, List.set_cons_succ, List.getElem_toArray, List.getElem_cons_zero, List.getElem_cons_succ]
  refine list_call 26 #[.agg (evO L).toArray] (by kernel_rfl) (by kernel_rfl) ((show Calls Try.prog 26 #[.agg (evO L).toArray] v3 (Vl (.bool (evRO L)) v3) from qrev_ok _ _ _ _ (sub_len hLl (by omega)) (sub_isB (unhide hLb) _ _) v3).mono ?_)
  rintro r v4 ⟨rfl, hg⟩
  rw [hR]
  replace hW := hW.more hg
  clear hg
  refine ⟨_, rfl, ?_⟩
  simp only [Act.put, List.setIfInBounds_toArray, List.set_cons_zero, List.set_cons_succ, List.getElem_toArray, List.getElem_cons_zero, List.getElem_cons_succ]
  refine list_val (.bool true) (by kernel_rfl) (by kernel_rfl) ?_
  simp only [Act.put, List.setIfInBounds_toArray, List.set_cons_zero, List.set_cons_succ, List.getElem_toArray, List.getElem_cons_zero, List.getElem_cons_succ]
  refine wpList_nil ?_
  replace hW := hide hW
  go_upto_region 15 with fail
  replace hW := unhide hW
  refine wp_region_lit ?_
  refine list_val (.int .i64 241) (by kernel_rfl) (by kernel_rfl) ?_
  simp only [Act.put, List.setIfInBounds_toArray, List.set_cons_zero, List.set_cons_succ, List.getElem_toArray, List.getElem_cons_zero, List.getElem_cons_succ]
  refine list_val (.bool true) (by kernel_rfl) (by kernel_rfl) ?_
  simp only [Act.put, List.setIfInBounds_toArray, List.set_cons_zero, List.set_cons_succ, List.getElem_toArray, List.getElem_cons_zero, List.getElem_cons_succ]
  refine list_val (.bool true) (by kernel_rfl) (by kernel_rfl) ?_
  simp only [Act.put, List.setIfInBounds_toArray, List.set_cons_zero, List.set_cons_succ, List.getElem_toArray, List.getElem_cons_zero, List.getElem_cons_succ]
  refine list_val (.agg (evl 0 0 0 Z105).toArray) (by kernel_rfl) (exec_arr _ 55 (.tmp 7) rfl qe (by kernel_rfl) (evl 0 0 0 Z105).toArray 55 _ (hW.get 0 (x := ⟨qe, (evl 0 0 0 Z105).toArray, 55⟩) rfl) Try.underlying55 rfl (by rw [Try.infoE]; rfl)) ?_
  simp only [Act.put, List.setIfInBounds_toArray, List.set_cons_zero, List.set_cons_succ, List.getElem_toArray, List.getElem_cons_zero, List.getElem_cons_succ]
  refine list_val (.agg (evl 0 0 0 Z105).toArray) (by kernel_rfl) (by kernel_rfl) ?_
  simp only [Act.put, List.setIfInBounds_toArray, List.set_cons_zero, List.set_cons_succ, List.getElem_toArray, List.getElem_cons_zero, List.getElem_cons_succ]
  refine list_val (.bool true) (by kernel_rfl) (exec_eql_e _ (.tmp 60) (.tmp 61) rfl (evl 0 0 0 Z105).toArray (by kernel_rfl) (by kernel_rfl) (eq_evl 0 0 0 (B := Z105) rfl _)) ?_
  simp only [Act.put, List.setIfInBounds_toArray, List.set_cons_zero, List.set_cons_succ, List.getElem_toArray, List.getElem_cons_zero, List.getElem_cons_succ]
  refine list_val (.bool true) (by kernel_rfl) (by kernel_rfl) ?_
  simp only [Act.put, List.setIfInBounds_toArray, List.set_cons_zero, List.set_cons_succ, List.getElem_toArray, List.getElem_cons_zero, List.getElem_cons_succ]
  (refine wpList_step fun K hK => ?_; replace hK := hide hK; go_simp; refine unhide hK _ _ ?_; clear hK K)
  refine wpList_nil ?_
  have hZ : Hid (Woke w (.returned (.bool true)) v4) := ⟨rfl, (unhide hWg).trans hW.gr⟩
  clear hW
  go_wp2_with fail
  rw [unhide hT]
  exact unhide hZ
set_option maxHeartbeats 4000000 in
theorem envelopes_pno (k a s : Int) (ha : U4 a) (hs : U4 s) (E : List Int) (hE : E.length = 105) (bE : IsB E) (l : List Int) (t : Option Addr) (len cap : Nat) (w : World) (lb : Lb w t len cap l) (hP : evR k s E = true) (hN : ¬ min len 1000 = 114) : Calls Try.prog 4 #[.agg (evl k a s E).toArray, .slice t len cap] w (Woke w) := by
  obtain ⟨T, hT⟩ : ∃ T, T = Woke w := ⟨_, rfl⟩
  rw [← hT]
  replace hT := hide hT
  obtain ⟨C0, hC0⟩ : ∃ C, C = (evl k a s E).toArray := ⟨_, rfl⟩
  rw [← hC0]
  replace hC0 := hide hC0
  replace bE := hide bE; replace lb := hide lb
  obtain ⟨n, hn0⟩ : ∃ n, n = min len 1000 := ⟨_, rfl⟩
  rw [← hn0] at hN
  obtain ⟨L, hL0⟩ : ∃ L, L = l.take n := ⟨_, rfl⟩
  have hn9 : n ≤ 1000 := by omega
  have i114 : ¬ (n : Int) = 114 := by omega
  replace hn0 := hide hn0; replace hL0 := hide hL0
  go_enter Try.func4, Try.ntmps4
  go_upto_region 1 with fail
  have hW := ((Bl.nil w).new C0 55)
  simp only [size_alloc, List.nil_append, List.cons_append] at hW
  generalize World.alloc _ _ = u at *
  rw [unhide hC0] at hW
  clear hC0
  replace hW : Bl w [⟨w.heap.size, (evl k a s E).toArray, 55⟩] u := hW
  refine wp_region_lit ?_
  refine list_call 9 #[] (by kernel_rfl) (by kernel_rfl) ((jwakes_ok u).mono ?_)
  rintro r u1 ⟨rfl, hg⟩
  replace hW := hW.more hg
  clear hg
  refine ⟨_, rfl, ?_⟩
  simp only [Act.put, List.setIfInBounds_toArray, List.set_cons_zero, List.set_cons_succ, List.getElem_toArray, List.getElem_cons_zero, List.getElem_cons_succ]
  refine list_val (.bool false) (by kernel_rfl) (by kernel_rfl) ?_
  simp only [Act.put, List.setIfInBounds_toArray, List.set_cons_zero, List.set_cons_succ, List.getElem_toArray, List.getElem_cons_zero, List.getElem_cons_succ]
  refine wpList_nil ?_
  replace hW := hide hW
  go_upto_region 3 with fail
  replace hW := unhide hW
  refine wp_region_lit ?_
  refine list_val (.slice t len cap) (by kernel_rfl) (by kernel_rfl) ?_
  simp only [Act.put, List.setIfInBounds_toArray, List.set_cons_zero, List.set_cons_succ, List.getElem_toArray, List.getElem_cons_zero, List.getElem_cons_succ]
  refine list_call 10 #[.slice t len cap] (by kernel_rfl) (by kernel_rfl) ((jcut_ok l t len cap u1 ((unhide lb).gr hW.gr)).mono ?_)
  rintro r u2 ⟨s1, rfl, hs1, rfl⟩
  have hl := hs1 w (unhide lb)
  rw [← unhide hn0, ← unhide hL0] at hl
  rw [← unhide hn0]
  clear hs1 lb hL0 hn0
  have hLl := hl.len
  have hLb := hide hl.isB
  replace hl := hide hl
  refine ⟨_, rfl, ?_⟩
  simp only [Act.put, List.setIfInBounds_toArray, List.set_cons_zero, List.set_cons_succ, List.getElem_toArray, List.getElem_cons_zero, List.getElem_cons_succ]
  (refine wpList_step fun K hK => ?_; replace hK := hide hK; go_simp; refine unhide hK _ _ ?_; clear hK K)
  refine wpList_nil ?_
  replace hW := hide hW
  go_upto_region 4 with fail
  replace hW := unhide hW
  refine wp_region_lit ?_
  refine list_val (.agg (evl k a s E).toArray) (by kernel_rfl) (exec_arr _ 55 (.tmp 2) rfl (w.heap.size) (by kernel_rfl) (evl k a s E).toArray 55 _ (hW.get 0 (x := ⟨w.heap.size, (evl k a s E).toArray, 55⟩) rfl) Try.underlying55 rfl (by rw [Try.infoE, List.size_toArray, evl_len _ _ _ hE])) ?_
  simp only [Act.put, List.setIfInBounds_toArray, List.set_cons_zero, List.set_cons_succ, List.getElem_toArray, List.getElem_cons_zero, List.getElem_cons_succ]
  refine list_call 25 #[.agg (evl k a s E).toArray] (by kernel_rfl) (by kernel_rfl) ((fpute_ok k a s E hE (unhide bE) ha hs hP u2).mono ?_)
  rintro r u3 ⟨v3, rfl, hO, hg⟩
  obtain ⟨a3, c3, rfl, hl3⟩ := ob_lb hO (evB_isB (unhide bE) (evR_kind hP)) (n := 114) (evB_len k a s hE)
  replace hl3 := hide hl3
  replace hW := hW.more hg
  clear hg hO
  refine ⟨_, rfl, ?_⟩
  simp only [Act.put, List.setIfInBounds_toArray, List.set_cons_zero, List.set_cons_succ, List.getElem_toArray, List.getElem_cons_zero, List.getElem_cons_succ]
  refine list_val (.tuple #[.slice a3 114 c3, .int .i64 0]) (by kernel_rfl) (by kernel_rfl) ?_
  simp only [Act.put, List.setIfInBounds_toArray, List.set_cons_zero, List.set_cons_succ, List.getElem_toArray, List.getElem_cons_zero, List.getElem_cons_succ]
  refine list_val (.slice a3 114 c3) (by kernel_rfl) (by kernel_rfl) ?_
  simp only [Act.put, List.setIfInBounds_toArray, List.set_cons_zero, List.set_cons_succ, List.getElem_toArray, List.getElem_cons_zero, List.getElem_cons_succ]
  refine list_val (.int .i64 0) (by kernel_rfl) (by kernel_rfl) ?_
  simp only [Act.put, List.setIfInBounds_toArray, List.set_cons_zero, List.set_cons_succ, List.getElem_toArray, List.getElem_cons_zero, List.getElem_cons_succ]
  (refine wpList_step fun K hK => ?_; replace hK := hide hK; go_simp; refine unhide hK _ _ ?_; clear hK K)
  (refine wpList_step fun K hK => ?_; replace hK := hide hK; go_simp; refine unhide hK _ _ ?_; clear hK K)
  refine wpList_nil ?_
  replace hW := hide hW
  go_upto_region 5 with fail
  replace hW := unhide hW
  refine wp_region_lit ?_
  refine list_val (.agg (evl k a s E).toArray) (by kernel_rfl) (exec_arr _ 55 (.tmp 2) rfl (w.heap.size) (by kernel_rfl) (evl k a s E).toArray 55 _ (hW.get 0 (x := ⟨w.heap.size, (evl k a s E).toArray, 55⟩) rfl) Try.underlying55 rfl (by rw [Try.infoE, List.size_toArray, evl_len _ _ _ hE])) ?_
  simp only [Act.put, List.setIfInBounds_toArray, List.set_cons_zero, List.set_cons_succ, List.getElem_toArray, List.getElem_cons_zero, List.getElem_cons_succ]
  refine list_call 26 #[.agg (evl k a s E).toArray] (by kernel_rfl) (by kernel_rfl) ((qrev_ok k a s E hE (unhide bE) u3).mono ?_)
  rintro r u4 ⟨rfl, hg⟩
  rw [hP]
  replace hl3 := hide ((unhide hl3).gr hg)
  replace hW := hW.more hg
  clear hg
  refine ⟨_, rfl, ?_⟩
  simp only [Act.put, List.setIfInBounds_toArray, List.set_cons_zero, List.set_cons_succ, List.getElem_toArray, List.getElem_cons_zero, List.getElem_cons_succ]
  refine wpList_nil ?_
  replace hW := hide hW
  go_upto_region 6 with fail
  replace hW := unhide hW
  refine wp_region_lit ?_
  refine list_val (.int .i64 0) (by kernel_rfl) (by kernel_rfl) ?_
  simp only [Act.put, List.setIfInBounds_toArray, List.set_cons_zero, List.set_cons_succ, List.getElem_toArray, List.getElem_cons_zero, List.getElem_cons_succ]
  refine list_val (.bool false) (by kernel_rfl) (by kernel_rfl) ?_
  simp only [Act.put, List.setIfInBounds_toArray, List.set_cons_zero, List.set_cons_succ, List.getElem_toArray, List.getElem_cons_zero, List.getElem_cons_succ]
  refine list_val (.bool false) (by kernel_rfl) (by kernel_rfl) ?_
  simp only [Act.put, List.setIfInBounds_toArray, List.set_cons_zero, List.set_cons_succ, List.getElem_toArray, List.getElem_cons_zero, List.getElem_cons_succ]
  refine list_val (.slice a3 114 c3) (by kernel_rfl) (by kernel_rfl) ?_
  simp only [Act.put, List.setIfInBounds_toArray, List.set_cons_zero, List.set_cons_succ, List.getElem_toArray, List.getElem_cons_zero, List.getElem_cons_succ]
  refine list_val (.agg (evl k a s E).toArray) (by kernel_rfl) (exec_arr _ 55 (.tmp 2) rfl (w.heap.size) (by kernel_rfl) (evl k a s E).toArray 55 _ (hW.get 0 (x := ⟨w.heap.size, (evl k a s E).toArray, 55⟩) rfl) Try.underlying55 rfl (by rw [Try.infoE, List.size_toArray, evl_len _ _ _ hE])) ?_
  simp only [Act.put, List.setIfInBounds_toArray, List.set_cons_zero, List.set_cons_succ, List.getElem_toArray, List.getElem_cons_zero, List.getElem_cons_succ]
  refine list_call 27 #[.agg (evl k a s E).toArray] (by kernel_rfl) (by kernel_rfl) ((qenv_ok k a s (evR_kind hP) ha hs E hE (unhide bE) u4).mono ?_)
  rintro r u5 ⟨v5, rfl, hO, hg⟩
  obtain ⟨a5, c5, rfl, hl5⟩ := ob_lb hO (evB_isB (unhide bE) (evR_kind hP)) (n := 114) (evB_len k a s hE)
  replace hl3 := hide ((unhide hl3).gr hg)
  replace hW := hW.more hg
  clear hg hO
  refine ⟨_, rfl, ?_⟩
  simp only [Act.put, List.setIfInBounds_toArray, List.set_cons_zero, List.set_cons_succ, List.getElem_toArray, List.getElem_cons_zero, List.getElem_cons_succ]
  refine list_call 11 #[.slice a3 114 c3, .slice a5 114 c5] (by kernel_rfl) (by kernel_rfl) ((beq_ok (evB k a s E) (evB k a s E) a3 a5 114 114 c3 c5 u5 (unhide hl3) hl5).mono ?_)
  rintro r z5 ⟨rfl, hg⟩
  rw [decide_eq_true rfl]
  replace hW := hW.more hg
  clear hg hl3 hl5
  refine ⟨_, rfl, ?_⟩
  simp only [Act.put, List.setIfInBounds_toArray, List.set_cons_zero, List.set_cons_succ, List.getElem_toArray, List.getElem_cons_zero, List.getElem_cons_succ]
  refine list_val (.bool false) (by kernel_rfl) (by kernel_rfl) ?_
  simp only [Act.put, List.setIfInBounds_toArray, List.set_cons_zero, List.set_cons_succ, List.getElem_toArray, List.getElem_cons_zero, List.getElem_cons_succ]
  refine list_val (.bool false) (by kernel_rfl) (by kernel_rfl) ?_
  simp only [Act.put, List.setIfInBounds_toArray, List.set_cons_zero, List.set_cons_succ, List.getElem_toArray, List.getElem_cons_zero, List.getElem_cons_succ]
  refine wpList_nil ?_
  replace hW := hide hW
  go_upto_region 10 with fail
  replace hW := unhide hW
  refine wp_region_lit ?_
  refine list_val (.slice s1 n cap) (by kernel_rfl) (by kernel_rfl) ?_
  simp only [Act.put, List.setIfInBounds_toArray, List.set_cons_zero, List.set_cons_succ, List.getElem_toArray, List.getElem_cons_zero, List.getElem_cons_succ]
  refine list_call 18 #[.slice s1 n cap] (by kernel_rfl) (by kernel_rfl) ((jroom_ok L s1 n cap (by omega) z5 ((unhide hl).gr hW.gr)).mono ?_)
  rintro r u6 ⟨go, co, rfl, hc1, hc2, hgo, hat, hg⟩
  rw [hLl] at hc1 ⊢
  have hlo : Lb u6 (some ⟨go, 0, none⟩) n co L := by
    have h9 := hat.take n
    rw [List.take_append_of_le_length (by rw [hLl]; exact Nat.le_refl _), List.take_of_length_le (by rw [hLl]; exact Nat.le_refl _)] at h9
    exact ⟨hLl, unhide hLb, .inr ⟨go, 0, rfl, h9⟩, by omega, hc2⟩
  replace hlo := hide hlo
  have hWg := hide (hW.gr.trans hg)
  replace hl := hide ((unhide hl).gr (unhide hWg))
  clear hW hg hat hc1 hc2 hgo
  have hW := Bl.nil u6
  refine ⟨_, rfl, ?_⟩
  simp only [Act.put, List.setIfInBounds_toArray, List.set_cons_zero, List.set_cons_succ, List.getElem_toArray, List.getElem_cons_zero, List.getElem_cons_succ]
  refine list_call 28 #[.slice (some ⟨go, 0, none⟩) n co] (by kernel_rfl) (by kernel_rfl) ((fgete_no (some ⟨go, 0, none⟩) n co hN u6).mono ?_)
  rintro r u7 ⟨rfl, hg⟩
  replace hW := hW.more hg
  clear hg
  refine ⟨_, rfl, ?_⟩
  simp only [Act.put, List.setIfInBounds_toArray, List.set_cons_zero, List.set_cons_succ, List.getElem_toArray, List.getElem_cons_zero, List.getElem_cons_succ]
  refine list_val (.tuple #[.agg (evl 0 0 0 Z105).toArray, .int .i64 240]) (by kernel_rfl) (by kernel_rfl) ?_
  simp only [Act.put, List.setIfInBounds_toArray, List.set_cons_zero, List.set_cons_succ, List.getElem_toArray, List.getElem_cons_zero, List.getElem_cons_succ]
  refine list_val (.agg (evl 0 0 0 Z105).toArray) (by kernel_rfl) (by kernel_rfl) ?_
  simp only [Act.put, List.setIfInBounds_toArray, List.set_cons_zero, List.set_cons_succ, List.getElem_toArray, List.getElem_cons_zero, List.getElem_cons_succ]
  refine list_val (.int .i64 240) (by kernel_rfl) (by kernel_rfl) ?_
  simp only [Act.put, List.setIfInBounds_toArray, List.set_cons_zero, List.set_cons_succ, List.getElem_toArray, List.getElem_cons_zero, List.getElem_cons_succ]
  refine list_valw (.pointer (some ⟨u7.heap.size, 0, none⟩)) (u7.alloc (.cells (evl 0 0 0 Z105).toArray 55 (0, 0))) (by kernel_rfl) (by kernel_rfl) ?_
  replace hW := hW.new (evl 0 0 0 Z105).toArray 55
  simp only [List.nil_append, List.cons_append] at hW
  generalize World.alloc _ _ = u8 at *
  generalize u7.heap.size = qe at *
  replace hW : Bl u6 [⟨qe, (evl 0 0 0 Z105).toArray, 55⟩] u8 := hW
  simp only [Act.put, List.setIfInBounds_toArray, List.set_cons_zero, List.set_cons_succ, List.getElem_toArray, List.getElem_cons_zero, List.getElem_cons_succ]
  refine list_store 55 (.tmp 7) (.tmp 40) qe (evl 0 0 0 Z105).toArray 55 (evl 0 0 0 Z105).toArray (by kernel_rfl) rfl (by kernel_rfl) (by kernel_rfl) (hW.get 0 (x := ⟨qe, (evl 0 0 0 Z105).toArray, 55⟩) rfl) (by rw [Try.infoE]; rfl) (rfl) (evl_one ..) ?_
  replace hW := hW.set 0 (x := ⟨qe, (evl 0 0 0 Z105).toArray, 55⟩) rfl (evl 0 0 0 Z105).toArray
  simp only [List.set_cons_zero, List.set_cons_succ] at hW
  generalize World.setRow _ _ _ = u9 at *
  replace hW : Bl u6 [⟨qe, (evl 0 0 0 Z105).toArray, 55⟩] u9 := hW
  simp only [Act.put, List.setIfInBounds_toArray, List.set_cons_zero, List.set_cons_succ, List.getElem_toArray, List.getElem_cons_zero, List.getElem_cons_succ]
  (refine wpList_step fun K hK => ?_; replace hK := hide hK; go_simp; refine unhide hK _ _ ?_; clear hK K)
  refine wpList_nil ?_
  replace hW := hide hW
  go_upto_region 11 with fail
  replace hW := unhide hW
  refine wp_region_lit ?_
  refine list_val (.slice s1 n cap) (by kernel_rfl) (by kernel_rfl) ?_
  simp only [Act.put, List.setIfInBounds_toArray, List.set_cons_zero, List.set_cons_succ, List.getElem_toArray, List.getElem_cons_zero, List.getElem_cons_succ]
  refine list_val (.int .i64 n) (by kernel_rfl) (by kernel_rfl) ?_
  simp only [Act.put, List.setIfInBounds_toArray, List.set_cons_zero, List.set_cons_succ, List.getElem_toArray, List.getElem_cons_zero, List.getElem_cons_succ]
  refine list_val (.bool true) (by kernel_rfl) (by go_simp) ?_
  simp only [Act.put, List.setIfInBounds_toArray, List.set_cons_zero, List.set_cons_succ, List.getElem_toArray, List.getElem_cons_zero, List.getElem_cons_succ]
  refine wpList_nil ?_
  replace hW := hide hW
  go_upto_region 12 with fail
  replace hW := unhide hW
  refine wp_region_lit ?_
  refine list_val (.int .i64 240) (by kernel_rfl) (by kernel_rfl) ?_
  simp only [Act.put, List.setIfInBounds_toArray, List.set_cons_zero, List.set_cons_succ, List.getElem_toArray, List.getElem_cons_zero, List.getElem_cons_succ]
  refine list_val (.bool true) (by kernel_rfl) (by kernel_rfl) ?_
  simp only [Act.put, List.setIfInBounds_toArray, List.set_cons_zero, List.set_cons_succ, List.getElem_toArray, List.getElem_cons_zero, List.getElem_cons_succ]
  refine list_val (.bool true) (by kernel_rfl) (by kernel_rfl) ?_
  simp only [Act.put, List.setIfInBounds_toArray, List.set_cons_zero, List.set_cons_succ, List.getElem_toArray, List.getElem_cons_zero, List.getElem_cons_succ]
  refine list_val (.agg (evl 0 0 0 Z105).toArray) (by kernel_rfl) (exec_arr _ 55 (.tmp 7) rfl qe (by kernel_rfl) (evl 0 0 0 Z105).toArray 55 _ (hW.get 0 (x := ⟨qe, (evl 0 0 0 Z105).toArray, 55⟩) rfl) Try.underlying55 rfl (by rw [Try.infoE]; rfl)) ?_
  simp only [Act.put, List.setIfInBounds_toArray, List.set_cons_zero, List.set_cons_succ, List.getElem_toArray, List.getElem_cons_zero, List.getElem_cons_succ]
  refine list_val (.agg (evl 0 0 0 Z105).toArray) (by kernel_rfl) (by kernel_rfl) ?_
  simp only [Act.put, List.setIfInBounds_toArray, List.set_cons_zero, List.set_cons_succ, List.getElem_toArray, List.getElem_cons_zero, List.getElem_cons_succ]
  refine list_val (.bool true) (by kernel_rfl) (exec_eql_e _ (.tmp 48) (.tmp 49) rfl (evl 0 0 0 Z105).toArray (by kernel_rfl) (by kernel_rfl) (eq_evl 0 0 0 (B := Z105) rfl _)) ?_
  simp only [Act.put, List.setIfInBounds_toArray, List.set_cons_zero, List.set_cons_succ, List.getElem_toArray, List.getElem_cons_zero, List.getElem_cons_succ]
  refine list_val (.bool true) (by kernel_rfl) (by kernel_rfl) ?_
  simp only [Act.put, List.setIfInBounds_toArray, List.set_cons_zero, List.set_cons_succ, List.getElem_toArray, List.getElem_cons_zero, List.getElem_cons_succ]
  (refine wpList_step fun K hK => ?_; replace hK := hide hK; go_simp; refine unhide hK _ _ ?_; clear hK K)
  refine wpList_nil ?_
  have hZ : Hid (Woke w (.returned (.bool true)) u9) := ⟨rfl, (unhide hWg).trans hW.gr⟩
  clear hW
  go_wp2_with fail
  rw [unhide hT]
  exact unhide hZ
set_option maxHeartbeats 4000000 in
theorem envelopes_nok (k a s : Int) (ha : U4 a) (hs : U4 s) (E : List Int) (hE : E.length = 105) (bE : IsB E) (l : List Int) (t : Option Addr) (len cap : Nat) (w : World) (lb : Lb w t len cap l) (hP : evR k s E = false) (hN : min len 1000 = 114) (hR : evRO (l.take (min len 1000)) = true) : Calls Try.prog 4 #[.agg (evl k a s E).toArray, .slice t len cap] w (Woke w) := by
  obtain ⟨T, hT⟩ : ∃ T, T = Woke w := ⟨_, rfl⟩
  rw [← hT]
  replace hT := hide hT
  obtain ⟨C0, hC0⟩ : ∃ C, C = (evl k a s E).toArray := ⟨_, rfl⟩
  rw [← hC0]
  replace hC0 := hide hC0
  replace bE := hide bE; replace lb := hide lb
  obtain ⟨n, hn0⟩ : ∃ n, n = min len 1000 := ⟨_, rfl⟩
  rw [← hn0] at hN hR
  obtain ⟨L, hL0⟩ : ∃ L, L = l.take n := ⟨_, rfl⟩
  rw [← hL0] at hR
  have hn9 : n ≤ 1000 := by omega
  obtain rfl : n = 114 := hN
  replace hn0 := hide hn0; replace hL0 := hide hL0
  go_enter Try.func4, Try.ntmps4
  go_upto_region 1 with fail
  have hW := ((Bl.nil w).new C0 55)
  simp only [size_alloc, List.nil_append, List.cons_append] at hW
  generalize World.alloc _ _ = u at *
  rw [unhide hC0] at hW
  clear hC0
  replace hW : Bl w [⟨w.heap.size, (evl k a s E).toArray, 55⟩] u := hW
  refine wp_region_lit ?_
  refine list_call 9 #[] (by kernel_rfl) (by kernel_rfl) ((jwakes_ok u).mono ?_)
  rintro r u1 ⟨rfl, hg⟩
  replace hW := hW.more hg
  clear hg
  refine ⟨_, rfl, ?_⟩
  simp only [Act.put, List.setIfInBounds_toArray, List.set_cons_zero, List.set_cons_succ, List.getElem_toArray, List.getElem_cons_zero, List.getElem_cons_succ]
  refine list_val (.bool false) (by kernel_rfl) (by kernel_rfl) ?_
  simp only [Act.put, List.setIfInBounds_toArray, List.set_cons_zero, List.set_cons_succ, List.getElem_toArray, List.getElem_cons_zero, List.getElem_cons_succ]
  refine wpList_nil ?_
  replace hW := hide hW
  go_upto_region 3 with fail
  replace hW := unhide hW
  refine wp_region_lit ?_
  refine list_val (.slice t len cap) (by kernel_rfl) (by kernel_rfl) ?_
  simp only [Act.put, List.setIfInBounds_toArray, List.set_cons_zero, List.set_cons_succ, List.getElem_toArray, List.getElem_cons_zero, List.getElem_cons_succ]
  refine list_call 10 #[.slice t len cap] (by kernel_rfl) (by kernel_rfl) ((jcut_ok l t len cap u1 ((unhide lb).gr hW.gr)).mono ?_)
  rintro r u2 ⟨s1, rfl, hs1, rfl⟩
  have hl := hs1 w (unhide lb)
  rw [← unhide hn0, ← unhide hL0] at hl
  rw [← unhide hn0]
  clear hs1 lb hL0 hn0
  have hLl := hl.len
  have hLb := hide hl.isB
  obtain ⟨p0, q0, rfl, hl⟩ := hl.some (by omega)
  replace hl := hide hl
  refine ⟨_, rfl, ?_⟩
  simp only [Act.put, List.setIfInBounds_toArray, List.set_cons_zero, List.set_cons_succ, List.getElem_toArray, List.getElem_cons_zero, List.getElem_cons_succ]
  (refine wpList_step fun K hK => ?_; replace hK := hide hK; go_simp; refine unhide hK _ _ ?_; clear hK K)
  refine wpList_nil ?_
  replace hW := hide hW
  go_upto_region 4 with fail
  replace hW := unhide hW
  refine wp_region_lit ?_
  refine list_val (.agg (evl k a s E).toArray) (by kernel_rfl) (exec_arr _ 55 (.tmp 2) rfl (w.heap.size) (by kernel_rfl) (evl k a s E).toArray 55 _ (hW.get 0 (x := ⟨w.heap.size, (evl k a s E).toArray, 55⟩) rfl) Try.underlying55 rfl (by rw [Try.infoE, List.size_toArray, evl_len _ _ _ hE])) ?_
  simp only [Act.put, List.setIfInBounds_toArray, List.set_cons_zero, List.set_cons_succ, List.getElem_toArray, List.getElem_cons_zero, List.getElem_cons_succ]
  refine list_call 25 #[.agg (evl k a s E).toArray] (by kernel_rfl) (by kernel_rfl) ((fpute_no k a s E hE (unhide bE) ha hs hP u2).mono ?_)
  rintro r u3 ⟨rfl, hg⟩
  replace hW := hW.more hg
  clear hg
  refine ⟨_, rfl, ?_⟩
  simp only [Act.put, List.setIfInBounds_toArray, List.set_cons_zero, List.set_cons_succ, List.getElem_toArray, List.getElem_cons_zero, List.getElem_cons_succ]
  refine list_val (.tuple #[.slice none 0 0, .int .i64 241]) (by kernel_rfl) (by kernel_rfl) ?_
  simp only [Act.put, List.setIfInBounds_toArray, List.set_cons_zero, List.set_cons_succ, List.getElem_toArray, List.getElem_cons_zero, List.getElem_cons_succ]
  refine list_val (.slice none 0 0) (by kernel_rfl) (by kernel_rfl) ?_
  simp only [Act.put, List.setIfInBounds_toArray, List.set_cons_zero, List.set_cons_succ, List.getElem_toArray, List.getElem_cons_zero, List.getElem_cons_succ]
  refine list_val (.int .i64 241) (by kernel_rfl) (by kernel_rfl) ?_
  simp only [Act.put, List.setIfInBounds_toArray, List.set_cons_zero, List.set_cons_succ, List.getElem_toArray, List.getElem_cons_zero, List.getElem_cons_succ]
  (refine wpList_step fun K hK => ?_; replace hK := hide hK; go_simp; refine unhide hK _ _ ?_; clear hK K)
  (refine wpList_step fun K hK => ?_; replace hK := hide hK; go_simp; refine unhide hK _ _ ?_; clear hK K)
  refine wpList_nil ?_
  replace hW := hide hW
  go_upto_region 5 with fail
  replace hW := unhide hW
  refine wp_region_lit ?_
  refine list_val (.agg (evl k a s E).toArray) (by kernel_rfl) (exec_arr _ 55 (.tmp 2) rfl (w.heap.size) (by kernel_rfl) (evl k a s E).toArray 55 _ (hW.get 0 (x := ⟨w.heap.size, (evl k a s E).toArray, 55⟩) rfl) Try.underlying55 rfl (by rw [Try.infoE, List.size_toArray, evl_len _ _ _ hE])) ?_
  simp only [Act.put, List.setIfInBounds_toArray, List.set_cons_zero, List.set_cons_succ, List.getElem_toArray, List.getElem_cons_zero, List.getElem_cons_succ]
  refine list_call 26 #[.agg (evl k a s E).toArray] (by kernel_rfl) (by kernel_rfl) ((qrev_ok k a s E hE (unhide bE) u3).mono ?_)
  rintro r u4 ⟨rfl, hg⟩
  rw [hP]
  replace hW := hW.more hg
  clear hg
  refine ⟨_, rfl, ?_⟩
  simp only [Act.put, List.setIfInBounds_toArray, List.set_cons_zero, List.set_cons_succ, List.getElem_toArray, List.getElem_cons_zero, List.getElem_cons_succ]
  refine wpList_nil ?_
  replace hW := hide hW
  go_upto_region 8 with fail
  replace hW := unhide hW
  refine wp_region_lit ?_
  refine list_val (.int .i64 241) (by kernel_rfl) (by kernel_rfl) ?_
  simp only [Act.put, List.setIfInBounds_toArray, List.set_cons_zero, List.set_cons_succ, List.getElem_toArray, List.getElem_cons_zero, List.getElem_cons_succ]
  refine list_val (.bool false) (by kernel_rfl) (by kernel_rfl) ?_
  simp only [Act.put, List.setIfInBounds_toArray, List.set_cons_zero, List.set_cons_succ, List.getElem_toArray, List.getElem_cons_zero, List.getElem_cons_succ]
  refine list_val (.bool false) (by kernel_rfl) (by kernel_rfl) ?_
  simp only [Act.put, List.setIfInBounds_toArray, List.set_cons_zero, List.set_cons_succ, List.getElem_toArray, List.getElem_cons_zero, List.getElem_cons_succ]
  refine list_val (.slice none 0 0) (by kernel_rfl) (by kernel_rfl) ?_
  simp only [Act.put, List.setIfInBounds_toArray, List.set_cons_zero, List.set_cons_succ, List.getElem_toArray, List.getElem_cons_zero, List.getElem_cons_succ]
  refine list_val (.int .i64 0) (by kernel_rfl) (by kernel_rfl) ?_
  simp only [Act.put, List.setIfInBounds_toArray, List.set_cons_zero, List.set_cons_succ, List.getElem_toArray, List.getElem_cons_zero, List.getElem_cons_succ]
  refine list_val (.bool false) (by kernel_rfl) (by kernel_rfl) ?_
  simp only [Act.put, List.setIfInBounds_toArray, List.set_cons_zero, List.set_cons_succ, List.getElem_toArray, List.getElem_cons_zero, List.getElem_cons_succ]
  refine list_val (.bool false) (by kernel_rfl) (by kernel_rfl) ?_
  simp only [Act.put, List.setIfInBounds_toArray, List.set_cons_zero, List.set_cons_succ, List.getElem_toArray, List.getElem_cons_zero, List.getElem_cons_succ]
  refine wpList_nil ?_
  replace hW := hide hW
  go_upto_region 10 with fail
  replace hW := unhide hW
  refine wp_region_lit ?_
  refine list_val (.slice (some ⟨p0, q0, none⟩) 114 cap) (by kernel_rfl) (by kernel_rfl) ?_
  simp only [Act.put, List.setIfInBounds_toArray, List.set_cons_zero, List.set_cons_succ, List.getElem_toArray, List.getElem_cons_zero, List.getElem_cons_succ]
  refine list_call 18 #[.slice (some ⟨p0, q0, none⟩) 114 cap] (by kernel_rfl) (by kernel_rfl) ((jroom_ok L (some ⟨p0, q0, none⟩) 114 cap (by omega) u4 ((unhide hl).gr hW.gr)).mono ?_)
  rintro r u6 ⟨go, co, rfl, hc1, hc2, hgo, hat, hg⟩
  rw [hLl] at hc1 ⊢
  have hlo : Lb u6 (some ⟨go, 0, none⟩) 114 co L := by
    have h9 := hat.take 114
    rw [List.take_append_of_le_length (by rw [hLl]; exact Nat.le_refl _), List.take_of_length_le (by rw [hLl]; exact Nat.le_refl _)] at h9
    exact ⟨hLl, unhide hLb, .inr ⟨go, 0, rfl, h9⟩, by omega, hc2⟩
  replace hlo := hide hlo
  have hWg := hide (hW.gr.trans hg)
  replace hl := hide ((unhide hl).gr (unhide hWg))
  clear hW hg hat hc1 hc2 hgo
  have hW := Bl.nil u6
  refine ⟨_, rfl, ?_⟩
  simp only [Act.put, List.setIfInBounds_toArray, List.set_cons_zero, List.set_cons_succ, List.getElem_toArray, List.getElem_cons_zero, List.getElem_cons_succ]
  refine list_call 28 #[.slice (some ⟨go, 0, none⟩) 114 co] (by kernel_rfl) (by kernel_rfl) ((fgete_ok L (some ⟨go, 0, none⟩) co u6 (unhide hlo) hR).mono ?_)
  rintro r u7 ⟨rfl, hg⟩
  replace hW := hW.more hg
  clear hg
  refine ⟨_, rfl, ?_⟩
  simp only [Act.put, List.setIfInBounds_toArray, List.set_cons_zero, List.set_cons_succ, List.getElem_toArray, List.getElem_cons_zero, List.getElem_cons_succ]
  refine list_val (.tuple #[.agg (evO L).toArray, .int .i64 0]) (by kernel_rfl) (by kernel_rfl) ?_
  simp only [Act.put, List.setIfInBounds_toArray, List.set_cons_zero, List.set_cons_succ, List.getElem_toArray, List.getElem_cons_zero, List.getElem_cons_succ]
  refine list_val (.agg (evO L).toArray) (by kernel_rfl) (by kernel_rfl) ?_
  simp only [Act.put, List.setIfInBounds_toArray, List.set_cons_zero, List.set_cons_succ, List.getElem_toArray, List.getElem_cons_zero, List.getElem_cons_succ]
  refine list_val (.int .i64 0) (by kernel_rfl) (by kernel_rfl) ?_
  simp only [Act.put, List.setIfInBounds_toArray, List.set_cons_zero, List.set_cons_succ, List.getElem_toArray, List.getElem_cons_zero, List.getElem_cons_succ]
  refine list_valw (.pointer (some ⟨u7.heap.size, 0, none⟩)) (u7.alloc (.cells (evl 0 0 0 Z105).toArray 55 (0, 0))) (by kernel_rfl) (by kernel_rfl) ?_
  replace hW := hW.new (evl 0 0 0 Z105).toArray 55
  simp only [List.nil_append, List.cons_append] at hW
  generalize World.alloc _ _ = u8 at *
  generalize u7.heap.size = qe at *
  replace hW : Bl u6 [⟨qe, (evl 0 0 0 Z105).toArray, 55⟩] u8 := hW
  simp only [Act.put, List.setIfInBounds_toArray, List.set_cons_zero, List.set_cons_succ, List.getElem_toArray, List.getElem_cons_zero, List.getElem_cons_succ]
  refine list_store 55 (.tmp 7) (.tmp 40) qe (evO L).toArray 55 (evl 0 0 0 Z105).toArray (by kernel_rfl) rfl (by kernel_rfl) (by kernel_rfl) (hW.get 0 (x := ⟨qe, (evl 0 0 0 Z105).toArray, 55⟩) rfl) (by rw [Try.infoE, List.size_toArray, evO_len hLl]) (by rw [List.size_toArray, List.size_toArray, evO_len hLl]; rfl) (evl_one ..) ?_
  replace hW := hW.set 0 (x := ⟨qe, (evl 0 0 0 Z105).toArray, 55⟩) rfl (evO L).toArray
  simp only [List.set_cons_zero, List.set_cons_succ] at hW
  generalize World.setRow _ _ _ = u9 at *
  replace hW : Bl u6 [⟨qe, (evO L).toArray, 55⟩] u9 := hW
  simp only [Act.put, List.setIfInBounds_toArray, List.set_cons_zero, List.set_cons_succ, List.getElem_toArray, List.getElem_cons_zero, List.getElem_cons_succ]
  (refine wpList_step fun K hK => ?_; replace hK := hide hK; go_simp; refine unhide hK _ _ ?_; clear hK K)
  refine wpList_nil ?_
  replace hW := hide hW
  go_upto_region 11 with fail
  replace hW := unhide hW
  refine wp_region_lit ?_
  refine list_val (.slice (some ⟨p0, q0, none⟩) 114 cap) (by kernel_rfl) (by kernel_rfl) ?_
  simp only [Act.put, List.setIfInBounds_toArray, List.set_cons_zero, List.set_cons_succ, List.getElem_toArray, List.getElem_cons_zero, List.getElem_cons_succ]
  refine list_val (.int .i64 114) (by kernel_rfl) (by kernel_rfl) ?_
  simp only [Act.put, List.setIfInBounds_toArray, List.set_cons_zero, List.set_cons_succ, List.getElem_toArray, List.getElem_cons_zero, List.getElem_cons_succ]
  refine list_val (.bool false) (by kernel_rfl) (by kernel_rfl) ?_
  simp only [Act.put, List.setIfInBounds_toArray, List.set_cons_zero, List.set_cons_succ, List.getElem_toArray, List.getElem_cons_zero, List.getElem_cons_succ]
  refine wpList_nil ?_
  replace hW := hide hW
  go_upto_region 13 with fail
  replace hW := unhide hW
  refine wp_region_lit ?_
  refine list_val (.slice (some ⟨p0, q0, none⟩) 114 cap) (by kernel_rfl) (by kernel_rfl) ?_
  simp only [Act.put, List.setIfInBounds_toArray, List.set_cons_zero, List.set_cons_succ, List.getElem_toArray, List.getElem_cons_zero, List.getElem_cons_succ]
  refine list_call 29 #[.slice (some ⟨p0, q0, none⟩) 114 cap] (by kernel_rfl) (by kernel_rfl) ((qgete_ok L p0 q0 cap u9 ((unhide hl).gr hW.gr)).mono ?_)
  rintro r v1 ⟨rfl, hg⟩
  replace hW := hW.more hg
  clear hg
  refine ⟨_, rfl, ?_⟩
  simp only [Act.put, List.setIfInBounds_toArray, List.set_cons_zero, List.set_cons_succ, List.getElem_toArray, List.getElem_cons_zero, List.getElem_cons_succ]
  refine list_valw (.pointer (some ⟨v1.heap.size, 0, none⟩)) (v1.alloc (.cells (evl 0 0 0 Z105).toArray 55 (0, 0))) (by kernel_rfl) (by kernel_rfl) ?_
  replace hW := hW.new (evl 0 0 0 Z105).toArray 55
  simp only [List.nil_append, List.cons_append] at hW
  generalize World.alloc _ _ = v2 at *
  generalize v1.heap.size = qr at *
  replace hW : Bl u6 [⟨qe, (evO L).toArray, 55⟩, ⟨qr, (evl 0 0 0 Z105).toArray, 55⟩] v2 := hW
  simp only [Act.put, List.setIfInBounds_toArray, List.set_cons_zero, List.set_cons_succ, List.getElem_toArray, List.getElem_cons_zero, List.getElem_cons_succ]
  refine list_store 55 (.tmp 8) (.tmp 53) qr (evO L).toArray 55 (evl 0 0 0 Z105).toArray (by kernel_rfl) rfl (by kernel_rfl) (by kernel_rfl) (hW.get 1 (x := ⟨qr, (evl 0 0 0 Z105).toArray, 55⟩) rfl) (by rw [Try.infoE, List.size_toArray, evO_len hLl]) (by rw [List.size_toArray, List.size_toArray, evO_len hLl]; rfl) (evl_one ..) ?_
  replace hW := hW.set 1 (x := ⟨qr, (evl 0 0 0 Z105).toArray, 55⟩) rfl (evO L).toArray
  simp only [List.set_cons_zero, List.set_cons_succ] at hW
  generalize World.setRow _ _ _ = v3 at *
  replace hW : Bl u6 [⟨qe, (evO L).toArray, 55⟩, ⟨qr, (evO L).toArray, 55⟩] v3 := hW
  simp only [Act.put, List.setIfInBounds_toArray, List.set_cons_zero, List.set_cons_succ, List.getElem_toArray, List.getElem_cons_zero, List.getElem_cons_succ]
  refine wpList_nil ?_
  replace hW := hide hW
  go_upto_region 14 with fail
  replace hW := unhide hW
  refine wp_region_lit ?_
  refine list_val (.agg (evO L).toArray) (by kernel_rfl) (exec_arr _ 55 (.tmp 8) rfl qr (by kernel_rfl) (evO L).toArray 55 _ (hW.get 1 (x := ⟨qr, (evO L).toArray, 55⟩) rfl) Try.underlying55 rfl (by rw [Try.infoE, List.size_toArray, evO_len hLl])) ?_
  simp only [Act.put, List.setIfInBounds_toArray, List.set_cons_zero, List.set_cons_succ, List.getElem_toArray, List.getElem_cons_zero, List.getElem_cons_succ]
  refine list_call 26 #[.agg (evO L).toArray] (by kernel_rfl) (by kernel_rfl) ((show Calls Try.prog 26 #[.agg (evO L).toArray] v3 (Vl (.bool (evRO L)) v3) from qrev_ok _ _ _ _ (sub_len hLl (by omega)) (sub_isB (unhide hLb) _ _) v3).mono ?_)
  rintro r v4 ⟨rfl, hg⟩
  rw [hR]
  replace hW := hW.more hg
  clear hg
  refine ⟨_, rfl, ?_⟩
  simp only [Act.put, List.setIfInBounds_toArray, List.set_cons_zero, List.set_cons_succ, List.getElem_toArray, List.getElem_cons_zero, List.getElem_cons_succ]
  refine list_val (.bool false) (by kernel_rfl) (by kernel_rfl) ?_
  simp only [Act.put, List.setIfInBounds_toArray, List.set_cons_zero, List.set_cons_succ, List.getElem_toArray, List.getElem_cons_zero, List.getElem_cons_succ]
  refine wpList_nil ?_
  replace hW := hide hW
  go_upto_region 16 with fail
  replace hW := unhide hW
  refine wp_region_lit ?_
  refine list_val (.int .i64 0) (by kernel_rfl) (by kernel_rfl) ?_
  simp only [Act.put, List.setIfInBounds_toArray, List.set_cons_zero, List.set_cons_succ, List.getElem_toArray, List.getElem_cons_zero, List.getElem_cons_succ]
  refine list_val (.bool true) (by kernel_rfl) (by kernel_rfl) ?_
  simp only [Act.put, List.setIfInBounds_toArray, List.set_cons_zero, List.set_cons_succ, List.getElem_toArray, List.getElem_cons_zero, List.getElem_cons_succ]
  refine list_val (.bool true) (by kernel_rfl) (by kernel_rfl) ?_
  simp only [Act.put, List.setIfInBounds_toArray, List.set_cons_zero, List.set_cons_succ, List.getElem_toArray, List.getElem_cons_zero, List.getElem_cons_succ]
  refine list_val (.agg (evO L).toArray) (by kernel_rfl) (exec_arr _ 55 (.tmp 7) rfl qe (by kernel_rfl) (evO L).toArray 55 _ (hW.get 0 (x := ⟨qe, (evO L).toArray, 55⟩) rfl) Try.underlying55 rfl (by rw [Try.infoE, List.size_toArray, evO_len hLl])) ?_
  simp only [Act.put, List.setIfInBounds_toArray, List.set_cons_zero, List.set_cons_succ, List.getElem_toArray, List.getElem_cons_zero, List.getElem_cons_succ]
  refine list_val (.agg (evO L).toArray) (by kernel_rfl) (exec_arr _ 55 (.tmp 8) rfl qr (by kernel_rfl) (evO L).toArray 55 _ (hW.get 1 (x := ⟨qr, (evO L).toArray, 55⟩) rfl) Try.underlying55 rfl (by rw [Try.infoE, List.size_toArray, evO_len hLl])) ?_
  simp only [Act.put, List.setIfInBounds_toArray, List.set_cons_zero, List.set_cons_succ, List.getElem_toArray, List.getElem_cons_zero, List.getElem_cons_succ]
  refine list_val (.bool true) (by kernel_rfl) (exec_eql_e _ (.tmp 67) (.tmp 68) rfl (evO L).toArray (by kernel_rfl) (by kernel_rfl) (eq_evl _ _ _ (sub_len hLl (by omega)) _)) ?_
  simp only [Act.put, List.setIfInBounds_toArray, List.set_cons_zero, List.set_cons_succ, List.getElem_toArray, List.getElem_cons_zero, List.getElem_cons_succ]
  refine list_val (.bool true) (by kernel_rfl) (by kernel_rfl) ?_
  simp only [Act.put, List.setIfInBounds_toArray, List.set_cons_zero, List.set_cons_succ, List.getElem_toArray, List.getElem_cons_zero, List.getElem_cons_succ]
  (refine wpList_step fun K hK => ?_; replace hK := hide hK; go_simp; refine unhide hK _ _ ?_; clear hK K)
  refine wpList_nil ?_
  have hZ : Hid (Woke w (.returned (.bool true)) v4) := ⟨rfl, (unhide hWg).trans hW.gr⟩
  clear hW
  go_wp2_with fail
  rw [unhide hT]
  exact unhide hZ
set_option maxHeartbeats 4000000 in
theorem envelopes_nbad (k a s : Int) (ha : U4 a) (hs : U4 s) (E : List Int) (hE : E.length = 105) (bE : IsB E) (l : List Int) (t : Option Addr) (len cap : Nat) (w : World) (lb : Lb w t len cap l) (hP : evR k s E = false) (hN : min len 1000 = 114) (hR : evRO (l.take (min len 1000)) = false) : Calls Try.prog 4 #[.agg (evl k a s E).toArray, .slice t len cap] w (Woke w) := by
  obtain ⟨T, hT⟩ : ∃ T, T = Woke w := ⟨_, rfl⟩
  rw [← hT]
  replace hT := hide hT
  obtain ⟨C0, hC0⟩ : ∃ C, C = (evl k a s E).toArray := ⟨_, rfl⟩
  rw [← hC0]
  replace hC0 := hide hC0
  replace bE := hide bE; replace lb := hide lb
  obtain ⟨n, hn0⟩ : ∃ n, n = min len 1000 := ⟨_, rfl⟩
  rw [← hn0] at hN hR
  obtain ⟨L, hL0⟩ : ∃ L, L = l.take n := ⟨_, rfl⟩
  rw [← hL0] at hR
  have hn9 : n ≤ 1000 := by omega
  obtain rfl : n = 114 := hN
  replace hn0 := hide hn0; replace hL0 := hide hL0
  go_enter Try.func4, Try.ntmps4
  go_upto_region 1 with fail
  have hW := ((Bl.nil w).new C0 55)
  simp only [size_alloc, List.nil_append, List.cons_append] at hW
  generalize World.alloc _ _ = u at *
  rw [unhide hC0] at hW
  clear hC0
  replace hW : Bl w [⟨w.heap.size, (evl k a s E).toArray, 55⟩] u := hW
  refine wp_region_lit ?_
  refine list_call 9 #[] (by kernel_rfl) (by kernel_rfl) ((jwakes_ok u).mono ?_)
  rintro r u1 ⟨rfl, hg⟩
  replace hW := hW.more hg
  clear hg
  refine ⟨_, rfl, ?_⟩
  simp only [Act.put, List.setIfInBounds_toArray, List.set_cons_zero, List.set_cons_succ, List.getElem_toArray, List.getElem_cons_zero, List.getElem_cons_succ]
  refine list_val (.bool false) (by kernel_rfl) (by kernel_rfl) ?_
  simp only [Act.put, List.setIfInBounds_toArray, List.set_cons_zero, List.set_cons_succ, List.getElem_toArray, List.getElem_cons_zero, List.getElem_cons_succ]
  refine wpList_nil ?_
  replace hW := hide hW
  go_upto_region 3 with fail
  replace hW := unhide hW
  refine wp_region_lit ?_
  refine list_val (.slice t len cap) (by kernel_rfl) (by kernel_rfl) ?_
  simp only [Act.put, List.setIfInBounds_toArray, List.set_cons_zero, List.set_cons_succ, List.getElem_toArray, List.getElem_cons_zero, List.getElem_cons_succ]
  refine list_call 10 #[.slice t len cap] (by kernel_rfl) (by kernel_rfl) ((jcut_ok l t len cap u1 ((unhide lb).gr hW.gr)).mono ?_)
  rintro r u2 ⟨s1, rfl, hs1, rfl⟩
  have hl := hs1 w (unhide lb)
  rw [← unhide hn0, ← unhide hL0] at hl
  rw [← unhide hn0]
  clear hs1 lb hL0 hn0
  have hLl := hl.len
  have hLb := hide hl.isB
  obtain ⟨p0, q0, rfl, hl⟩ := hl.some (by omega)
  replace hl := hide hl
  refine ⟨_, rfl, ?_⟩
  simp only [Act.put, List.setIfInBounds_toArray, List.set_cons_zero, List.set_cons_succ, List.getElem_toArray, List.getElem_cons_zero, List.getElem_cons_succ]
  (refine wpList_step fun K hK => ?_; replace hK := hide hK; go_simp; refine unhide hK _ _ ?_; clear hK K)
  refine wpList_nil ?_
  replace hW := hide hW
  go_upto_region 4 with fail
  replace hW := unhide hW
  refine wp_region_lit ?_
  refine list_val (.agg (evl k a s E).toArray) (by kernel_rfl) (exec_arr _ 55 (.tmp 2) rfl (w.heap.size) (by kernel_rfl) (evl k a s E).toArray 55 _ (hW.get 0 (x := ⟨w.heap.size, (evl k a s E).toArray, 55⟩) rfl) Try.underlying55 rfl (by rw [Try.infoE, List.size_toArray, evl_len _ _ _ hE])) ?_
  simp only [Act.put, List.setIfInBounds_toArray, List.set_cons_zero, List.set_cons_succ, List.getElem_toArray, List.getElem_cons_zero, List.getElem_cons_succ]
  refine list_call 25 #[.agg (evl k a s E).toArray] (by kernel_rfl) (by kernel_rfl) ((fpute_no k a s E hE (unhide bE) ha hs hP u2).mono ?_)
  rintro r u3 ⟨rfl, hg⟩
  replace hW := hW.more hg
  clear hg
  refine ⟨_, rfl, ?_⟩
  simp only [Act.put, List.setIfInBounds_toArray, List.set_cons_zero, List.set_cons_succ, List.getElem_toArray, List.getElem_cons_zero, List.getElem_cons_succ]
  refine list_val (.tuple #[.slice none 0 0, .int .i64 241]) (by kernel_rfl) (by kernel_rfl) ?_
  simp only [Act.put, List.setIfInBounds_toArray, List.set_cons_zero, List.set_cons_succ, List.getElem_toArray, List.getElem_cons_zero, List.getElem_cons_succ]
  refine list_val (.slice none 0 0) (by kernel_rfl) (by kernel_rfl) ?_
  simp only [Act.put, List.setIfInBounds_toArray, List.set_cons_zero, List.set_cons_succ, List.getElem_toArray, List.getElem_cons_zero, List.getElem_cons_succ]
  refine list_val (.int .i64 241) (by kernel_rfl) (by kernel_rfl) ?_
  simp only [Act.put, List.setIfInBounds_toArray, List.set_cons_zero, List.set_cons_succ, List.getElem_toArray, List.getElem_cons_zero, List.getElem_cons_succ]
  (refine wpList_step fun K hK => ?_; replace hK := hide hK; go_simp; refine unhide hK _ _ ?_; clear hK K)
  (refine wpList_step fun K hK => ?_; replace hK := hide hK; go_simp; refine unhide hK _ _ ?_; clear hK K)
  refine wpList_nil ?_
  replace hW := hide hW
  go_upto_region 5 with fail
  replace hW := unhide hW
  refine wp_region_lit ?_
  refine list_val (.agg (evl k a s E).toArray) (by kernel_rfl) (exec_arr _ 55 (.tmp 2) rfl (w.heap.size) (by kernel_rfl) (evl k a s E).toArray 55 _ (hW.get 0 (x := ⟨w.heap.size, (evl k a s E).toArray, 55⟩) rfl) Try.underlying55 rfl (by rw [Try.infoE, List.size_toArray, evl_len _ _ _ hE])) ?_
  simp only [Act.put, List.setIfInBounds_toArray, List.set_cons_zero, List.set_cons_succ, List.getElem_toArray, List.getElem_cons_zero, List.getElem_cons_succ]
  refine list_call 26 #[.agg (evl k a s E).toArray] (by kernel_rfl) (by kernel_rfl) ((qrev_ok k a s E hE (unhide bE) u3).mono ?_)
  rintro r u4 ⟨rfl, hg⟩
  rw [hP]
  replace hW := hW.more hg
  clear hg
  refine ⟨_, rfl, ?_⟩
  simp only [Act.put, List.setIfInBounds_toArray, List.set_cons_zero, List.set_cons_succ, List.getElem_toArray, List.getElem_cons_zero, List.getElem_cons_succ]
  refine wpList_nil ?_
  replace hW := hide hW
  go_upto_region 8 with fail
  replace hW := unhide hW
  refine wp_region_lit ?_
  refine list_val (.int .i64 241) (by kernel_rfl) (by kernel_rfl) ?_
  simp only [Act.put, List.setIfInBounds_toArray, List.set_cons_zero, List.set_cons_succ, List.getElem_toArray, List.getElem_cons_zero, List.getElem_cons_succ]
  refine list_val (.bool false) (by kernel_rfl) (by kernel_rfl) ?_
  simp only [Act.put, List.setIfInBounds_toArray, List.set_cons_zero, List.set_cons_succ, List.getElem_toArray, List.getElem_cons_zero, List.getElem_cons_succ]
  refine list_val (.bool false) (by kernel_rfl) (by kernel_rfl) ?_
  simp only [Act.put, List.setIfInBounds_toArray, List.set_cons_zero, List.set_cons_succ, List.getElem_toArray, List.getElem_cons_zero, List.getElem_cons_succ]
  refine list_val (.slice none 0 0) (by kernel_rfl) (by kernel_rfl) ?_
  simp only [Act.put, List.setIfInBounds_toArray, List.set_cons_zero, List.set_cons_succ, List.getElem_toArray, List.getElem_cons_zero, List.getElem_cons_succ]
  refine list_val (.int .i64 0) (by kernel_rfl) (by kernel_rfl) ?_
  simp only [Act.put, List.setIfInBounds_toArray, List.set_cons_zero, List.set_cons_succ, List.getElem_toArray, List.getElem_cons_zero, List.getElem_cons_succ]
  refine list_val (.bool false) (by kernel_rfl) (by kernel_rfl) ?_
  simp only [Act.put, List.setIfInBounds_toArray, List.set_cons_zero, List.set_cons_succ, List.getElem_toArray, List.getElem_cons_zero, List.getElem_cons_succ]
  refine list_val (.bool false) (by kernel_rfl) (by kernel_rfl) ?_
  simp only [Act.put, List.setIfInBounds_toArray, List.set_cons_zero, List.set_cons_succ, List.getElem_toArray, List.getElem_cons_zero, List.getElem_cons_succ]
  refine wpList_nil ?_
  replace hW := hide hW
  go_upto_region 10 with fail
  replace hW := unhide hW
  refine wp_region_lit ?_
  refine list_val (.slice (some ⟨p0, q0, none⟩) 114 cap) (by kernel_rfl) (by kernel_rfl) ?_
  simp only [Act.put, List.setIfInBounds_toArray, List.set_cons_zero, List.set_cons_succ, List.getElem_toArray, List.getElem_cons_zero, List.getElem_cons_succ]
  refine list_call 18 #[.slice (some ⟨p0, q0, none⟩) 114 cap] (by kernel_rfl) (by kernel_rfl) ((jroom_ok L (some ⟨p0, q0, none⟩) 114 cap (by omega) u4 ((unhide hl).gr hW.gr)).mono ?_)
  rintro r u6 ⟨go, co, rfl, hc1, hc2, hgo, hat, hg⟩
  rw [hLl] at hc1 ⊢
  have hlo : Lb u6 (some ⟨go, 0, none⟩) 114 co L := by
    have h9 := hat.take 114
    rw [List.take_append_of_le_length (by rw [hLl]; exact Nat.le_refl _), List.take_of_length_le (by rw [hLl]; exact Nat.le_refl _)] at h9
    exact ⟨hLl, unhide hLb, .inr ⟨go, 0, rfl, h9⟩, by omega, hc2⟩
  replace hlo := hide hlo
  have hWg := hide (hW.gr.trans hg)
  replace hl := hide ((unhide hl).gr (unhide hWg))
  clear hW hg hat hc1 hc2 hgo
  have hW := Bl.nil u6
  refine ⟨_, rfl, ?_⟩
  simp only [Act.put, List.setIfInBounds_toArray, List.set_cons_zero, List.set_cons_succ, List.getElem_toArray, List.getElem_cons_zero, List.getElem_cons_succ]
  refine list_call 28 #[.slice (some ⟨go, 0, none⟩) 114 co] (by kernel_rfl) (by kernel_rfl) ((fgete_bad L (some ⟨go, 0, none⟩) co u6 (unhide hlo) hR).mono ?_)
  rintro r u7 ⟨rfl, hg⟩
  replace hW := hW.more hg
  clear hg
  refine ⟨_, rfl, ?_⟩
  simp only [Act.put, List.setIfInBounds_toArray, List.set_cons_zero, List.set_cons_succ, List.getElem_toArray, List.getElem_cons_zero, List.getElem_cons_succ]
  refine list_val (.tuple #[.agg (evl 0 0 0 Z105).toArray, .int .i64 241]) (by kernel_rfl) (by kernel_rfl) ?_
  simp only [Act.put, List.setIfInBounds_toArray, List.set_cons_zero, List.set_cons_succ, List.getElem_toArray, List.getElem_cons_zero, List.getElem_cons_succ]
  refine list_val (.agg (evl 0 0 0 Z105).toArray) (by kernel_rfl) (by kernel_rfl) ?_
  simp only [Act.put, List.setIfInBounds_toArray, List.set_cons_zero, List.set_cons_succ, List.getElem_toArray, List.getElem_cons_zero, List.getElem_cons_succ]
  refine list_val (.int .i64 241) (by kernel_rfl) (by kernel_rfl) ?_
  simp only [Act.put, List.setIfInBounds_toArray, List.set_cons_zero, List.set_cons_succ, List.getElem_toArray, List.getElem_cons_zero, List.getElem_cons_succ]
  refine list_valw (.pointer (some ⟨u7.heap.size, 0, none⟩)) (u7.alloc (.cells (evl 0 0 0 Z105).toArray 55 (0, 0))) (by kernel_rfl) (by kernel_rfl) ?_
  replace hW := hW.new (evl 0 0 0 Z105).toArray 55
  simp only [List.nil_append, List.cons_append] at hW
  generalize World.alloc _ _ = u8 at *
  generalize u7.heap.size = qe at *
  replace hW : Bl u6 [⟨qe, (evl 0 0 0 Z105).toArray, 55⟩] u8 := hW
  simp only [Act.put, List.setIfInBounds_toArray, List.set_cons_zero, List.set_cons_succ, List.getElem_toArray, List.getElem_cons_zero, List.getElem_cons_succ]
  refine list_store 55 (.tmp 7) (.tmp 40) qe (evl 0 0 0 Z105).toArray 55 (evl 0 0 0 Z105).toArray (by kernel_rfl) rfl (by kernel_rfl) (by kernel_rfl) (hW.get 0 (x := ⟨qe, (evl 0 0 0 Z105).toArray, 55⟩) rfl) (by rw [Try.infoE]; rfl) (rfl) (evl_one ..) ?_
  replace hW := hW.set 0 (x := ⟨qe, (evl 0 0 0 Z105).toArray, 55⟩) rfl (evl 0 0 0 Z105).toArray
  simp only [List.set_cons_zero, List.set_cons_succ] at hW
  generalize World.setRow _ _ _ = u9 at *
  replace hW : Bl u6 [⟨qe, (evl 0 0 0 Z105).toArray, 55⟩] u9 := hW
  simp only [Act.put, List.setIfInBounds_toArray, List.set_cons_zero, List.set_cons_succ, List.getElem_toArray, List.getElem_cons_zero, List.getElem_cons_succ]
  (refine wpList_step fun K hK => ?_; replace hK := hide hK; go_simp; refine unhide hK _ _ ?_; clear hK K)
  refine wpList_nil ?_
  replace hW := hide hW
  go_upto_region 11 with fail
  replace hW := unhide hW
  refine wp_region_lit ?_
  refine list_val (.slice (some ⟨p0, q0, none⟩) 114 cap) (by kernel_rfl) (by kernel_rfl) ?_
  simp only [Act.put, List.setIfInBounds_toArray, List.set_cons_zero, List.set_cons_succ, List.getElem_toArray, List.getElem_cons_zero, List.getElem_cons_succ]
  refine list_val (.int .i64 114) (by kernel_rfl) (by kernel_rfl) ?_
  simp only [Act.put, List.setIfInBounds_toArray, List.set_cons_zero, List.set_cons_succ, List.getElem_toArray, List.getElem_cons_zero, List.getElem_cons_succ]
  refine list_val (.bool false) (by kernel_rfl) (by kernel_rfl) ?_
  simp only [Act.put, List.setIfInBounds_toArray, List.set_cons_zero, List.set_cons_succ, List.getElem_toArray, List.getElem_cons_zero, List.getElem_cons_succ]
  refine wpList_nil ?_
  replace hW := hide hW
  go_upto_region 13 with fail
  replace hW := unhide hW
  refine wp_region_lit ?_
  refine list_val (.slice (some ⟨p0, q0, none⟩) 114 cap) (by kernel_rfl) (by kernel_rfl) ?_
  simp only [Act.put, List.setIfInBounds_toArray, List.set_cons_zero, List.set_cons_succ, List.getElem_toArray, List.getElem_cons_zero, List.getElem_cons_succ]
  refine list_call 29 #[.slice (some ⟨p0, q0, none⟩) 114 cap] (by kernel_rfl) (by kernel_rfl) ((qgete_ok L p0 q0 cap u9 ((unhide hl).gr hW.gr)).mono ?_)
  rintro r v1 ⟨rfl, hg⟩
  replace hW := hW.more hg
  clear hg
  refine ⟨_, rfl, ?_⟩
  simp only [Act.put, List.setIfInBounds_toArray, List.set_cons_zero, List.set_cons_succ, List.getElem_toArray, List.getElem_cons_zero, List.getElem_cons_succ]
  refine list_valw (.pointer (some ⟨v1.heap.size, 0, none⟩)) (v1.alloc (.cells (evl 0 0 0 Z105).toArray 55 (0, 0))) (by kernel_rfl) (by kernel_rfl) ?_
  replace hW := hW.new (evl 0 0 0 Z105).toArray 55
  simp only [List.nil_append, List.cons_append] at hW
  generalize World.alloc _ _ = v2 at *
  generalize v1.heap.size = qr at *
  replace hW : Bl u6 [⟨qe, (evl 0 0 0 Z105).toArray, 55⟩, ⟨qr, (evl 0 0 0 Z105).toArray, 55⟩] v2 := hW
  simp only [Act.put, List.setIfInBounds_toArray, List.set_cons_zero, List.set_cons_succ, List.getElem_toArray, List.getElem_cons_zero, List.getElem_cons_succ]
  refine list_store 55 (.tmp 8) (.tmp 53) qr (evO L).toArray 55 (evl 0 0 0 Z105).toArray (by kernel_rfl) rfl (by kernel_rfl) (by kernel_rfl) (hW.get 1 (x := ⟨qr, (evl 0 0 0 Z105).toArray, 55⟩) rfl) (by rw [Try.infoE, List.size_toArray, evO_len hLl]) (by rw [List.size_toArray, List.size_toArray, evO_len hLl]; rfl) (evl_one ..) ?_
  replace hW := hW.set 1 (x := ⟨qr, (evl 0 0 0 Z105).toArray, 55⟩) rfl (evO L).toArray
  simp only [List.set_cons_zero, List.set_cons_succ] at hW
  generalize World.setRow _ _ _ = v3 at *
  replace hW : Bl u6 [⟨qe, (evl 0 0 0 Z105).toArray, 55⟩, ⟨qr, (evO L).toArray, 55⟩] v3 := hW
  simp only [Act.put, List.setIfInBounds_toArray, List.set_cons_zero, List.set_cons_succ, List.getElem_toArray, List.getElem_cons_zero, List.getElem_cons_succ]
  refine wpList_nil ?_
  replace hW := hide hW
  go_upto_region 14 with fail
  replace hW := unhide hW
  refine wp_region_lit ?_
  refine list_val (.agg (evO L).toArray) (by kernel_rfl) (exec_arr _ 55 (.tmp 8) rfl qr (by kernel_rfl) (evO L).toArray 55 _ (hW.get 1 (x := ⟨qr, (evO L).toArray, 55⟩) rfl) Try.underlying55 rfl (by rw [Try.infoE, List.size_toArray, evO_len hLl])) ?_
  simp only [Act.put, List.setIfInBounds_toArray, List.set_cons_zero, List.set_cons_succ, List.getElem_toArray, List.getElem_cons_zero, List.getElem_cons_succ]
  refine list_call 26 #[.agg (evO L).toArray] (by kernel_rfl) (by kernel_rfl) ((show Calls Try.prog 26 #[.agg (evO L).toArray] v3 (Vl (.bool (evRO L)) v3) from qrev_ok _ _ _ _ (sub_len hLl (by omega)) (sub_isB (unhide hLb) _ _) v3).mono ?_)
  rintro r v4 ⟨rfl, hg⟩
  rw [hR]
  replace hW := hW.more hg
  clear hg
  refine ⟨_, rfl, ?_⟩
  simp only [Act.put, List.setIfInBounds_toArray, List.set_cons_zero, List.set_cons_succ, List.getElem_toArray, List.getElem_cons_zero, List.getElem_cons_succ]
  refine list_val (.bool true) (by kernel_rfl) (by kernel_rfl) ?_
  simp only [Act.put, List.setIfInBounds_toArray, List.set_cons_zero, List.set_cons_succ, List.getElem_toArray, List.getElem_cons_zero, List.getElem_cons_succ]
  refine wpList_nil ?_
  replace hW := hide hW
  go_upto_region 15 with fail
  replace hW := unhide hW
  refine wp_region_lit ?_
  refine list_val (.int .i64 241) (by kernel_rfl) (by kernel_rfl) ?_
  simp only [Act.put, List.setIfInBounds_toArray, List.set_cons_zero, List.set_cons_succ, List.getElem_toArray, List.getElem_cons_zero, List.getElem_cons_succ]
  refine list_val (.bool true) (by kernel_rfl) (by kernel_rfl) ?_
  simp only [Act.put, List.setIfInBounds_toArray, List.set_cons_zero, List.set_cons_succ, List.getElem_toArray, List.getElem_cons_zero, List.getElem_cons_succ]
  refine list_val (.bool true) (by kernel_rfl) (by kernel_rfl) ?_
  simp only [Act.put, List.setIfInBounds_toArray, List.set_cons_zero, List.set_cons_succ, List.getElem_toArray, List.getElem_cons_zero, List.getElem_cons_succ]
  refine list_val (.agg (evl 0 0 0 Z105).toArray) (by kernel_rfl) (exec_arr _ 55 (.tmp 7) rfl qe (by kernel_rfl) (evl 0 0 0 Z105).toArray 55 _ (hW.get 0 (x := ⟨qe, (evl 0 0 0 Z105).toArray, 55⟩) rfl) Try.underlying55 rfl (by rw [Try.infoE]; rfl)) ?_
  simp only [Act.put, List.setIfInBounds_toArray, List.set_cons_zero, List.set_cons_succ, List.getElem_toArray, List.getElem_cons_zero, List.getElem_cons_succ]
  refine list_val (.agg (evl 0 0 0 Z105).toArray) (by kernel_rfl) (by kernel_rfl) ?_
  simp only [Act.put, List.setIfInBounds_toArray, List.set_cons_zero, List.set_cons_succ, List.getElem_toArray, List.getElem_cons_zero, List.getElem_cons_succ]
  refine list_val (.bool true) (by kernel_rfl) (exec_eql_e _ (.tmp 60) (.tmp 61) rfl (evl 0 0 0 Z105).toArray (by kernel_rfl) (by kernel_rfl) (eq_evl 0 0 0 (B := Z105) rfl _)) ?_
  simp only [Act.put, List.setIfInBounds_toArray, List.set_cons_zero, List.set_cons_succ, List.getElem_toArray, List.getElem_cons_zero, List.getElem_cons_succ]
  refine list_val (.bool true) (by kernel_rfl) (by kernel_rfl) ?_
  simp only [Act.put, List.setIfInBounds_toArray, List.set_cons_zero, List.set_cons_succ, List.getElem_toArray, List.getElem_cons_zero, List.getElem_cons_succ]
  (refine wpList_step fun K hK => ?_; replace hK := hide hK; go_simp; refine unhide hK _ _ ?_; clear hK K)
  refine wpList_nil ?_
  have hZ : Hid (Woke w (.returned (.bool true)) v4) := ⟨rfl, (unhide hWg).trans hW.gr⟩
  clear hW
  go_wp2_with fail
  rw [unhide hT]
  exact unhide hZ
set_option maxHeartbeats 4000000 in
theorem envelopes_nno (k a s : Int) (ha : U4 a) (hs : U4 s) (E : List Int) (hE : E.length = 105) (bE : IsB E) (l : List Int) (t : Option Addr) (len cap : Nat) (w : World) (lb : Lb w t len cap l) (hP : evR k s E = false) (hN : ¬ min len 1000 = 114) : Calls Try.prog 4 #[.agg (evl k a s E).toArray, .slice t len cap] w (Woke w) := by
  obtain ⟨T, hT⟩ : ∃ T, T = Woke w := ⟨_, rfl⟩
  rw [← hT]
  replace hT := hide hT
  obtain ⟨C0, hC0⟩ : ∃ C, C = (evl k a s E).toArray := ⟨_, rfl⟩
  rw [← hC0]
  replace hC0 := hide hC0
  replace bE := hide bE; replace lb := hide lb
  obtain ⟨n, hn0⟩ : ∃ n, n = min len 1000 := ⟨_, rfl⟩
  rw [← hn0] at hN
  obtain ⟨L, hL0⟩ : ∃ L, L = l.take n := ⟨_, rfl⟩
  have hn9 : n ≤ 1000 := by omega
  have i114 : ¬ (n : Int) = 114 := by omega
  replace hn0 := hide hn0; replace hL0 := hide hL0
  go_enter Try.func4, Try.ntmps4
  go_upto_region 1 with fail
  have hW := ((Bl.nil w).new C0 55)
  simp only [size_alloc, List.nil_append, List.cons_append] at hW
  generalize World.alloc _ _ = u at *
  rw [unhide hC0] at hW
  clear hC0
  replace hW : Bl w [⟨w.heap.size, (evl k a s E).toArray, 55⟩] u := hW
  refine wp_region_lit ?_
  refine list_call 9 #[] (by kernel_rfl) (by kernel_rfl) ((jwakes_ok u).mono ?_)
  rintro r u1 ⟨rfl, hg⟩
  replace hW := hW.more hg
  clear hg
  refine ⟨_, rfl, ?_⟩
  simp only [Act.put, List.setIfInBounds_toArray, List.set_cons_zero, List.set_cons_succ, List.getElem_toArray, List.getElem_cons_zero, List.getElem_cons_succ]
  refine list_val (.bool false) (by kernel_rfl) (by kernel_rfl) ?_
  simp only [Act.put, List.setIfInBounds_toArray, List.set_cons_zero, List.set_cons_succ, List.getElem_toArray, List.getElem_cons_zero, List.getElem_cons_succ]
  refine wpList_nil ?_
  replace hW := hide hW
  go_upto_region 3 with fail
  replace hW := unhide hW
  refine wp_region_lit ?_
  refine list_val (.slice t len cap) (by kernel_rfl) (by kernel_rfl) ?_
  simp only [Act.put, List.setIfInBounds_toArray, List.set_cons_zero, List.set_cons_succ, List.getElem_toArray, List.getElem_cons_zero, List.getElem_cons_succ]
  refine list_call 10 #[.slice t len cap] (by kernel_rfl) (by kernel_rfl) ((jcut_ok l t len cap u1 ((unhide lb).gr hW.gr)).mono ?_)
  rintro r u2 ⟨s1, rfl, hs1, rfl⟩
  have hl := hs1 w (unhide lb)
  rw [← unhide hn0, ← unhide hL0] at hl
  rw [← unhide hn0]
  clear hs1 lb hL0 hn0
  have hLl := hl.len
  have hLb := hide hl.isB
  replace hl := hide hl
  refine ⟨_, rfl, ?_⟩
  simp only [Act.put, List.setIfInBounds_toArray, List.set_cons_zero, List.set_cons_succ, List.getElem_toArray, List.getElem_cons_zero, List.getElem_cons_succ]
  (refine wpList_step fun K hK => ?_; replace hK := hide hK; go_simp; refine unhide hK _ _ ?_; clear hK K)
  refine wpList_nil ?_
  replace hW := hide hW
  go_upto_region 4 with fail
  replace hW := unhide hW
  refine wp_region_lit ?_
  refine list_val (.agg (evl k a s E).toArray) (by kernel_rfl) (exec_arr _ 55 (.tmp 2) rfl (w.heap.size) (by kernel_rfl) (evl k a s E).toArray 55 _ (hW.get 0 (x := ⟨w.heap.size, (evl k a s E).toArray, 55⟩) rfl) Try.underlying55 rfl (by rw [Try.infoE, List.size_toArray, evl_len _ _ _ hE])) ?_
  simp only [Act.put, List.setIfInBounds_toArray, List.set_cons_zero, List.set_cons_succ, List.getElem_toArray, List.getElem_cons_zero, List.getElem_cons_succ]
  refine list_call 25 #[.agg (evl k a s E).toArray] (by kernel_rfl) (by kernel_rfl) ((fpute_no k a s E hE (unhide bE) ha hs hP u2).mono ?_)
  rintro r u3 ⟨rfl, hg⟩
  replace hW := hW.more hg
  clear hg
  refine ⟨_, rfl, ?_⟩
  simp only [Act.put, List.setIfInBounds_toArray, List.set_cons_zero, List.set_cons_succ, List.getElem_toArray, List.getElem_cons_zero, List.getElem_cons_succ]
  refine list_val (.tuple #[.slice none 0 0, .int .i64 241]) (by kernel_rfl) (by kernel_rfl) ?_
  simp only [Act.put, List.setIfInBounds_toArray, List.set_cons_zero, List.set_cons_succ, List.getElem_toArray, List.getElem_cons_zero, List.getElem_cons_succ]
  refine list_val (.slice none 0 0) (by kernel_rfl) (by kernel_rfl) ?_
  simp only [Act.put, List.setIfInBounds_toArray, List.set_cons_zero, List.set_cons_succ, List.getElem_toArray, List.getElem_cons_zero, List.getElem_cons_succ]
  refine list_val (.int .i64 241) (by kernel_rfl) (by kernel_rfl) ?_
  simp only [Act.put, List.setIfInBounds_toArray, List.set_cons_zero, List.set_cons_succ, List.getElem_toArray, List.getElem_cons_zero, List.getElem_cons_succ]
  (refine wpList_step fun K hK => ?_; replace hK := hide hK; go_simp; refine unhide hK _ _ ?_; clear hK K)
  (refine wpList_step fun K hK => ?_; replace hK := hide hK; go_simp; refine unhide hK _ _ ?_; clear hK K)
  refine wpList_nil ?_
  replace hW := hide hW
  go_upto_region 5 with fail
  replace hW := unhide hW
  refine wp_region_lit ?_
  refine list_val (.agg (evl k a s E).toArray) (by kernel_rfl) (exec_arr _ 55 (.tmp 2) rfl (w.heap.size) (by kernel_rfl) (evl k a s E).toArray 55 _ (hW.get 0 (x := ⟨w.heap.size, (evl k a s E).toArray, 55⟩) rfl) Try.underlying55 rfl (by rw [Try.infoE, List.size_toArray, evl_len _ _ _ hE])) ?_
  simp only [Act.put, List.setIfInBounds_toArray, List.set_cons_zero, List.set_cons_succ, List.getElem_toArray, List.getElem_cons_zero, List.getElem_cons_succ]
  refine list_call 26 #[.agg (evl k a s E).toArray] (by kernel_rfl) (by kernel_rfl) ((qrev_ok k a s E hE (unhide bE) u3).mono ?_)
  rintro r u4 ⟨rfl, hg⟩
  rw [hP]
  replace hW := hW.more hg
  clear hg
  refine ⟨_, rfl, ?_⟩
  simp only [Act.put, List.setIfInBounds_toArray, List.set_cons_zero, List.set_cons_succ, List.getElem_toArray, List.getElem_cons_zero, List.getElem_cons_succ]
  refine wpList_nil ?_
  replace hW := hide hW
  go_upto_region 8 with fail
  replace hW := unhide hW
  refine wp_region_lit ?_
  refine list_val (.int .i64 241) (by kernel_rfl) (by kernel_rfl) ?_
  simp only [Act.put, List.setIfInBounds_toArray, List.set_cons_zero, List.set_cons_succ, List.getElem_toArray, List.getElem_cons_zero, List.getElem_cons_succ]
  refine list_val (.bool false) (by kernel_rfl) (by kernel_rfl) ?_
  simp only [Act.put, List.setIfInBounds_toArray, List.set_cons_zero, List.set_cons_succ, List.getElem_toArray, List.getElem_cons_zero, List.getElem_cons_succ]
  refine list_val (.bool false) (by kernel_rfl) (by kernel_rfl) ?_
  simp only [Act.put, List.setIfInBounds_toArray, List.set_cons_zero, List.set_cons_succ, List.getElem_toArray, List.getElem_cons_zero, List.getElem_cons_succ]
  refine list_val (.slice none 0 0) (by kernel_rfl) (by kernel_rfl) ?_
  simp only [Act.put, List.setIfInBounds_toArray, List.set_cons_zero, List.set_cons_succ, List.getElem_toArray, List.getElem_cons_zero, List.getElem_cons_succ]
  refine list_val (.int .i64 0) (by kernel_rfl) (by kernel_rfl) ?_
  simp only [Act.put, List.setIfInBounds_toArray, List.set_cons_zero, List.set_cons_succ, List.getElem_toArray, List.getElem_cons_zero, List.getElem_cons_succ]
  refine list_val (.bool false) (by kernel_rfl) (by kernel_rfl) ?_
  simp only [Act.put, List.setIfInBounds_toArray, List.set_cons_zero, List.set_cons_succ, List.getElem_toArray, List.getElem_cons_zero, List.getElem_cons_succ]
  refine list_val (.bool false) (by kernel_rfl) (by kernel_rfl) ?_
  simp only [Act.put, List.setIfInBounds_toArray, List.set_cons_zero, List.set_cons_succ, List.getElem_toArray, List.getElem_cons_zero, List.getElem_cons_succ]
  refine wpList_nil ?_
  replace hW := hide hW
  go_upto_region 10 with fail
  replace hW := unhide hW
  refine wp_region_lit ?_
  refine list_val (.slice s1 n cap) (by kernel_rfl) (by kernel_rfl) ?_
  simp only [Act.put, List.setIfInBounds_toArray, List.set_cons_zero, List.set_cons_succ, List.getElem_toArray, List.getElem_cons_zero, List.getElem_cons_succ]
  refine list_call 18 #[.slice s1 n cap] (by kernel_rfl) (by kernel_rfl) ((jroom_ok L s1 n cap (by omega) u4 ((unhide hl).gr hW.gr)).mono ?_)
  rintro r u6 ⟨go, co, rfl, hc1, hc2, hgo, hat, hg⟩
  rw [hLl] at hc1 ⊢
  have hlo : Lb u6 (some ⟨go, 0, none⟩) n co L := by
    have h9 := hat.take n
    rw [List.take_append_of_le_length (by rw [hLl]; exact Nat.le_refl _), List.take_of_length_le (by rw [hLl]; exact Nat.le_refl _)] at h9
    exact ⟨hLl, unhide hLb, .inr ⟨go, 0, rfl, h9⟩, by omega, hc2⟩
  replace hlo := hide hlo
  have hWg := hide (hW.gr.trans hg)
  replace hl := hide ((unhide hl).gr (unhide hWg))
  clear hW hg hat hc1 hc2 hgo
  have hW := Bl.nil u6
  refine ⟨_, rfl, ?_⟩
  simp only [Act.put, List.setIfInBounds_toArray, List.set_cons_zero, List.set_cons_succ, List.getElem_toArray, List.getElem_cons_zero, List.getElem_cons_succ]
  refine list_call 28 #[.slice (some ⟨go, 0, none⟩) n co] (by kernel_rfl) (by kernel_rfl) ((fgete_no (some ⟨go, 0, none⟩) n co hN u6).mono ?_)
  rintro r u7 ⟨rfl, hg⟩
  replace hW := hW.more hg
  clear hg
  refine ⟨_, rfl, ?_⟩
  simp only [Act.put, List.setIfInBounds_toArray, List.set_cons_zero, List.set_cons_succ, List.getElem_toArray, List.getElem_cons_zero, List.getElem_cons_succ]
  refine list_val (.tuple #[.agg (evl 0 0 0 Z105).toArray, .int .i64 240]) (by kernel_rfl) (by kernel_rfl) ?_
  simp only [Act.put, List.setIfInBounds_toArray, List.set_cons_zero, List.set_cons_succ, List.getElem_toArray, List.getElem_cons_zero, List.getElem_cons_succ]
  refine list_val (.agg (evl 0 0 0 Z105).toArray) (by kernel_rfl) (by kernel_rfl) ?_
  simp only [Act.put, List.setIfInBounds_toArray, List.set_cons_zero, List.set_cons_succ, List.getElem_toArray, List.getElem_cons_zero, List.getElem_cons_succ]
  refine list_val (.int .i64 240) (by kernel_rfl) (by kernel_rfl) ?_
  simp only [Act.put, List.setIfInBounds_toArray, List.set_cons_zero, List.set_cons_succ, List.getElem_toArray, List.getElem_cons_zero, List.getElem_cons_succ]
  refine list_valw (.pointer (some ⟨u7.heap.size, 0, none⟩)) (u7.alloc (.cells (evl 0 0 0 Z105).toArray 55 (0, 0))) (by kernel_rfl) (by kernel_rfl) ?_
  replace hW := hW.new (evl 0 0 0 Z105).toArray 55
  simp only [List.nil_append, List.cons_append] at hW
  generalize World.alloc _ _ = u8 at *
  generalize u7.heap.size = qe at *
  replace hW : Bl u6 [⟨qe, (evl 0 0 0 Z105).toArray, 55⟩] u8 := hW
  simp only [Act.put, List.setIfInBounds_toArray, List.set_cons_zero, List.set_cons_succ, List.getElem_toArray, List.getElem_cons_zero, List.getElem_cons_succ]
  refine list_store 55 (.tmp 7) (.tmp 40) qe (evl 0 0 0 Z105).toArray 55 (evl 0 0 0 Z105).toArray (by kernel_rfl) rfl (by kernel_rfl) (by kernel_rfl) (hW.get 0 (x := ⟨qe, (evl 0 0 0 Z105).toArray, 55⟩) rfl) (by rw [Try.infoE]; rfl) (rfl) (evl_one ..) ?_
  replace hW := hW.set 0 (x := ⟨qe, (evl 0 0 0 Z105).toArray, 55⟩) rfl (evl 0 0 0 Z105).toArray
  simp only [List.set_cons_zero, List.set_cons_succ] at hW
  generalize World.setRow _ _ _ = u9 at *
  replace hW : Bl u6 [⟨qe, (evl 0 0 0 Z105).toArray, 55⟩] u9 := hW
  simp only [Act.put, List.setIfInBounds_toArray, List.set_cons_zero, List.set_cons_succ, List.getElem_toArray, List.getElem_cons_zero, List.getElem_cons_succ]
  (refine wpList_step fun K hK => ?_; replace hK := hide hK; go_simp; refine unhide hK _ _ ?_; clear hK K)
  refine wpList_nil ?_
  replace hW := hide hW
  go_upto_region 11 with fail
  replace hW := unhide hW
  refine wp_region_lit ?_
  refine list_val (.slice s1 n cap) (by kernel_rfl) (by kernel_rfl) ?_
  simp only [Act.put, List.setIfInBounds_toArray, List.set_cons_zero, List.set_cons_succ, List.getElem_toArray, List.getElem_cons_zero, List.getElem_cons_succ]
  refine list_val (.int .i64 n) (by kernel_rfl) (by kernel_rfl) ?_
  simp only [Act.put, List.setIfInBounds_toArray, List.set_cons_zero, List.set_cons_succ, List.getElem_toArray, List.getElem_cons_zero, List.getElem_cons_succ]
  refine list_val (.bool true) (by kernel_rfl) (by go_simp) ?_
  simp only [Act.put, List.setIfInBounds_toArray, List.set_cons_zero, List.set_cons_succ, List.getElem_toArray, List.getElem_cons_zero, List.getElem_cons_succ]
  refine wpList_nil ?_
  replace hW := hide hW
  go_upto_region 12 with fail
  replace hW := unhide hW
  refine wp_region_lit ?_
  refine list_val (.int .i64 240) (by kernel_rfl) (by kernel_rfl) ?_
  simp only [Act.put, List.setIfInBounds_toArray, List.set_cons_zero, List.set_cons_succ, List.getElem_toArray, List.getElem_cons_zero, List.getElem_cons_succ]
  refine list_val (.bool true) (by kernel_rfl) (by kernel_rfl) ?_
  simp only [Act.put, List.setIfInBounds_toArray, List.set_cons_zero, List.set_cons_succ, List.getElem_toArray, List.getElem_cons_zero, List.getElem_cons_succ]
  refine list_val (.bool true) (by kernel_rfl) (by kernel_rfl) ?_
  simp only [Act.put, List.setIfInBounds_toArray, List.set_cons_zero, List.set_cons_succ, List.getElem_toArray, List.getElem_cons_zero, List.getElem_cons_succ]
  refine list_val (.agg (evl 0 0 0 Z105).toArray) (by kernel_rfl) (exec_arr _ 55 (.tmp 7) rfl qe (by kernel_rfl) (evl 0 0 0 Z105).toArray 55 _ (hW.get 0 (x := ⟨qe, (evl 0 0 0 Z105).toArray, 55⟩) rfl) Try.underlying55 rfl (by rw [Try.infoE]; rfl)) ?_
  simp only [Act.put, List.setIfInBounds_toArray, List.set_cons_zero, List.set_cons_succ, List.getElem_toArray, List.getElem_cons_zero, List.getElem_cons_succ]
  refine list_val (.agg (evl 0 0 0 Z105).toArray) (by kernel_rfl) (by kernel_rfl) ?_
  simp only [Act.put, List.setIfInBounds_toArray, List.set_cons_zero, List.set_cons_succ, List.getElem_toArray, List.getElem_cons_zero, List.getElem_cons_succ]
  refine list_val (.bool true) (by kernel_rfl) (exec_eql_e _ (.tmp 48) (.tmp 49) rfl (evl 0 0 0 Z105).toArray (by kernel_rfl) (by kernel_rfl) (eq_evl 0 0 0 (B := Z105) rfl _)) ?_
  simp only [Act.put, List.setIfInBounds_toArray, List.set_cons_zero, List.set_cons_succ, List.getElem_toArray, List.getElem_cons_zero, List.getElem_cons_succ]
  refine list_val (.bool true) (by kernel_rfl) (by kernel_rfl) ?_
  simp only [Act.put, List.setIfInBounds_toArray, List.set_cons_zero, List.set_cons_succ, List.getElem_toArray, List.getElem_cons_zero, List.getElem_cons_succ]
  (refine wpList_step fun K hK => ?_; replace hK := hide hK; go_simp; refine unhide hK _ _ ?_; clear hK K)
  refine wpList_nil ?_
  have hZ : Hid (Woke w (.returned (.bool true)) u9) := ⟨rfl, (unhide hWg).trans hW.gr⟩
  clear hW
  go_wp2_with fail
  rw [unhide hT]
  exact unhide hZ
theorem envelopes_law (k a s : Int) (ha : U4 a) (hs : U4 s) (E : List Int) (hE : E.length = 105) (bE : IsB E) (l : List Int) (t : Option Addr) (len cap : Nat) (w : World) (lb : Lb w t len cap l) : Calls Try.prog 4 #[.agg (evl k a s E).toArray, .slice t len cap] w (Woke w) := by
  cases hP : evR k s E
  · by_cases hN : min len 1000 = 114
    · cases hR : evRO (l.take (min len 1000))
      · exact envelopes_nbad k a s ha hs E hE bE l t len cap w lb hP hN hR
      · exact envelopes_nok k a s ha hs E hE bE l t len cap w lb hP hN hR
    · exact envelopes_nno k a s ha hs E hE bE l t len cap w lb hP hN
  · by_cases hN : min len 1000 = 114
    · cases hR : evRO (l.take (min len 1000))
      · exact envelopes_pbad k a s ha hs E hE bE l t len cap w lb hP hN hR
      · exact envelopes_pok k a s ha hs E hE bE l t len cap w lb hP hN hR
    · exact envelopes_pno k a s ha hs E hE bE l t len cap w lb hP hN
end Go.Proofs.Ytfmocneoffkmpaa
