/-
  A copy goes on by itself: the walk.
-/
import Derived.Test.YtnjgcenanpkelaaDoorShaPiecesWalk
namespace Go.Proofs.YtnjgcenanpkelaaDoor
open Go.RowKit
set_option maxRecDepth 100000
set_option linter.unusedVariables false
set_option linter.unusedSimpArgs false

set_option maxHeartbeats 2000000 in
theorem copies_ok (A B C : List Int) (hb1 : IsB A) (hb2 : IsB B) (hb3 : IsB C) (a1 a2 a3 : Option Addr) (n1 c1 n2 c2 n3 c3 : Nat) (hn1 : A.length = n1) (hn2 : B.length = n2) (hn3 : C.length = n3) (hc1 : n1 ≤ c1) (hc2 : n2 ≤ c2) (hc3 : n3 ≤ c3)
    (hk1 : c1 ≤ 1099511627776) (hk2 : c2 ≤ 1099511627776) (hk3 : c3 ≤ 1099511627776) (w : World) (hF : Fst w) (hA1 : Sl w a1 A) (hA2 : Sl w a2 B) (hA3 : Sl w a3 C) :
    Calls Tryd.prog 7 #[.slice a1 n1 c1, .slice a2 n2 c2, .slice a3 n3 c3] w (Woke w) := by
  obtain ⟨T, hT⟩ : ∃ T, T = Woke w := ⟨_, rfl⟩
  rw [← hT]
  replace hT := hide hT
  have hF0 := hide hF
  replace hF := hide hF
  replace hA1 := hide hA1
  replace hA2 := hide hA2
  replace hA3 := hide hA3
  replace hb1 := hide hb1
  replace hb2 := hide hb2
  replace hb3 := hide hb3
  replace hn1 := hide hn1
  replace hn2 := hide hn2
  replace hn3 := hide hn3
  go_enter Tryd.func7, Tryd.ntmps7
  go_upto_region 3 with (go_at_call 9; refine (wakes_ok _ (unhide hF)).mono ?_; rintro e u1 ⟨rfl, hG⟩)
  refine wp_region_lit ?_
  refine list_call 14 #[] (by kernel_rfl) (by kernel_rfl) ((new_ok _ ((unhide hF0).gr hG)).mono ?_)
  rintro r u2 ⟨g, rfl, hg0, hH, hg⟩
  refine ⟨_, rfl, ?_⟩
  have hgw : w.heap.size ≤ g := Nat.le_trans hG.size hg0
  replace hG := hide (hG.trans hg)
  clear hg hg0 hF0 hF
  simp only [Act.put, List.setIfInBounds_toArray, List.set_cons_zero, List.set_cons_succ, List.getElem_toArray, List.getElem_cons_zero, List.getElem_cons_succ]
  replace hH := hide hH
  iterate 1 (refine wpList_step fun K hK => ?_; replace hK := hide hK; go_simp; refine unhide hK _ _ ?_; clear hK K)
  refine wpList_nil ?_
  go_upto_region 4 with fail
  refine wp_region_lit ?_
  iterate 2 (refine wpList_step fun K hK => ?_; replace hK := hide hK; go_simp; refine unhide hK _ _ ?_; clear hK K)
  refine list_call 15 #[.pointer (some ⟨g, 0, none⟩), .slice a1 n1 c1] (by kernel_rfl) (by kernel_rfl) ((write_ok g [] A (unhide hb1) (by rw [unhide hn1]; simp; omega) a1 n1 c1 (unhide hn1) hc1 (by omega) _ (unhide hH) ((unhide hA1).far (unhide hG) hgw)).mono ?_)
  rintro r u3 ⟨rfl, hH1, hbt⟩
  refine ⟨_, rfl, ?_⟩
  rw [List.nil_append] at hH1
  replace hG := hide (hbt.gr (unhide hG) hgw)
  replace hH1 := hide hH1
  clear hbt hH
  simp only [Act.put, List.setIfInBounds_toArray, List.set_cons_zero, List.set_cons_succ, List.getElem_toArray, List.getElem_cons_zero, List.getElem_cons_succ]
  refine wpList_nil ?_
  go_upto_region 5 with fail
  refine wp_region_lit ?_
  iterate 1 (refine wpList_step fun K hK => ?_; replace hK := hide hK; go_simp; refine unhide hK _ _ ?_; clear hK K)
  refine list_call 20 #[.pointer (some ⟨g, 0, none⟩)] (by kernel_rfl) (by kernel_rfl) ((copy_ok g A _ (unhide hH1)).mono ?_)
  rintro r u4 ⟨g2, rfl, hg2, hH2, hg⟩
  refine ⟨_, rfl, ?_⟩
  have hne : g2 ≠ g := by obtain ⟨l, _, _, h3, _⟩ := unhide hH1; have := lt_of_block h3; omega
  have hgw2 : w.heap.size ≤ g2 := Nat.le_trans (unhide hG).size hg2
  replace hG := hide ((unhide hG).trans hg)
  replace hH1 := hide ((unhide hH1).gr hg)
  replace hH2 := hide hH2
  clear hg hg2
  simp only [Act.put, List.setIfInBounds_toArray, List.set_cons_zero, List.set_cons_succ, List.getElem_toArray, List.getElem_cons_zero, List.getElem_cons_succ]
  iterate 1 (refine wpList_step fun K hK => ?_; replace hK := hide hK; go_simp; refine unhide hK _ _ ?_; clear hK K)
  refine wpList_nil ?_
  go_upto_region 8 with fail
  refine wp_region_lit ?_
  iterate 2 (refine wpList_step fun K hK => ?_; replace hK := hide hK; go_simp; refine unhide hK _ _ ?_; clear hK K)
  refine list_call 15 #[.pointer (some ⟨g, 0, none⟩), .slice a2 n2 c2] (by kernel_rfl) (by kernel_rfl) ((write_ok g A B (unhide hb2) (by rw [unhide hn1, unhide hn2]; omega) a2 n2 c2 (unhide hn2) hc2 (by omega) _ (unhide hH1) ((unhide hA2).far (unhide hG) hgw)).mono ?_)
  rintro r u5 ⟨rfl, hH3, hbt⟩
  refine ⟨_, rfl, ?_⟩
  replace hH2 := hide ((unhide hH2).bt hbt hne)
  replace hG := hide (hbt.gr (unhide hG) hgw)
  replace hH1 := hide hH3
  clear hbt hH3
  simp only [Act.put, List.setIfInBounds_toArray, List.set_cons_zero, List.set_cons_succ, List.getElem_toArray, List.getElem_cons_zero, List.getElem_cons_succ]
  refine wpList_nil ?_
  go_upto_region 9 with fail
  refine wp_region_lit ?_
  iterate 2 (refine wpList_step fun K hK => ?_; replace hK := hide hK; go_simp; refine unhide hK _ _ ?_; clear hK K)
  refine list_call 15 #[.pointer (some ⟨g2, 0, none⟩), .slice a3 n3 c3] (by kernel_rfl) (by kernel_rfl) ((write_ok g2 A C (unhide hb3) (by rw [unhide hn1, unhide hn3]; omega) a3 n3 c3 (unhide hn3) hc3 (by omega) _ (unhide hH2) ((unhide hA3).far (unhide hG) hgw2)).mono ?_)
  rintro r u6 ⟨rfl, hH3, hbt⟩
  refine ⟨_, rfl, ?_⟩
  replace hH1 := hide ((unhide hH1).bt hbt (fun e => hne e.symm))
  replace hG := hide (hbt.gr (unhide hG) hgw2)
  replace hH2 := hide hH3
  clear hbt hH3
  simp only [Act.put, List.setIfInBounds_toArray, List.set_cons_zero, List.set_cons_succ, List.getElem_toArray, List.getElem_cons_zero, List.getElem_cons_succ]
  refine wpList_nil ?_
  have w1 : IntKind.i64.wrap ((n1 : Int) + (n2 : Int)) = (n1 : Int) + (n2 : Int) := by rw [IntKind.wrap_i64]; omega
  have w2 : IntKind.i64.wrap ((n1 : Int) + (n3 : Int)) = (n1 : Int) + (n3 : Int) := by rw [IntKind.wrap_i64]; omega
  go_upto_region 10 with fail
  replace hH1 := unhide hH1
  replace hH2 := unhide hH2
  replace hG := unhide hG
  refine wp_region_lit ?_
  iterate 1 (refine wpList_step fun K hK => ?_; replace hK := hide hK; go_simp; refine unhide hK _ _ ?_; clear hK K)
  refine list_call 17 #[.pointer (some ⟨g, 0, none⟩)] (by kernel_rfl) (by kernel_rfl) ((hsum_ok g (A ++ B) (by rw [List.length_append, unhide hn1, unhide hn2]; omega) _ hH1).mono ?_)
  rintro r p1 ⟨rfl, hg⟩
  refine ⟨_, rfl, ?_⟩
  replace hH1 := hH1.gr hg
  replace hH2 := hH2.gr hg
  replace hG := hG.trans hg
  clear hg
  simp only [Act.put, List.setIfInBounds_toArray, List.set_cons_zero, List.set_cons_succ, List.getElem_toArray, List.getElem_cons_zero, List.getElem_cons_succ]
  obtain ⟨kk1, hkk1⟩ : ∃ kk, kk = sumL (A ++ B) := ⟨_, rfl⟩
  have lkk1 : kk1.length = 32 := by rw [hkk1]; exact sumL_len _
  rw [← hkk1]
  replace hkk1 := hide hkk1
  replace hH1 := hide hH1
  replace hH2 := hide hH2
  replace hG := hide hG
  iterate 2 (refine wpList_step fun K hK => ?_; replace hK := hide hK; go_simp; refine unhide hK _ _ ?_; clear hK K)
  have hO := blk_bytes (w := p1) (b := p1.heap.size) [] (Nat.le_refl _) (by simp)
  replace hO : Ob p1.heap.size (p1.alloc (.cells #[] 5 (0, 0))) (.slice (some ⟨p1.heap.size, 0, none⟩) 0 0) [] := hO
  have hR := (Gr.refl p1).alloc (.cells #[] 5 (0, 0))
  generalize World.alloc _ _ = p2 at *
  refine app_bs (by kernel_rfl) (.tmp 27) (.tmp 28) rfl p1.heap.size _ [] (by kernel_rfl) hO a1 n1 c1 A (by kernel_rfl) (unhide hn1) ((unhide hA1).gr ((unhide hG).trans hR)) (by simp; omega) hR.size ?_
  intro xp1 p3 hO1 hgb
  replace hR := hO.grown (Nat.le_refl _) hR hgb
  rw [List.nil_append] at hO1
  clear hgb hO
  simp only [Act.put, List.setIfInBounds_toArray, List.set_cons_zero, List.set_cons_succ, List.getElem_toArray, List.getElem_cons_zero, List.getElem_cons_succ]
  replace hR := hide hR
  replace hO1 := hide hO1
  iterate 1 (refine wpList_step fun K hK => ?_; replace hK := hide hK; go_simp; refine unhide hK _ _ ?_; clear hK K)
  replace hR := unhide hR
  replace hO1 := unhide hO1
  refine app_bs (by kernel_rfl) (.tmp 29) (.tmp 30) rfl p1.heap.size xp1 A (by kernel_rfl) hO1 a2 n2 c2 B (by kernel_rfl) (unhide hn2) ((unhide hA2).gr ((unhide hG).trans hR)) (by rw [unhide hn1]; omega) hR.size ?_
  intro x2 p4 hO2 hgb
  replace hR := hO1.grown (Nat.le_refl _) hR hgb
  clear hgb hO1
  obtain ⟨a5, c5, rfl, _, _, hs5⟩ := hO2.slice
  clear hO2
  have hAX : (A ++ B).length = n1 + n2 := by rw [List.length_append, unhide hn1, unhide hn2]
  rw [hAX]
  replace hH1 := (unhide hH1).gr hR
  replace hH2 := (unhide hH2).gr hR
  replace hG := (unhide hG).trans hR
  clear hR
  simp only [Act.put, List.setIfInBounds_toArray, List.set_cons_zero, List.set_cons_succ, List.getElem_toArray, List.getElem_cons_zero, List.getElem_cons_succ]
  refine list_call 12 #[.slice a5 (n1 + n2) c5] (by kernel_rfl) (by kernel_rfl) ((rsum_ok (A ++ B) (isB_append (unhide hb1) (unhide hb2)) (n1 + n2) hAX (by omega) a5 c5 _ hs5).mono ?_)
  rintro r p5 ⟨rfl, hg⟩
  refine ⟨_, rfl, ?_⟩
  replace hH1 := hH1.gr hg
  replace hH2 := hH2.gr hg
  replace hG := hG.trans hg
  clear hg hs5 hAX
  rw [← unhide hkk1]
  simp only [Act.put, List.setIfInBounds_toArray, List.set_cons_zero, List.set_cons_succ, List.getElem_toArray, List.getElem_cons_zero, List.getElem_cons_succ]
  have hke := key_refl kk1 lkk1
  replace hH1 := hide hH1
  replace hH2 := hide hH2
  replace hG := hide hG
  iterate 2 (refine wpList_step fun K hK => ?_; replace hK := hide hK; go_simp; refine unhide hK _ _ ?_; clear hK K)
  clear hke
  replace hH1 := unhide hH1
  replace hH2 := unhide hH2
  replace hG := unhide hG
  iterate 1 (refine wpList_step fun K hK => ?_; replace hK := hide hK; go_simp; refine unhide hK _ _ ?_; clear hK K)
  refine list_call 17 #[.pointer (some ⟨g2, 0, none⟩)] (by kernel_rfl) (by kernel_rfl) ((hsum_ok g2 (A ++ C) (by rw [List.length_append, unhide hn1, unhide hn3]; omega) _ hH2).mono ?_)
  rintro r q1 ⟨rfl, hg⟩
  refine ⟨_, rfl, ?_⟩
  replace hH1 := hH1.gr hg
  replace hH2 := hH2.gr hg
  replace hG := hG.trans hg
  clear hg
  simp only [Act.put, List.setIfInBounds_toArray, List.set_cons_zero, List.set_cons_succ, List.getElem_toArray, List.getElem_cons_zero, List.getElem_cons_succ]
  obtain ⟨kk2, hkk2⟩ : ∃ kk, kk = sumL (A ++ C) := ⟨_, rfl⟩
  have lkk2 : kk2.length = 32 := by rw [hkk2]; exact sumL_len _
  rw [← hkk2]
  replace hkk2 := hide hkk2
  replace hH1 := hide hH1
  replace hH2 := hide hH2
  replace hG := hide hG
  iterate 2 (refine wpList_step fun K hK => ?_; replace hK := hide hK; go_simp; refine unhide hK _ _ ?_; clear hK K)
  have hO := blk_bytes (w := q1) (b := q1.heap.size) [] (Nat.le_refl _) (by simp)
  replace hO : Ob q1.heap.size (q1.alloc (.cells #[] 5 (0, 0))) (.slice (some ⟨q1.heap.size, 0, none⟩) 0 0) [] := hO
  have hR := (Gr.refl q1).alloc (.cells #[] 5 (0, 0))
  generalize World.alloc _ _ = q2 at *
  refine app_bs (by kernel_rfl) (.tmp 37) (.tmp 38) rfl q1.heap.size _ [] (by kernel_rfl) hO a1 n1 c1 A (by kernel_rfl) (unhide hn1) ((unhide hA1).gr ((unhide hG).trans hR)) (by simp; omega) hR.size ?_
  intro x1 q3 hO1 hgb
  replace hR := hO.grown (Nat.le_refl _) hR hgb
  rw [List.nil_append] at hO1
  clear hgb hO
  simp only [Act.put, List.setIfInBounds_toArray, List.set_cons_zero, List.set_cons_succ, List.getElem_toArray, List.getElem_cons_zero, List.getElem_cons_succ]
  replace hR := hide hR
  replace hO1 := hide hO1
  iterate 1 (refine wpList_step fun K hK => ?_; replace hK := hide hK; go_simp; refine unhide hK _ _ ?_; clear hK K)
  replace hR := unhide hR
  replace hO1 := unhide hO1
  refine app_bs (by kernel_rfl) (.tmp 39) (.tmp 40) rfl q1.heap.size x1 A (by kernel_rfl) hO1 a3 n3 c3 C (by kernel_rfl) (unhide hn3) ((unhide hA3).gr ((unhide hG).trans hR)) (by rw [unhide hn1]; omega) hR.size ?_
  intro x2 q4 hO2 hgb
  replace hR := hO1.grown (Nat.le_refl _) hR hgb
  clear hgb hO1
  obtain ⟨a5, c5, rfl, _, _, hs5⟩ := hO2.slice
  clear hO2
  have hAX : (A ++ C).length = n1 + n3 := by rw [List.length_append, unhide hn1, unhide hn3]
  rw [hAX]
  replace hH1 := (unhide hH1).gr hR
  replace hH2 := (unhide hH2).gr hR
  replace hG := (unhide hG).trans hR
  clear hR
  simp only [Act.put, List.setIfInBounds_toArray, List.set_cons_zero, List.set_cons_succ, List.getElem_toArray, List.getElem_cons_zero, List.getElem_cons_succ]
  refine list_call 12 #[.slice a5 (n1 + n3) c5] (by kernel_rfl) (by kernel_rfl) ((rsum_ok (A ++ C) (isB_append (unhide hb1) (unhide hb3)) (n1 + n3) hAX (by omega) a5 c5 _ hs5).mono ?_)
  rintro r q5 ⟨rfl, hg⟩
  refine ⟨_, rfl, ?_⟩
  replace hH1 := hH1.gr hg
  replace hH2 := hH2.gr hg
  replace hG := hG.trans hg
  clear hg hs5 hAX
  rw [← unhide hkk2]
  simp only [Act.put, List.setIfInBounds_toArray, List.set_cons_zero, List.set_cons_succ, List.getElem_toArray, List.getElem_cons_zero, List.getElem_cons_succ]
  have hke := key_refl kk2 lkk2
  replace hH1 := hide hH1
  replace hH2 := hide hH2
  replace hG := hide hG
  iterate 3 (refine wpList_step fun K hK => ?_; replace hK := hide hK; go_simp; refine unhide hK _ _ ?_; clear hK K)
  clear hke
  iterate 1 (refine wpList_step fun K hK => ?_; replace hK := hide hK; go_simp; refine unhide hK _ _ ?_; clear hK K)
  replace hH1 := unhide hH1
  refine list_call 16 #[.pointer (some ⟨g, 0, none⟩)] (by kernel_rfl) (by kernel_rfl) ((len_ok g (A ++ B) _ hH1).mono ?_)
  rintro r z1 ⟨rfl, rfl⟩
  refine ⟨_, rfl, ?_⟩
  clear hH1
  have e1 : ((A ++ B).length : Int) = (n1 : Int) + (n2 : Int) := by rw [List.length_append, unhide hn1, unhide hn2]; omega
  rw [e1]
  clear e1
  simp only [Act.put, List.setIfInBounds_toArray, List.set_cons_zero, List.set_cons_succ, List.getElem_toArray, List.getElem_cons_zero, List.getElem_cons_succ]
  iterate 8 (refine wpList_step fun K hK => ?_; replace hK := hide hK; go_simp; refine unhide hK _ _ ?_; clear hK K)
  iterate 1 (refine wpList_step fun K hK => ?_; replace hK := hide hK; go_simp; refine unhide hK _ _ ?_; clear hK K)
  replace hH2 := unhide hH2
  refine list_call 16 #[.pointer (some ⟨g2, 0, none⟩)] (by kernel_rfl) (by kernel_rfl) ((len_ok g2 (A ++ C) _ hH2).mono ?_)
  rintro r z2 ⟨rfl, rfl⟩
  refine ⟨_, rfl, ?_⟩
  clear hH2
  have e1 : ((A ++ C).length : Int) = (n1 : Int) + (n3 : Int) := by rw [List.length_append, unhide hn1, unhide hn3]; omega
  rw [e1]
  clear e1
  simp only [Act.put, List.setIfInBounds_toArray, List.set_cons_zero, List.set_cons_succ, List.getElem_toArray, List.getElem_cons_zero, List.getElem_cons_succ]
  iterate 8 (refine wpList_step fun K hK => ?_; replace hK := hide hK; go_simp; refine unhide hK _ _ ?_; clear hK K)
  refine wpList_nil ?_
  go_wp2_with fail
  rw [unhide hT]
  exact ⟨rfl, unhide hG⟩
end Go.Proofs.YtnjgcenanpkelaaDoor
