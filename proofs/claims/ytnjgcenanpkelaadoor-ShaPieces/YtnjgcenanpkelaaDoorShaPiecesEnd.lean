/-
  Bytes that are written piece by piece have the hash of all of them: the walk's end.
-/
import Derived.Test.YtnjgcenanpkelaaDoorShaPiecesWalk
namespace Go.Proofs.YtnjgcenanpkelaaDoor
open Go.RowKit
set_option maxRecDepth 1000000
set_option linter.unusedVariables false
set_option linter.unusedSimpArgs false

set_option maxHeartbeats 2000000 in
theorem pieces_ok (ps : List (List Int)) (a : Option Addr) (m cap : Nat) (hm : ps.length = m) (hmb : m ≤ 140737488351232) (w : World) (hF : Fst w) (hP : Ps w a ps) :
    Calls Tryd.prog 4 #[.slice a m cap] w (Woke w) := by
  obtain ⟨T, hT⟩ : ∃ T, T = Woke w := ⟨_, rfl⟩
  rw [← hT]
  replace hT := hide hT
  have hF0 := hide hF
  replace hF := hide hF
  replace hP := hide hP
  go_enter Tryd.func4, Tryd.ntmps4
  go_upto_region 3 with (go_at_call 9; refine (wakes_ok _ (unhide hF)).mono ?_; rintro e u1 ⟨rfl, hG⟩)
  refine wp_region_lit ?_
  refine list_call 14 #[] (by kernel_rfl) (by kernel_rfl) ((new_ok _ ((unhide hF0).gr hG)).mono ?_)
  rintro r u2 ⟨g, rfl, hg0, hH, hg⟩
  refine ⟨_, rfl, ?_⟩
  have hgw : w.heap.size ≤ g := Nat.le_trans hG.size hg0
  replace hG := hG.trans hg
  clear hg hg0 hF0 hF
  have hgb : g < u2.heap.size := by obtain ⟨l, _, _, h3, _⟩ := hH; exact lt_of_block h3
  have hI : PI w u2.heap.size g (.slice none 0 0) [] u2 := ⟨⟨rfl, .inl ⟨rfl, rfl⟩⟩, hH, hG, Nat.le_refl _, (by intro x hx; cases hx)⟩
  clear hH hG
  simp only [Act.put, List.setIfInBounds_toArray, List.set_cons_zero, List.set_cons_succ, List.getElem_toArray, List.getElem_cons_zero, List.getElem_cons_succ]
  replace hI := hide hI
  generalize hb0 : u2.heap.size = b at *
  clear hb0
  iterate 1 (refine wpList_step fun K hK => ?_; replace hK := hide hK; go_simp; refine unhide hK _ _ ?_; clear hK K)
  refine wpList_nil ?_
  go_wp2_with fail
  refine pieces_loop ps m cap hm hmb a w b g hgw hgb (unhide hP) _ ?_ _ (unhide hI) _ _ _ _ _ _ _ _ _ _ _ _ _ _ _ _ _ _ _ _ _ _ _ _ _ _ _ _ _ _ _ _ _ _ _ _ _ _ _ _ _ _ _ _ _ _ _ _ _ _ _ _ _ _ _ _ _ _ _ _ _ _ _ _ _ _ _ _ _ _ _ _ _ _ _ _ _ _ _ _ _ _ _ ?_
  · exact fun _ _ _ _ _ h => h
  clear hI
  intro q2 q5 q6 q7 q8 q15 q16 q17 q18 q19 q20 q21 q22 q23 q24 q25 q26 q27 q28 q29 q30 q31 q32 q33 q34 q35 q36 q37 q38 q39 q40 q41 q42 q43 q44 q45 q46 q47 q48 q49 q50 q51 q52 q53 q54 q55 q56 q57 q58 q59 q60 q61 q62 q63 q64 q65 q66 q67 q68 x L v hL hI
  obtain ⟨a5, c5, rfl, _, _, _⟩ := hI.ob.slice
  replace hI := hide hI
  go_upto_region 21 with fail
  replace hI := unhide hI
  refine wp_region_lit ?_
  iterate 1 (refine wpList_step fun K hK => ?_; replace hK := hide hK; go_simp; refine unhide hK _ _ ?_; clear hK K)
  refine list_call 12 #[.slice a5 L.length c5] (by kernel_rfl) (by kernel_rfl) ((rsum_ok L hI.isB L.length rfl (by omega) a5 c5 _ hI.sl).mono ?_)
  rintro r v1 ⟨rfl, hg⟩
  refine ⟨_, rfl, ?_⟩
  replace hI := hI.more hg
  clear hg
  simp only [Act.put, List.setIfInBounds_toArray, List.set_cons_zero, List.set_cons_succ, List.getElem_toArray, List.getElem_cons_zero, List.getElem_cons_succ]
  obtain ⟨kk, hkk0⟩ : ∃ kk, kk = sumL L := ⟨_, rfl⟩
  have hkk : kk.length = 32 := by rw [hkk0]; exact sumL_len L
  rw [← hkk0]
  replace hkk0 := hide hkk0
  replace hI := hide hI
  iterate 1 (refine wpList_step fun K hK => ?_; replace hK := hide hK; go_simp; refine unhide hK _ _ ?_; clear hK K)
  have hL2 := (Bl.nil v1).new #[.int .u8 0, .int .u8 0, .int .u8 0, .int .u8 0, .int .u8 0, .int .u8 0, .int .u8 0, .int .u8 0, .int .u8 0, .int .u8 0, .int .u8 0, .int .u8 0, .int .u8 0, .int .u8 0, .int .u8 0, .int .u8 0, .int .u8 0, .int .u8 0, .int .u8 0, .int .u8 0, .int .u8 0, .int .u8 0, .int .u8 0, .int .u8 0, .int .u8 0, .int .u8 0, .int .u8 0, .int .u8 0, .int .u8 0, .int .u8 0, .int .u8 0, .int .u8 0] 26
  simp only [List.nil_append] at hL2
  generalize World.alloc _ _ = v2 at *
  replace hL2 : Bl v1 [⟨v1.heap.size, kc Z32, 26⟩] v2 := hL2
  refine list_store 26 (.tmp 9) (.tmp 70) v1.heap.size (kc kk) 26 (kc Z32) (by kernel_rfl) rfl (by kernel_rfl) (by kernel_rfl) (hL2.get 0 (x := ⟨v1.heap.size, kc Z32, 26⟩) rfl) (by rw [Tryd.infoKey, kc_size, hkk]) ((show (kc Z32).size = 32 from rfl).trans ((kc_size _).trans hkk).symm) (kc_one _) ?_
  replace hL2 := hL2.set 0 (x := ⟨v1.heap.size, kc Z32, 26⟩) rfl (kc kk)
  simp only [List.set_cons_zero, List.set_cons_succ] at hL2
  generalize World.setRow _ _ _ = v3 at *
  simp only [Act.put, List.setIfInBounds_toArray, List.set_cons_zero, List.set_cons_succ, List.getElem_toArray, List.getElem_cons_zero, List.getElem_cons_succ]
  refine wpList_nil ?_
  have hk := hL2.get 0 (x := ⟨v1.heap.size, kc kk, 26⟩) rfl
  dsimp only at hk
  replace hI := hide ((unhide hI).more hL2.gr)
  generalize v1.heap.size = gk at *
  clear hL2
  go_upto_region 22 with fail
  replace hI := unhide hI
  refine any_start (S := fun v => v.heap[gk]? = some (.cells (kc kk) 26 (0, 0))) (by kernel_rfl) ?_
  have hg := (Gr.refl v3).drew
  generalize World.drew _ = v4 at *
  replace hI := hI.more hg
  replace hk := hg.blk hk
  clear hg
  simp only [List.size_toArray, List.length_cons, List.length_nil, Array.replicate, List.replicate]
  refine any_take (i := 0) (v := (.pointer (some ⟨g, 0, none⟩))) #[false, false, false, false, false, false, false, false, false, false, false, false, false, false, false, false, false, false] rfl (by kernel_rfl) (by kernel_rfl) (by kernel_rfl) (by kernel_rfl) (fun _ _ _ h => h) (.inl ⟨by kernel_rfl, fun x_ hu => by kernel_rfl⟩) hk ?_
  simp only [Act.put, List.setIfInBounds_toArray, List.set_cons_zero, List.set_cons_succ, List.getElem_toArray, List.getElem_cons_zero, List.getElem_cons_succ]
  refine any_take (i := 2) (v := (.agg (kc kk))) #[true, false, false, false, false, false, false, false, false, false, false, false, false, false, false, false, false, false] rfl (by kernel_rfl) (by kernel_rfl) (by kernel_rfl) (by kernel_rfl) (fun _ _ _ h => h) (.inl ⟨by kernel_rfl, fun x_ hu => exec_arr x_ 26 (.tmp 9) rfl gk (by kernel_rfl) (kc kk) 26 _ hu Tryd.underlying26 rfl (by rw [Tryd.infoKey, kc_size, hkk])⟩) hk ?_
  simp only [Act.put, List.setIfInBounds_toArray, List.set_cons_zero, List.set_cons_succ, List.getElem_toArray, List.getElem_cons_zero, List.getElem_cons_succ]
  refine any_one (i := 1) (by kernel_rfl) rfl (fun K hK => ?_)
  refine step_callw (by kernel_rfl) 17 #[.pointer (some ⟨g, 0, none⟩)] (by kernel_rfl) ((hsum_ok g L (by omega) _ hI.h).mono ?_)
  rintro r y1_ ⟨rfl, hg⟩
  refine ⟨_, rfl, ?_⟩
  rw [← unhide hkk0]
  replace hI := hI.more hg
  replace hk := hg.blk hk
  clear hg
  refine hK.out _ _ hk (fun _ => ?_)
  clear hK K
  simp only [Act.put, List.setIfInBounds_toArray, List.set_cons_zero, List.set_cons_succ, List.getElem_toArray, List.getElem_cons_zero, List.getElem_cons_succ]
  refine any_take (i := 3) (v := (.bool true)) #[true, true, true, false, false, false, false, false, false, false, false, false, false, false, false, false, false, false] rfl (by kernel_rfl) (by kernel_rfl) (by kernel_rfl) (by kernel_rfl) (fun _ _ _ h => h) (.inl ⟨by kernel_rfl, fun x_ hu => by have e := key_refl kk hkk; go_simp⟩) hk ?_
  simp only [Act.put, List.setIfInBounds_toArray, List.set_cons_zero, List.set_cons_succ, List.getElem_toArray, List.getElem_cons_zero, List.getElem_cons_succ]
  refine any_take (i := 4) (v := (.bool true)) #[true, true, true, true, false, false, false, false, false, false, false, false, false, false, false, false, false, false] rfl (by kernel_rfl) (by kernel_rfl) (by kernel_rfl) (by kernel_rfl) (fun _ _ _ h => h) (.inl ⟨by kernel_rfl, fun x_ hu => by kernel_rfl⟩) hk ?_
  simp only [Act.put, List.setIfInBounds_toArray, List.set_cons_zero, List.set_cons_succ, List.getElem_toArray, List.getElem_cons_zero, List.getElem_cons_succ]
  refine any_take (i := 5) (v := (.pointer (some ⟨g, 0, none⟩))) #[true, true, true, true, true, false, false, false, false, false, false, false, false, false, false, false, false, false] rfl (by kernel_rfl) (by kernel_rfl) (by kernel_rfl) (by kernel_rfl) (fun _ _ _ h => h) (.inl ⟨by kernel_rfl, fun x_ hu => by kernel_rfl⟩) hk ?_
  simp only [Act.put, List.setIfInBounds_toArray, List.set_cons_zero, List.set_cons_succ, List.getElem_toArray, List.getElem_cons_zero, List.getElem_cons_succ]
  refine any_take (i := 7) (v := (.agg (kc kk))) #[true, true, true, true, true, true, false, false, false, false, false, false, false, false, false, false, false, false] rfl (by kernel_rfl) (by kernel_rfl) (by kernel_rfl) (by kernel_rfl) (fun _ _ _ h => h) (.inl ⟨by kernel_rfl, fun x_ hu => exec_arr x_ 26 (.tmp 9) rfl gk (by kernel_rfl) (kc kk) 26 _ hu Tryd.underlying26 rfl (by rw [Tryd.infoKey, kc_size, hkk])⟩) hk ?_
  simp only [Act.put, List.setIfInBounds_toArray, List.set_cons_zero, List.set_cons_succ, List.getElem_toArray, List.getElem_cons_zero, List.getElem_cons_succ]
  refine any_one (i := 6) (by kernel_rfl) rfl (fun K hK => ?_)
  refine step_callw (by kernel_rfl) 17 #[.pointer (some ⟨g, 0, none⟩)] (by kernel_rfl) ((hsum_ok g L (by omega) _ hI.h).mono ?_)
  rintro r y2_ ⟨rfl, hg⟩
  refine ⟨_, rfl, ?_⟩
  rw [← unhide hkk0]
  replace hI := hI.more hg
  replace hk := hg.blk hk
  clear hg
  refine hK.out _ _ hk (fun _ => ?_)
  clear hK K
  simp only [Act.put, List.setIfInBounds_toArray, List.set_cons_zero, List.set_cons_succ, List.getElem_toArray, List.getElem_cons_zero, List.getElem_cons_succ]
  refine any_take (i := 8) (v := (.bool true)) #[true, true, true, true, true, true, true, true, false, false, false, false, false, false, false, false, false, false] rfl (by kernel_rfl) (by kernel_rfl) (by kernel_rfl) (by kernel_rfl) (fun _ _ _ h => h) (.inl ⟨by kernel_rfl, fun x_ hu => by have e := key_refl kk hkk; go_simp⟩) hk ?_
  simp only [Act.put, List.setIfInBounds_toArray, List.set_cons_zero, List.set_cons_succ, List.getElem_toArray, List.getElem_cons_zero, List.getElem_cons_succ]
  refine any_take (i := 9) (v := (.bool true)) #[true, true, true, true, true, true, true, true, true, false, false, false, false, false, false, false, false, false] rfl (by kernel_rfl) (by kernel_rfl) (by kernel_rfl) (by kernel_rfl) (fun _ _ _ h => h) (.inl ⟨by kernel_rfl, fun x_ hu => by kernel_rfl⟩) hk ?_
  simp only [Act.put, List.setIfInBounds_toArray, List.set_cons_zero, List.set_cons_succ, List.getElem_toArray, List.getElem_cons_zero, List.getElem_cons_succ]
  refine any_take (i := 10) (v := (.bool true)) #[true, true, true, true, true, true, true, true, true, true, false, false, false, false, false, false, false, false] rfl (by kernel_rfl) (by kernel_rfl) (by kernel_rfl) (by kernel_rfl) (fun _ _ _ h => h) (.inl ⟨by kernel_rfl, fun x_ hu => by kernel_rfl⟩) hk ?_
  simp only [Act.put, List.setIfInBounds_toArray, List.set_cons_zero, List.set_cons_succ, List.getElem_toArray, List.getElem_cons_zero, List.getElem_cons_succ]
  refine any_take (i := 11) (v := (.pointer (some ⟨g, 0, none⟩))) #[true, true, true, true, true, true, true, true, true, true, true, false, false, false, false, false, false, false] rfl (by kernel_rfl) (by kernel_rfl) (by kernel_rfl) (by kernel_rfl) (fun _ _ _ h => h) (.inl ⟨by kernel_rfl, fun x_ hu => by kernel_rfl⟩) hk ?_
  simp only [Act.put, List.setIfInBounds_toArray, List.set_cons_zero, List.set_cons_succ, List.getElem_toArray, List.getElem_cons_zero, List.getElem_cons_succ]
  refine any_take (i := 13) (v := (.slice a5 L.length c5)) #[true, true, true, true, true, true, true, true, true, true, true, true, false, false, false, false, false, false] rfl (by kernel_rfl) (by kernel_rfl) (by kernel_rfl) (by kernel_rfl) (fun _ _ _ h => h) (.inl ⟨by kernel_rfl, fun x_ hu => by kernel_rfl⟩) hk ?_
  simp only [Act.put, List.setIfInBounds_toArray, List.set_cons_zero, List.set_cons_succ, List.getElem_toArray, List.getElem_cons_zero, List.getElem_cons_succ]
  refine any_take (i := 14) (v := (.int .i64 L.length)) #[true, true, true, true, true, true, true, true, true, true, true, true, false, true, false, false, false, false] rfl (by kernel_rfl) (by kernel_rfl) (by kernel_rfl) (by kernel_rfl) (fun _ _ _ h => h) (.inl ⟨by kernel_rfl, fun x_ hu => by kernel_rfl⟩) hk ?_
  simp only [Act.put, List.setIfInBounds_toArray, List.set_cons_zero, List.set_cons_succ, List.getElem_toArray, List.getElem_cons_zero, List.getElem_cons_succ]
  refine any_one (i := 12) (by kernel_rfl) rfl (fun K hK => ?_)
  refine step_callw (by kernel_rfl) 16 #[.pointer (some ⟨g, 0, none⟩)] (by kernel_rfl) ((len_ok g L _ hI.h).mono ?_)
  rintro r y3_ ⟨rfl, rfl⟩
  refine ⟨_, rfl, ?_⟩
  refine hK.out _ _ hk (fun _ => ?_)
  clear hK K
  simp only [Act.put, List.setIfInBounds_toArray, List.set_cons_zero, List.set_cons_succ, List.getElem_toArray, List.getElem_cons_zero, List.getElem_cons_succ]
  refine any_take (i := 15) (v := (.bool true)) #[true, true, true, true, true, true, true, true, true, true, true, true, true, true, true, false, false, false] rfl (by kernel_rfl) (by kernel_rfl) (by kernel_rfl) (by kernel_rfl) (fun _ _ _ h => h) (.inl ⟨by kernel_rfl, fun x_ hu => by go_simp⟩) hk ?_
  simp only [Act.put, List.setIfInBounds_toArray, List.set_cons_zero, List.set_cons_succ, List.getElem_toArray, List.getElem_cons_zero, List.getElem_cons_succ]
  refine any_take (i := 16) (v := (.bool true)) #[true, true, true, true, true, true, true, true, true, true, true, true, true, true, true, true, false, false] rfl (by kernel_rfl) (by kernel_rfl) (by kernel_rfl) (by kernel_rfl) (fun _ _ _ h => h) (.inl ⟨by kernel_rfl, fun x_ hu => by kernel_rfl⟩) hk ?_
  simp only [Act.put, List.setIfInBounds_toArray, List.set_cons_zero, List.set_cons_succ, List.getElem_toArray, List.getElem_cons_zero, List.getElem_cons_succ]
  refine any_one (i := 17) (by kernel_rfl) rfl (fun K hK => ?_)
  replace hK := hide hK
  go_simp
  refine (unhide hK).out _ _ hk (fun _ => ?_)
  clear hK K
  refine any_done (by kernel_rfl) ?_
  have hG := hide hI.gr
  clear hk hI
  go_wp2_with fail
  rw [unhide hT]
  exact ⟨rfl, unhide hG⟩
end Go.Proofs.YtnjgcenanpkelaaDoor
