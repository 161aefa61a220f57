/-
  The program: a number below 1, forks; does the layer do anything?
-/
import Derived.Test.YtdfcdklnngfhkaaDoorDcC
namespace Go.Proofs.YtdfcdklnngfhkaaDoor
open Go.RowKit
set_option maxRecDepth 100000
set_option linter.unusedSimpArgs false
set_option linter.unusedVariables false
def Onb (g : Nat) (Y : List Int) (t : Nat) (w : World) (r : Ending) (w' : World) : Prop := r = .returned (.tuple #[.int .i64 0, .int .i64 0]) ∧ De g Y (t + 4) w' ∧ Bt g w w'
set_option maxHeartbeats 4000000 in
theorem dbel_one (Y : List Int) (hY : Y.length = 32) (hYb : IsB Y) (t : Nat) (ht : t ≤ 1099511627776) (g : Nat) (w : World) (hd : De g Y t w) : Calls Tryd.prog 15 #[.pointer (some ⟨g, 0, none⟩), .int .i64 1] w (Onb g Y t w) := by
  obtain ⟨T, hT⟩ : ∃ T, T = Onb g Y t w := ⟨_, rfl⟩
  rw [← hT]
  replace hT := hide hT
  replace hd := hide hd; replace hYb := hide hYb
  go_enter Tryd.func15, Tryd.ntmps15
  go_wp2_with (go_at_call 29; refine (dbelow_one Y hY (unhide hYb) t ht g _ (unhide hd)).mono ?_; rintro e u1 ⟨rfl, h1, h2⟩; have hP : Hid (Onb g Y t w (.returned (.tuple #[.int .i64 0, .int .i64 0])) u1) := ⟨rfl, h1, h2⟩; clear h1 h2)
  rw [unhide hT]
  exact unhide hP
def Woke (w : World) (r : Ending) (w' : World) : Prop := r = .returned (.bool true) ∧ Gr w w'
theorem Lb.nil0 (w : World) : Lb w none 0 0 [] := ⟨rfl, (by intro x hx; cases hx), .inl rfl, by omega, by omega⟩
set_option maxHeartbeats 4000000 in
theorem wakes_ok (w : World) (hF : Fst w) : Calls Tryd.prog 9 #[] w (Woke w) := by
  obtain ⟨T, hT⟩ : ∃ T, T = Woke w := ⟨_, rfl⟩
  rw [← hT]
  replace hT := hide hT
  go_enter Tryd.func9, Tryd.ntmps9
  go_upto_region 1 with fail
  refine wp_region_lit ?_
  refine list_call 10 #[.slice none 0 0] (by kernel_rfl) (by kernel_rfl) ((dnew_ok [] none 0 0 (by omega) _ hF (Lb.nil0 w)).mono ?_)
  rintro r u1 ⟨g, rfl, hg, hd, hG⟩
  refine ⟨_, rfl, ?_⟩
  have hYl := sumL_len []
  have hYb := sumL_isB []
  generalize sumL [] = Y at *
  simp only [Act.put, List.setIfInBounds_toArray, List.set_cons_zero, List.set_cons_succ, List.getElem_toArray, List.getElem_cons_zero, List.getElem_cons_succ]
  (refine wpList_step fun K hK => ?_; replace hK := hide hK; go_simp; refine unhide hK _ _ ?_; clear hK K)
  refine wpList_nil ?_
  replace hd := hide hd; replace hG := hide hG; replace hYb := hide hYb
  go_upto_region 2 with fail
  refine wp_region_lit ?_
  refine list_val (.pointer (some ⟨g, 0, none⟩)) (by kernel_rfl) (by kernel_rfl) ?_
  simp only [Act.put, List.setIfInBounds_toArray, List.set_cons_zero, List.set_cons_succ, List.getElem_toArray, List.getElem_cons_zero, List.getElem_cons_succ]
  refine list_call 15 #[.pointer (some ⟨g, 0, none⟩), .int .i64 1] (by kernel_rfl) (by kernel_rfl) ((dbel_one Y hYl (unhide hYb) 0 (by omega) g _ (unhide hd)).mono ?_)
  rintro r u2 ⟨rfl, hd2, hbt⟩
  refine ⟨_, rfl, ?_⟩
  have hG2 := hide (hbt.gr (unhide hG) hg)
  clear hd hG hbt
  simp only [Act.put, List.setIfInBounds_toArray, List.set_cons_zero, List.set_cons_succ, List.getElem_toArray, List.getElem_cons_zero, List.getElem_cons_succ]
  refine list_val (.tuple #[.int .i64 0, .int .i64 0]) (by kernel_rfl) (by kernel_rfl) ?_
  simp only [Act.put, List.setIfInBounds_toArray, List.set_cons_zero, List.set_cons_succ, List.getElem_toArray, List.getElem_cons_zero, List.getElem_cons_succ]
  refine list_val (.int .i64 0) (by kernel_rfl) (by kernel_rfl) ?_
  simp only [Act.put, List.setIfInBounds_toArray, List.set_cons_zero, List.set_cons_succ, List.getElem_toArray, List.getElem_cons_zero, List.getElem_cons_succ]
  refine list_val (.int .i64 0) (by kernel_rfl) (by kernel_rfl) ?_
  simp only [Act.put, List.setIfInBounds_toArray, List.set_cons_zero, List.set_cons_succ, List.getElem_toArray, List.getElem_cons_zero, List.getElem_cons_succ]
  (refine wpList_step fun K hK => ?_; replace hK := hide hK; go_simp; refine unhide hK _ _ ?_; clear hK K)
  (refine wpList_step fun K hK => ?_; replace hK := hide hK; go_simp; refine unhide hK _ _ ?_; clear hK K)
  refine wpList_nil ?_
  replace hd2 := hide hd2
  go_upto_region 3 with fail
  refine wp_region_lit ?_
  refine list_val (.pointer (some ⟨g, 0, none⟩)) (by kernel_rfl) (by kernel_rfl) ?_
  simp only [Act.put, List.setIfInBounds_toArray, List.set_cons_zero, List.set_cons_succ, List.getElem_toArray, List.getElem_cons_zero, List.getElem_cons_succ]
  refine list_val (.bool true) (by kernel_rfl) (by kernel_rfl) ?_
  simp only [Act.put, List.setIfInBounds_toArray, List.set_cons_zero, List.set_cons_succ, List.getElem_toArray, List.getElem_cons_zero, List.getElem_cons_succ]
  refine list_val (.bool true) (by kernel_rfl) (by kernel_rfl) ?_
  simp only [Act.put, List.setIfInBounds_toArray, List.set_cons_zero, List.set_cons_succ, List.getElem_toArray, List.getElem_cons_zero, List.getElem_cons_succ]
  refine list_val (.int .i64 0) (by kernel_rfl) (by kernel_rfl) ?_
  simp only [Act.put, List.setIfInBounds_toArray, List.set_cons_zero, List.set_cons_succ, List.getElem_toArray, List.getElem_cons_zero, List.getElem_cons_succ]
  refine list_val (.bool true) (by kernel_rfl) (by kernel_rfl) ?_
  simp only [Act.put, List.setIfInBounds_toArray, List.set_cons_zero, List.set_cons_succ, List.getElem_toArray, List.getElem_cons_zero, List.getElem_cons_succ]
  refine list_val (.bool true) (by kernel_rfl) (by kernel_rfl) ?_
  simp only [Act.put, List.setIfInBounds_toArray, List.set_cons_zero, List.set_cons_succ, List.getElem_toArray, List.getElem_cons_zero, List.getElem_cons_succ]
  refine list_val (.bool true) (by kernel_rfl) (by kernel_rfl) ?_
  simp only [Act.put, List.setIfInBounds_toArray, List.set_cons_zero, List.set_cons_succ, List.getElem_toArray, List.getElem_cons_zero, List.getElem_cons_succ]
  refine list_val (.int .i64 0) (by kernel_rfl) (by kernel_rfl) ?_
  simp only [Act.put, List.setIfInBounds_toArray, List.set_cons_zero, List.set_cons_succ, List.getElem_toArray, List.getElem_cons_zero, List.getElem_cons_succ]
  refine list_val (.bool true) (by kernel_rfl) (by kernel_rfl) ?_
  simp only [Act.put, List.setIfInBounds_toArray, List.set_cons_zero, List.set_cons_succ, List.getElem_toArray, List.getElem_cons_zero, List.getElem_cons_succ]
  refine list_val (.bool true) (by kernel_rfl) (by kernel_rfl) ?_
  simp only [Act.put, List.setIfInBounds_toArray, List.set_cons_zero, List.set_cons_succ, List.getElem_toArray, List.getElem_cons_zero, List.getElem_cons_succ]
  refine list_val (.bool true) (by kernel_rfl) (by kernel_rfl) ?_
  simp only [Act.put, List.setIfInBounds_toArray, List.set_cons_zero, List.set_cons_succ, List.getElem_toArray, List.getElem_cons_zero, List.getElem_cons_succ]
  refine list_val (.pointer (some ⟨g, 0, none⟩)) (by kernel_rfl) (by kernel_rfl) ?_
  simp only [Act.put, List.setIfInBounds_toArray, List.set_cons_zero, List.set_cons_succ, List.getElem_toArray, List.getElem_cons_zero, List.getElem_cons_succ]
  refine list_call 21 #[.pointer (some ⟨g, 0, none⟩)] (by kernel_rfl) (by kernel_rfl) ((dtaken_ok g Y _ _ (unhide hd2)).mono ?_)
  rintro r u3 ⟨rfl, rfl⟩
  refine ⟨_, rfl, ?_⟩
  simp only [Act.put, List.setIfInBounds_toArray, List.set_cons_zero, List.set_cons_succ, List.getElem_toArray, List.getElem_cons_zero, List.getElem_cons_succ]
  refine list_val (.bool true) (by kernel_rfl) (by kernel_rfl) ?_
  simp only [Act.put, List.setIfInBounds_toArray, List.set_cons_zero, List.set_cons_succ, List.getElem_toArray, List.getElem_cons_zero, List.getElem_cons_succ]
  refine list_val (.bool true) (by kernel_rfl) (by kernel_rfl) ?_
  simp only [Act.put, List.setIfInBounds_toArray, List.set_cons_zero, List.set_cons_succ, List.getElem_toArray, List.getElem_cons_zero, List.getElem_cons_succ]
  (refine wpList_step fun K hK => ?_; replace hK := hide hK; go_simp; refine unhide hK _ _ ?_; clear hK K)
  refine wpList_nil ?_
  have hP : Hid (Woke w (.returned (.bool true)) u3) := ⟨rfl, unhide hG2⟩
  clear hd2 hG2
  go_wp2_with fail
  rw [unhide hT]
  exact unhide hP
/-- what Fork answers and leaves -/
def Frk (g : Nat) (Y : List Int) (t : Nat) (s : ByteArray) (w : World) (r : Ending) (w' : World) : Prop := ∃ f, r = .returned (.tuple #[.pointer (some ⟨f, 0, none⟩), .int .i64 0]) ∧ w.heap.size ≤ f ∧ De f (sumL (nxl Y t 32 ++ tb s)) 0 w' ∧ De g Y (t + 32) w' ∧ Bt g w w'
set_option maxHeartbeats 4000000 in
theorem dfork_ok (Y : List Int) (hY : Y.length = 32) (hYb : IsB Y) (t : Nat) (ht : t ≤ 1099511627776) (s : ByteArray) (hs : s.size ≤ 4096) (g : Nat) (w : World) (hF : Fst w) (hd : De g Y t w) : Calls Tryd.prog 22 #[.pointer (some ⟨g, 0, none⟩), .string s] w (Frk g Y t s w) := by
  obtain ⟨T, hT⟩ : ∃ T, T = Frk g Y t s w := ⟨_, rfl⟩
  rw [← hT]
  replace hT := hide hT
  have hg0 := hF.ne hd
  have hglt := hd.lt
  replace hd := hide hd; replace hYb := hide hYb
  go_enter Tryd.func22, Tryd.ntmps22
  go_upto_region 3 with fail
  refine wp_region_lit ?_
  refine list_val (.pointer (some ⟨g, 0, none⟩)) (by kernel_rfl) (by kernel_rfl) ?_
  simp only [Act.put, List.setIfInBounds_toArray, List.set_cons_zero, List.set_cons_succ, List.getElem_toArray, List.getElem_cons_zero, List.getElem_cons_succ]
  refine list_call 31 #[.pointer (some ⟨g, 0, none⟩)] (by kernel_rfl) (by kernel_rfl) ((dnextKey_ok Y hY (unhide hYb) t ht g _ (unhide hd)).mono ?_)
  rintro r u1 ⟨rfl, hd2, hbt⟩
  refine ⟨_, rfl, ?_⟩
  have hEl := nxl_len Y t 32
  have hEb := nxl_isB Y t 32
  obtain ⟨E, hE⟩ : ∃ E, E = nxl Y t 32 := ⟨_, rfl⟩
  rw [← hE] at hEl hEb ⊢
  replace hE := hide hE
  have hF2 := hF.bt hbt hg0
  have hsz := hbt.size
  have hB := Bl.nil u1
  simp only [Act.put, List.setIfInBounds_toArray, List.set_cons_zero, List.set_cons_succ, List.getElem_toArray, List.getElem_cons_zero, List.getElem_cons_succ]
  replace hB := hide hB
  (refine wpList_step fun K hK => ?_; replace hK := hide hK; go_simp; refine unhide hK _ _ ?_; clear hK K)
  replace hB := (unhide hB).new #[.int .u8 0, .int .u8 0, .int .u8 0, .int .u8 0, .int .u8 0, .int .u8 0, .int .u8 0, .int .u8 0, .int .u8 0, .int .u8 0, .int .u8 0, .int .u8 0, .int .u8 0, .int .u8 0, .int .u8 0, .int .u8 0, .int .u8 0, .int .u8 0, .int .u8 0, .int .u8 0, .int .u8 0, .int .u8 0, .int .u8 0, .int .u8 0, .int .u8 0, .int .u8 0, .int .u8 0, .int .u8 0, .int .u8 0, .int .u8 0, .int .u8 0, .int .u8 0] 28
  simp only [List.nil_append, List.cons_append] at hB
  generalize World.alloc _ _ = u2 at *
  replace hB : Bl u1 [⟨u1.heap.size, kc Z32, 28⟩] u2 := hB
  refine list_store 28 (.tmp 6) (.tmp 10) (u1.heap.size) (kc E) 28 (kc Z32) (by kernel_rfl) rfl (by kernel_rfl) (by kernel_rfl) (hB.get 0 (x := ⟨u1.heap.size, kc Z32, 28⟩) rfl) (by rw [Tryd.infoKey, kc_size, hEl]) ((show (kc Z32).size = 32 from rfl).trans ((kc_size _).trans hEl).symm) (kc_one _) ?_
  replace hB := hB.set 0 (x := ⟨u1.heap.size, kc Z32, 28⟩) rfl (kc E)
  simp only [List.set_cons_zero, List.set_cons_succ] at hB
  generalize World.setRow _ _ _ = u3 at *
  simp only [Act.put, List.setIfInBounds_toArray, List.set_cons_zero, List.set_cons_succ, List.getElem_toArray, List.getElem_cons_zero, List.getElem_cons_succ]
  refine wpList_nil ?_
  replace hB := hide hB; replace hbt := hide hbt; replace hd2 := hide hd2; replace hF2 := hide hF2
  go_upto_region 4 with fail
  replace hB := unhide hB
  refine wp_region_lit ?_
  refine list_val (.slice (some ⟨u1.heap.size, 0, none⟩) 32 32) (by kernel_rfl) (by kernel_rfl) ?_
  simp only [Act.put, List.setIfInBounds_toArray, List.set_cons_zero, List.set_cons_succ, List.getElem_toArray, List.getElem_cons_zero, List.getElem_cons_succ]
  refine list_val (.string s) (by kernel_rfl) (by kernel_rfl) ?_
  simp only [Act.put, List.setIfInBounds_toArray, List.set_cons_zero, List.set_cons_succ, List.getElem_toArray, List.getElem_cons_zero, List.getElem_cons_succ]
  refine app_key (by kernel_rfl) (.tmp 11) (.tmp 12) rfl u1.heap.size 32 E hEl hEb (by kernel_rfl) (kc_at (hB.get 0 (x := ⟨u1.heap.size, kc E, 28⟩) rfl)) s (by kernel_rfl) (by omega) ?_
  intro a' m c' u4 hm lb hg4
  simp only [Act.put, List.setIfInBounds_toArray, List.set_cons_zero, List.set_cons_succ, List.getElem_toArray, List.getElem_cons_zero, List.getElem_cons_succ]
  refine list_call 10 #[.slice a' m c'] (by kernel_rfl) (by kernel_rfl) ((dnew_ok (E ++ tb s) a' m c' (by omega) _ ((unhide hF2).gr (hB.gr.trans hg4)) lb).mono ?_)
  rintro r u5 ⟨f, rfl, hf, hdf, hg5⟩
  refine ⟨_, rfl, ?_⟩
  have hGr := hB.gr.trans (hg4.trans hg5)
  have hf2 : w.heap.size ≤ f := Nat.le_trans hsz (Nat.le_trans (hB.gr.trans hg4).size hf)
  have hP : Hid (Frk g Y t s w (.returned (.tuple #[.pointer (some ⟨f, 0, none⟩), .int .i64 0])) u5) := ⟨f, rfl, hf2, by rw [← unhide hE]; exact hdf, (unhide hd2).gr hGr, (unhide hbt).trans (hGr.bt g)⟩
  clear hGr hf2 hdf hf hg5 lb hg4 hB hbt hd2 hF2
  simp only [Act.put, List.setIfInBounds_toArray, List.set_cons_zero, List.set_cons_succ, List.getElem_toArray, List.getElem_cons_zero, List.getElem_cons_succ]
  (refine wpList_step fun K hK => ?_; replace hK := hide hK; go_simp; refine unhide hK _ _ ?_; clear hK K)
  (refine wpList_step fun K hK => ?_; replace hK := hide hK; go_simp; refine unhide hK _ _ ?_; clear hK K)
  refine wpList_nil ?_
  go_wp2_with fail
  rw [unhide hT]
  exact unhide hP
end Go.Proofs.YtdfcdklnngfhkaaDoor
