/-
  IdentNames: which texts are names: the walk.
-/
import Derived.Test.YtpmgmpihmpifgaaDoorIR
namespace Go.Proofs.YtpmgmpihmpifgaaDoor
open Go.RowKit
set_option maxRecDepth 100000
set_option linter.unusedSimpArgs false
set_option linter.unusedVariables false
set_option maxHeartbeats 4000000 in
theorem names_str (L : List Int) (hL : IsB L) (hbig : L.length < 4611686018427387904) (w : World) (hF : Fst w) : Calls Tryd.prog 3 #[.string (strOfNums L)] w (Bod true w) := by
  obtain ⟨T, hT⟩ : ∃ T, T = Bod true w := ⟨_, rfl⟩
  rw [← hT]
  replace hT := hide hT
  replace hF := hide hF
  replace hL := hide hL
  obtain ⟨SS, hSS⟩ : ∃ S, S = strOfNums L := ⟨_, rfl⟩
  rw [← hSS]
  replace hSS := hide hSS
  go_enter Tryd.func3, Tryd.ntmps3
  go_upto_region 1 with fail
  refine wp_region_lit ?_
  refine list_call 9 #[] (by kernel_rfl) (by kernel_rfl) ((wakes16_ok _ (unhide hF)).mono ?_)
  rintro r_ u1 ⟨rfl, hg⟩
  replace hg := hide hg
  refine ⟨_, rfl, ?_⟩
  simp only [Act.put, List.setIfInBounds_toArray, List.set_cons_zero, List.set_cons_succ, List.getElem_toArray, List.getElem_cons_zero, List.getElem_cons_succ]
  refine list_val (.bool false) (by kernel_rfl) (by kernel_rfl) ?_
  simp only [Act.put, List.setIfInBounds_toArray, List.set_cons_zero, List.set_cons_succ, List.getElem_toArray, List.getElem_cons_zero, List.getElem_cons_succ]
  refine wpList_nil ?_
  obtain ⟨bb, hbb⟩ : ∃ b, b = nmL L := ⟨_, rfl⟩
  replace hbb := hide hbb
  go_upto_region 3 with fail
  refine wp_region_lit ?_
  refine list_val (.string SS) (by kernel_rfl) (by kernel_rfl) ?_
  simp only [Act.put, List.setIfInBounds_toArray, List.set_cons_zero, List.set_cons_succ, List.getElem_toArray, List.getElem_cons_zero, List.getElem_cons_succ]
  refine list_call 10 #[.string SS] (by kernel_rfl) (by kernel_rfl) ((show Calls Tryd.prog 10 #[.string SS] u1 (Bod bb u1) from by rw [unhide hSS, unhide hbb]; exact name_ok L (unhide hL) u1).mono ?_)
  rintro r_ u2 ⟨rfl, hg_u2⟩
  replace hg := hide ((unhide hg).trans hg_u2)
  clear hg_u2
  refine ⟨_, rfl, ?_⟩
  simp only [Act.put, List.setIfInBounds_toArray, List.set_cons_zero, List.set_cons_succ, List.getElem_toArray, List.getElem_cons_zero, List.getElem_cons_succ]
  refine list_val (.string SS) (by kernel_rfl) (by kernel_rfl) ?_
  simp only [Act.put, List.setIfInBounds_toArray, List.set_cons_zero, List.set_cons_succ, List.getElem_toArray, List.getElem_cons_zero, List.getElem_cons_succ]
  refine list_call 11 #[.string SS] (by kernel_rfl) (by kernel_rfl) ((show Calls Tryd.prog 11 #[.string SS] u2 (Bod bb u2) from by rw [unhide hSS, unhide hbb]; exact ename_ok L (unhide hL) hbig u2).mono ?_)
  rintro r_ u3 ⟨rfl, hg_u3⟩
  replace hg := hide ((unhide hg).trans hg_u3)
  clear hg_u3
  refine ⟨_, rfl, ?_⟩
  simp only [Act.put, List.setIfInBounds_toArray, List.set_cons_zero, List.set_cons_succ, List.getElem_toArray, List.getElem_cons_zero, List.getElem_cons_succ]
  refine list_val (.bool true) (by kernel_rfl) (by cases bb <;> kernel_rfl) ?_
  simp only [Act.put, List.setIfInBounds_toArray, List.set_cons_zero, List.set_cons_succ, List.getElem_toArray, List.getElem_cons_zero, List.getElem_cons_succ]
  (refine wpList_step fun K hK => ?_; replace hK := hide hK; go_simp; refine unhide hK _ _ ?_; clear hK K)
  refine wpList_nil ?_
  have hZ : Hid (T (.returned (.bool true)) u3) := by
    rw [unhide hT]
    exact ⟨rfl, unhide hg⟩
  go_wp2_with fail
  exact unhide hZ
theorem names_ok (s : ByteArray) (hs : s.size ≤ 140737488351232) (w : World) (hF : Fst w) : Calls Tryd.prog 3 #[.string s] w (Bod true w) := by
  obtain ⟨L, hL, hl, rfl⟩ := str_ex s
  exact names_str L hL (by omega) w hF
end Go.Proofs.YtpmgmpihmpifgaaDoor
