/-
  The program: whether there is power, whether there is a sector, Len, Dead, Ops.
-/
import Derived.Test.YthgchjdjacbcgaaPkA
namespace Go.Proofs.Ythgchjdjacbcgaa
open Go.RowKit
set_option maxRecDepth 100000
set_option linter.unusedSimpArgs false
set_option linter.unusedVariables false
set_option maxHeartbeats 4000000 in
theorem power_ok (g : Nat) (D : Dk) (sg sc : Nat) (C : List Value) (pa : Option Addr) (pc : Nat) (l : Int) (w : World) (hP : Pd g D w sg sc C pa pc l) : Calls Try.prog 42 #[P0 g] w (Vl (.int .i64 (if D.dead then 7 else 0)) w) := by
  obtain ⟨T, hT⟩ : ∃ T, T = Vl (.int .i64 (if D.dead then 7 else 0)) w := ⟨_, rfl⟩
  rw [← hT]
  replace hT := hide hT
  obtain ⟨dd, hdd⟩ : ∃ x, x = D.dead := ⟨_, rfl⟩
  obtain ⟨sn, hsn⟩ : ∃ n, n = D.safe.length := ⟨_, rfl⟩
  obtain ⟨pn, hpn⟩ : ∃ n, n = D.pend.length := ⟨_, rfl⟩
  obtain ⟨os, hos⟩ : ∃ n, n = D.ops := ⟨_, rfl⟩
  have hcl := hP.cel
  rw [← hdd, ← hsn, ← hpn, ← hos] at hcl
  replace hdd := hide hdd; replace hsn := hide hsn; replace hpn := hide hpn; replace hos := hide hos; replace hcl := hide hcl; replace hP := hide hP
  go_enter Try.func42, Try.ntmps42
  go_upto_region 1 with fail
  refine wp_region_lit ?_
  refine list_val (.pointer (some ⟨g, 0, none⟩)) (by kernel_rfl) (by kernel_rfl) ?_
  simp only [Act.put, List.setIfInBounds_toArray, List.set_cons_zero, List.set_cons_succ, List.getElem_toArray, List.getElem_cons_zero, List.getElem_cons_succ]
  refine list_val (.bool false) (by kernel_rfl) (by kernel_rfl) ?_
  simp only [Act.put, List.setIfInBounds_toArray, List.set_cons_zero, List.set_cons_succ, List.getElem_toArray, List.getElem_cons_zero, List.getElem_cons_succ]
  refine wpList_nil ?_
  go_upto_region 3 with fail
  refine wp_region_lit ?_
  refine list_val (.pointer (some ⟨g, 0, none⟩)) (by kernel_rfl) (by kernel_rfl) ?_
  simp only [Act.put, List.setIfInBounds_toArray, List.set_cons_zero, List.set_cons_succ, List.getElem_toArray, List.getElem_cons_zero, List.getElem_cons_succ]
  refine list_val (.pointer (some ⟨g, 0, none⟩)) (by kernel_rfl) (by kernel_rfl) ?_
  simp only [Act.put, List.setIfInBounds_toArray, List.set_cons_zero, List.set_cons_succ, List.getElem_toArray, List.getElem_cons_zero, List.getElem_cons_succ]
  refine list_val (.pointer (some ⟨g, 4, none⟩)) (by kernel_rfl) (by kernel_rfl) ?_
  simp only [Act.put, List.setIfInBounds_toArray, List.set_cons_zero, List.set_cons_succ, List.getElem_toArray, List.getElem_cons_zero, List.getElem_cons_succ]
  refine list_val (.bool dd) (by kernel_rfl) (exec_bool _ (.tmp 7) rfl g 4 (by kernel_rfl) dd (cell_of (unhide hcl) (i := 4) rfl)) ?_
  simp only [Act.put, List.setIfInBounds_toArray, List.set_cons_zero, List.set_cons_succ, List.getElem_toArray, List.getElem_cons_zero, List.getElem_cons_succ]
  refine wpList_nil ?_
  cases dd
  case true =>
    have hZ : Hid (Vl (.int .i64 (if D.dead then 7 else 0)) w (.returned (.int .i64 7)) w) := ⟨by rw [← unhide hdd]; rfl, Gr.refl w⟩
    go_wp2_with fail
    rw [unhide hT]
    exact unhide hZ
  case false =>
    have hZ : Hid (Vl (.int .i64 (if D.dead then 7 else 0)) w (.returned (.int .i64 0)) w) := ⟨by rw [← unhide hdd]; rfl, Gr.refl w⟩
    go_wp2_with fail
    rw [unhide hT]
    exact unhide hZ
theorem power_nil (w : World) : Calls Try.prog 42 #[.pointer none] w (Vl (.int .i64 1) w) := by
  obtain ⟨T, hT⟩ : ∃ T, T = Vl (.int .i64 1) w := ⟨_, rfl⟩
  rw [← hT]
  replace hT := hide hT
  go_enter Try.func42, Try.ntmps42
  go_wp2_with fail
  rw [unhide hT]
  exact ⟨rfl, Gr.refl w⟩
set_option maxHeartbeats 4000000 in
theorem dlen_p (g : Nat) (D : Dk) (sg sc : Nat) (C : List Value) (pa : Option Addr) (pc : Nat) (l : Int) (w : World) (hP : Pd g D w sg sc C pa pc l) : Calls Try.prog 16 #[P0 g] w (Vl (.int .i64 (D.safe.length : Int)) w) := by
  obtain ⟨T, hT⟩ : ∃ T, T = Vl (.int .i64 (D.safe.length : Int)) w := ⟨_, rfl⟩
  rw [← hT]
  replace hT := hide hT
  obtain ⟨dd, hdd⟩ : ∃ x, x = D.dead := ⟨_, rfl⟩
  obtain ⟨sn, hsn⟩ : ∃ n, n = D.safe.length := ⟨_, rfl⟩
  obtain ⟨pn, hpn⟩ : ∃ n, n = D.pend.length := ⟨_, rfl⟩
  obtain ⟨os, hos⟩ : ∃ n, n = D.ops := ⟨_, rfl⟩
  have hcl := hP.cel
  rw [← hdd, ← hsn, ← hpn, ← hos] at hcl
  replace hdd := hide hdd; replace hsn := hide hsn; replace hpn := hide hpn; replace hos := hide hos; replace hcl := hide hcl; replace hP := hide hP
  go_enter Try.func16, Try.ntmps16
  go_upto_region 1 with fail
  refine wp_region_lit ?_
  refine list_val (.pointer (some ⟨g, 0, none⟩)) (by kernel_rfl) (by kernel_rfl) ?_
  simp only [Act.put, List.setIfInBounds_toArray, List.set_cons_zero, List.set_cons_succ, List.getElem_toArray, List.getElem_cons_zero, List.getElem_cons_succ]
  refine list_val (.bool false) (by kernel_rfl) (by kernel_rfl) ?_
  simp only [Act.put, List.setIfInBounds_toArray, List.set_cons_zero, List.set_cons_succ, List.getElem_toArray, List.getElem_cons_zero, List.getElem_cons_succ]
  refine wpList_nil ?_
  go_upto_region 3 with fail
  refine wp_region_lit ?_
  refine list_val (.pointer (some ⟨g, 0, none⟩)) (by kernel_rfl) (by kernel_rfl) ?_
  simp only [Act.put, List.setIfInBounds_toArray, List.set_cons_zero, List.set_cons_succ, List.getElem_toArray, List.getElem_cons_zero, List.getElem_cons_succ]
  refine list_val (.pointer (some ⟨g, 0, none⟩)) (by kernel_rfl) (by kernel_rfl) ?_
  simp only [Act.put, List.setIfInBounds_toArray, List.set_cons_zero, List.set_cons_succ, List.getElem_toArray, List.getElem_cons_zero, List.getElem_cons_succ]
  refine list_val (.pointer (some ⟨g, 0, none⟩)) (by kernel_rfl) (by kernel_rfl) ?_
  simp only [Act.put, List.setIfInBounds_toArray, List.set_cons_zero, List.set_cons_succ, List.getElem_toArray, List.getElem_cons_zero, List.getElem_cons_succ]
  refine list_val (.slice (some ⟨sg, 0, none⟩) sn sc) (by kernel_rfl) (exec_sb _ (.tmp 7) rfl g 0 (by kernel_rfl) (some ⟨sg, 0, none⟩) sn sc (cell_of (unhide hcl) (i := 0) rfl)) ?_
  simp only [Act.put, List.setIfInBounds_toArray, List.set_cons_zero, List.set_cons_succ, List.getElem_toArray, List.getElem_cons_zero, List.getElem_cons_succ]
  refine list_val (.int .i64 sn) (by kernel_rfl) (by kernel_rfl) ?_
  simp only [Act.put, List.setIfInBounds_toArray, List.set_cons_zero, List.set_cons_succ, List.getElem_toArray, List.getElem_cons_zero, List.getElem_cons_succ]
  (refine wpList_step fun K hK => ?_; replace hK := hide hK; go_simp; refine unhide hK _ _ ?_; clear hK K)
  refine wpList_nil ?_
  have hZ : Hid (Vl (.int .i64 (D.safe.length : Int)) w (.returned (.int .i64 (sn : Int))) w) := ⟨by rw [unhide hsn], Gr.refl w⟩
  go_wp2_with fail
  rw [unhide hT]
  exact unhide hZ
theorem dlen_nil (w : World) : Calls Try.prog 16 #[.pointer none] w (Vl (.int .i64 0) w) := by
  obtain ⟨T, hT⟩ : ∃ T, T = Vl (.int .i64 0) w := ⟨_, rfl⟩
  rw [← hT]
  replace hT := hide hT
  go_enter Try.func16, Try.ntmps16
  go_wp2_with fail
  rw [unhide hT]
  exact ⟨rfl, Gr.refl w⟩
theorem dlen_ok (F : List Nat) (g m : Nat) (D : Dk) (hD : D.Ok m) (hm : m ≤ 1000000) (w : World) (h : Lies F g D w) : Calls Try.prog 16 #[P0 g] w (Vl (.int .i64 (D.safe.length : Int)) w) := by
  obtain ⟨sg, sc, C, pa, pc, l, h, rfl⟩ := h
  exact dlen_p g D sg sc C pa pc l w h
set_option maxHeartbeats 4000000 in
theorem dops_p (g : Nat) (D : Dk) (sg sc : Nat) (C : List Value) (pa : Option Addr) (pc : Nat) (l : Int) (w : World) (hP : Pd g D w sg sc C pa pc l) : Calls Try.prog 22 #[P0 g] w (Vl (.int .i64 (D.ops : Int)) w) := by
  obtain ⟨T, hT⟩ : ∃ T, T = Vl (.int .i64 (D.ops : Int)) w := ⟨_, rfl⟩
  rw [← hT]
  replace hT := hide hT
  obtain ⟨dd, hdd⟩ : ∃ x, x = D.dead := ⟨_, rfl⟩
  obtain ⟨sn, hsn⟩ : ∃ n, n = D.safe.length := ⟨_, rfl⟩
  obtain ⟨pn, hpn⟩ : ∃ n, n = D.pend.length := ⟨_, rfl⟩
  obtain ⟨os, hos⟩ : ∃ n, n = D.ops := ⟨_, rfl⟩
  have hcl := hP.cel
  rw [← hdd, ← hsn, ← hpn, ← hos] at hcl
  replace hdd := hide hdd; replace hsn := hide hsn; replace hpn := hide hpn; replace hos := hide hos; replace hcl := hide hcl; replace hP := hide hP
  go_enter Try.func22, Try.ntmps22
  go_upto_region 1 with fail
  refine wp_region_lit ?_
  refine list_val (.pointer (some ⟨g, 0, none⟩)) (by kernel_rfl) (by kernel_rfl) ?_
  simp only [Act.put, List.setIfInBounds_toArray, List.set_cons_zero, List.set_cons_succ, List.getElem_toArray, List.getElem_cons_zero, List.getElem_cons_succ]
  refine list_val (.bool false) (by kernel_rfl) (by kernel_rfl) ?_
  simp only [Act.put, List.setIfInBounds_toArray, List.set_cons_zero, List.set_cons_succ, List.getElem_toArray, List.getElem_cons_zero, List.getElem_cons_succ]
  refine wpList_nil ?_
  go_upto_region 3 with fail
  refine wp_region_lit ?_
  refine list_val (.pointer (some ⟨g, 0, none⟩)) (by kernel_rfl) (by kernel_rfl) ?_
  simp only [Act.put, List.setIfInBounds_toArray, List.set_cons_zero, List.set_cons_succ, List.getElem_toArray, List.getElem_cons_zero, List.getElem_cons_succ]
  refine list_val (.pointer (some ⟨g, 0, none⟩)) (by kernel_rfl) (by kernel_rfl) ?_
  simp only [Act.put, List.setIfInBounds_toArray, List.set_cons_zero, List.set_cons_succ, List.getElem_toArray, List.getElem_cons_zero, List.getElem_cons_succ]
  refine list_val (.pointer (some ⟨g, 3, none⟩)) (by kernel_rfl) (by kernel_rfl) ?_
  simp only [Act.put, List.setIfInBounds_toArray, List.set_cons_zero, List.set_cons_succ, List.getElem_toArray, List.getElem_cons_zero, List.getElem_cons_succ]
  refine list_val (.int .i64 os) (by kernel_rfl) (exec_i64 _ (.tmp 7) rfl g 3 (by kernel_rfl) os (cell_of (unhide hcl) (i := 3) rfl)) ?_
  simp only [Act.put, List.setIfInBounds_toArray, List.set_cons_zero, List.set_cons_succ, List.getElem_toArray, List.getElem_cons_zero, List.getElem_cons_succ]
  (refine wpList_step fun K hK => ?_; replace hK := hide hK; go_simp; refine unhide hK _ _ ?_; clear hK K)
  refine wpList_nil ?_
  have hZ : Hid (Vl (.int .i64 (D.ops : Int)) w (.returned (.int .i64 (os : Int))) w) := ⟨by rw [unhide hos], Gr.refl w⟩
  go_wp2_with fail
  rw [unhide hT]
  exact unhide hZ
theorem dops_nil (w : World) : Calls Try.prog 22 #[.pointer none] w (Vl (.int .i64 0) w) := by
  obtain ⟨T, hT⟩ : ∃ T, T = Vl (.int .i64 0) w := ⟨_, rfl⟩
  rw [← hT]
  replace hT := hide hT
  go_enter Try.func22, Try.ntmps22
  go_wp2_with fail
  rw [unhide hT]
  exact ⟨rfl, Gr.refl w⟩
theorem dops_ok (F : List Nat) (g m : Nat) (D : Dk) (hD : D.Ok m) (hm : m ≤ 1000000) (w : World) (h : Lies F g D w) : Calls Try.prog 22 #[P0 g] w (Vl (.int .i64 (D.ops : Int)) w) := by
  obtain ⟨sg, sc, C, pa, pc, l, h, rfl⟩ := h
  exact dops_p g D sg sc C pa pc l w h
set_option maxHeartbeats 4000000 in
theorem ddead_p (g : Nat) (D : Dk) (sg sc : Nat) (C : List Value) (pa : Option Addr) (pc : Nat) (l : Int) (w : World) (hP : Pd g D w sg sc C pa pc l) : Calls Try.prog 21 #[P0 g] w (Vl (.bool D.dead) w) := by
  obtain ⟨T, hT⟩ : ∃ T, T = Vl (.bool D.dead) w := ⟨_, rfl⟩
  rw [← hT]
  replace hT := hide hT
  obtain ⟨dd, hdd⟩ : ∃ x, x = D.dead := ⟨_, rfl⟩
  obtain ⟨sn, hsn⟩ : ∃ n, n = D.safe.length := ⟨_, rfl⟩
  obtain ⟨pn, hpn⟩ : ∃ n, n = D.pend.length := ⟨_, rfl⟩
  obtain ⟨os, hos⟩ : ∃ n, n = D.ops := ⟨_, rfl⟩
  have hcl := hP.cel
  rw [← hdd, ← hsn, ← hpn, ← hos] at hcl
  replace hdd := hide hdd; replace hsn := hide hsn; replace hpn := hide hpn; replace hos := hide hos; replace hcl := hide hcl; replace hP := hide hP
  go_enter Try.func21, Try.ntmps21
  go_upto_region 1 with fail
  refine wp_region_lit ?_
  refine list_val (.pointer (some ⟨g, 0, none⟩)) (by kernel_rfl) (by kernel_rfl) ?_
  simp only [Act.put, List.setIfInBounds_toArray, List.set_cons_zero, List.set_cons_succ, List.getElem_toArray, List.getElem_cons_zero, List.getElem_cons_succ]
  refine list_val (.bool true) (by kernel_rfl) (by kernel_rfl) ?_
  simp only [Act.put, List.setIfInBounds_toArray, List.set_cons_zero, List.set_cons_succ, List.getElem_toArray, List.getElem_cons_zero, List.getElem_cons_succ]
  refine list_val (.bool true) (by kernel_rfl) (by kernel_rfl) ?_
  simp only [Act.put, List.setIfInBounds_toArray, List.set_cons_zero, List.set_cons_succ, List.getElem_toArray, List.getElem_cons_zero, List.getElem_cons_succ]
  refine list_val (.pointer (some ⟨g, 0, none⟩)) (by kernel_rfl) (by kernel_rfl) ?_
  simp only [Act.put, List.setIfInBounds_toArray, List.set_cons_zero, List.set_cons_succ, List.getElem_toArray, List.getElem_cons_zero, List.getElem_cons_succ]
  refine list_val (.pointer (some ⟨g, 0, none⟩)) (by kernel_rfl) (by kernel_rfl) ?_
  simp only [Act.put, List.setIfInBounds_toArray, List.set_cons_zero, List.set_cons_succ, List.getElem_toArray, List.getElem_cons_zero, List.getElem_cons_succ]
  refine list_val (.pointer (some ⟨g, 4, none⟩)) (by kernel_rfl) (by kernel_rfl) ?_
  simp only [Act.put, List.setIfInBounds_toArray, List.set_cons_zero, List.set_cons_succ, List.getElem_toArray, List.getElem_cons_zero, List.getElem_cons_succ]
  refine list_val (.bool dd) (by kernel_rfl) (exec_bool _ (.tmp 8) rfl g 4 (by kernel_rfl) dd (cell_of (unhide hcl) (i := 4) rfl)) ?_
  simp only [Act.put, List.setIfInBounds_toArray, List.set_cons_zero, List.set_cons_succ, List.getElem_toArray, List.getElem_cons_zero, List.getElem_cons_succ]
  refine list_val (.bool dd) (by kernel_rfl) (by kernel_rfl) ?_
  simp only [Act.put, List.setIfInBounds_toArray, List.set_cons_zero, List.set_cons_succ, List.getElem_toArray, List.getElem_cons_zero, List.getElem_cons_succ]
  (refine wpList_step fun K hK => ?_; replace hK := hide hK; go_simp; refine unhide hK _ _ ?_; clear hK K)
  refine wpList_nil ?_
  have hZ : Hid (Vl (.bool D.dead) w (.returned (.bool dd)) w) := ⟨by rw [unhide hdd], Gr.refl w⟩
  go_wp2_with fail
  rw [unhide hT]
  exact unhide hZ
theorem ddead_nil (w : World) : Calls Try.prog 21 #[.pointer none] w (Vl (.bool false) w) := by
  obtain ⟨T, hT⟩ : ∃ T, T = Vl (.bool false) w := ⟨_, rfl⟩
  rw [← hT]
  replace hT := hide hT
  go_enter Try.func21, Try.ntmps21
  go_wp2_with fail
  rw [unhide hT]
  exact ⟨rfl, Gr.refl w⟩
theorem ddead_ok (F : List Nat) (g m : Nat) (D : Dk) (hD : D.Ok m) (hm : m ≤ 1000000) (w : World) (h : Lies F g D w) : Calls Try.prog 21 #[P0 g] w (Vl (.bool D.dead) w) := by
  obtain ⟨sg, sc, C, pa, pc, l, h, rfl⟩ := h
  exact ddead_p g D sg sc C pa pc l w h
set_option maxHeartbeats 4000000 in
theorem reach_ok (g : Nat) (D : Dk) (sg sc : Nat) (C : List Value) (pa : Option Addr) (pc : Nat) (l : Int) (i : Int) (w : World) (hP : Pd g D w sg sc C pa pc l) : Calls Try.prog 37 #[P0 g, .int .i64 i] w (Vl (.int .i64 (D.readE i)) w) := by
  obtain ⟨T, hT⟩ : ∃ T, T = Vl (.int .i64 (D.readE i)) w := ⟨_, rfl⟩
  rw [← hT]
  replace hT := hide hT
  obtain ⟨dd, hdd⟩ : ∃ x, x = D.dead := ⟨_, rfl⟩
  obtain ⟨sn, hsn⟩ : ∃ n, n = D.safe.length := ⟨_, rfl⟩
  obtain ⟨pn, hpn⟩ : ∃ n, n = D.pend.length := ⟨_, rfl⟩
  obtain ⟨os, hos⟩ : ∃ n, n = D.ops := ⟨_, rfl⟩
  have hcl := hP.cel
  rw [← hdd, ← hsn, ← hpn, ← hos] at hcl
  replace hdd := hide hdd; replace hsn := hide hsn; replace hpn := hide hpn; replace hos := hide hos; replace hcl := hide hcl; replace hP := hide hP
  go_enter Try.func37, Try.ntmps37
  go_upto_region 1 with fail
  refine wp_region_lit ?_
  refine list_val (.pointer (some ⟨g, 0, none⟩)) (by kernel_rfl) (by kernel_rfl) ?_
  simp only [Act.put, List.setIfInBounds_toArray, List.set_cons_zero, List.set_cons_succ, List.getElem_toArray, List.getElem_cons_zero, List.getElem_cons_succ]
  refine list_call 42 #[.pointer (some ⟨g, 0, none⟩)] (by kernel_rfl) (by kernel_rfl) ((power_ok g D sg sc C pa pc l _ (unhide hP)).mono ?_)
  rintro r u1 ⟨rfl, hG⟩
  refine ⟨_, rfl, ?_⟩
  obtain ⟨pe, hpe⟩ : ∃ x : Int, x = if D.dead then 7 else 0 := ⟨_, rfl⟩
  rw [← hpe]
  replace hpe := hide hpe
  replace hcl := hide (hG.blk (unhide hcl))
  simp only [Act.put, List.setIfInBounds_toArray, List.set_cons_zero, List.set_cons_succ, List.getElem_toArray, List.getElem_cons_zero, List.getElem_cons_succ]
  (refine wpList_step fun K hK => ?_; replace hK := hide hK; go_simp; refine unhide hK _ _ ?_; clear hK K)
  refine wpList_nil ?_
  cases hd2 : dd
  case true =>
    have hd3 : D.dead = true := by rw [← unhide hdd, hd2]
    have e7 : pe = 7 := by rw [unhide hpe, hd3]; rfl
    subst e7
    have hZ : Hid (Vl (.int .i64 (D.readE i)) w (.returned (.int .i64 (7))) u1) := ⟨by unfold Dk.readE; rw [hd3]; rfl, hG⟩
    replace hG := hide hG
    go_wp2_with fail
    rw [unhide hT]
    exact unhide hZ
  case false =>
    have hd3 : D.dead = false := by rw [← unhide hdd, hd2]
    have e7 : pe = 0 := by rw [unhide hpe, hd3]; rfl
    subst e7
    replace hd3 := hide hd3
    go_upto_region 4 with fail
    by_cases hi0 : i < 0
    · skip
      refine wp_region_lit ?_
      refine list_val (.int .i64 i) (by kernel_rfl) (by kernel_rfl) ?_
      simp only [Act.put, List.setIfInBounds_toArray, List.set_cons_zero, List.set_cons_succ, List.getElem_toArray, List.getElem_cons_zero, List.getElem_cons_succ]
      refine list_val (.bool true) (by kernel_rfl) (by go_simp) ?_
      simp only [Act.put, List.setIfInBounds_toArray, List.set_cons_zero, List.set_cons_succ, List.getElem_toArray, List.getElem_cons_zero, List.getElem_cons_succ]
      refine list_val (.bool true) (by kernel_rfl) (by kernel_rfl) ?_
      simp only [Act.put, List.setIfInBounds_toArray, List.set_cons_zero, List.set_cons_succ, List.getElem_toArray, List.getElem_cons_zero, List.getElem_cons_succ]
      refine wpList_step fun K hK => ?_
      rw [if_neg (ne_true_of_eq_false (by kernel_rfl))]
      refine hK _ _ ?_
      clear hK K
      simp only [Act.put, List.setIfInBounds_toArray, List.set_cons_zero, List.set_cons_succ, List.getElem_toArray, List.getElem_cons_zero, List.getElem_cons_succ]
      refine wpList_step fun K hK => ?_
      rw [if_neg (ne_true_of_eq_false (by kernel_rfl))]
      refine hK _ _ ?_
      clear hK K
      simp only [Act.put, List.setIfInBounds_toArray, List.set_cons_zero, List.set_cons_succ, List.getElem_toArray, List.getElem_cons_zero, List.getElem_cons_succ]
      refine wpList_step fun K hK => ?_
      rw [if_neg (ne_true_of_eq_false (by kernel_rfl))]
      refine hK _ _ ?_
      clear hK K
      simp only [Act.put, List.setIfInBounds_toArray, List.set_cons_zero, List.set_cons_succ, List.getElem_toArray, List.getElem_cons_zero, List.getElem_cons_succ]
      refine wpList_step fun K hK => ?_
      rw [if_neg (ne_true_of_eq_false (by kernel_rfl))]
      refine hK _ _ ?_
      clear hK K
      simp only [Act.put, List.setIfInBounds_toArray, List.set_cons_zero, List.set_cons_succ, List.getElem_toArray, List.getElem_cons_zero, List.getElem_cons_succ]
      refine wpList_step fun K hK => ?_
      rw [if_neg (ne_true_of_eq_false (by kernel_rfl))]
      refine hK _ _ ?_
      clear hK K
      simp only [Act.put, List.setIfInBounds_toArray, List.set_cons_zero, List.set_cons_succ, List.getElem_toArray, List.getElem_cons_zero, List.getElem_cons_succ]
      refine wpList_step fun K hK => ?_
      rw [if_neg (ne_true_of_eq_false (by kernel_rfl))]
      refine hK _ _ ?_
      clear hK K
      simp only [Act.put, List.setIfInBounds_toArray, List.set_cons_zero, List.set_cons_succ, List.getElem_toArray, List.getElem_cons_zero, List.getElem_cons_succ]
      refine wpList_step fun K hK => ?_
      rw [if_neg (ne_true_of_eq_false (by kernel_rfl))]
      refine hK _ _ ?_
      clear hK K
      simp only [Act.put, List.setIfInBounds_toArray, List.set_cons_zero, List.set_cons_succ, List.getElem_toArray, List.getElem_cons_zero, List.getElem_cons_succ]
      refine list_val (.bool true) (by kernel_rfl) (by kernel_rfl) ?_
      simp only [Act.put, List.setIfInBounds_toArray, List.set_cons_zero, List.set_cons_succ, List.getElem_toArray, List.getElem_cons_zero, List.getElem_cons_succ]
      refine wpList_nil ?_
      have hZ : Hid (Vl (.int .i64 (D.readE i)) w (.returned (.int .i64 (2))) u1) := ⟨by have h : ¬ D.has i := (by unfold Dk.has; rw [← unhide hsn]; omega); unfold Dk.readE; rw [unhide hd3]; simp [h], hG⟩
      replace hG := hide hG
      go_wp2_with fail
      rw [unhide hT]
      exact unhide hZ
    by_cases hi1 : (sn : Int) ≤ i
    · skip
      refine wp_region_lit ?_
      refine list_val (.int .i64 i) (by kernel_rfl) (by kernel_rfl) ?_
      simp only [Act.put, List.setIfInBounds_toArray, List.set_cons_zero, List.set_cons_succ, List.getElem_toArray, List.getElem_cons_zero, List.getElem_cons_succ]
      refine list_val (.bool false) (by kernel_rfl) (by go_simp) ?_
      simp only [Act.put, List.setIfInBounds_toArray, List.set_cons_zero, List.set_cons_succ, List.getElem_toArray, List.getElem_cons_zero, List.getElem_cons_succ]
      refine list_val (.bool false) (by kernel_rfl) (by kernel_rfl) ?_
      simp only [Act.put, List.setIfInBounds_toArray, List.set_cons_zero, List.set_cons_succ, List.getElem_toArray, List.getElem_cons_zero, List.getElem_cons_succ]
      refine list_val (.int .i64 i) (by kernel_rfl) (by kernel_rfl) ?_
      simp only [Act.put, List.setIfInBounds_toArray, List.set_cons_zero, List.set_cons_succ, List.getElem_toArray, List.getElem_cons_zero, List.getElem_cons_succ]
      refine list_val (.pointer (some ⟨g, 0, none⟩)) (by kernel_rfl) (by kernel_rfl) ?_
      simp only [Act.put, List.setIfInBounds_toArray, List.set_cons_zero, List.set_cons_succ, List.getElem_toArray, List.getElem_cons_zero, List.getElem_cons_succ]
      refine list_val (.pointer (some ⟨g, 0, none⟩)) (by kernel_rfl) (by kernel_rfl) ?_
      simp only [Act.put, List.setIfInBounds_toArray, List.set_cons_zero, List.set_cons_succ, List.getElem_toArray, List.getElem_cons_zero, List.getElem_cons_succ]
      refine list_val (.pointer (some ⟨g, 0, none⟩)) (by kernel_rfl) (by kernel_rfl) ?_
      simp only [Act.put, List.setIfInBounds_toArray, List.set_cons_zero, List.set_cons_succ, List.getElem_toArray, List.getElem_cons_zero, List.getElem_cons_succ]
      refine list_val (.slice (some ⟨sg, 0, none⟩) sn sc) (by kernel_rfl) (exec_sb _ (.tmp 17) rfl g 0 (by kernel_rfl) (some ⟨sg, 0, none⟩) sn sc (cell_of (unhide hcl) (i := 0) rfl)) ?_
      simp only [Act.put, List.setIfInBounds_toArray, List.set_cons_zero, List.set_cons_succ, List.getElem_toArray, List.getElem_cons_zero, List.getElem_cons_succ]
      refine list_val (.int .i64 sn) (by kernel_rfl) (by kernel_rfl) ?_
      simp only [Act.put, List.setIfInBounds_toArray, List.set_cons_zero, List.set_cons_succ, List.getElem_toArray, List.getElem_cons_zero, List.getElem_cons_succ]
      refine list_val (.bool true) (by kernel_rfl) (by go_simp) ?_
      simp only [Act.put, List.setIfInBounds_toArray, List.set_cons_zero, List.set_cons_succ, List.getElem_toArray, List.getElem_cons_zero, List.getElem_cons_succ]
      refine list_val (.bool true) (by kernel_rfl) (by kernel_rfl) ?_
      simp only [Act.put, List.setIfInBounds_toArray, List.set_cons_zero, List.set_cons_succ, List.getElem_toArray, List.getElem_cons_zero, List.getElem_cons_succ]
      refine wpList_nil ?_
      have hZ : Hid (Vl (.int .i64 (D.readE i)) w (.returned (.int .i64 (2))) u1) := ⟨by have h : ¬ D.has i := (by unfold Dk.has; rw [← unhide hsn]; omega); unfold Dk.readE; rw [unhide hd3]; simp [h], hG⟩
      replace hG := hide hG
      go_wp2_with fail
      rw [unhide hT]
      exact unhide hZ
    refine wp_region_lit ?_
    refine list_val (.int .i64 i) (by kernel_rfl) (by kernel_rfl) ?_
    simp only [Act.put, List.setIfInBounds_toArray, List.set_cons_zero, List.set_cons_succ, List.getElem_toArray, List.getElem_cons_zero, List.getElem_cons_succ]
    refine list_val (.bool false) (by kernel_rfl) (by go_simp) ?_
    simp only [Act.put, List.setIfInBounds_toArray, List.set_cons_zero, List.set_cons_succ, List.getElem_toArray, List.getElem_cons_zero, List.getElem_cons_succ]
    refine list_val (.bool false) (by kernel_rfl) (by kernel_rfl) ?_
    simp only [Act.put, List.setIfInBounds_toArray, List.set_cons_zero, List.set_cons_succ, List.getElem_toArray, List.getElem_cons_zero, List.getElem_cons_succ]
    refine list_val (.int .i64 i) (by kernel_rfl) (by kernel_rfl) ?_
    simp only [Act.put, List.setIfInBounds_toArray, List.set_cons_zero, List.set_cons_succ, List.getElem_toArray, List.getElem_cons_zero, List.getElem_cons_succ]
    refine list_val (.pointer (some ⟨g, 0, none⟩)) (by kernel_rfl) (by kernel_rfl) ?_
    simp only [Act.put, List.setIfInBounds_toArray, List.set_cons_zero, List.set_cons_succ, List.getElem_toArray, List.getElem_cons_zero, List.getElem_cons_succ]
    refine list_val (.pointer (some ⟨g, 0, none⟩)) (by kernel_rfl) (by kernel_rfl) ?_
    simp only [Act.put, List.setIfInBounds_toArray, List.set_cons_zero, List.set_cons_succ, List.getElem_toArray, List.getElem_cons_zero, List.getElem_cons_succ]
    refine list_val (.pointer (some ⟨g, 0, none⟩)) (by kernel_rfl) (by kernel_rfl) ?_
    simp only [Act.put, List.setIfInBounds_toArray, List.set_cons_zero, List.set_cons_succ, List.getElem_toArray, List.getElem_cons_zero, List.getElem_cons_succ]
    refine list_val (.slice (some ⟨sg, 0, none⟩) sn sc) (by kernel_rfl) (exec_sb _ (.tmp 17) rfl g 0 (by kernel_rfl) (some ⟨sg, 0, none⟩) sn sc (cell_of (unhide hcl) (i := 0) rfl)) ?_
    simp only [Act.put, List.setIfInBounds_toArray, List.set_cons_zero, List.set_cons_succ, List.getElem_toArray, List.getElem_cons_zero, List.getElem_cons_succ]
    refine list_val (.int .i64 sn) (by kernel_rfl) (by kernel_rfl) ?_
    simp only [Act.put, List.setIfInBounds_toArray, List.set_cons_zero, List.set_cons_succ, List.getElem_toArray, List.getElem_cons_zero, List.getElem_cons_succ]
    refine list_val (.bool false) (by kernel_rfl) (by go_simp) ?_
    simp only [Act.put, List.setIfInBounds_toArray, List.set_cons_zero, List.set_cons_succ, List.getElem_toArray, List.getElem_cons_zero, List.getElem_cons_succ]
    refine list_val (.bool false) (by kernel_rfl) (by kernel_rfl) ?_
    simp only [Act.put, List.setIfInBounds_toArray, List.set_cons_zero, List.set_cons_succ, List.getElem_toArray, List.getElem_cons_zero, List.getElem_cons_succ]
    refine wpList_nil ?_
    have hZ : Hid (Vl (.int .i64 (D.readE i)) w (.returned (.int .i64 (0))) u1) := ⟨by have h :  D.has i := (by unfold Dk.has; rw [← unhide hsn]; omega); unfold Dk.readE; rw [unhide hd3]; simp [h], hG⟩
    replace hG := hide hG
    go_wp2_with fail
    rw [unhide hT]
    exact unhide hZ
theorem reach_nil (i : Int) (w : World) : Calls Try.prog 37 #[.pointer none, .int .i64 i] w (Vl (.int .i64 1) w) := by
  obtain ⟨T, hT⟩ : ∃ T, T = Vl (.int .i64 1) w := ⟨_, rfl⟩
  rw [← hT]
  replace hT := hide hT
  go_enter Try.func37, Try.ntmps37
  go_upto_region 1 with fail
  refine wp_region_lit ?_
  refine list_val (.pointer none) (by kernel_rfl) (by kernel_rfl) ?_
  simp only [Act.put, List.setIfInBounds_toArray, List.set_cons_zero, List.set_cons_succ, List.getElem_toArray, List.getElem_cons_zero, List.getElem_cons_succ]
  refine list_call 42 #[.pointer none] (by kernel_rfl) (by kernel_rfl) ((power_nil _).mono ?_)
  rintro r u1 ⟨rfl, hG⟩
  refine ⟨_, rfl, ?_⟩
  simp only [Act.put, List.setIfInBounds_toArray, List.set_cons_zero, List.set_cons_succ, List.getElem_toArray, List.getElem_cons_zero, List.getElem_cons_succ]
  (refine wpList_step fun K hK => ?_; replace hK := hide hK; go_simp; refine unhide hK _ _ ?_; clear hK K)
  refine wpList_nil ?_
  have hZ : Hid (Vl (.int .i64 1) w (.returned (.int .i64 1)) u1) := ⟨rfl, hG⟩
  replace hG := hide hG
  go_wp2_with fail
  rw [unhide hT]
  exact unhide hZ
theorem armed (D : Dk) (n : Int) (h1 : -9223372036854775808 ≤ n) : Lf (if n < -1 then -1 else n) n := by
  unfold Lf
  split <;> constructor <;> intro h <;> first | omega | exact ⟨by omega, h1⟩
set_option maxHeartbeats 4000000 in
theorem darm_p (g : Nat) (D : Dk) (sg sc : Nat) (C : List Value) (pa : Option Addr) (pc : Nat) (l : Int) (n : Int) (h1 : -9223372036854775808 ≤ n) (w : World) (hP : Pd g D w sg sc C pa pc l) : Calls Try.prog 28 #[P0 g, .int .i64 n] w (Ch (pdF g sg pa) g (D.armD n) D.armE w) := by
  obtain ⟨T, hT⟩ : ∃ T, T = Ch (pdF g sg pa) g (D.armD n) D.armE w := ⟨_, rfl⟩
  rw [← hT]
  replace hT := hide hT
  obtain ⟨dd, hdd⟩ : ∃ x, x = D.dead := ⟨_, rfl⟩
  obtain ⟨sn, hsn⟩ : ∃ n, n = D.safe.length := ⟨_, rfl⟩
  obtain ⟨pn, hpn⟩ : ∃ n, n = D.pend.length := ⟨_, rfl⟩
  obtain ⟨os, hos⟩ : ∃ n, n = D.ops := ⟨_, rfl⟩
  have hcl := hP.cel
  rw [← hdd, ← hsn, ← hpn, ← hos] at hcl
  replace hdd := hide hdd; replace hsn := hide hsn; replace hpn := hide hpn; replace hos := hide hos; replace hcl := hide hcl; replace hP := hide hP
  go_enter Try.func28, Try.ntmps28
  go_upto_region 1 with fail
  refine wp_region_lit ?_
  refine list_val (.pointer (some ⟨g, 0, none⟩)) (by kernel_rfl) (by kernel_rfl) ?_
  simp only [Act.put, List.setIfInBounds_toArray, List.set_cons_zero, List.set_cons_succ, List.getElem_toArray, List.getElem_cons_zero, List.getElem_cons_succ]
  refine list_call 42 #[.pointer (some ⟨g, 0, none⟩)] (by kernel_rfl) (by kernel_rfl) ((power_ok g D sg sc C pa pc l _ (unhide hP)).mono ?_)
  rintro r u1 ⟨rfl, hG⟩
  refine ⟨_, rfl, ?_⟩
  obtain ⟨pe, hpe⟩ : ∃ x : Int, x = if D.dead then 7 else 0 := ⟨_, rfl⟩
  rw [← hpe]
  replace hpe := hide hpe
  replace hP := hide ((unhide hP).gr hG)
  simp only [Act.put, List.setIfInBounds_toArray, List.set_cons_zero, List.set_cons_succ, List.getElem_toArray, List.getElem_cons_zero, List.getElem_cons_succ]
  (refine wpList_step fun K hK => ?_; replace hK := hide hK; go_simp; refine unhide hK _ _ ?_; clear hK K)
  refine wpList_nil ?_
  cases hd2 : dd
  case true =>
    have hd3 : D.dead = true := by rw [← unhide hdd, hd2]
    have e7 : pe = 7 := by rw [unhide hpe, hd3]; rfl
    subst e7
    have hZ : Hid (Ch (pdF g sg pa) g (D.armD n) D.armE w (.returned (.int .i64 7)) u1) := by
      have e1 : D.armD n = D := by unfold Dk.armD; rw [hd3]; rfl
      have e2 : D.armE = 7 := by unfold Dk.armE; rw [hd3]; rfl
      rw [e1, e2]
      exact ⟨pdF g sg pa, rfl, ⟨sg, sc, C, pa, pc, l, unhide hP, rfl⟩, hG.chg0 _⟩
    replace hG := hide hG
    go_wp2_with fail
    rw [unhide hT]
    exact unhide hZ
  case false =>
    have hd3 : D.dead = false := by rw [← unhide hdd, hd2]
    have e7 : pe = 0 := by rw [unhide hpe, hd3]; rfl
    subst e7
    have hB := (Bc.nil [g] u1).add ⟨g, pdv (some ⟨sg, 0, none⟩) D.safe.length sc pa D.pend.length pc l D.ops D.dead, 67⟩ (unhide hP).cel (.inl (by simp)) (fun y hy => by cases hy)
    rw [← unhide hdd, hd2, ← unhide hsn, ← unhide hpn, ← unhide hos] at hB
    replace hB : Bc [g] u1 [⟨g, pdv (some ⟨sg, 0, none⟩) sn sc pa pn pc l os false, 67⟩] u1 := hB
    replace hB := hide hB
    replace hd3 := hide hd3
    go_upto_region 4 with fail
    replace hB := unhide hB
    refine wp_region_lit ?_
    refine list_val (.pointer (some ⟨g, 0, none⟩)) (by kernel_rfl) (by kernel_rfl) ?_
    simp only [Act.put, List.setIfInBounds_toArray, List.set_cons_zero, List.set_cons_succ, List.getElem_toArray, List.getElem_cons_zero, List.getElem_cons_succ]
    refine list_val (.int .i64 n) (by kernel_rfl) (by kernel_rfl) ?_
    simp only [Act.put, List.setIfInBounds_toArray, List.set_cons_zero, List.set_cons_succ, List.getElem_toArray, List.getElem_cons_zero, List.getElem_cons_succ]
    refine list_val (.pointer (some ⟨g, 0, none⟩)) (by kernel_rfl) (by kernel_rfl) ?_
    simp only [Act.put, List.setIfInBounds_toArray, List.set_cons_zero, List.set_cons_succ, List.getElem_toArray, List.getElem_cons_zero, List.getElem_cons_succ]
    refine list_val (.pointer (some ⟨g, 2, none⟩)) (by kernel_rfl) (by kernel_rfl) ?_
    simp only [Act.put, List.setIfInBounds_toArray, List.set_cons_zero, List.set_cons_succ, List.getElem_toArray, List.getElem_cons_zero, List.getElem_cons_succ]
    have c4 := cell_of (hB.get 0 (x := ⟨g, pdv (some ⟨sg, 0, none⟩) sn sc pa pn pc l os false, 67⟩) rfl) (i := 2) rfl
    have fz := froz_of (i := 2) (hB.get 0 (x := ⟨g, pdv (some ⟨sg, 0, none⟩) sn sc pa pn pc l os false, 67⟩) rfl)
    have hB2 := hB.cell 0 (x := ⟨g, pdv (some ⟨sg, 0, none⟩) sn sc pa pn pc l os false, 67⟩) rfl 2 (.int .i64 n)
    simp only [List.set_cons_zero, List.set_cons_succ] at hB2
    replace hB2 : Bc [g] u1 [⟨g, pdv (some ⟨sg, 0, none⟩) sn sc pa pn pc n os false, 67⟩] _ := hB2
    clear hB
    replace hB2 := hide hB2
    dsimp only at c4 fz
    (refine wpList_step fun K hK => ?_; replace hK := hide hK; go_simp; refine unhide hK _ _ ?_; clear hK K)
    clear c4 fz
    have hB := unhide hB2
    clear hB2
    generalize World.setCell _ _ _ = u2 at *
    refine wpList_nil ?_
    have hZ : Hid (Ch (pdF g sg pa) g (D.armD n) D.armE w (.returned (.int .i64 0)) u2) := by
      have e1 : D.armD n = { D with left := if n < -1 then -1 else n } := by unfold Dk.armD; rw [unhide hd3]; rfl
      have e2 : D.armE = 0 := by unfold Dk.armE; rw [unhide hd3]; rfl
      rw [e1, e2]
      have hk : ∀ i, i ∈ pdF g sg pa → i ≠ g → u2.heap[i]? = u1.heap[i]? := fun i hi hne => hB.chg.block i ((unhide hP).lt i hi) (by simp [hne])
      refine ⟨pdF g sg pa, rfl, ⟨sg, sc, C, pa, pc, n, ⟨?_, ?_, (unhide hP).cov, (unhide hP).len, (unhide hP).cap, (unhide hP).max, ?_, armed D n h1⟩, rfl⟩, ?_⟩
      · show u2.heap[g]? = some (.cells (pdv (some ⟨sg, 0, none⟩) D.safe.length sc pa D.pend.length pc n D.ops D.dead) _ (0, 0))
        rw [← unhide hsn, ← unhide hpn, ← unhide hos, unhide hd3]
        exact hB.get 0 (x := ⟨g, pdv (some ⟨sg, 0, none⟩) sn sc pa pn pc n os false, 67⟩) rfl
      · rw [hk sg (mem_pdF.2 (.inr (.inl rfl))) (unhide hP).sg_ne.symm]
        exact (unhide hP).saf
      · exact or_keep (unhide hP).pnd (fun i hi => hk i (mem_pdF.2 (.inr (.inr hi))) ((unhide hP).pg_ne hi).1)
      · exact hG.chg (hB.chg.wide (fun i hi => by rw [List.mem_singleton] at hi; rw [hi]; exact mem_pdF.2 (.inl rfl)) (fun i hi => .inl hi))
    replace hG := hide hG
    replace hB := hide hB
    go_wp2_with fail
    rw [unhide hT]
    exact unhide hZ
theorem darm_ok (F : List Nat) (g m : Nat) (D : Dk) (hD : D.Ok m) (hm : m ≤ 1000000) (n : Int) (h1 : -9223372036854775808 ≤ n) (h2 : n < 9223372036854775808) (w : World) (h : Lies F g D w) : Calls Try.prog 28 #[P0 g, .int .i64 n] w (Ch F g (D.armD n) D.armE w) := by
  obtain ⟨sg, sc, C, pa, pc, l, h, rfl⟩ := h
  exact darm_p g D sg sc C pa pc l n h1 w h
theorem darm_nil (n : Int) (w : World) : Calls Try.prog 28 #[.pointer none, .int .i64 n] w (Vl (.int .i64 1) w) := by
  obtain ⟨T, hT⟩ : ∃ T, T = Vl (.int .i64 1) w := ⟨_, rfl⟩
  rw [← hT]
  replace hT := hide hT
  go_enter Try.func28, Try.ntmps28
  go_upto_region 1 with fail
  refine wp_region_lit ?_
  refine list_val (.pointer none) (by kernel_rfl) (by kernel_rfl) ?_
  simp only [Act.put, List.setIfInBounds_toArray, List.set_cons_zero, List.set_cons_succ, List.getElem_toArray, List.getElem_cons_zero, List.getElem_cons_succ]
  refine list_call 42 #[.pointer none] (by kernel_rfl) (by kernel_rfl) ((power_nil _).mono ?_)
  rintro r u1 ⟨rfl, hG⟩
  refine ⟨_, rfl, ?_⟩
  simp only [Act.put, List.setIfInBounds_toArray, List.set_cons_zero, List.set_cons_succ, List.getElem_toArray, List.getElem_cons_zero, List.getElem_cons_succ]
  (refine wpList_step fun K hK => ?_; replace hK := hide hK; go_simp; refine unhide hK _ _ ?_; clear hK K)
  refine wpList_nil ?_
  have hZ : Hid (Vl (.int .i64 1) w (.returned (.int .i64 1)) u1) := ⟨rfl, hG⟩
  replace hG := hide hG
  go_wp2_with fail
  rw [unhide hT]
  exact unhide hZ
end Go.Proofs.Ythgchjdjacbcgaa
