/-
  Of layer 12: what the proof leans on.
-/
import Derived.Test.YtaoiejgjdmakjaaGreatDoorCutsK2
namespace Go.Proofs.YtaoiejgjdmakjaaGreatDoor
open Go.RowKit
set_option maxRecDepth 100000
set_option linter.unusedSimpArgs false
set_option linter.unusedVariables false
set_option maxHeartbeats 4000000 in
theorem power_ok (g : Nat) (D : Dk) (sg sc : Nat) (C : List Value) (pa : Option Addr) (pc : Nat) (l : Int) (w : World) (hP : Pd g D w sg sc C pa pc l) : Calls Tryz.prog 51 #[P0 g] w (Vl (.int .i64 (if D.dead then 7 else 0)) w) := by
  obtain ⟨T, hT⟩ : ∃ T, T = Vl (.int .i64 (if D.dead then 7 else 0)) w := ⟨_, rfl⟩
  rw [← hT]
  replace hT := hide hT
  obtain ⟨dd, hdd⟩ : ∃ x, x = D.dead := ⟨_, rfl⟩
  obtain ⟨sn, hsn⟩ : ∃ n, n = D.safe.length := ⟨_, rfl⟩
  obtain ⟨pn, hpn⟩ : ∃ n, n = D.pend.length := ⟨_, rfl⟩
  obtain ⟨os, hos⟩ : ∃ n, n = D.ops := ⟨_, rfl⟩
  have hcl := hP.cel
  rw [← hdd, ← hsn, ← hpn, ← hos] at hcl
  replace hdd := hide hdd; replace hsn := hide hsn; replace hpn := hide hpn; replace hos := hide hos; replace hcl := hide hcl; replace hP := hide hP
  go_enter Tryz.func51, Tryz.ntmps51
  go_upto_region 1 with fail
  refine wp_region_lit ?_
  refine list_val (.pointer (some ⟨g, 0, none⟩)) (by kernel_rfl) (by kernel_rfl) ?_
  simp only [nrm]
  refine list_val (.bool false) (by kernel_rfl) (by kernel_rfl) ?_
  simp only [nrm]
  refine wpList_nil ?_
  go_upto_region 3 with fail
  refine wp_region_lit ?_
  refine list_val (.pointer (some ⟨g, 0, none⟩)) (by kernel_rfl) (by kernel_rfl) ?_
  simp only [nrm]
  refine list_val (.pointer (some ⟨g, 0, none⟩)) (by kernel_rfl) (by kernel_rfl) ?_
  simp only [nrm]
  refine list_val (.pointer (some ⟨g, 4, none⟩)) (by kernel_rfl) (by kernel_rfl) ?_
  simp only [nrm]
  refine list_val (.bool dd) (by kernel_rfl) (exec_bool _ (.tmp 7) rfl g 4 (by kernel_rfl) dd (cell_of (unhide hcl) (i := 4) rfl)) ?_
  simp only [nrm]
  refine wpList_nil ?_
  cases dd
  case true =>
    have hZ : Hid (Vl (.int .i64 (if D.dead then 7 else 0)) w (.returned (.int .i64 7)) w) := ⟨by rw [← unhide hdd]; rfl, Gr.refl w⟩
    go_wp2_with fail
    rw [unhide hT]
    exact unhide hZ
  case false =>
    have hZ : Hid (Vl (.int .i64 (if D.dead then 7 else 0)) w (.returned (.int .i64 0)) w) := ⟨by rw [← unhide hdd]; rfl, Gr.refl w⟩
    go_wp2_with fail
    rw [unhide hT]
    exact unhide hZ
set_option maxHeartbeats 4000000 in
theorem dlen_p (g : Nat) (D : Dk) (sg sc : Nat) (C : List Value) (pa : Option Addr) (pc : Nat) (l : Int) (w : World) (hP : Pd g D w sg sc C pa pc l) : Calls Tryz.prog 79 #[P0 g] w (Vl (.int .i64 (D.safe.length : Int)) w) := by
  obtain ⟨T, hT⟩ : ∃ T, T = Vl (.int .i64 (D.safe.length : Int)) w := ⟨_, rfl⟩
  rw [← hT]
  replace hT := hide hT
  obtain ⟨dd, hdd⟩ : ∃ x, x = D.dead := ⟨_, rfl⟩
  obtain ⟨sn, hsn⟩ : ∃ n, n = D.safe.length := ⟨_, rfl⟩
  obtain ⟨pn, hpn⟩ : ∃ n, n = D.pend.length := ⟨_, rfl⟩
  obtain ⟨os, hos⟩ : ∃ n, n = D.ops := ⟨_, rfl⟩
  have hcl := hP.cel
  rw [← hdd, ← hsn, ← hpn, ← hos] at hcl
  replace hdd := hide hdd; replace hsn := hide hsn; replace hpn := hide hpn; replace hos := hide hos; replace hcl := hide hcl; replace hP := hide hP
  go_enter Tryz.func79, Tryz.ntmps79
  go_upto_region 1 with fail
  refine wp_region_lit ?_
  refine list_val (.pointer (some ⟨g, 0, none⟩)) (by kernel_rfl) (by kernel_rfl) ?_
  simp only [nrm]
  refine list_val (.bool false) (by kernel_rfl) (by kernel_rfl) ?_
  simp only [nrm]
  refine wpList_nil ?_
  go_upto_region 3 with fail
  refine wp_region_lit ?_
  refine list_val (.pointer (some ⟨g, 0, none⟩)) (by kernel_rfl) (by kernel_rfl) ?_
  simp only [nrm]
  refine list_val (.pointer (some ⟨g, 0, none⟩)) (by kernel_rfl) (by kernel_rfl) ?_
  simp only [nrm]
  refine list_val (.pointer (some ⟨g, 0, none⟩)) (by kernel_rfl) (by kernel_rfl) ?_
  simp only [nrm]
  refine list_val (.slice (some ⟨sg, 0, none⟩) sn sc) (by kernel_rfl) (exec_sb _ (.tmp 7) rfl g 0 (by kernel_rfl) (some ⟨sg, 0, none⟩) sn sc (cell_of (unhide hcl) (i := 0) rfl)) ?_
  simp only [nrm]
  refine list_val (.int .i64 sn) (by kernel_rfl) (by kernel_rfl) ?_
  simp only [nrm]
  (refine wpList_step fun K hK => ?_; replace hK := hide hK; go_simp; refine unhide hK _ _ ?_; clear hK K)
  refine wpList_nil ?_
  have hZ : Hid (Vl (.int .i64 (D.safe.length : Int)) w (.returned (.int .i64 (sn : Int))) w) := ⟨by rw [unhide hsn], Gr.refl w⟩
  go_wp2_with fail
  rw [unhide hT]
  exact unhide hZ
theorem dlen_ok (F : List Nat) (g m : Nat) (D : Dk) (hD : D.Ok m) (hm : m ≤ 1000000) (w : World) (h : Lies F g D w) : Calls Tryz.prog 79 #[P0 g] w (Vl (.int .i64 (D.safe.length : Int)) w) := by
  obtain ⟨sg, sc, C, pa, pc, l, h, rfl⟩ := h
  exact dlen_p g D sg sc C pa pc l w h
set_option maxHeartbeats 4000000 in
theorem ddead_p (g : Nat) (D : Dk) (sg sc : Nat) (C : List Value) (pa : Option Addr) (pc : Nat) (l : Int) (w : World) (hP : Pd g D w sg sc C pa pc l) : Calls Tryz.prog 48 #[P0 g] w (Vl (.bool D.dead) w) := by
  obtain ⟨T, hT⟩ : ∃ T, T = Vl (.bool D.dead) w := ⟨_, rfl⟩
  rw [← hT]
  replace hT := hide hT
  obtain ⟨dd, hdd⟩ : ∃ x, x = D.dead := ⟨_, rfl⟩
  obtain ⟨sn, hsn⟩ : ∃ n, n = D.safe.length := ⟨_, rfl⟩
  obtain ⟨pn, hpn⟩ : ∃ n, n = D.pend.length := ⟨_, rfl⟩
  obtain ⟨os, hos⟩ : ∃ n, n = D.ops := ⟨_, rfl⟩
  have hcl := hP.cel
  rw [← hdd, ← hsn, ← hpn, ← hos] at hcl
  replace hdd := hide hdd; replace hsn := hide hsn; replace hpn := hide hpn; replace hos := hide hos; replace hcl := hide hcl; replace hP := hide hP
  go_enter Tryz.func48, Tryz.ntmps48
  go_upto_region 1 with fail
  refine wp_region_lit ?_
  refine list_val (.pointer (some ⟨g, 0, none⟩)) (by kernel_rfl) (by kernel_rfl) ?_
  simp only [nrm]
  refine list_val (.bool true) (by kernel_rfl) (by kernel_rfl) ?_
  simp only [nrm]
  refine list_val (.bool true) (by kernel_rfl) (by kernel_rfl) ?_
  simp only [nrm]
  refine list_val (.pointer (some ⟨g, 0, none⟩)) (by kernel_rfl) (by kernel_rfl) ?_
  simp only [nrm]
  refine list_val (.pointer (some ⟨g, 0, none⟩)) (by kernel_rfl) (by kernel_rfl) ?_
  simp only [nrm]
  refine list_val (.pointer (some ⟨g, 4, none⟩)) (by kernel_rfl) (by kernel_rfl) ?_
  simp only [nrm]
  refine list_val (.bool dd) (by kernel_rfl) (exec_bool _ (.tmp 8) rfl g 4 (by kernel_rfl) dd (cell_of (unhide hcl) (i := 4) rfl)) ?_
  simp only [nrm]
  refine list_val (.bool dd) (by kernel_rfl) (by kernel_rfl) ?_
  simp only [nrm]
  (refine wpList_step fun K hK => ?_; replace hK := hide hK; go_simp; refine unhide hK _ _ ?_; clear hK K)
  refine wpList_nil ?_
  have hZ : Hid (Vl (.bool D.dead) w (.returned (.bool dd)) w) := ⟨by rw [unhide hdd], Gr.refl w⟩
  go_wp2_with fail
  rw [unhide hT]
  exact unhide hZ
theorem ddead_ok (F : List Nat) (g m : Nat) (D : Dk) (hD : D.Ok m) (hm : m ≤ 1000000) (w : World) (h : Lies F g D w) : Calls Tryz.prog 48 #[P0 g] w (Vl (.bool D.dead) w) := by
  obtain ⟨sg, sc, C, pa, pc, l, h, rfl⟩ := h
  exact ddead_p g D sg sc C pa pc l w h
set_option maxHeartbeats 4000000 in
theorem reach_ok (g : Nat) (D : Dk) (sg sc : Nat) (C : List Value) (pa : Option Addr) (pc : Nat) (l : Int) (i : Int) (w : World) (hP : Pd g D w sg sc C pa pc l) : Calls Tryz.prog 65 #[P0 g, .int .i64 i] w (Vl (.int .i64 (D.readE i)) w) := by
  obtain ⟨T, hT⟩ : ∃ T, T = Vl (.int .i64 (D.readE i)) w := ⟨_, rfl⟩
  rw [← hT]
  replace hT := hide hT
  obtain ⟨dd, hdd⟩ : ∃ x, x = D.dead := ⟨_, rfl⟩
  obtain ⟨sn, hsn⟩ : ∃ n, n = D.safe.length := ⟨_, rfl⟩
  obtain ⟨pn, hpn⟩ : ∃ n, n = D.pend.length := ⟨_, rfl⟩
  obtain ⟨os, hos⟩ : ∃ n, n = D.ops := ⟨_, rfl⟩
  have hcl := hP.cel
  rw [← hdd, ← hsn, ← hpn, ← hos] at hcl
  replace hdd := hide hdd; replace hsn := hide hsn; replace hpn := hide hpn; replace hos := hide hos; replace hcl := hide hcl; replace hP := hide hP
  go_enter Tryz.func65, Tryz.ntmps65
  go_upto_region 1 with fail
  refine wp_region_lit ?_
  refine list_val (.pointer (some ⟨g, 0, none⟩)) (by kernel_rfl) (by kernel_rfl) ?_
  simp only [nrm]
  refine list_call 51 #[.pointer (some ⟨g, 0, none⟩)] (by kernel_rfl) (by kernel_rfl) ((power_ok g D sg sc C pa pc l _ (unhide hP)).mono ?_)
  rintro r u1 ⟨rfl, hG⟩
  refine ⟨_, rfl, ?_⟩
  obtain ⟨pe, hpe⟩ : ∃ x : Int, x = if D.dead then 7 else 0 := ⟨_, rfl⟩
  rw [← hpe]
  replace hpe := hide hpe
  replace hcl := hide (hG.blk (unhide hcl))
  simp only [nrm]
  (refine wpList_step fun K hK => ?_; replace hK := hide hK; go_simp; refine unhide hK _ _ ?_; clear hK K)
  refine wpList_nil ?_
  cases hd2 : dd
  case true =>
    have hd3 : D.dead = true := by rw [← unhide hdd, hd2]
    have e7 : pe = 7 := by rw [unhide hpe, hd3]; rfl
    subst e7
    have hZ : Hid (Vl (.int .i64 (D.readE i)) w (.returned (.int .i64 (7))) u1) := ⟨by unfold Dk.readE; rw [hd3]; rfl, hG⟩
    replace hG := hide hG
    go_wp2_with fail
    rw [unhide hT]
    exact unhide hZ
  case false =>
    have hd3 : D.dead = false := by rw [← unhide hdd, hd2]
    have e7 : pe = 0 := by rw [unhide hpe, hd3]; rfl
    subst e7
    replace hd3 := hide hd3
    go_upto_region 4 with fail
    by_cases hi0 : i < 0
    · skip
      refine wp_region_lit ?_
      refine list_val (.int .i64 i) (by kernel_rfl) (by kernel_rfl) ?_
      simp only [nrm]
      refine list_val (.bool true) (by kernel_rfl) (by go_simp) ?_
      simp only [nrm]
      refine list_val (.bool true) (by kernel_rfl) (by kernel_rfl) ?_
      simp only [nrm]
      refine wpList_step fun K hK => ?_
      rw [if_neg (ne_true_of_eq_false (by kernel_rfl))]
      refine hK _ _ ?_
      clear hK K
      simp only [nrm]
      refine wpList_step fun K hK => ?_
      rw [if_neg (ne_true_of_eq_false (by kernel_rfl))]
      refine hK _ _ ?_
      clear hK K
      simp only [nrm]
      refine wpList_step fun K hK => ?_
      rw [if_neg (ne_true_of_eq_false (by kernel_rfl))]
      refine hK _ _ ?_
      clear hK K
      simp only [nrm]
      refine wpList_step fun K hK => ?_
      rw [if_neg (ne_true_of_eq_false (by kernel_rfl))]
      refine hK _ _ ?_
      clear hK K
      simp only [nrm]
      refine wpList_step fun K hK => ?_
      rw [if_neg (ne_true_of_eq_false (by kernel_rfl))]
      refine hK _ _ ?_
      clear hK K
      simp only [nrm]
      refine wpList_step fun K hK => ?_
      rw [if_neg (ne_true_of_eq_false (by kernel_rfl))]
      refine hK _ _ ?_
      clear hK K
      simp only [nrm]
      refine wpList_step fun K hK => ?_
      rw [if_neg (ne_true_of_eq_false (by kernel_rfl))]
      refine hK _ _ ?_
      clear hK K
      simp only [nrm]
      refine list_val (.bool true) (by kernel_rfl) (by kernel_rfl) ?_
      simp only [nrm]
      refine wpList_nil ?_
      have hZ : Hid (Vl (.int .i64 (D.readE i)) w (.returned (.int .i64 (2))) u1) := ⟨by have h : ¬ D.has i := (by unfold Dk.has; rw [← unhide hsn]; omega); unfold Dk.readE; rw [unhide hd3]; simp [h], hG⟩
      replace hG := hide hG
      go_wp2_with fail
      rw [unhide hT]
      exact unhide hZ
    by_cases hi1 : (sn : Int) ≤ i
    · skip
      refine wp_region_lit ?_
      refine list_val (.int .i64 i) (by kernel_rfl) (by kernel_rfl) ?_
      simp only [nrm]
      refine list_val (.bool false) (by kernel_rfl) (by go_simp) ?_
      simp only [nrm]
      refine list_val (.bool false) (by kernel_rfl) (by kernel_rfl) ?_
      simp only [nrm]
      refine list_val (.int .i64 i) (by kernel_rfl) (by kernel_rfl) ?_
      simp only [nrm]
      refine list_val (.pointer (some ⟨g, 0, none⟩)) (by kernel_rfl) (by kernel_rfl) ?_
      simp only [nrm]
      refine list_val (.pointer (some ⟨g, 0, none⟩)) (by kernel_rfl) (by kernel_rfl) ?_
      simp only [nrm]
      refine list_val (.pointer (some ⟨g, 0, none⟩)) (by kernel_rfl) (by kernel_rfl) ?_
      simp only [nrm]
      refine list_val (.slice (some ⟨sg, 0, none⟩) sn sc) (by kernel_rfl) (exec_sb _ (.tmp 17) rfl g 0 (by kernel_rfl) (some ⟨sg, 0, none⟩) sn sc (cell_of (unhide hcl) (i := 0) rfl)) ?_
      simp only [nrm]
      refine list_val (.int .i64 sn) (by kernel_rfl) (by kernel_rfl) ?_
      simp only [nrm]
      refine list_val (.bool true) (by kernel_rfl) (by go_simp) ?_
      simp only [nrm]
      refine list_val (.bool true) (by kernel_rfl) (by kernel_rfl) ?_
      simp only [nrm]
      refine wpList_nil ?_
      have hZ : Hid (Vl (.int .i64 (D.readE i)) w (.returned (.int .i64 (2))) u1) := ⟨by have h : ¬ D.has i := (by unfold Dk.has; rw [← unhide hsn]; omega); unfold Dk.readE; rw [unhide hd3]; simp [h], hG⟩
      replace hG := hide hG
      go_wp2_with fail
      rw [unhide hT]
      exact unhide hZ
    refine wp_region_lit ?_
    refine list_val (.int .i64 i) (by kernel_rfl) (by kernel_rfl) ?_
    simp only [nrm]
    refine list_val (.bool false) (by kernel_rfl) (by go_simp) ?_
    simp only [nrm]
    refine list_val (.bool false) (by kernel_rfl) (by kernel_rfl) ?_
    simp only [nrm]
    refine list_val (.int .i64 i) (by kernel_rfl) (by kernel_rfl) ?_
    simp only [nrm]
    refine list_val (.pointer (some ⟨g, 0, none⟩)) (by kernel_rfl) (by kernel_rfl) ?_
    simp only [nrm]
    refine list_val (.pointer (some ⟨g, 0, none⟩)) (by kernel_rfl) (by kernel_rfl) ?_
    simp only [nrm]
    refine list_val (.pointer (some ⟨g, 0, none⟩)) (by kernel_rfl) (by kernel_rfl) ?_
    simp only [nrm]
    refine list_val (.slice (some ⟨sg, 0, none⟩) sn sc) (by kernel_rfl) (exec_sb _ (.tmp 17) rfl g 0 (by kernel_rfl) (some ⟨sg, 0, none⟩) sn sc (cell_of (unhide hcl) (i := 0) rfl)) ?_
    simp only [nrm]
    refine list_val (.int .i64 sn) (by kernel_rfl) (by kernel_rfl) ?_
    simp only [nrm]
    refine list_val (.bool false) (by kernel_rfl) (by go_simp) ?_
    simp only [nrm]
    refine list_val (.bool false) (by kernel_rfl) (by kernel_rfl) ?_
    simp only [nrm]
    refine wpList_nil ?_
    have hZ : Hid (Vl (.int .i64 (D.readE i)) w (.returned (.int .i64 (0))) u1) := ⟨by have h :  D.has i := (by unfold Dk.has; rw [← unhide hsn]; omega); unfold Dk.readE; rw [unhide hd3]; simp [h], hG⟩
    replace hG := hide hG
    go_wp2_with fail
    rw [unhide hT]
    exact unhide hZ
theorem armed (D : Dk) (n : Int) (h1 : -9223372036854775808 ≤ n) : Lf (if n < -1 then -1 else n) n := by
  unfold Lf
  split <;> constructor <;> intro h <;> first | omega | exact ⟨by omega, h1⟩
set_option maxHeartbeats 4000000 in
theorem darm_p (g : Nat) (D : Dk) (sg sc : Nat) (C : List Value) (pa : Option Addr) (pc : Nat) (l : Int) (n : Int) (h1 : -9223372036854775808 ≤ n) (w : World) (hP : Pd g D w sg sc C pa pc l) : Calls Tryz.prog 20 #[P0 g, .int .i64 n] w (Ch (pdF g sg pa) g (D.armD n) D.armE w) := by
  obtain ⟨T, hT⟩ : ∃ T, T = Ch (pdF g sg pa) g (D.armD n) D.armE w := ⟨_, rfl⟩
  rw [← hT]
  replace hT := hide hT
  obtain ⟨dd, hdd⟩ : ∃ x, x = D.dead := ⟨_, rfl⟩
  obtain ⟨sn, hsn⟩ : ∃ n, n = D.safe.length := ⟨_, rfl⟩
  obtain ⟨pn, hpn⟩ : ∃ n, n = D.pend.length := ⟨_, rfl⟩
  obtain ⟨os, hos⟩ : ∃ n, n = D.ops := ⟨_, rfl⟩
  have hcl := hP.cel
  rw [← hdd, ← hsn, ← hpn, ← hos] at hcl
  replace hdd := hide hdd; replace hsn := hide hsn; replace hpn := hide hpn; replace hos := hide hos; replace hcl := hide hcl; replace hP := hide hP
  go_enter Tryz.func20, Tryz.ntmps20
  go_upto_region 1 with fail
  refine wp_region_lit ?_
  refine list_val (.pointer (some ⟨g, 0, none⟩)) (by kernel_rfl) (by kernel_rfl) ?_
  simp only [nrm]
  refine list_call 51 #[.pointer (some ⟨g, 0, none⟩)] (by kernel_rfl) (by kernel_rfl) ((power_ok g D sg sc C pa pc l _ (unhide hP)).mono ?_)
  rintro r u1 ⟨rfl, hG⟩
  refine ⟨_, rfl, ?_⟩
  obtain ⟨pe, hpe⟩ : ∃ x : Int, x = if D.dead then 7 else 0 := ⟨_, rfl⟩
  rw [← hpe]
  replace hpe := hide hpe
  replace hP := hide ((unhide hP).gr hG)
  simp only [nrm]
  (refine wpList_step fun K hK => ?_; replace hK := hide hK; go_simp; refine unhide hK _ _ ?_; clear hK K)
  refine wpList_nil ?_
  cases hd2 : dd
  case true =>
    have hd3 : D.dead = true := by rw [← unhide hdd, hd2]
    have e7 : pe = 7 := by rw [unhide hpe, hd3]; rfl
    subst e7
    have hZ : Hid (Ch (pdF g sg pa) g (D.armD n) D.armE w (.returned (.int .i64 7)) u1) := by
      have e1 : D.armD n = D := by unfold Dk.armD; rw [hd3]; rfl
      have e2 : D.armE = 7 := by unfold Dk.armE; rw [hd3]; rfl
      rw [e1, e2]
      exact ⟨pdF g sg pa, rfl, ⟨sg, sc, C, pa, pc, l, unhide hP, rfl⟩, hG.chg0 _⟩
    replace hG := hide hG
    go_wp2_with fail
    rw [unhide hT]
    exact unhide hZ
  case false =>
    have hd3 : D.dead = false := by rw [← unhide hdd, hd2]
    have e7 : pe = 0 := by rw [unhide hpe, hd3]; rfl
    subst e7
    have hB := (Bc.nil [g] u1).add ⟨g, pdv (some ⟨sg, 0, none⟩) D.safe.length sc pa D.pend.length pc l D.ops D.dead, 102⟩ (unhide hP).cel (.inl (by simp)) (fun y hy => by cases hy)
    rw [← unhide hdd, hd2, ← unhide hsn, ← unhide hpn, ← unhide hos] at hB
    replace hB : Bc [g] u1 [⟨g, pdv (some ⟨sg, 0, none⟩) sn sc pa pn pc l os false, 102⟩] u1 := hB
    replace hB := hide hB
    replace hd3 := hide hd3
    go_upto_region 4 with fail
    replace hB := unhide hB
    refine wp_region_lit ?_
    refine list_val (.pointer (some ⟨g, 0, none⟩)) (by kernel_rfl) (by kernel_rfl) ?_
    simp only [nrm]
    refine list_val (.int .i64 n) (by kernel_rfl) (by kernel_rfl) ?_
    simp only [nrm]
    refine list_val (.pointer (some ⟨g, 0, none⟩)) (by kernel_rfl) (by kernel_rfl) ?_
    simp only [nrm]
    refine list_val (.pointer (some ⟨g, 2, none⟩)) (by kernel_rfl) (by kernel_rfl) ?_
    simp only [nrm]
    have c4 := cell_of (hB.get 0 (x := ⟨g, pdv (some ⟨sg, 0, none⟩) sn sc pa pn pc l os false, 102⟩) rfl) (i := 2) rfl
    have fz := froz_of (i := 2) (hB.get 0 (x := ⟨g, pdv (some ⟨sg, 0, none⟩) sn sc pa pn pc l os false, 102⟩) rfl)
    have hB2 := hB.cell 0 (x := ⟨g, pdv (some ⟨sg, 0, none⟩) sn sc pa pn pc l os false, 102⟩) rfl 2 (.int .i64 n)
    simp only [List.set_cons_zero, List.set_cons_succ] at hB2
    replace hB2 : Bc [g] u1 [⟨g, pdv (some ⟨sg, 0, none⟩) sn sc pa pn pc n os false, 102⟩] _ := hB2
    clear hB
    replace hB2 := hide hB2
    dsimp only at c4 fz
    (refine wpList_step fun K hK => ?_; replace hK := hide hK; go_simp; refine unhide hK _ _ ?_; clear hK K)
    clear c4 fz
    have hB := unhide hB2
    clear hB2
    generalize World.setCell _ _ _ = u2 at *
    refine wpList_nil ?_
    have hZ : Hid (Ch (pdF g sg pa) g (D.armD n) D.armE w (.returned (.int .i64 0)) u2) := by
      have e1 : D.armD n = { D with left := if n < -1 then -1 else n } := by unfold Dk.armD; rw [unhide hd3]; rfl
      have e2 : D.armE = 0 := by unfold Dk.armE; rw [unhide hd3]; rfl
      rw [e1, e2]
      have hk : ∀ i, i ∈ pdF g sg pa → i ≠ g → u2.heap[i]? = u1.heap[i]? := fun i hi hne => hB.chg.block i ((unhide hP).lt i hi) (by simp [hne])
      refine ⟨pdF g sg pa, rfl, ⟨sg, sc, C, pa, pc, n, ⟨?_, ?_, (unhide hP).cov, (unhide hP).len, (unhide hP).cap, (unhide hP).max, ?_, armed D n h1⟩, rfl⟩, ?_⟩
      · show u2.heap[g]? = some (.cells (pdv (some ⟨sg, 0, none⟩) D.safe.length sc pa D.pend.length pc n D.ops D.dead) _ (0, 0))
        rw [← unhide hsn, ← unhide hpn, ← unhide hos, unhide hd3]
        exact hB.get 0 (x := ⟨g, pdv (some ⟨sg, 0, none⟩) sn sc pa pn pc n os false, 102⟩) rfl
      · rw [hk sg (mem_pdF.2 (.inr (.inl rfl))) (unhide hP).sg_ne.symm]
        exact (unhide hP).saf
      · exact or_keep (unhide hP).pnd (fun i hi => hk i (mem_pdF.2 (.inr (.inr hi))) ((unhide hP).pg_ne hi).1)
      · exact hG.chg (hB.chg.wide (fun i hi => by rw [List.mem_singleton] at hi; rw [hi]; exact mem_pdF.2 (.inl rfl)) (fun i hi => .inl hi))
    replace hG := hide hG
    replace hB := hide hB
    go_wp2_with fail
    rw [unhide hT]
    exact unhide hZ
theorem darm_ok (F : List Nat) (g m : Nat) (D : Dk) (hD : D.Ok m) (hm : m ≤ 1000000) (n : Int) (h1 : -9223372036854775808 ≤ n) (h2 : n < 9223372036854775808) (w : World) (h : Lies F g D w) : Calls Tryz.prog 20 #[P0 g, .int .i64 n] w (Ch F g (D.armD n) D.armE w) := by
  obtain ⟨sg, sc, C, pa, pc, l, h, rfl⟩ := h
  exact darm_p g D sg sc C pa pc l n h1 w h
def Dne (n : Int) (w : World) (r : Ending) (w' : World) : Prop := if 1 ≤ n ∧ n ≤ 512 then ∃ g F, r = .returned (.tuple #[.pointer (some ⟨g, 0, none⟩), .int .i64 0]) ∧ Lies F g (dk0 n.toNat) w' ∧ (∀ i ∈ F, w.heap.size ≤ i) ∧ Gr w w' else r = .returned (.tuple #[.pointer none, .int .i64 2]) ∧ Gr w w'
theorem rep_flat (n : Nat) : ((List.replicate n ZB).map bv).flatten = (List.replicate (n * 64) (0 : Int)).map (Value.int .u8) := by
  rw [List.map_replicate, List.map_replicate, show bv ZB = List.replicate 64 (Value.int .u8 0) from by unfold bv ZB; rw [List.map_replicate]]
  rw [List.flatten_replicate_replicate]
set_option maxHeartbeats 4000000 in
theorem dnew_ok (n : Int) (w : World) : Calls Tryz.prog 28 #[.int .i64 n] w (Dne n w) := by
  obtain ⟨T, hT⟩ : ∃ T, T = Dne n w := ⟨_, rfl⟩
  rw [← hT]
  replace hT := hide hT
  go_enter Tryz.func28, Tryz.ntmps28
  go_upto_region 1 with fail
  by_cases h1 : n < 1
  · skip
    refine wp_region_lit ?_
    refine list_val (.int .i64 n) (by kernel_rfl) (by kernel_rfl) ?_
    simp only [nrm]
    refine list_val (.bool true) (by kernel_rfl) (by go_simp) ?_
    simp only [nrm]
    refine list_val (.bool true) (by kernel_rfl) (by kernel_rfl) ?_
    simp only [nrm]
    refine wpList_step fun K hK => ?_
    rw [if_neg (ne_true_of_eq_false (by kernel_rfl))]
    refine hK _ _ ?_
    clear hK K
    simp only [nrm]
    refine wpList_step fun K hK => ?_
    rw [if_neg (ne_true_of_eq_false (by kernel_rfl))]
    refine hK _ _ ?_
    clear hK K
    simp only [nrm]
    refine list_val (.bool true) (by kernel_rfl) (by kernel_rfl) ?_
    simp only [nrm]
    refine wpList_nil ?_
    have hZ : Hid (Dne n w (.returned (.tuple #[.pointer none, .int .i64 2])) w) := by
      show Dne n w _ w
      unfold Dne
      rw [if_neg (by omega)]
      exact ⟨rfl, Gr.refl w⟩
    go_wp2_with fail
    rw [unhide hT]
    exact unhide hZ
  by_cases h2 : 512 < n
  · skip
    refine wp_region_lit ?_
    refine list_val (.int .i64 n) (by kernel_rfl) (by kernel_rfl) ?_
    simp only [nrm]
    refine list_val (.bool false) (by kernel_rfl) (by go_simp) ?_
    simp only [nrm]
    refine list_val (.bool false) (by kernel_rfl) (by kernel_rfl) ?_
    simp only [nrm]
    refine list_val (.int .i64 n) (by kernel_rfl) (by kernel_rfl) ?_
    simp only [nrm]
    refine list_val (.bool true) (by kernel_rfl) (by go_simp) ?_
    simp only [nrm]
    refine list_val (.bool true) (by kernel_rfl) (by kernel_rfl) ?_
    simp only [nrm]
    refine wpList_nil ?_
    have hZ : Hid (Dne n w (.returned (.tuple #[.pointer none, .int .i64 2])) w) := by
      show Dne n w _ w
      unfold Dne
      rw [if_neg (by omega)]
      exact ⟨rfl, Gr.refl w⟩
    go_wp2_with fail
    rw [unhide hT]
    exact unhide hZ
  refine wp_region_lit ?_
  refine list_val (.int .i64 n) (by kernel_rfl) (by kernel_rfl) ?_
  simp only [nrm]
  refine list_val (.bool false) (by kernel_rfl) (by go_simp) ?_
  simp only [nrm]
  refine list_val (.bool false) (by kernel_rfl) (by kernel_rfl) ?_
  simp only [nrm]
  refine list_val (.int .i64 n) (by kernel_rfl) (by kernel_rfl) ?_
  simp only [nrm]
  refine list_val (.bool false) (by kernel_rfl) (by go_simp) ?_
  simp only [nrm]
  refine list_val (.bool false) (by kernel_rfl) (by kernel_rfl) ?_
  simp only [nrm]
  refine wpList_nil ?_
  obtain ⟨k, rfl⟩ := Int.eq_ofNat_of_zero_le (show 0 ≤ n by omega)
  have hB := Bl.nil w
  replace hB := hide hB
  go_upto_region 3 with fail
  replace hB := unhide hB
  refine wp_region_lit ?_
  refine list_val (.int .i64 (k : Int)) (by kernel_rfl) (by kernel_rfl) ?_
  simp only [nrm]
  refine make_blocks w rfl (.tmp 10) (.tmp 10) rfl k rfl rfl (by omega) ?_
  simp only [nrm]
  replace hB := hB.new (kc (List.replicate (k * 64) 0)) 36
  simp only [List.nil_append, List.cons_append] at hB
  generalize World.alloc _ _ = u1 at *
  refine list_val (.agg (pdv (some ⟨w.heap.size, 0, none⟩) k k none 0 0 (-1) 0 false)) (by kernel_rfl) (by kernel_rfl) ?_
  simp only [nrm]
  refine list_valw (.pointer (some ⟨u1.heap.size, 0, none⟩)) (u1.alloc (.cells (pdv (some ⟨w.heap.size, 0, none⟩) k k none 0 0 (-1) 0 false) 102 (0, 0))) (by kernel_rfl) (by kernel_rfl) ?_
  replace hB := hB.new (pdv (some ⟨w.heap.size, 0, none⟩) k k none 0 0 (-1) 0 false) 102
  simp only [List.nil_append, List.cons_append] at hB
  generalize World.alloc _ _ = u2 at *
  generalize u1.heap.size = gd at *
  replace hB : Bl w [⟨w.heap.size, kc (List.replicate (k * 64) 0), 36⟩, ⟨gd, pdv (some ⟨w.heap.size, 0, none⟩) k k none 0 0 (-1) 0 false, 102⟩] u2 := hB
  simp only [nrm]
  (refine wpList_step fun K hK => ?_; replace hK := hide hK; go_simp; refine unhide hK _ _ ?_; clear hK K)
  (refine wpList_step fun K hK => ?_; replace hK := hide hK; go_simp; refine unhide hK _ _ ?_; clear hK K)
  refine wpList_nil ?_
  have hZ : Hid (Dne (k : Int) w (.returned (.tuple #[.pointer (some ⟨gd, 0, none⟩), .int .i64 0])) u2) := by
    show Dne (k : Int) w _ u2
    unfold Dne
    rw [if_pos (by omega)]
    have hk : k ≤ 512 := by omega
    refine ⟨gd, pdF gd w.heap.size none, rfl, ⟨w.heap.size, k, (List.replicate (k * 64) (0 : Int)).map (Value.int .u8), none, 0, -1, ⟨?_, ?_, ?_, ?_, ?_, ?_, ?_, Lf.refl _ (by show (-9223372036854775808 : Int) ≤ -1; omega)⟩, rfl⟩, ?_, hB.gr⟩
    · show u2.heap[gd]? = some (.cells (pdv (some ⟨w.heap.size, 0, none⟩) (List.replicate k ZB).length k none 0 0 (-1) 0 false) _ (0, 0))
      rw [List.length_replicate]
      exact hB.get 1 (x := ⟨gd, pdv (some ⟨w.heap.size, 0, none⟩) k k none 0 0 (-1) 0 false, 102⟩) rfl
    · exact hB.get 0 (x := ⟨w.heap.size, kc (List.replicate (k * 64) 0), 36⟩) rfl
    · show Cov _ ((List.replicate k ZB).map bv).flatten
      rw [rep_flat]
      exact fun q x hq => hq
    · rw [List.length_map, List.length_replicate]
    · show (List.replicate k ZB).length ≤ k
      rw [List.length_replicate]
      exact Nat.le_refl _
    · unfold maxLen; omega
    · exact ⟨(fun r hr => by cases hr), rfl, .inl ⟨rfl, rfl⟩⟩
    · intro i hi
      rcases mem_pdF.1 hi with hi | hi | hi
      · rw [hi]
        exact hB.own 1 (x := ⟨gd, pdv (some ⟨w.heap.size, 0, none⟩) k k none 0 0 (-1) 0 false, 102⟩) rfl
      · rw [hi]
        exact Nat.le_refl _
      · cases hi
  replace hB := hide hB
  go_wp2_with fail
  rw [unhide hT]
  exact unhide hZ
set_option maxHeartbeats 4000000 in
theorem dread_p (g : Nat) (D : Dk) (sg sc : Nat) (C : List Value) (pa : Option Addr) (pc : Nat) (l : Int) (i : Int) (m : Nat) (hD : D.Ok m) (hm : m ≤ 1000000) (w : World) (hP : Pd g D w sg sc C pa pc l) : Calls Tryz.prog 63 #[P0 g, .int .i64 i] w (Rrd (D.readB i) (D.readE i) w) := by
  obtain ⟨T, hT⟩ : ∃ T, T = Rrd (D.readB i) (D.readE i) w := ⟨_, rfl⟩
  rw [← hT]
  replace hT := hide hT
  obtain ⟨dd, hdd⟩ : ∃ x, x = D.dead := ⟨_, rfl⟩
  obtain ⟨sn, hsn⟩ : ∃ n, n = D.safe.length := ⟨_, rfl⟩
  obtain ⟨pn, hpn⟩ : ∃ n, n = D.pend.length := ⟨_, rfl⟩
  obtain ⟨os, hos⟩ : ∃ n, n = D.ops := ⟨_, rfl⟩
  have hcl := hP.cel
  rw [← hdd, ← hsn, ← hpn, ← hos] at hcl
  replace hdd := hide hdd; replace hsn := hide hsn; replace hpn := hide hpn; replace hos := hide hos; replace hcl := hide hcl; replace hP := hide hP
  have hs512 : sn ≤ 512 := by rw [unhide hsn]; exact hD.hi1
  have hpm : pn ≤ 1000000 := by rw [unhide hpn]; exact Nat.le_trans hD.num hm
  replace hD := hide hD
  go_enter Tryz.func63, Tryz.ntmps63
  go_upto_region 1 with fail
  have hB := ((Bl.nil w).new #[.int .u8 0, .int .u8 0, .int .u8 0, .int .u8 0, .int .u8 0, .int .u8 0, .int .u8 0, .int .u8 0, .int .u8 0, .int .u8 0, .int .u8 0, .int .u8 0, .int .u8 0, .int .u8 0, .int .u8 0, .int .u8 0, .int .u8 0, .int .u8 0, .int .u8 0, .int .u8 0, .int .u8 0, .int .u8 0, .int .u8 0, .int .u8 0, .int .u8 0, .int .u8 0, .int .u8 0, .int .u8 0, .int .u8 0, .int .u8 0, .int .u8 0, .int .u8 0, .int .u8 0, .int .u8 0, .int .u8 0, .int .u8 0, .int .u8 0, .int .u8 0, .int .u8 0, .int .u8 0, .int .u8 0, .int .u8 0, .int .u8 0, .int .u8 0, .int .u8 0, .int .u8 0, .int .u8 0, .int .u8 0, .int .u8 0, .int .u8 0, .int .u8 0, .int .u8 0, .int .u8 0, .int .u8 0, .int .u8 0, .int .u8 0, .int .u8 0, .int .u8 0, .int .u8 0, .int .u8 0, .int .u8 0, .int .u8 0, .int .u8 0, .int .u8 0] 36)
  simp only [size_alloc, List.nil_append, List.cons_append] at hB
  generalize World.alloc _ _ = u at *
  replace hB : Bl w [⟨w.heap.size, kc ZB, 36⟩] u := hB
  refine wp_region_lit ?_
  refine list_val (.pointer (some ⟨g, 0, none⟩)) (by kernel_rfl) (by kernel_rfl) ?_
  simp only [nrm]
  refine list_val (.int .i64 i) (by kernel_rfl) (by kernel_rfl) ?_
  simp only [nrm]
  refine list_call 65 #[.pointer (some ⟨g, 0, none⟩), .int .i64 i] (by kernel_rfl) (by kernel_rfl) ((reach_ok g D sg sc C pa pc l i _ ((unhide hP).gr hB.gr)).mono ?_)
  rintro r u1 ⟨rfl, hG⟩
  refine ⟨_, rfl, ?_⟩
  obtain ⟨pe, hpe⟩ : ∃ x : Int, x = D.readE i := ⟨_, rfl⟩
  rw [← hpe]
  replace hpe := hide hpe
  replace hB := hB.more hG
  clear hG
  simp only [nrm]
  (refine wpList_step fun K hK => ?_; replace hK := hide hK; go_simp; refine unhide hK _ _ ?_; clear hK K)
  refine wpList_nil ?_
  have hcase : (pe = 7 ∧ D.readB i = ZB) ∨ (pe = 2 ∧ D.readB i = ZB) ∨ (pe = 0 ∧ D.has i ∧ D.dead = false) := by
    rw [unhide hpe]
    unfold Dk.readE Dk.readB
    cases D.dead
    · by_cases h : D.has i
      · exact .inr (.inr (by simp [h]))
      · exact .inr (.inl (by simp [h]))
    · exact .inl (by simp)
  rcases hcase with ⟨rfl, hzb⟩ | ⟨rfl, hzb⟩ | ⟨rfl, hhas, hnd⟩
  · skip
    replace hzb := hide hzb
    replace hB := hide hB
    go_upto_region 3 with fail
    replace hB := unhide hB
    refine wp_region_lit ?_
    refine list_val (.agg (kc ZB)) (by kernel_rfl) (by kernel_rfl) ?_
    simp only [nrm]
    refine list_val (.int .i64 7) (by kernel_rfl) (by kernel_rfl) ?_
    simp only [nrm]
    refine list_store 36 (.tmp 4) (.tmp 13) (w.heap.size) (kc ZB) 36 (kc ZB) (by kernel_rfl) rfl (by kernel_rfl) (by kernel_rfl) (hB.get 0 (x := ⟨w.heap.size, kc ZB, 36⟩) rfl) (by rw [Tryz.infoB, kc_size, ZB_len]) ((show (kc ZB).size = 64 from rfl).trans ((kc_size _).trans ZB_len).symm) (kc_one _) ?_
    replace hB := hB.set 0 (x := ⟨w.heap.size, kc ZB, 36⟩) rfl (kc ZB)
    simp only [List.set_cons_zero, List.set_cons_succ] at hB
    generalize World.setRow _ _ _ = u9 at *
    replace hB : Bl w [⟨w.heap.size, kc ZB, 36⟩] u9 := hB
    simp only [nrm]
    (refine wpList_step fun K hK => ?_; replace hK := hide hK; go_simp; refine unhide hK _ _ ?_; clear hK K)
    refine wpList_nil ?_
    have hE : D.readB i = ZB ∧ D.readE i = 7 := ⟨unhide hzb, (unhide hpe).symm⟩
    replace hB := hide hB
    go_wp2_with fail
    replace hB := unhide hB
    rw [unhide hT]
    exact bodyPost_ret (v := .tuple #[.agg (kc ZB), .int .i64 7]) (results_cell_tmp Tryz.results63 _ _ (w.heap.size) 36 (kc ZB) (0, 0) _ rfl (.int .i64 7) rfl (hB.get 0 (x := ⟨w.heap.size, kc ZB, 36⟩) rfl) Tryz.underlying36 rfl ((by rw [Tryz.infoB]; rfl))) rfl (⟨by rw [hE.1, hE.2], hB.gr⟩)
  · skip
    replace hzb := hide hzb
    replace hB := hide hB
    go_upto_region 3 with fail
    replace hB := unhide hB
    refine wp_region_lit ?_
    refine list_val (.agg (kc ZB)) (by kernel_rfl) (by kernel_rfl) ?_
    simp only [nrm]
    refine list_val (.int .i64 2) (by kernel_rfl) (by kernel_rfl) ?_
    simp only [nrm]
    refine list_store 36 (.tmp 4) (.tmp 13) (w.heap.size) (kc ZB) 36 (kc ZB) (by kernel_rfl) rfl (by kernel_rfl) (by kernel_rfl) (hB.get 0 (x := ⟨w.heap.size, kc ZB, 36⟩) rfl) (by rw [Tryz.infoB, kc_size, ZB_len]) ((show (kc ZB).size = 64 from rfl).trans ((kc_size _).trans ZB_len).symm) (kc_one _) ?_
    replace hB := hB.set 0 (x := ⟨w.heap.size, kc ZB, 36⟩) rfl (kc ZB)
    simp only [List.set_cons_zero, List.set_cons_succ] at hB
    generalize World.setRow _ _ _ = u9 at *
    replace hB : Bl w [⟨w.heap.size, kc ZB, 36⟩] u9 := hB
    simp only [nrm]
    (refine wpList_step fun K hK => ?_; replace hK := hide hK; go_simp; refine unhide hK _ _ ?_; clear hK K)
    refine wpList_nil ?_
    have hE : D.readB i = ZB ∧ D.readE i = 2 := ⟨unhide hzb, (unhide hpe).symm⟩
    replace hB := hide hB
    go_wp2_with fail
    replace hB := unhide hB
    rw [unhide hT]
    exact bodyPost_ret (v := .tuple #[.agg (kc ZB), .int .i64 2]) (results_cell_tmp Tryz.results63 _ _ (w.heap.size) 36 (kc ZB) (0, 0) _ rfl (.int .i64 2) rfl (hB.get 0 (x := ⟨w.heap.size, kc ZB, 36⟩) rfl) Tryz.underlying36 rfl ((by rw [Tryz.infoB]; rfl))) rfl (⟨by rw [hE.1, hE.2], hB.gr⟩)
  have hkn0 : 0 ≤ i ∧ i < (D.safe.length : Int) := hhas
  rw [← unhide hsn] at hkn0
  obtain ⟨k, rfl⟩ := Int.eq_ofNat_of_zero_le hkn0.1
  have hkn : k < sn := by omega
  have kI : (k : Int) < (sn : Int) := by omega
  have hfin : Hid (D.readB (k : Int) = curL D.safe D.pend k pn) := by
    show D.readB (k : Int) = _
    unfold Dk.readB Dk.cur
    rw [hnd, if_pos hhas, Int.toNat_natCast, unhide hpn]
    rfl
  clear hkn0 hhas hnd
  replace hB := hide hB
  go_upto_region 4 with fail
  replace hB := unhide hB
  obtain ⟨q0, hq0⟩ : ∃ q : Int, q = (pn : Int) - 1 := ⟨_, rfl⟩
  have hq1 : IntKind.i64.wrap ((pn : Int) - 1) = q0 := by rw [IntKind.wrap_i64]; omega
  refine wp_region_lit ?_
  refine list_val (.pointer (some ⟨g, 0, none⟩)) (by kernel_rfl) (by kernel_rfl) ?_
  simp only [nrm]
  refine list_val (.pointer (some ⟨g, 0, none⟩)) (by kernel_rfl) (by kernel_rfl) ?_
  simp only [nrm]
  refine list_val (.pointer (some ⟨g, 1, none⟩)) (by kernel_rfl) (by kernel_rfl) ?_
  simp only [nrm]
  refine list_val (.slice pa pn pc) (by kernel_rfl) (exec_spw _ (.tmp 17) rfl g 1 (by kernel_rfl) pa pn pc (cell_of (hB.gr.blk (unhide hcl)) (i := 1) rfl)) ?_
  simp only [nrm]
  refine list_val (.int .i64 pn) (by kernel_rfl) (by kernel_rfl) ?_
  simp only [nrm]
  refine list_val (.int .i64 q0) (by kernel_rfl) (by go_simp) ?_
  simp only [nrm]
  (refine wpList_step fun K hK => ?_; replace hK := hide hK; go_simp; refine unhide hK _ _ ?_; clear hK K)
  refine wpList_nil ?_
  clear hq1
  replace hB := hide hB
  go_wp2_with fail
  go_loopw [7] (fun i wr => ∃ j : Nat, ∃ q : Int, j ≤ pn ∧ i = .int .i64 q ∧ q = (j : Int) - 1 ∧ Hid (D.readB (k : Int) = curL D.safe D.pend k j) ∧ Hid (Bl w [⟨w.heap.size, kc ZB, 36⟩] wr)) (fun i _ => (intOf i + 1).toNat)
  case atStart => exact ⟨pn, q0, Nat.le_refl _, by rw [hq0], hq0, hfin, hB⟩
  case round =>
  clear hB hfin hq0 q0
  obtain ⟨j, q, hj, rfl, hq, hcj, hB⟩ := hrel
  rcases j with _ | j
  · skip
    obtain rfl : q = -1 := by omega
    clear hq
    obtain ⟨b0, hb⟩ : ∃ b, b = D.safe.getD k [] := ⟨_, rfl⟩
    have hrow := ((unhide hP).sls (unhide hD)).at_ k (by rw [← unhide hsn]; exact hkn)
    obtain ⟨p_, o_, he, hrow⟩ := hrow
    have e1 : sg = p_ ∧ 0 = o_ := by
      have := Option.some.inj he
      injection this with h1 h2 h3
      exact ⟨h1, h2⟩
    obtain ⟨rfl, rfl⟩ := e1
    clear he
    rw [getD_map bv D.safe k [] [] (by rw [← unhide hsn]; exact hkn), ← hb] at hrow
    have hb0 : BB b0 := by rw [hb]; exact (unhide hD).blk _ (mem_of_getD (by rw [← unhide hsn]; exact hkn))
    have hl0 := hb0.1
    have hcb : Hid (D.readB (k : Int) = b0) := by rw [hb]; exact unhide hcj
    replace hrow := hide hrow; replace hb := hide hb; replace hb0 := hide hb0
    replace hB := hide hB
    go_upto_region 9 with fail
    replace hB := unhide hB
    refine wp_region_lit ?_
    refine list_val (.pointer (some ⟨g, 0, none⟩)) (by kernel_rfl) (by kernel_rfl) ?_
    simp only [nrm]
    refine list_val (.pointer (some ⟨g, 0, none⟩)) (by kernel_rfl) (by kernel_rfl) ?_
    simp only [nrm]
    refine list_val (.pointer (some ⟨g, 0, none⟩)) (by kernel_rfl) (by kernel_rfl) ?_
    simp only [nrm]
    refine list_val (.slice (some ⟨sg, 0, none⟩) sn sc) (by kernel_rfl) (exec_sb _ (.tmp 45) rfl g 0 (by kernel_rfl) (some ⟨sg, 0, none⟩) sn sc (cell_of (hB.gr.blk (unhide hcl)) (i := 0) rfl)) ?_
    simp only [nrm]
    refine list_val (.int .i64 (k : Int)) (by kernel_rfl) (by kernel_rfl) ?_
    simp only [nrm]
    refine list_val (.pointer (some ⟨sg, 0 + 64 * k, none⟩)) (by kernel_rfl) (exec_ib _ (.tmp 46) (.tmp 47) rfl sg 0 sn sc k rfl rfl hkn) ?_
    simp only [nrm]
    refine list_val (.agg (kc b0)) (by kernel_rfl) (exec_row _ 36 (.tmp 48) rfl sg (0 + 64 * k) (by kernel_rfl) (bv b0) _ (range_gr (unhide hrow) hB.gr) Tryz.underlying36 rfl (by rw [Tryz.infoB, bv_len, hl0])) ?_
    simp only [nrm]
    refine list_store 36 (.tmp 4) (.tmp 49) (w.heap.size) (kc b0) 36 (kc ZB) (by kernel_rfl) rfl (by kernel_rfl) (by kernel_rfl) (hB.get 0 (x := ⟨w.heap.size, kc ZB, 36⟩) rfl) (by rw [Tryz.infoB, kc_size, hl0]) ((show (kc ZB).size = 64 from rfl).trans ((kc_size _).trans hl0).symm) (kc_one _) ?_
    replace hB := hB.set 0 (x := ⟨w.heap.size, kc ZB, 36⟩) rfl (kc b0)
    simp only [List.set_cons_zero, List.set_cons_succ] at hB
    generalize World.setRow _ _ _ = u9 at *
    replace hB : Bl w [⟨w.heap.size, kc b0, 36⟩] u9 := hB
    simp only [nrm]
    (refine wpList_step fun K hK => ?_; replace hK := hide hK; go_simp; refine unhide hK _ _ ?_; clear hK K)
    refine wpList_nil ?_
    replace hB := hide hB
    go_wp2_with fail
    replace hB := unhide hB
    rw [unhide hT]
    exact bodyPost_ret (v := .tuple #[.agg (kc b0), .int .i64 0]) (results_cell_tmp Tryz.results63 _ _ (w.heap.size) 36 (kc b0) (0, 0) _ rfl (.int .i64 0) rfl (hB.get 0 (x := ⟨w.heap.size, kc b0, 36⟩) rfl) Tryz.underlying36 rfl ((by rw [Tryz.infoB, kc_size, hl0]))) rfl (⟨by rw [unhide hcb, ← unhide hpe], hB.gr⟩)
  obtain rfl : q = (j : Int) := by omega
  clear hq
  have hjl : j < pn := by omega
  obtain ⟨p2, o2, rfl, hrw⟩ := (unhide hP).pls.at_ j (by rw [← unhide hpn]; exact hjl)
  rw [getD_map wv D.pend j (0, []) [] (by rw [← unhide hpn]; exact hjl)] at hrw
  have hx := (unhide hD).pnd _ (mem_of_getD (d := (0, [])) (by rw [← unhide hpn]; exact hjl))
  have hnx : Hid (curL D.safe D.pend k (j + 1) = if (D.pend.getD j (0, [])).1 = k then (D.pend.getD j (0, [])).2 else curL D.safe D.pend k j) := rfl
  obtain ⟨⟨ai, ab⟩, hab⟩ : ∃ x, x = D.pend.getD j (0, []) := ⟨_, rfl⟩
  rw [← hab] at hrw hx hnx
  have hal : ab.length = 64 := hx.2.1
  have hwl : (wv (ai, ab)).length = 65 := by rw [wv_len, hal]
  have hwr0 : Hid (wr.cell? ⟨p2, o2 + 65 * j, none⟩ = some (.int .i64 (ai : Int))) := by
    have h := hrw 0 (.int .i64 (ai : Int)) rfl
    exact (unhide hB).gr.cell h
  replace hab := hide hab; replace hx := hide hx; replace hrw := hide hrw
  have j0 : 0 ≤ (j : Int) := by omega
  have jI : (j : Int) < (pn : Int) := by omega
  replace hB := hide hB
  go_upto_region 7 with fail
  replace hB := unhide hB
  by_cases hak : ai = k
  · skip
    have aI : (ai : Int) = (k : Int) := by omega
    replace hak := hide hak
    refine wp_region_lit ?_
    refine list_val (.pointer (some ⟨g, 0, none⟩)) (by kernel_rfl) (by kernel_rfl) ?_
    simp only [nrm]
    refine list_val (.pointer (some ⟨g, 0, none⟩)) (by kernel_rfl) (by kernel_rfl) ?_
    simp only [nrm]
    refine list_val (.pointer (some ⟨g, 1, none⟩)) (by kernel_rfl) (by kernel_rfl) ?_
    simp only [nrm]
    refine list_val (.slice (some ⟨p2, o2, none⟩) pn pc) (by kernel_rfl) (exec_spw _ (.tmp 27) rfl g 1 (by kernel_rfl) (some ⟨p2, o2, none⟩) pn pc (cell_of (hB.gr.blk (unhide hcl)) (i := 1) rfl)) ?_
    simp only [nrm]
    refine list_val (.int .i64 (j : Int)) (by kernel_rfl) (by kernel_rfl) ?_
    simp only [nrm]
    refine list_val (.pointer (some ⟨p2, o2 + 65 * j, none⟩)) (by kernel_rfl) (exec_ipw _ (.tmp 28) (.tmp 29) rfl p2 o2 pn pc j rfl rfl hjl) ?_
    simp only [nrm]
    refine list_val (.pointer (some ⟨p2, o2 + 65 * j, none⟩)) (by kernel_rfl) (by kernel_rfl) ?_
    simp only [nrm]
    refine list_val (.int .i64 (ai : Int)) (by kernel_rfl) (exec_i64 _ (.tmp 31) rfl p2 (o2 + 65 * j) (by kernel_rfl) _ (unhide hwr0)) ?_
    simp only [nrm]
    refine list_val (.int .i64 (k : Int)) (by kernel_rfl) (by kernel_rfl) ?_
    simp only [nrm]
    refine list_val (.bool true) (by kernel_rfl) (by go_simp) ?_
    simp only [nrm]
    refine wpList_nil ?_
    replace hB := hide hB
    go_upto_region 8 with fail
    replace hB := unhide hB
    refine wp_region_lit ?_
    refine list_val (.pointer (some ⟨g, 0, none⟩)) (by kernel_rfl) (by kernel_rfl) ?_
    simp only [nrm]
    refine list_val (.pointer (some ⟨g, 0, none⟩)) (by kernel_rfl) (by kernel_rfl) ?_
    simp only [nrm]
    refine list_val (.pointer (some ⟨g, 1, none⟩)) (by kernel_rfl) (by kernel_rfl) ?_
    simp only [nrm]
    refine list_val (.slice (some ⟨p2, o2, none⟩) pn pc) (by kernel_rfl) (exec_spw _ (.tmp 37) rfl g 1 (by kernel_rfl) (some ⟨p2, o2, none⟩) pn pc (cell_of (hB.gr.blk (unhide hcl)) (i := 1) rfl)) ?_
    simp only [nrm]
    refine list_val (.int .i64 (j : Int)) (by kernel_rfl) (by kernel_rfl) ?_
    simp only [nrm]
    refine list_val (.pointer (some ⟨p2, o2 + 65 * j, none⟩)) (by kernel_rfl) (exec_ipw _ (.tmp 38) (.tmp 39) rfl p2 o2 pn pc j rfl rfl hjl) ?_
    simp only [nrm]
    refine list_val (.pointer (some ⟨p2, o2 + 65 * j + 1, none⟩)) (by kernel_rfl) (by kernel_rfl) ?_
    simp only [nrm]
    refine list_val (.agg (kc ab)) (by kernel_rfl) (exec_row _ 36 (.tmp 41) rfl p2 (o2 + 65 * j + 1) (by kernel_rfl) (bv ab) _ (fun q_ v_ hq => by rw [Nat.add_assoc, Nat.add_comm 1 q_]; exact hB.gr.cell (unhide hrw (q_ + 1) v_ (by unfold wv; rw [List.getElem?_cons_succ]; exact hq))) Tryz.underlying36 rfl (by rw [Tryz.infoB, bv_len, hal])) ?_
    simp only [nrm]
    refine list_store 36 (.tmp 4) (.tmp 42) (w.heap.size) (kc ab) 36 (kc ZB) (by kernel_rfl) rfl (by kernel_rfl) (by kernel_rfl) (hB.get 0 (x := ⟨w.heap.size, kc ZB, 36⟩) rfl) (by rw [Tryz.infoB, kc_size, hal]) ((show (kc ZB).size = 64 from rfl).trans ((kc_size _).trans hal).symm) (kc_one _) ?_
    replace hB := hB.set 0 (x := ⟨w.heap.size, kc ZB, 36⟩) rfl (kc ab)
    simp only [List.set_cons_zero, List.set_cons_succ] at hB
    generalize World.setRow _ _ _ = u9 at *
    replace hB : Bl w [⟨w.heap.size, kc ab, 36⟩] u9 := hB
    simp only [nrm]
    (refine wpList_step fun K hK => ?_; replace hK := hide hK; go_simp; refine unhide hK _ _ ?_; clear hK K)
    refine wpList_nil ?_
    have hE : D.readB (k : Int) = ab := by rw [unhide hcj, unhide hnx, if_pos (unhide hak)]
    replace hB := hide hB
    go_wp2_with fail
    replace hB := unhide hB
    rw [unhide hT]
    exact bodyPost_ret (v := .tuple #[.agg (kc ab), .int .i64 0]) (results_cell_tmp Tryz.results63 _ _ (w.heap.size) 36 (kc ab) (0, 0) _ rfl (.int .i64 0) rfl (hB.get 0 (x := ⟨w.heap.size, kc ab, 36⟩) rfl) Tryz.underlying36 rfl ((by rw [Tryz.infoB, kc_size, hal]))) rfl (⟨by rw [hE, ← unhide hpe], hB.gr⟩)
  have aI : ¬ (ai : Int) = (k : Int) := by omega
  replace hak := hide hak
  refine wp_region_lit ?_
  refine list_val (.pointer (some ⟨g, 0, none⟩)) (by kernel_rfl) (by kernel_rfl) ?_
  simp only [nrm]
  refine list_val (.pointer (some ⟨g, 0, none⟩)) (by kernel_rfl) (by kernel_rfl) ?_
  simp only [nrm]
  refine list_val (.pointer (some ⟨g, 1, none⟩)) (by kernel_rfl) (by kernel_rfl) ?_
  simp only [nrm]
  refine list_val (.slice (some ⟨p2, o2, none⟩) pn pc) (by kernel_rfl) (exec_spw _ (.tmp 27) rfl g 1 (by kernel_rfl) (some ⟨p2, o2, none⟩) pn pc (cell_of (hB.gr.blk (unhide hcl)) (i := 1) rfl)) ?_
  simp only [nrm]
  refine list_val (.int .i64 (j : Int)) (by kernel_rfl) (by kernel_rfl) ?_
  simp only [nrm]
  refine list_val (.pointer (some ⟨p2, o2 + 65 * j, none⟩)) (by kernel_rfl) (exec_ipw _ (.tmp 28) (.tmp 29) rfl p2 o2 pn pc j rfl rfl hjl) ?_
  simp only [nrm]
  refine list_val (.pointer (some ⟨p2, o2 + 65 * j, none⟩)) (by kernel_rfl) (by kernel_rfl) ?_
  simp only [nrm]
  refine list_val (.int .i64 (ai : Int)) (by kernel_rfl) (exec_i64 _ (.tmp 31) rfl p2 (o2 + 65 * j) (by kernel_rfl) _ (unhide hwr0)) ?_
  simp only [nrm]
  refine list_val (.int .i64 (k : Int)) (by kernel_rfl) (by kernel_rfl) ?_
  simp only [nrm]
  refine list_val (.bool false) (by kernel_rfl) (by go_simp) ?_
  simp only [nrm]
  refine wpList_nil ?_
  have hcj2 : Hid (D.readB (k : Int) = curL D.safe D.pend k j) := by
    show D.readB (k : Int) = _
    rw [unhide hcj, unhide hnx, if_neg (unhide hak)]
  obtain ⟨q9, hq9⟩ : ∃ q : Int, q = (j : Int) - 1 := ⟨_, rfl⟩
  have hq8 : IntKind.i64.wrap ((j : Int) - 1) = q9 := by rw [IntKind.wrap_i64]; omega
  replace hB := hide hB
  go_wp2_with fail
  go_roundw
  case rel => exact ⟨j, q9, by omega, by rw [hq9], hq9, hcj2, hB⟩
  case measure => simp [intOf] <;> omega
theorem dread_ok (F : List Nat) (g m : Nat) (D : Dk) (hD : D.Ok m) (hm : m ≤ 1000000) (i : Int) (w : World) (h : Lies F g D w) : Calls Tryz.prog 63 #[P0 g, .int .i64 i] w (Rrd (D.readB i) (D.readE i) w) := by
  obtain ⟨sg, sc, C, pa, pc, l, h, rfl⟩ := h
  exact dread_p g D sg sc C pa pc l i m hD hm w h
def tk (L : List Int) (j n : Nat) : List Int := L.take j ++ List.replicate (n - j) 0
theorem or_bt {k : Nat} {e : TypeId} {b : Nat} {u u' : World} {v : Value} {R : List (List Value)} (h : Or_ k e b u v R) {g : Nat} {c : Array Value} {t : TypeId} (hg : u.heap[g]? = some (.cells c t (0, 0))) (ht : t ≠ e) (hk : Bt g u u') : Or_ k e b u' v R := by
  refine ⟨h.1, h.2.1, ?_⟩
  rcases h.2.2 with h1 | ⟨p, cap, cur, h1, h2, h3, h4⟩
  · exact .inl h1
  · exact .inr ⟨p, cap, cur, h1, h2, hk.blk h3 (ty_ne h3 hg (Ne.symm ht)), h4⟩
theorem range_chg {F F' : List Nat} {w v : World} {p o : Nat} {L : List Value} (h : w.rangeAt p o L) (k : Chg F F' w v) (hp : p ∉ F) : v.rangeAt p o L := fun j x hj => k.cell (h j x hj) hp
theorem Kp.chg2 {F F' : List Nat} {w v : World} {a : Option Addr} {n c : Nat} {l : List Bool} (h : Kp w a n c l) (k : Chg F F' w v) (hn : l = [] ∨ ∀ i ∈ F, blkOf a ≠ some i) : Kp v a n c l := by
  rcases hn with hn | hn
  · exact ⟨h.len, .inl hn, h.cap, h.max⟩
  · exact h.chg k hn
def Stl (g : Nat) (D : Dk) (sg sc : Nat) (l : Int) (w : World) (r : Ending) (w' : World) : Prop := r = .returned (.tuple #[]) ∧ ∃ C', Pd g D w' sg sc C' none 0 l ∧ Chg [g, sg] [g, sg] w w'
set_option maxHeartbeats 4000000 in
theorem settle_c (g : Nat) (D : Dk) (sg sc : Nat) (C : List Value) (pa : Option Addr) (pc : Nat) (l : Int) (keep : List Bool) (kb : Nat) (m : Nat) (hD : D.Ok m) (hm : m ≤ 1000001) (w : World) (hP : Pd g D w sg sc C pa pc l) (hC : ∀ (v : World), Chg [g, sg] [g, sg] w v → ∀ j : Nat, j < D.pend.length → Calls Tryz.prog 53 #[.int .i64 (j : Int), .pointer (some ⟨kb, 0, none⟩)] v (Vl (.bool (keep.getD j false)) v)) : Calls Tryz.prog 52 #[P0 g, .func (.func 53) #[] #[.pointer (some ⟨kb, 0, none⟩)]] w (Stl g (D.live keep) sg sc l w) := by
  obtain ⟨T, hT⟩ : ∃ T, T = Stl g (D.live keep) sg sc l w := ⟨_, rfl⟩
  rw [← hT]
  replace hT := hide hT
  obtain ⟨S, hS⟩ : ∃ x, x = D.safe := ⟨_, rfl⟩
  obtain ⟨P, hPp⟩ : ∃ x, x = D.pend := ⟨_, rfl⟩
  obtain ⟨dd, hdd⟩ : ∃ x, x = D.dead := ⟨_, rfl⟩
  obtain ⟨sn, hsn⟩ : ∃ n, n = D.safe.length := ⟨_, rfl⟩
  obtain ⟨pn, hpn⟩ : ∃ n, n = D.pend.length := ⟨_, rfl⟩
  obtain ⟨os, hos⟩ : ∃ n, n = D.ops := ⟨_, rfl⟩
  have hcl := hP.cel
  rw [← hdd, ← hsn, ← hpn, ← hos] at hcl
  replace hdd := hide hdd; replace hsn := hide hsn; replace hpn := hide hpn; replace hos := hide hos; replace hcl := hide hcl; replace hP := hide hP
  have hpm : pn ≤ 1000001 := by rw [unhide hpn]; exact Nat.le_trans hD.num hm
  have hs512 : sn ≤ 512 := by rw [unhide hsn]; exact hD.hi1
  have hB := (unhide hP).two (F := [g, sg]) (by simp) (by simp)
  rw [← unhide hdd, ← unhide hsn, ← unhide hpn, ← unhide hos] at hB
  have hCl := (unhide hP).len
  have hsc : sn ≤ sc := by rw [unhide hsn]; exact (unhide hP).cap
  have hCov : Cov C (S.map bv).flatten := by rw [hS]; exact (unhide hP).cov
  have hlsn : Hid (S.length = sn) := by show S.length = sn; rw [hS, unhide hsn]
  have hlpn : Hid (P.length = pn) := by show P.length = pn; rw [hPp, unhide hpn]
  have hDS : Hid (∀ b ∈ S, BB b) := by show ∀ b ∈ S, BB b; rw [hS]; exact hD.blk
  have hDP : Hid (∀ x ∈ P, x.1 < S.length ∧ BB x.2) := by show ∀ x ∈ P, x.1 < S.length ∧ BB x.2; rw [hS, hPp]; exact hD.pnd
  have hls : Hid (Ls 65 w pa pn pc (P.map wv)) := by show Ls 65 w pa pn pc (P.map wv); rw [hPp, unhide hpn]; exact (unhide hP).pls
  have hpf : Hid (∀ i, blkOf pa = some i → i ∉ [g, sg]) := fun i hi => by have := (unhide hP).pg_ne hi; simp [this.1, this.2]
  rw [← unhide hpn] at hC
  replace hD := hide hD; replace hB := hide hB; replace hC := hide hC; replace hS := hide hS; replace hPp := hide hPp
  go_enter Tryz.func52, Tryz.ntmps52
  go_upto_region 0 with fail
  replace hB := unhide hB
  refine wp_region_lit ?_
  refine list_val (.pointer (some ⟨g, 0, none⟩)) (by kernel_rfl) (by kernel_rfl) ?_
  simp only [nrm]
  refine list_val (.pointer (some ⟨g, 0, none⟩)) (by kernel_rfl) (by kernel_rfl) ?_
  simp only [nrm]
  refine list_val (.pointer (some ⟨g, 1, none⟩)) (by kernel_rfl) (by kernel_rfl) ?_
  simp only [nrm]
  refine list_val (.slice pa pn pc) (by kernel_rfl) (exec_spw _ (.tmp 8) rfl g 1 (by kernel_rfl) pa pn pc (cell_of (hB.get 0 (x := ⟨g, pdv (some ⟨sg, 0, none⟩) sn sc pa pn pc l os dd, 102⟩) rfl) (i := 1) rfl)) ?_
  simp only [nrm]
  refine list_val (.int .i64 pn) (by kernel_rfl) (by kernel_rfl) ?_
  simp only [nrm]
  refine list_val (.int .i64 0) (by kernel_rfl) (by kernel_rfl) ?_
  simp only [nrm]
  refine wpList_nil ?_
  have hscx : sn * 64 ≤ sc * 64 := Nat.mul_le_mul_right _ hsc
  obtain ⟨cz, hcz⟩ : ∃ z, z = sc * 64 := ⟨_, rfl⟩
  rw [← hcz] at hCl hscx
  replace hcz := hide hcz
  replace hCov : Hid (Cov C ((liv S P keep 0).map bv).flatten) := hCov
  replace hB := hide hB
  go_wp2_with fail
  go_loopw [11] (fun i wr => ∃ j : Nat, ∃ C : List Value, j ≤ pn ∧ i = .int .i64 j ∧ C.length = cz ∧ Hid (Cov C ((liv S P keep j).map bv).flatten) ∧ Hid (Bc [g, sg] w [⟨g, pdv (some ⟨sg, 0, none⟩) sn sc pa pn pc l os dd, 102⟩, ⟨sg, C.toArray, 36⟩] wr)) (fun i _ => pn - (intOf i).toNat)
  case atStart => exact ⟨0, C, by omega, rfl, hCl, hCov, hB⟩
  case round =>
  clear hB hCov hCl
  obtain ⟨j, C2, hj, rfl, hCl, hCov, hB⟩ := hrel
  by_cases hjl : j < pn
  · skip
    obtain ⟨p2, o2, rfl, hrw⟩ := (unhide hls).at_ j hjl
    rw [getD_map wv P j (0, []) [] (by rw [unhide hlpn]; exact hjl)] at hrw
    have hx := unhide hDP _ (mem_of_getD (d := (0, [])) (by rw [unhide hlpn]; exact hjl))
    have hnx : Hid (liv S P keep (j + 1) = if keep.getD j false then (liv S P keep j).set (P.getD j (0, [])).1 (P.getD j (0, [])).2 else liv S P keep j) := rfl
    obtain ⟨⟨ai, ab⟩, hab⟩ : ∃ x, x = P.getD j (0, []) := ⟨_, rfl⟩
    rw [← hab] at hrw hx hnx
    have hal : ab.length = 64 := hx.2.1
    have hai : ai < sn := by rw [← unhide hlsn]; exact hx.1
    have hwl : (wv (ai, ab)).length = 65 := by rw [wv_len, hal]
    have hlb : Hid (∀ b ∈ liv S P keep j, BB b) := liv_bb (unhide hDS) (fun x hx => (unhide hDP x hx).2) keep j (by rw [unhide hlpn]; exact hj)
    have hp2 : p2 ∉ [g, sg] := unhide hpf p2 rfl
    replace hab := hide hab; replace hx := hide hx; replace hrw := hide hrw; replace hp2 := hide hp2
    have jI : (j : Int) < (pn : Int) := by omega
    go_upto_region 2 with fail
    replace hB := unhide hB
    refine wp_region_lit ?_
    refine list_val (.int .i64 j) (by kernel_rfl) (by kernel_rfl) ?_
    simp only [nrm]
    refine list_val (.pointer (some ⟨p2, o2 + 65 * j, none⟩)) (by kernel_rfl) (exec_ipw _ (.tmp 9) (.tmp 11) rfl p2 o2 pn pc j rfl rfl hjl) ?_
    simp only [nrm]
    refine list_val (.agg ((wv (ai, ab)).toArray)) (by kernel_rfl) (exec_row _ 119 (.tmp 14) rfl p2 (o2 + 65 * j) (by kernel_rfl) (wv (ai, ab)) _ (range_chg (unhide hrw) hB.chg (unhide hp2)) Tryz.underlying119 rfl (by rw [Tryz.infoPW, hwl])) ?_
    simp only [nrm]
    refine list_valw (.pointer (some ⟨wr.heap.size, 0, none⟩)) (wr.alloc (.cells ((wv (0, ZB)).toArray) 119 (0, 0))) (by kernel_rfl) (by kernel_rfl) ?_
    replace hB := hB.new ((wv (0, ZB)).toArray) 119
    simp only [List.nil_append, List.cons_append] at hB
    generalize World.alloc _ _ = v1 at *
    generalize wr.heap.size = g8 at *
    replace hB : Bc [g, sg] w [⟨g, pdv (some ⟨sg, 0, none⟩) sn sc (some ⟨p2, o2, none⟩) pn pc l os dd, 102⟩, ⟨sg, C2.toArray, 36⟩, ⟨g8, (wv (0, ZB)).toArray, 119⟩] v1 := hB
    simp only [nrm]
    (refine wpList_step fun K hK => ?_; replace hK := hide hK; go_simp; refine unhide hK _ _ ?_; clear hK K)
    refine list_store 119 (.tmp 5) (.tmp 15) g8 ((wv (ai, ab)).toArray) 119 ((wv (0, ZB)).toArray) (by kernel_rfl) rfl (by kernel_rfl) (by kernel_rfl) (hB.get 2 (x := ⟨g8, (wv (0, ZB)).toArray, 119⟩) rfl) (by rw [Tryz.infoPW, List.size_toArray, hwl]) ((show ((wv (0, ZB)).toArray).size = 65 from rfl).trans (by rw [List.size_toArray, hwl])) (wv_one _) ?_
    replace hB := hB.set 2 (x := ⟨g8, (wv (0, ZB)).toArray, 119⟩) rfl ((wv (ai, ab)).toArray)
    simp only [List.set_cons_zero, List.set_cons_succ] at hB
    generalize World.setRow _ _ _ = v2 at *
    replace hB : Bc [g, sg] w [⟨g, pdv (some ⟨sg, 0, none⟩) sn sc (some ⟨p2, o2, none⟩) pn pc l os dd, 102⟩, ⟨sg, C2.toArray, 36⟩, ⟨g8, (wv (ai, ab)).toArray, 119⟩] v2 := hB
    simp only [nrm]
    refine wpList_nil ?_
    replace hB := hide hB
    go_upto_region 3 with fail
    replace hB := unhide hB
    refine wp_region_lit ?_
    refine list_val (.func (.func 53) #[] #[.pointer (some ⟨kb, 0, none⟩)]) (by kernel_rfl) (by kernel_rfl) ?_
    simp only [nrm]
    refine list_val (.int .i64 j) (by kernel_rfl) (by kernel_rfl) ?_
    simp only [nrm]
    refine list_call 53 #[.int .i64 (j : Int), .pointer (some ⟨kb, 0, none⟩)] (by kernel_rfl) (by kernel_rfl) ((unhide hC _ hB.chg j hjl).mono ?_)
    rintro r v3 ⟨rfl, hG⟩
    refine ⟨_, rfl, ?_⟩
    replace hB := hB.more hG
    clear hG
    obtain ⟨kb_, hkb⟩ : ∃ x, x = keep.getD j false := ⟨_, rfl⟩
    rw [← hkb]
    replace hkb := hide hkb
    simp only [nrm]
    refine wpList_nil ?_
    cases kb_
    case false =>
      have hB3 : Hid (Bc [g, sg] w [⟨g, pdv (some ⟨sg, 0, none⟩) sn sc (some ⟨p2, o2, none⟩) pn pc l os dd, 102⟩, ⟨sg, C2.toArray, 36⟩] _) := Bc.left (M := [⟨g8, (wv (ai, ab)).toArray, 119⟩]) hB
      clear hB
      go_wp2_with fail
      go_roundw
      case rel => exact ⟨j + 1, C2, by omega, by go_num, hCl, (by show Cov C2 ((liv S P keep (j + 1)).map bv).flatten; rw [unhide hnx, ← unhide hkb]; exact unhide hCov), hB3⟩
      case measure => simp [intOf]; omega
    case true =>
      go_upto_region 4 with fail
      replace hB := hB
      refine anyC_start 9 (fun v => Bc [g, sg] w [⟨g, pdv (some ⟨sg, 0, none⟩) sn sc (some ⟨p2, o2, none⟩) pn pc l os dd, 102⟩, ⟨sg, C2.toArray, 36⟩, ⟨g8, (wv (ai, ab)).toArray, 119⟩] v) (by kernel_rfl) ?_
      replace hB := hB.drew
      generalize World.drew _ = x0 at *
      simp only [List.size_toArray, List.length_cons, List.length_nil, Array.replicate, List.replicate]
      refine anyC_take (i := 0) (v := (.pointer (some ⟨g, 0, none⟩))) (fun v => Bc [g, sg] w [⟨g, pdv (some ⟨sg, 0, none⟩) sn sc (some ⟨p2, o2, none⟩) pn pc l os dd, 102⟩, ⟨sg, C2.toArray, 36⟩, ⟨g8, (wv (ai, ab)).toArray, 119⟩] v) (fun _ h_ => h_) (.inr (by kernel_rfl)) rfl (by kernel_rfl) (by kernel_rfl) (by kernel_rfl) (by decide) (by kernel_rfl) (by decide) (fun _ _ _ h => h) (.inl ⟨by kernel_rfl, fun x_ hu => by kernel_rfl⟩) hB ?_
      simp only [nrm]
      refine anyC_take (i := 1) (v := (.pointer (some ⟨g, 0, none⟩))) (fun v => Bc [g, sg] w [⟨g, pdv (some ⟨sg, 0, none⟩) sn sc (some ⟨p2, o2, none⟩) pn pc l os dd, 102⟩, ⟨sg, C2.toArray, 36⟩, ⟨g8, (wv (ai, ab)).toArray, 119⟩] v) (fun _ h_ => h_) (.inr (by kernel_rfl)) rfl (by kernel_rfl) (by kernel_rfl) (by kernel_rfl) (by decide) (by kernel_rfl) (by decide) (fun _ _ _ h => h) (.inl ⟨by kernel_rfl, fun x_ hu => by kernel_rfl⟩) hB ?_
      simp only [nrm]
      refine anyC_take (i := 2) (v := (.pointer (some ⟨g, 0, none⟩))) (fun v => Bc [g, sg] w [⟨g, pdv (some ⟨sg, 0, none⟩) sn sc (some ⟨p2, o2, none⟩) pn pc l os dd, 102⟩, ⟨sg, C2.toArray, 36⟩, ⟨g8, (wv (ai, ab)).toArray, 119⟩] v) (fun _ h_ => h_) (.inr (by kernel_rfl)) rfl (by kernel_rfl) (by kernel_rfl) (by kernel_rfl) (by decide) (by kernel_rfl) (by decide) (fun _ _ _ h => h) (.inl ⟨by kernel_rfl, fun x_ hu => by kernel_rfl⟩) hB ?_
      simp only [nrm]
      refine anyC_take (i := 3) (v := (.slice (some ⟨sg, 0, none⟩) sn sc)) (fun v => Bc [g, sg] w [⟨g, pdv (some ⟨sg, 0, none⟩) sn sc (some ⟨p2, o2, none⟩) pn pc l os dd, 102⟩, ⟨sg, C2.toArray, 36⟩, ⟨g8, (wv (ai, ab)).toArray, 119⟩] v) (fun _ h_ => h_) (.inr (by kernel_rfl)) rfl (by kernel_rfl) (by kernel_rfl) (by kernel_rfl) (by decide) (by kernel_rfl) (by decide) (fun _ _ _ h => h) (.inl ⟨by kernel_rfl, fun x_ hu => exec_sb _ (.tmp 21) rfl g 0 (by kernel_rfl) (some ⟨sg, 0, none⟩) sn sc (cell_of (hu.get 0 (x := ⟨g, pdv (some ⟨sg, 0, none⟩) sn sc (some ⟨p2, o2, none⟩) pn pc l os dd, 102⟩) rfl) (i := 0) rfl)⟩) hB ?_
      simp only [nrm]
      refine anyC_take (i := 4) (v := (.pointer (some ⟨g8, 0, none⟩))) (fun v => Bc [g, sg] w [⟨g, pdv (some ⟨sg, 0, none⟩) sn sc (some ⟨p2, o2, none⟩) pn pc l os dd, 102⟩, ⟨sg, C2.toArray, 36⟩, ⟨g8, (wv (ai, ab)).toArray, 119⟩] v) (fun _ h_ => h_) (.inr (by kernel_rfl)) rfl (by kernel_rfl) (by kernel_rfl) (by kernel_rfl) (by decide) (by kernel_rfl) (by decide) (fun _ _ _ h => h) (.inl ⟨by kernel_rfl, fun x_ hu => by kernel_rfl⟩) hB ?_
      simp only [nrm]
      refine anyC_take (i := 5) (v := (.int .i64 (ai : Int))) (fun v => Bc [g, sg] w [⟨g, pdv (some ⟨sg, 0, none⟩) sn sc (some ⟨p2, o2, none⟩) pn pc l os dd, 102⟩, ⟨sg, C2.toArray, 36⟩, ⟨g8, (wv (ai, ab)).toArray, 119⟩] v) (fun _ h_ => h_) (.inr (by kernel_rfl)) rfl (by kernel_rfl) (by kernel_rfl) (by kernel_rfl) (by decide) (by kernel_rfl) (by decide) (fun _ _ _ h => h) (.inl ⟨by kernel_rfl, fun x_ hu => exec_i64 _ (.tmp 23) rfl g8 0 (by kernel_rfl) _ (cell_of (hu.get 2 (x := ⟨g8, (wv (ai, ab)).toArray, 119⟩) rfl) (i := 0) rfl)⟩) hB ?_
      simp only [nrm]
      refine anyC_take (i := 6) (v := (.pointer (some ⟨g8, 1, none⟩))) (fun v => Bc [g, sg] w [⟨g, pdv (some ⟨sg, 0, none⟩) sn sc (some ⟨p2, o2, none⟩) pn pc l os dd, 102⟩, ⟨sg, C2.toArray, 36⟩, ⟨g8, (wv (ai, ab)).toArray, 119⟩] v) (fun _ h_ => h_) (.inr (by kernel_rfl)) rfl (by kernel_rfl) (by kernel_rfl) (by kernel_rfl) (by decide) (by kernel_rfl) (by decide) (fun _ _ _ h => h) (.inl ⟨by kernel_rfl, fun x_ hu => by kernel_rfl⟩) hB ?_
      simp only [nrm]
      refine anyC_take (i := 7) (v := (.agg (kc ab))) (fun v => Bc [g, sg] w [⟨g, pdv (some ⟨sg, 0, none⟩) sn sc (some ⟨p2, o2, none⟩) pn pc l os dd, 102⟩, ⟨sg, C2.toArray, 36⟩, ⟨g8, (wv (ai, ab)).toArray, 119⟩] v) (fun _ h_ => h_) (.inr (by kernel_rfl)) rfl (by kernel_rfl) (by kernel_rfl) (by kernel_rfl) (by decide) (by kernel_rfl) (by decide) (fun _ _ _ h => h) (.inl ⟨by kernel_rfl, fun x_ hu => exec_row _ 36 (.tmp 25) rfl g8 1 (by kernel_rfl) (bv ab) _ (fun q_ v_ hq => cell_of (hu.get 2 (x := ⟨g8, (wv (ai, ab)).toArray, 119⟩) rfl) (by unfold wv; rw [List.getElem?_toArray, Nat.add_comm, List.getElem?_cons_succ]; exact hq)) Tryz.underlying36 rfl (by rw [Tryz.infoB, bv_len, hal])⟩) hB ?_
      simp only [nrm]
      refine anyC_take (i := 8) (v := (.pointer (some ⟨sg, 0 + 64 * ai, none⟩))) (fun v => Bc [g, sg] w [⟨g, pdv (some ⟨sg, 0, none⟩) sn sc (some ⟨p2, o2, none⟩) pn pc l os dd, 102⟩, ⟨sg, C2.toArray, 36⟩, ⟨g8, (wv (ai, ab)).toArray, 119⟩] v) (fun _ h_ => h_) (.inr (by kernel_rfl)) rfl (by kernel_rfl) (by kernel_rfl) (by kernel_rfl) (by decide) (by kernel_rfl) (by decide) (fun _ _ _ h => h) (.inl ⟨by kernel_rfl, fun x_ hu => exec_ib _ (.tmp 22) (.tmp 24) rfl sg 0 sn sc ai rfl rfl hai⟩) hB ?_
      simp only [nrm]
      refine anyC_last (by kernel_rfl) rfl (fun K_ hQ => ?_)
      have hli : ai < (liv S P keep j).length := by rw [liv_len, unhide hlsn]; exact hai
      have hC3 : Hid (Cov (sp C2 (64 * ai) (bv ab)) ((liv S P keep (j + 1)).map bv).flatten) := by
        show Cov _ ((liv S P keep (j + 1)).map bv).flatten
        rw [unhide hnx, ← unhide hkb]
        have h := cov_set 64 (by omega) C2 ((liv S P keep j).map bv) (bv_rows (unhide hlb)) ai (by rw [List.length_map]; exact hli) (bv ab) (by rw [bv_len, hal]) (by rw [List.length_map, liv_len, unhide hlsn, hCl]; exact hscx) (unhide hCov)
        rw [← List.map_set] at h
        exact h
      have hgC := (hB.get 1 (x := ⟨sg, C2.toArray, 36⟩) rfl)
      dsimp only at hgC
      refine list_store_mid 36 (.tmp 27) (.tmp 26) sg (0 + 64 * ai) (kc ab) (by kernel_rfl) rfl (by kernel_rfl) (by kernel_rfl) (there_of hgC (by rw [kc_size, hal, hCl, Nat.zero_add]; omega)) (by rw [Tryz.infoB, kc_size, hal]) (kc_one _) ?_
      refine hQ.out _ _ ?_
      clear hQ K_
      have hbs := setCells_bt ((kc ab).toList) x0 sg (0 + 64 * ai)
      have hcl2 := setCells_heap ((kc ab).toList) x0 sg (0 + 64 * ai) C2 36 hgC
      have e9 : (kc ab).toList = bv ab := by unfold kc bv; simp
      rw [e9, Nat.zero_add] at hcl2 hbs
      rw [e9, Nat.zero_add]
      have hB4 := hB.but hbs 1 (x := ⟨sg, C2.toArray, 36⟩) rfl rfl hcl2
      simp only [List.set_cons_zero, List.set_cons_succ] at hB4
      clear hB hcl2 hbs hgC e9
      generalize World.setCells _ _ _ _ = v9 at *
      have hB := hB4
      clear hB4
      simp only [nrm]
      refine any_done (by kernel_rfl) ?_
      have hB3 : Hid (Bc [g, sg] w [⟨g, pdv (some ⟨sg, 0, none⟩) sn sc (some ⟨p2, o2, none⟩) pn pc l os dd, 102⟩, ⟨sg, (sp C2 (64 * ai) (bv ab)).toArray, 36⟩] _) := Bc.left (M := [⟨g8, (wv (ai, ab)).toArray, 119⟩]) hB
      clear hB
      go_wp2_with fail
      go_roundw
      case rel => exact ⟨j + 1, (sp C2 (64 * ai) (bv ab)), by omega, by go_num, by rw [sp_length]; exact hCl, hC3, hB3⟩
      case measure => simp [intOf]; omega
  have jI : ¬ (j : Int) < (pn : Int) := by omega
  have e : j = P.length := by rw [unhide hlpn]; omega
  go_upto_region 6 with fail
  replace hB := unhide hB
  refine wp_region_lit ?_
  refine list_val (.pointer (some ⟨g, 0, none⟩)) (by kernel_rfl) (by kernel_rfl) ?_
  simp only [nrm]
  refine list_val (.pointer (some ⟨g, 0, none⟩)) (by kernel_rfl) (by kernel_rfl) ?_
  simp only [nrm]
  refine list_val (.pointer (some ⟨g, 1, none⟩)) (by kernel_rfl) (by kernel_rfl) ?_
  simp only [nrm]
  have c4 := cell_of (hB.get 0 (x := ⟨g, pdv (some ⟨sg, 0, none⟩) sn sc pa pn pc l os dd, 102⟩) rfl) (i := 1) rfl
  have fz := froz_of (i := 1) (hB.get 0 (x := ⟨g, pdv (some ⟨sg, 0, none⟩) sn sc pa pn pc l os dd, 102⟩) rfl)
  have hB2 := hB.cell 0 (x := ⟨g, pdv (some ⟨sg, 0, none⟩) sn sc pa pn pc l os dd, 102⟩) rfl 1 (.slice none 0 0)
  simp only [List.set_cons_zero, List.set_cons_succ] at hB2
  replace hB2 : Bc [g, sg] w [⟨g, pdv (some ⟨sg, 0, none⟩) sn sc none 0 0 l os dd, 102⟩, ⟨sg, C2.toArray, 36⟩] _ := hB2
  clear hB
  replace hB2 := hide hB2
  dsimp only at c4 fz
  (refine wpList_step fun K hK => ?_; replace hK := hide hK; go_simp; refine unhide hK _ _ ?_; clear hK K)
  clear c4 fz
  have hB := unhide hB2
  clear hB2
  generalize World.setCell _ _ _ = v4 at *
  refine wpList_nil ?_
  have hZ : Hid (Stl g (D.live keep) sg sc l w (.returned (.tuple #[])) v4) := by
    have hl : (liv S P keep P.length).length = sn := by rw [liv_len, unhide hlsn]
    have hd1 : (D.live keep).safe = liv S P keep P.length := by
      show liv D.safe D.pend keep D.pend.length = _
      rw [unhide hS, unhide hPp]
    refine ⟨rfl, C2, ⟨?_, ?_, ?_, ?_, ?_, (unhide hP).max, ?_, (unhide hP).lf⟩, hB.chg⟩
    · rw [hd1, hl]
      show v4.heap[g]? = some (.cells (pdv (some ⟨sg, 0, none⟩) sn sc none 0 0 l D.ops D.dead) _ (0, 0))
      rw [← unhide hos, ← unhide hdd]
      exact (hB.get 0 (x := ⟨g, pdv (some ⟨sg, 0, none⟩) sn sc none 0 0 l os dd, 102⟩) rfl)
    · exact (hB.get 1 (x := ⟨sg, C2.toArray, 36⟩) rfl)
    · rw [hd1, ← e]
      exact unhide hCov
    · rw [hCl]
      exact unhide hcz
    · rw [hd1, hl]
      exact hsc
    · exact ⟨(fun r hr => by cases hr), rfl, .inl ⟨rfl, rfl⟩⟩
  replace hB := hide hB
  go_wp2_with fail
  rw [unhide hT]
  exact bodyPost_end (results_none Tryz.results52 _ _ _) rfl (unhide hZ)
set_option maxHeartbeats 4000000 in
theorem settle_s (g : Nat) (D : Dk) (sg sc : Nat) (C : List Value) (pa : Option Addr) (pc : Nat) (l : Int) (keep : List Bool) (m : Nat) (hD : D.Ok m) (hm : m ≤ 1000001) (w : World) (hP : Pd g D w sg sc C pa pc l) (hC : ∀ (v : World), Chg [g, sg] [g, sg] w v → ∀ j : Nat, j < D.pend.length → Calls Tryz.prog 98 #[.int .i64 (j : Int)] v (Vl (.bool (keep.getD j false)) v)) : Calls Tryz.prog 52 #[P0 g, .func (.func 98) #[] #[]] w (Stl g (D.live keep) sg sc l w) := by
  obtain ⟨T, hT⟩ : ∃ T, T = Stl g (D.live keep) sg sc l w := ⟨_, rfl⟩
  rw [← hT]
  replace hT := hide hT
  obtain ⟨S, hS⟩ : ∃ x, x = D.safe := ⟨_, rfl⟩
  obtain ⟨P, hPp⟩ : ∃ x, x = D.pend := ⟨_, rfl⟩
  obtain ⟨dd, hdd⟩ : ∃ x, x = D.dead := ⟨_, rfl⟩
  obtain ⟨sn, hsn⟩ : ∃ n, n = D.safe.length := ⟨_, rfl⟩
  obtain ⟨pn, hpn⟩ : ∃ n, n = D.pend.length := ⟨_, rfl⟩
  obtain ⟨os, hos⟩ : ∃ n, n = D.ops := ⟨_, rfl⟩
  have hcl := hP.cel
  rw [← hdd, ← hsn, ← hpn, ← hos] at hcl
  replace hdd := hide hdd; replace hsn := hide hsn; replace hpn := hide hpn; replace hos := hide hos; replace hcl := hide hcl; replace hP := hide hP
  have hpm : pn ≤ 1000001 := by rw [unhide hpn]; exact Nat.le_trans hD.num hm
  have hs512 : sn ≤ 512 := by rw [unhide hsn]; exact hD.hi1
  have hB := (unhide hP).two (F := [g, sg]) (by simp) (by simp)
  rw [← unhide hdd, ← unhide hsn, ← unhide hpn, ← unhide hos] at hB
  have hCl := (unhide hP).len
  have hsc : sn ≤ sc := by rw [unhide hsn]; exact (unhide hP).cap
  have hCov : Cov C (S.map bv).flatten := by rw [hS]; exact (unhide hP).cov
  have hlsn : Hid (S.length = sn) := by show S.length = sn; rw [hS, unhide hsn]
  have hlpn : Hid (P.length = pn) := by show P.length = pn; rw [hPp, unhide hpn]
  have hDS : Hid (∀ b ∈ S, BB b) := by show ∀ b ∈ S, BB b; rw [hS]; exact hD.blk
  have hDP : Hid (∀ x ∈ P, x.1 < S.length ∧ BB x.2) := by show ∀ x ∈ P, x.1 < S.length ∧ BB x.2; rw [hS, hPp]; exact hD.pnd
  have hls : Hid (Ls 65 w pa pn pc (P.map wv)) := by show Ls 65 w pa pn pc (P.map wv); rw [hPp, unhide hpn]; exact (unhide hP).pls
  have hpf : Hid (∀ i, blkOf pa = some i → i ∉ [g, sg]) := fun i hi => by have := (unhide hP).pg_ne hi; simp [this.1, this.2]
  rw [← unhide hpn] at hC
  replace hD := hide hD; replace hB := hide hB; replace hC := hide hC; replace hS := hide hS; replace hPp := hide hPp
  go_enter Tryz.func52, Tryz.ntmps52
  go_upto_region 0 with fail
  replace hB := unhide hB
  refine wp_region_lit ?_
  refine list_val (.pointer (some ⟨g, 0, none⟩)) (by kernel_rfl) (by kernel_rfl) ?_
  simp only [nrm]
  refine list_val (.pointer (some ⟨g, 0, none⟩)) (by kernel_rfl) (by kernel_rfl) ?_
  simp only [nrm]
  refine list_val (.pointer (some ⟨g, 1, none⟩)) (by kernel_rfl) (by kernel_rfl) ?_
  simp only [nrm]
  refine list_val (.slice pa pn pc) (by kernel_rfl) (exec_spw _ (.tmp 8) rfl g 1 (by kernel_rfl) pa pn pc (cell_of (hB.get 0 (x := ⟨g, pdv (some ⟨sg, 0, none⟩) sn sc pa pn pc l os dd, 102⟩) rfl) (i := 1) rfl)) ?_
  simp only [nrm]
  refine list_val (.int .i64 pn) (by kernel_rfl) (by kernel_rfl) ?_
  simp only [nrm]
  refine list_val (.int .i64 0) (by kernel_rfl) (by kernel_rfl) ?_
  simp only [nrm]
  refine wpList_nil ?_
  have hscx : sn * 64 ≤ sc * 64 := Nat.mul_le_mul_right _ hsc
  obtain ⟨cz, hcz⟩ : ∃ z, z = sc * 64 := ⟨_, rfl⟩
  rw [← hcz] at hCl hscx
  replace hcz := hide hcz
  replace hCov : Hid (Cov C ((liv S P keep 0).map bv).flatten) := hCov
  replace hB := hide hB
  go_wp2_with fail
  go_loopw [11] (fun i wr => ∃ j : Nat, ∃ C : List Value, j ≤ pn ∧ i = .int .i64 j ∧ C.length = cz ∧ Hid (Cov C ((liv S P keep j).map bv).flatten) ∧ Hid (Bc [g, sg] w [⟨g, pdv (some ⟨sg, 0, none⟩) sn sc pa pn pc l os dd, 102⟩, ⟨sg, C.toArray, 36⟩] wr)) (fun i _ => pn - (intOf i).toNat)
  case atStart => exact ⟨0, C, by omega, rfl, hCl, hCov, hB⟩
  case round =>
  clear hB hCov hCl
  obtain ⟨j, C2, hj, rfl, hCl, hCov, hB⟩ := hrel
  by_cases hjl : j < pn
  · skip
    obtain ⟨p2, o2, rfl, hrw⟩ := (unhide hls).at_ j hjl
    rw [getD_map wv P j (0, []) [] (by rw [unhide hlpn]; exact hjl)] at hrw
    have hx := unhide hDP _ (mem_of_getD (d := (0, [])) (by rw [unhide hlpn]; exact hjl))
    have hnx : Hid (liv S P keep (j + 1) = if keep.getD j false then (liv S P keep j).set (P.getD j (0, [])).1 (P.getD j (0, [])).2 else liv S P keep j) := rfl
    obtain ⟨⟨ai, ab⟩, hab⟩ : ∃ x, x = P.getD j (0, []) := ⟨_, rfl⟩
    rw [← hab] at hrw hx hnx
    have hal : ab.length = 64 := hx.2.1
    have hai : ai < sn := by rw [← unhide hlsn]; exact hx.1
    have hwl : (wv (ai, ab)).length = 65 := by rw [wv_len, hal]
    have hlb : Hid (∀ b ∈ liv S P keep j, BB b) := liv_bb (unhide hDS) (fun x hx => (unhide hDP x hx).2) keep j (by rw [unhide hlpn]; exact hj)
    have hp2 : p2 ∉ [g, sg] := unhide hpf p2 rfl
    replace hab := hide hab; replace hx := hide hx; replace hrw := hide hrw; replace hp2 := hide hp2
    have jI : (j : Int) < (pn : Int) := by omega
    go_upto_region 2 with fail
    replace hB := unhide hB
    refine wp_region_lit ?_
    refine list_val (.int .i64 j) (by kernel_rfl) (by kernel_rfl) ?_
    simp only [nrm]
    refine list_val (.pointer (some ⟨p2, o2 + 65 * j, none⟩)) (by kernel_rfl) (exec_ipw _ (.tmp 9) (.tmp 11) rfl p2 o2 pn pc j rfl rfl hjl) ?_
    simp only [nrm]
    refine list_val (.agg ((wv (ai, ab)).toArray)) (by kernel_rfl) (exec_row _ 119 (.tmp 14) rfl p2 (o2 + 65 * j) (by kernel_rfl) (wv (ai, ab)) _ (range_chg (unhide hrw) hB.chg (unhide hp2)) Tryz.underlying119 rfl (by rw [Tryz.infoPW, hwl])) ?_
    simp only [nrm]
    refine list_valw (.pointer (some ⟨wr.heap.size, 0, none⟩)) (wr.alloc (.cells ((wv (0, ZB)).toArray) 119 (0, 0))) (by kernel_rfl) (by kernel_rfl) ?_
    replace hB := hB.new ((wv (0, ZB)).toArray) 119
    simp only [List.nil_append, List.cons_append] at hB
    generalize World.alloc _ _ = v1 at *
    generalize wr.heap.size = g8 at *
    replace hB : Bc [g, sg] w [⟨g, pdv (some ⟨sg, 0, none⟩) sn sc (some ⟨p2, o2, none⟩) pn pc l os dd, 102⟩, ⟨sg, C2.toArray, 36⟩, ⟨g8, (wv (0, ZB)).toArray, 119⟩] v1 := hB
    simp only [nrm]
    (refine wpList_step fun K hK => ?_; replace hK := hide hK; go_simp; refine unhide hK _ _ ?_; clear hK K)
    refine list_store 119 (.tmp 5) (.tmp 15) g8 ((wv (ai, ab)).toArray) 119 ((wv (0, ZB)).toArray) (by kernel_rfl) rfl (by kernel_rfl) (by kernel_rfl) (hB.get 2 (x := ⟨g8, (wv (0, ZB)).toArray, 119⟩) rfl) (by rw [Tryz.infoPW, List.size_toArray, hwl]) ((show ((wv (0, ZB)).toArray).size = 65 from rfl).trans (by rw [List.size_toArray, hwl])) (wv_one _) ?_
    replace hB := hB.set 2 (x := ⟨g8, (wv (0, ZB)).toArray, 119⟩) rfl ((wv (ai, ab)).toArray)
    simp only [List.set_cons_zero, List.set_cons_succ] at hB
    generalize World.setRow _ _ _ = v2 at *
    replace hB : Bc [g, sg] w [⟨g, pdv (some ⟨sg, 0, none⟩) sn sc (some ⟨p2, o2, none⟩) pn pc l os dd, 102⟩, ⟨sg, C2.toArray, 36⟩, ⟨g8, (wv (ai, ab)).toArray, 119⟩] v2 := hB
    simp only [nrm]
    refine wpList_nil ?_
    replace hB := hide hB
    go_upto_region 3 with fail
    replace hB := unhide hB
    refine wp_region_lit ?_
    refine list_val (.func (.func 98) #[] #[]) (by kernel_rfl) (by kernel_rfl) ?_
    simp only [nrm]
    refine list_val (.int .i64 j) (by kernel_rfl) (by kernel_rfl) ?_
    simp only [nrm]
    refine list_call 98 #[.int .i64 (j : Int)] (by kernel_rfl) (by kernel_rfl) ((unhide hC _ hB.chg j hjl).mono ?_)
    rintro r v3 ⟨rfl, hG⟩
    refine ⟨_, rfl, ?_⟩
    replace hB := hB.more hG
    clear hG
    obtain ⟨kb_, hkb⟩ : ∃ x, x = keep.getD j false := ⟨_, rfl⟩
    rw [← hkb]
    replace hkb := hide hkb
    simp only [nrm]
    refine wpList_nil ?_
    cases kb_
    case false =>
      have hB3 : Hid (Bc [g, sg] w [⟨g, pdv (some ⟨sg, 0, none⟩) sn sc (some ⟨p2, o2, none⟩) pn pc l os dd, 102⟩, ⟨sg, C2.toArray, 36⟩] _) := Bc.left (M := [⟨g8, (wv (ai, ab)).toArray, 119⟩]) hB
      clear hB
      go_wp2_with fail
      go_roundw
      case rel => exact ⟨j + 1, C2, by omega, by go_num, hCl, (by show Cov C2 ((liv S P keep (j + 1)).map bv).flatten; rw [unhide hnx, ← unhide hkb]; exact unhide hCov), hB3⟩
      case measure => simp [intOf]; omega
    case true =>
      go_upto_region 4 with fail
      replace hB := hB
      refine anyC_start 9 (fun v => Bc [g, sg] w [⟨g, pdv (some ⟨sg, 0, none⟩) sn sc (some ⟨p2, o2, none⟩) pn pc l os dd, 102⟩, ⟨sg, C2.toArray, 36⟩, ⟨g8, (wv (ai, ab)).toArray, 119⟩] v) (by kernel_rfl) ?_
      replace hB := hB.drew
      generalize World.drew _ = x0 at *
      simp only [List.size_toArray, List.length_cons, List.length_nil, Array.replicate, List.replicate]
      refine anyC_take (i := 0) (v := (.pointer (some ⟨g, 0, none⟩))) (fun v => Bc [g, sg] w [⟨g, pdv (some ⟨sg, 0, none⟩) sn sc (some ⟨p2, o2, none⟩) pn pc l os dd, 102⟩, ⟨sg, C2.toArray, 36⟩, ⟨g8, (wv (ai, ab)).toArray, 119⟩] v) (fun _ h_ => h_) (.inr (by kernel_rfl)) rfl (by kernel_rfl) (by kernel_rfl) (by kernel_rfl) (by decide) (by kernel_rfl) (by decide) (fun _ _ _ h => h) (.inl ⟨by kernel_rfl, fun x_ hu => by kernel_rfl⟩) hB ?_
      simp only [nrm]
      refine anyC_take (i := 1) (v := (.pointer (some ⟨g, 0, none⟩))) (fun v => Bc [g, sg] w [⟨g, pdv (some ⟨sg, 0, none⟩) sn sc (some ⟨p2, o2, none⟩) pn pc l os dd, 102⟩, ⟨sg, C2.toArray, 36⟩, ⟨g8, (wv (ai, ab)).toArray, 119⟩] v) (fun _ h_ => h_) (.inr (by kernel_rfl)) rfl (by kernel_rfl) (by kernel_rfl) (by kernel_rfl) (by decide) (by kernel_rfl) (by decide) (fun _ _ _ h => h) (.inl ⟨by kernel_rfl, fun x_ hu => by kernel_rfl⟩) hB ?_
      simp only [nrm]
      refine anyC_take (i := 2) (v := (.pointer (some ⟨g, 0, none⟩))) (fun v => Bc [g, sg] w [⟨g, pdv (some ⟨sg, 0, none⟩) sn sc (some ⟨p2, o2, none⟩) pn pc l os dd, 102⟩, ⟨sg, C2.toArray, 36⟩, ⟨g8, (wv (ai, ab)).toArray, 119⟩] v) (fun _ h_ => h_) (.inr (by kernel_rfl)) rfl (by kernel_rfl) (by kernel_rfl) (by kernel_rfl) (by decide) (by kernel_rfl) (by decide) (fun _ _ _ h => h) (.inl ⟨by kernel_rfl, fun x_ hu => by kernel_rfl⟩) hB ?_
      simp only [nrm]
      refine anyC_take (i := 3) (v := (.slice (some ⟨sg, 0, none⟩) sn sc)) (fun v => Bc [g, sg] w [⟨g, pdv (some ⟨sg, 0, none⟩) sn sc (some ⟨p2, o2, none⟩) pn pc l os dd, 102⟩, ⟨sg, C2.toArray, 36⟩, ⟨g8, (wv (ai, ab)).toArray, 119⟩] v) (fun _ h_ => h_) (.inr (by kernel_rfl)) rfl (by kernel_rfl) (by kernel_rfl) (by kernel_rfl) (by decide) (by kernel_rfl) (by decide) (fun _ _ _ h => h) (.inl ⟨by kernel_rfl, fun x_ hu => exec_sb _ (.tmp 21) rfl g 0 (by kernel_rfl) (some ⟨sg, 0, none⟩) sn sc (cell_of (hu.get 0 (x := ⟨g, pdv (some ⟨sg, 0, none⟩) sn sc (some ⟨p2, o2, none⟩) pn pc l os dd, 102⟩) rfl) (i := 0) rfl)⟩) hB ?_
      simp only [nrm]
      refine anyC_take (i := 4) (v := (.pointer (some ⟨g8, 0, none⟩))) (fun v => Bc [g, sg] w [⟨g, pdv (some ⟨sg, 0, none⟩) sn sc (some ⟨p2, o2, none⟩) pn pc l os dd, 102⟩, ⟨sg, C2.toArray, 36⟩, ⟨g8, (wv (ai, ab)).toArray, 119⟩] v) (fun _ h_ => h_) (.inr (by kernel_rfl)) rfl (by kernel_rfl) (by kernel_rfl) (by kernel_rfl) (by decide) (by kernel_rfl) (by decide) (fun _ _ _ h => h) (.inl ⟨by kernel_rfl, fun x_ hu => by kernel_rfl⟩) hB ?_
      simp only [nrm]
      refine anyC_take (i := 5) (v := (.int .i64 (ai : Int))) (fun v => Bc [g, sg] w [⟨g, pdv (some ⟨sg, 0, none⟩) sn sc (some ⟨p2, o2, none⟩) pn pc l os dd, 102⟩, ⟨sg, C2.toArray, 36⟩, ⟨g8, (wv (ai, ab)).toArray, 119⟩] v) (fun _ h_ => h_) (.inr (by kernel_rfl)) rfl (by kernel_rfl) (by kernel_rfl) (by kernel_rfl) (by decide) (by kernel_rfl) (by decide) (fun _ _ _ h => h) (.inl ⟨by kernel_rfl, fun x_ hu => exec_i64 _ (.tmp 23) rfl g8 0 (by kernel_rfl) _ (cell_of (hu.get 2 (x := ⟨g8, (wv (ai, ab)).toArray, 119⟩) rfl) (i := 0) rfl)⟩) hB ?_
      simp only [nrm]
      refine anyC_take (i := 6) (v := (.pointer (some ⟨g8, 1, none⟩))) (fun v => Bc [g, sg] w [⟨g, pdv (some ⟨sg, 0, none⟩) sn sc (some ⟨p2, o2, none⟩) pn pc l os dd, 102⟩, ⟨sg, C2.toArray, 36⟩, ⟨g8, (wv (ai, ab)).toArray, 119⟩] v) (fun _ h_ => h_) (.inr (by kernel_rfl)) rfl (by kernel_rfl) (by kernel_rfl) (by kernel_rfl) (by decide) (by kernel_rfl) (by decide) (fun _ _ _ h => h) (.inl ⟨by kernel_rfl, fun x_ hu => by kernel_rfl⟩) hB ?_
      simp only [nrm]
      refine anyC_take (i := 7) (v := (.agg (kc ab))) (fun v => Bc [g, sg] w [⟨g, pdv (some ⟨sg, 0, none⟩) sn sc (some ⟨p2, o2, none⟩) pn pc l os dd, 102⟩, ⟨sg, C2.toArray, 36⟩, ⟨g8, (wv (ai, ab)).toArray, 119⟩] v) (fun _ h_ => h_) (.inr (by kernel_rfl)) rfl (by kernel_rfl) (by kernel_rfl) (by kernel_rfl) (by decide) (by kernel_rfl) (by decide) (fun _ _ _ h => h) (.inl ⟨by kernel_rfl, fun x_ hu => exec_row _ 36 (.tmp 25) rfl g8 1 (by kernel_rfl) (bv ab) _ (fun q_ v_ hq => cell_of (hu.get 2 (x := ⟨g8, (wv (ai, ab)).toArray, 119⟩) rfl) (by unfold wv; rw [List.getElem?_toArray, Nat.add_comm, List.getElem?_cons_succ]; exact hq)) Tryz.underlying36 rfl (by rw [Tryz.infoB, bv_len, hal])⟩) hB ?_
      simp only [nrm]
      refine anyC_take (i := 8) (v := (.pointer (some ⟨sg, 0 + 64 * ai, none⟩))) (fun v => Bc [g, sg] w [⟨g, pdv (some ⟨sg, 0, none⟩) sn sc (some ⟨p2, o2, none⟩) pn pc l os dd, 102⟩, ⟨sg, C2.toArray, 36⟩, ⟨g8, (wv (ai, ab)).toArray, 119⟩] v) (fun _ h_ => h_) (.inr (by kernel_rfl)) rfl (by kernel_rfl) (by kernel_rfl) (by kernel_rfl) (by decide) (by kernel_rfl) (by decide) (fun _ _ _ h => h) (.inl ⟨by kernel_rfl, fun x_ hu => exec_ib _ (.tmp 22) (.tmp 24) rfl sg 0 sn sc ai rfl rfl hai⟩) hB ?_
      simp only [nrm]
      refine anyC_last (by kernel_rfl) rfl (fun K_ hQ => ?_)
      have hli : ai < (liv S P keep j).length := by rw [liv_len, unhide hlsn]; exact hai
      have hC3 : Hid (Cov (sp C2 (64 * ai) (bv ab)) ((liv S P keep (j + 1)).map bv).flatten) := by
        show Cov _ ((liv S P keep (j + 1)).map bv).flatten
        rw [unhide hnx, ← unhide hkb]
        have h := cov_set 64 (by omega) C2 ((liv S P keep j).map bv) (bv_rows (unhide hlb)) ai (by rw [List.length_map]; exact hli) (bv ab) (by rw [bv_len, hal]) (by rw [List.length_map, liv_len, unhide hlsn, hCl]; exact hscx) (unhide hCov)
        rw [← List.map_set] at h
        exact h
      have hgC := (hB.get 1 (x := ⟨sg, C2.toArray, 36⟩) rfl)
      dsimp only at hgC
      refine list_store_mid 36 (.tmp 27) (.tmp 26) sg (0 + 64 * ai) (kc ab) (by kernel_rfl) rfl (by kernel_rfl) (by kernel_rfl) (there_of hgC (by rw [kc_size, hal, hCl, Nat.zero_add]; omega)) (by rw [Tryz.infoB, kc_size, hal]) (kc_one _) ?_
      refine hQ.out _ _ ?_
      clear hQ K_
      have hbs := setCells_bt ((kc ab).toList) x0 sg (0 + 64 * ai)
      have hcl2 := setCells_heap ((kc ab).toList) x0 sg (0 + 64 * ai) C2 36 hgC
      have e9 : (kc ab).toList = bv ab := by unfold kc bv; simp
      rw [e9, Nat.zero_add] at hcl2 hbs
      rw [e9, Nat.zero_add]
      have hB4 := hB.but hbs 1 (x := ⟨sg, C2.toArray, 36⟩) rfl rfl hcl2
      simp only [List.set_cons_zero, List.set_cons_succ] at hB4
      clear hB hcl2 hbs hgC e9
      generalize World.setCells _ _ _ _ = v9 at *
      have hB := hB4
      clear hB4
      simp only [nrm]
      refine any_done (by kernel_rfl) ?_
      have hB3 : Hid (Bc [g, sg] w [⟨g, pdv (some ⟨sg, 0, none⟩) sn sc (some ⟨p2, o2, none⟩) pn pc l os dd, 102⟩, ⟨sg, (sp C2 (64 * ai) (bv ab)).toArray, 36⟩] _) := Bc.left (M := [⟨g8, (wv (ai, ab)).toArray, 119⟩]) hB
      clear hB
      go_wp2_with fail
      go_roundw
      case rel => exact ⟨j + 1, (sp C2 (64 * ai) (bv ab)), by omega, by go_num, by rw [sp_length]; exact hCl, hC3, hB3⟩
      case measure => simp [intOf]; omega
  have jI : ¬ (j : Int) < (pn : Int) := by omega
  have e : j = P.length := by rw [unhide hlpn]; omega
  go_upto_region 6 with fail
  replace hB := unhide hB
  refine wp_region_lit ?_
  refine list_val (.pointer (some ⟨g, 0, none⟩)) (by kernel_rfl) (by kernel_rfl) ?_
  simp only [nrm]
  refine list_val (.pointer (some ⟨g, 0, none⟩)) (by kernel_rfl) (by kernel_rfl) ?_
  simp only [nrm]
  refine list_val (.pointer (some ⟨g, 1, none⟩)) (by kernel_rfl) (by kernel_rfl) ?_
  simp only [nrm]
  have c4 := cell_of (hB.get 0 (x := ⟨g, pdv (some ⟨sg, 0, none⟩) sn sc pa pn pc l os dd, 102⟩) rfl) (i := 1) rfl
  have fz := froz_of (i := 1) (hB.get 0 (x := ⟨g, pdv (some ⟨sg, 0, none⟩) sn sc pa pn pc l os dd, 102⟩) rfl)
  have hB2 := hB.cell 0 (x := ⟨g, pdv (some ⟨sg, 0, none⟩) sn sc pa pn pc l os dd, 102⟩) rfl 1 (.slice none 0 0)
  simp only [List.set_cons_zero, List.set_cons_succ] at hB2
  replace hB2 : Bc [g, sg] w [⟨g, pdv (some ⟨sg, 0, none⟩) sn sc none 0 0 l os dd, 102⟩, ⟨sg, C2.toArray, 36⟩] _ := hB2
  clear hB
  replace hB2 := hide hB2
  dsimp only at c4 fz
  (refine wpList_step fun K hK => ?_; replace hK := hide hK; go_simp; refine unhide hK _ _ ?_; clear hK K)
  clear c4 fz
  have hB := unhide hB2
  clear hB2
  generalize World.setCell _ _ _ = v4 at *
  refine wpList_nil ?_
  have hZ : Hid (Stl g (D.live keep) sg sc l w (.returned (.tuple #[])) v4) := by
    have hl : (liv S P keep P.length).length = sn := by rw [liv_len, unhide hlsn]
    have hd1 : (D.live keep).safe = liv S P keep P.length := by
      show liv D.safe D.pend keep D.pend.length = _
      rw [unhide hS, unhide hPp]
    refine ⟨rfl, C2, ⟨?_, ?_, ?_, ?_, ?_, (unhide hP).max, ?_, (unhide hP).lf⟩, hB.chg⟩
    · rw [hd1, hl]
      show v4.heap[g]? = some (.cells (pdv (some ⟨sg, 0, none⟩) sn sc none 0 0 l D.ops D.dead) _ (0, 0))
      rw [← unhide hos, ← unhide hdd]
      exact (hB.get 0 (x := ⟨g, pdv (some ⟨sg, 0, none⟩) sn sc none 0 0 l os dd, 102⟩) rfl)
    · exact (hB.get 1 (x := ⟨sg, C2.toArray, 36⟩) rfl)
    · rw [hd1, ← e]
      exact unhide hCov
    · rw [hCl]
      exact unhide hcz
    · rw [hd1, hl]
      exact hsc
    · exact ⟨(fun r hr => by cases hr), rfl, .inl ⟨rfl, rfl⟩⟩
  replace hB := hide hB
  go_wp2_with fail
  rw [unhide hT]
  exact bodyPost_end (results_none Tryz.results52 _ _ _) rfl (unhide hZ)
set_option maxHeartbeats 4000000 in
theorem crash1_ok (j kb kn kp : Nat) (ka : Option Addr) (keep : List Bool) (w : World) (hj : j < 9223372036854775808) (hkb : w.heap[kb]? = some (.cells #[.slice ka kn kp] 49 (0, 0))) (hK : Kp w ka kn kp keep) : Calls Tryz.prog 53 #[.int .i64 (j : Int), .pointer (some ⟨kb, 0, none⟩)] w (Vl (.bool (keep.getD j false)) w) := by
  obtain ⟨T, hT⟩ : ∃ T, T = Vl (.bool (keep.getD j false)) w := ⟨_, rfl⟩
  rw [← hT]
  replace hT := hide hT
  replace hK := hide hK; replace hkb := hide hkb
  go_enter Tryz.func53, Tryz.ntmps53
  go_upto_region 1 with fail
  by_cases hjk : j < kn
  · skip
    have kI : (j : Int) < (kn : Int) := by omega
    obtain ⟨p3, o3, rfl, hkc⟩ := (unhide hK).at_ j hjk
    obtain ⟨b, hb⟩ : ∃ x, x = keep.getD j false := ⟨_, rfl⟩
    rw [← hb] at hkc
    replace hkc := hide hkc; replace hb := hide hb
    refine wp_region_lit ?_
    refine list_val (.int .i64 j) (by kernel_rfl) (by kernel_rfl) ?_
    simp only [nrm]
    refine list_val (.slice (some ⟨p3, o3, none⟩) kn kp) (by kernel_rfl) (exec_sk _ (.tmp 1) rfl kb 0 (by kernel_rfl) (some ⟨p3, o3, none⟩) kn kp (cell_of (unhide hkb) (i := 0) rfl)) ?_
    simp only [nrm]
    refine list_val (.int .i64 kn) (by kernel_rfl) (by kernel_rfl) ?_
    simp only [nrm]
    refine list_val (.bool true) (by kernel_rfl) (by go_simp) ?_
    simp only [nrm]
    refine list_val (.bool true) (by kernel_rfl) (by kernel_rfl) ?_
    simp only [nrm]
    refine list_val (.slice (some ⟨p3, o3, none⟩) kn kp) (by kernel_rfl) (exec_sk _ (.tmp 1) rfl kb 0 (by kernel_rfl) (some ⟨p3, o3, none⟩) kn kp (cell_of (unhide hkb) (i := 0) rfl)) ?_
    simp only [nrm]
    refine list_val (.int .i64 j) (by kernel_rfl) (by kernel_rfl) ?_
    simp only [nrm]
    refine list_val (.pointer (some ⟨p3, o3 + j, none⟩)) (by kernel_rfl) (exec_ik _ (.tmp 9) (.tmp 10) rfl p3 o3 kn kp j rfl rfl hjk) ?_
    simp only [nrm]
    refine list_val (.bool b) (by kernel_rfl) (exec_bool _ (.tmp 11) rfl p3 (o3 + j) (by kernel_rfl) b (unhide hkc)) ?_
    simp only [nrm]
    refine list_val (.bool b) (by kernel_rfl) (by kernel_rfl) ?_
    simp only [nrm]
    (refine wpList_step fun K hK => ?_; replace hK := hide hK; go_simp; refine unhide hK _ _ ?_; clear hK K)
    refine wpList_nil ?_
    have hZ : Hid (Vl (.bool (keep.getD j false)) w (.returned (.bool b)) w) := ⟨by rw [unhide hb], Gr.refl w⟩
    go_wp2_with fail
    rw [unhide hT]
    exact unhide hZ
  have kI : ¬ (j : Int) < (kn : Int) := by omega
  have hkf : keep.getD j false = false := by
    rw [List.getD_eq_getElem?_getD, List.getElem?_eq_none (by rw [(unhide hK).len]; omega)]
    rfl
  replace hkf := hide hkf
  refine wp_region_lit ?_
  refine list_val (.int .i64 j) (by kernel_rfl) (by kernel_rfl) ?_
  simp only [nrm]
  refine list_val (.slice ka kn kp) (by kernel_rfl) (exec_sk _ (.tmp 1) rfl kb 0 (by kernel_rfl) ka kn kp (cell_of (unhide hkb) (i := 0) rfl)) ?_
  simp only [nrm]
  refine list_val (.int .i64 kn) (by kernel_rfl) (by kernel_rfl) ?_
  simp only [nrm]
  refine list_val (.bool false) (by kernel_rfl) (by go_simp) ?_
  simp only [nrm]
  refine list_val (.bool false) (by kernel_rfl) (by kernel_rfl) ?_
  simp only [nrm]
  refine wpList_step fun K hK => ?_
  rw [if_neg (ne_true_of_eq_false (by kernel_rfl))]
  refine hK _ _ ?_
  clear hK K
  simp only [nrm]
  refine wpList_step fun K hK => ?_
  rw [if_neg (ne_true_of_eq_false (by kernel_rfl))]
  refine hK _ _ ?_
  clear hK K
  simp only [nrm]
  refine wpList_step fun K hK => ?_
  rw [if_neg (ne_true_of_eq_false (by kernel_rfl))]
  refine hK _ _ ?_
  clear hK K
  simp only [nrm]
  refine wpList_step fun K hK => ?_
  rw [if_neg (ne_true_of_eq_false (by kernel_rfl))]
  refine hK _ _ ?_
  clear hK K
  simp only [nrm]
  refine list_val (.bool false) (by kernel_rfl) (by kernel_rfl) ?_
  simp only [nrm]
  (refine wpList_step fun K hK => ?_; replace hK := hide hK; go_simp; refine unhide hK _ _ ?_; clear hK K)
  refine wpList_nil ?_
  have hZ : Hid (Vl (.bool (keep.getD j false)) w (.returned (.bool false)) w) := ⟨by rw [unhide hkf], Gr.refl w⟩
  go_wp2_with fail
  rw [unhide hT]
  exact unhide hZ
theorem sync11_ok (j : Nat) (w : World) : Calls Tryz.prog 98 #[.int .i64 (j : Int)] w (Vl (.bool true) w) := by
  obtain ⟨T, hT⟩ : ∃ T, T = Vl (.bool true) w := ⟨_, rfl⟩
  rw [← hT]
  replace hT := hide hT
  go_enter Tryz.func98, Tryz.ntmps98
  go_wp2_with fail
  rw [unhide hT]
  exact ⟨rfl, Gr.refl w⟩
set_option maxHeartbeats 4000000 in
theorem dcrash_p (g : Nat) (D : Dk) (sg sc : Nat) (C : List Value) (pa : Option Addr) (pc : Nat) (l : Int) (keep : List Bool) (ka : Option Addr) (kn kp : Nat) (m : Nat) (hD : D.Ok m) (hm : m ≤ 1000000) (w : World) (hP : Pd g D w sg sc C pa pc l) (hK : Kp w ka kn kp keep) (hn : keep = [] ∨ ∀ i ∈ pdF g sg pa, blkOf ka ≠ some i) : Calls Tryz.prog 22 #[P0 g, .slice ka kn kp] w (Ch (pdF g sg pa) g (D.crashD keep) 0 w) := by
  obtain ⟨T, hT⟩ : ∃ T, T = Ch (pdF g sg pa) g (D.crashD keep) 0 w := ⟨_, rfl⟩
  rw [← hT]
  replace hT := hide hT
  have hgl := hP.lt g (mem_pdF.2 (.inl rfl))
  have hsl := hP.lt sg (mem_pdF.2 (.inr (.inl rfl)))
  replace hP := hide hP; replace hK := hide hK; replace hn := hide hn; replace hD := hide hD
  go_enter Tryz.func22, Tryz.ntmps22
  go_upto_region 1 with fail
  have hB := ((Bl.nil w).new #[.slice ka kn kp] 49)
  simp only [size_alloc, List.nil_append, List.cons_append] at hB
  generalize World.alloc _ _ = u at *
  replace hB : Bl w [⟨w.heap.size, #[.slice ka kn kp], 49⟩] u := hB
  refine wp_region_lit ?_
  refine list_val (.pointer (some ⟨g, 0, none⟩)) (by kernel_rfl) (by kernel_rfl) ?_
  simp only [nrm]
  refine list_val (.bool false) (by kernel_rfl) (by kernel_rfl) ?_
  simp only [nrm]
  refine wpList_nil ?_
  replace hB := hide hB
  go_upto_region 3 with fail
  replace hB := unhide hB
  refine wp_region_lit ?_
  refine list_val (.pointer (some ⟨g, 0, none⟩)) (by kernel_rfl) (by kernel_rfl) ?_
  simp only [nrm]
  refine list_val (.func (.func 53) #[] #[.pointer (some ⟨w.heap.size, 0, none⟩)]) (by kernel_rfl) (by kernel_rfl) ?_
  simp only [nrm]
  refine list_call 52 #[P0 g, .func (.func 53) #[] #[.pointer (some ⟨w.heap.size, 0, none⟩)]] (by kernel_rfl) (by kernel_rfl) ((settle_c g D sg sc C pa pc l keep w.heap.size m (unhide hD) (by omega) u ((unhide hP).gr hB.gr) (fun v hv j hj => crash1_ok j w.heap.size kn kp ka keep v (by have := (unhide hD).num; omega) (hv.blk (hB.get 0 (x := ⟨w.heap.size, #[.slice ka kn kp], 49⟩) rfl) (by simp; omega)) (((unhide hK).gr hB.gr).chg2 hv ((unhide hn).imp id (fun hn i hi => hn i (mem_pdF.2 (by simp at hi; rcases hi with hi | hi; exact .inl hi; exact .inr (.inl hi)))))))).mono ?_)
  rintro r v1 ⟨rfl, C2, hP2, hch⟩
  refine ⟨_, rfl, ?_⟩
  replace hch := hide (hB.gr.chg hch)
  simp only [nrm]
  refine wpList_nil ?_
  clear hB
  have hl2 := hP2.lf
  obtain ⟨os, hos⟩ : ∃ x, x = (D.live keep).ops := ⟨_, rfl⟩
  obtain ⟨sn, hsn⟩ : ∃ x, x = (D.live keep).safe.length := ⟨_, rfl⟩
  obtain ⟨dd, hdd⟩ : ∃ x, x = (D.live keep).dead := ⟨_, rfl⟩
  have hB := (Bc.nil [g] v1).add ⟨g, pdv (some ⟨sg, 0, none⟩) (D.live keep).safe.length sc none (D.live keep).pend.length 0 l (D.live keep).ops (D.live keep).dead, 102⟩ hP2.cel (.inl (by simp)) (fun y hy => by cases hy)
  rw [← hos, ← hsn, ← hdd] at hB
  replace hos := hide hos; replace hsn := hide hsn; replace hdd := hide hdd; replace hP2 := hide hP2
  replace hB : Bc [g] v1 [⟨g, pdv (some ⟨sg, 0, none⟩) sn sc none 0 0 l os dd, 102⟩] v1 := hB
  replace hB := hide hB
  go_upto_region 4 with fail
  replace hB := unhide hB
  refine wp_region_lit ?_
  refine list_val (.pointer (some ⟨g, 0, none⟩)) (by kernel_rfl) (by kernel_rfl) ?_
  simp only [nrm]
  refine list_val (.pointer (some ⟨g, 0, none⟩)) (by kernel_rfl) (by kernel_rfl) ?_
  simp only [nrm]
  refine list_val (.pointer (some ⟨g, 0, none⟩)) (by kernel_rfl) (by kernel_rfl) ?_
  simp only [nrm]
  refine list_val (.pointer (some ⟨g, 2, none⟩)) (by kernel_rfl) (by kernel_rfl) ?_
  simp only [nrm]
  have c4 := cell_of (hB.get 0 (x := ⟨g, pdv (some ⟨sg, 0, none⟩) sn sc none 0 0 l os dd, 102⟩) rfl) (i := 2) rfl
  have fz := froz_of (i := 2) (hB.get 0 (x := ⟨g, pdv (some ⟨sg, 0, none⟩) sn sc none 0 0 l os dd, 102⟩) rfl)
  have hB2 := hB.cell 0 (x := ⟨g, pdv (some ⟨sg, 0, none⟩) sn sc none 0 0 l os dd, 102⟩) rfl 2 (.int .i64 (-1))
  simp only [List.set_cons_zero, List.set_cons_succ] at hB2
  replace hB2 : Bc [g] v1 [⟨g, pdv (some ⟨sg, 0, none⟩) sn sc none 0 0 (-1) os dd, 102⟩] _ := hB2
  clear hB
  replace hB2 := hide hB2
  dsimp only at c4 fz
  (refine wpList_step fun K hK => ?_; replace hK := hide hK; go_simp; refine unhide hK _ _ ?_; clear hK K)
  clear c4 fz
  have hB := unhide hB2
  clear hB2
  generalize World.setCell _ _ _ = v2 at *
  refine list_val (.pointer (some ⟨g, 0, none⟩)) (by kernel_rfl) (by kernel_rfl) ?_
  simp only [nrm]
  refine list_val (.pointer (some ⟨g, 4, none⟩)) (by kernel_rfl) (by kernel_rfl) ?_
  simp only [nrm]
  have c4 := cell_of (hB.get 0 (x := ⟨g, pdv (some ⟨sg, 0, none⟩) sn sc none 0 0 (-1) os dd, 102⟩) rfl) (i := 4) rfl
  have fz := froz_of (i := 4) (hB.get 0 (x := ⟨g, pdv (some ⟨sg, 0, none⟩) sn sc none 0 0 (-1) os dd, 102⟩) rfl)
  have hB2 := hB.cell 0 (x := ⟨g, pdv (some ⟨sg, 0, none⟩) sn sc none 0 0 (-1) os dd, 102⟩) rfl 4 (.bool false)
  simp only [List.set_cons_zero, List.set_cons_succ] at hB2
  replace hB2 : Bc [g] v1 [⟨g, pdv (some ⟨sg, 0, none⟩) sn sc none 0 0 (-1) os false, 102⟩] _ := hB2
  clear hB
  replace hB2 := hide hB2
  dsimp only at c4 fz
  (refine wpList_step fun K hK => ?_; replace hK := hide hK; go_simp; refine unhide hK _ _ ?_; clear hK K)
  clear c4 fz
  have hB := unhide hB2
  clear hB2
  generalize World.setCell _ _ _ = v3 at *
  refine wpList_nil ?_
  have hZ : Hid (Ch (pdF g sg pa) g (D.crashD keep) 0 w (.returned (.int .i64 0)) v3) := by
    have h2 := unhide hP2
    have hk : ∀ i, i ∈ pdF g sg none → i ≠ g → v3.heap[i]? = v1.heap[i]? := fun i hi hne => hB.chg.block i (h2.lt i hi) (by simp [hne])
    refine ⟨pdF g sg none, rfl, ⟨sg, sc, C2, none, 0, -1, ⟨?_, ?_, h2.cov, h2.len, h2.cap, h2.max, ⟨(fun r hr => by cases hr), rfl, .inl ⟨rfl, rfl⟩⟩, Lf.refl _ (by show (-9223372036854775808 : Int) ≤ -1; omega)⟩, rfl⟩, ?_⟩
    · show v3.heap[g]? = some (.cells (pdv (some ⟨sg, 0, none⟩) (D.live keep).safe.length sc none 0 0 (-1) (D.live keep).ops false) _ (0, 0))
      rw [← unhide hsn, ← unhide hos]
      exact (hB.get 0 (x := ⟨g, pdv (some ⟨sg, 0, none⟩) sn sc none 0 0 (-1) os false, 102⟩) rfl)
    · rw [hk sg (mem_pdF.2 (.inr (.inl rfl))) h2.sg_ne.symm]
      exact h2.saf
    · have hw : Chg [g, sg] [g, sg] w v3 := (unhide hch).trans (hB.chg.wide (fun i hi => by simp at hi; simp [hi]) (fun i hi => .inl hi))
      refine hw.wide (fun i hi => mem_pdF.2 (by simp at hi; rcases hi with hi | hi; exact .inl hi; exact .inr (.inl hi))) (fun i hi => .inl (mem_pdF.2 ?_))
      rcases mem_pdF.1 hi with hi | hi | hi
      · exact .inl hi
      · exact .inr (.inl hi)
      · cases hi
  replace hB := hide hB
  go_wp2_with fail
  rw [unhide hT]
  exact unhide hZ
theorem dcrash_ok2 (F : List Nat) (g m : Nat) (D : Dk) (hD : D.Ok m) (hm : m ≤ 1000000) (keep : List Bool) (ka : Option Addr) (kn kp : Nat) (w : World) (h : Lies F g D w) (hK : Kp w ka kn kp keep) (hn : keep = [] ∨ ∀ i ∈ F, blkOf ka ≠ some i) : Calls Tryz.prog 22 #[P0 g, .slice ka kn kp] w (Ch F g (D.crashD keep) 0 w) := by
  obtain ⟨sg, sc, C, pa, pc, l, h, rfl⟩ := h
  exact dcrash_p g D sg sc C pa pc l keep ka kn kp m hD hm w h hK hn
end Go.Proofs.YtaoiejgjdmakjaaGreatDoor
