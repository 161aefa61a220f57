/-
  Of layer 12: what the proof leans on.
-/
import Derived.Lib.SlBytesConst
import Derived.Laws.IdiomStrings
import Derived.Test.YtaoiejgjdmakjaaDoorDoesK3
namespace Go.Proofs.YtaoiejgjdmakjaaDoor
open Go.RowKit
set_option maxRecDepth 100000
set_option linter.unusedSimpArgs false
set_option linter.unusedVariables false
def Dnp (g : Nat) (D : Dk) (sg sc : Nat) (C : List Value) (pa : Option Addr) (pc : Nat) (l : Int) (Q : World → Prop) (w : World) (r : Ending) (w' : World) : Prop :=
  if D.left = 0 then r = .returned (.int .i64 7) ∧ Pd g D.doneD w' sg sc C pa pc l ∧ Chg [g] [g] w w' else r = .returned (.int .i64 0) ∧ Q w'
theorem Pd.turn {g : Nat} {D D' : Dk} {v u : World} {sg sc : Nat} {C : List Value} {pa : Option Addr} {pc : Nat} {l l' : Int} (h : Pd g D v sg sc C pa pc l) (k : Chg [g] [g] v u) (h1 : D'.safe = D.safe) (h2 : D'.pend = D.pend) (hg : u.heap[g]? = some (.cells (pdv (some ⟨sg, 0, none⟩) D.safe.length sc pa D.pend.length pc l' D'.ops D'.dead) 92 (0, 0))) (hl : Lf D'.left l') : Pd g D' u sg sc C pa pc l' := by
  have hk : ∀ i, i ∈ pdF g sg pa → i ≠ g → u.heap[i]? = v.heap[i]? := fun i hi hne => k.block i (h.lt i hi) (by simp [hne])
  refine ⟨by rw [h1, h2]; exact hg, ?_, by rw [h1]; exact h.cov, h.len, by rw [h1]; exact h.cap, h.max, by rw [h2]; exact or_keep h.pnd (fun i hi => hk i (mem_pdF.2 (.inr (.inr hi))) (h.pg_ne hi).1), hl⟩
  rw [hk sg (mem_pdF.2 (.inr (.inl rfl))) h.sg_ne.symm]
  exact h.saf
set_option maxHeartbeats 4000000 in
theorem done_w (g : Nat) (D : Dk) (sg sc : Nat) (C : List Value) (pa : Option Addr) (pc : Nat) (l : Int) (b3 b4 b5 : Nat) (Q : World → Prop) (m : Nat) (hD : D.Ok m) (hm : m ≤ 1000000) (w : World) (hP : Pd g D w sg sc C pa pc l) (hC : ∀ (v : World) (l' : Int), D.left ≠ 0 → Pd g D.doneD v sg sc C pa pc l' → Chg [g] [g] w v → Calls Tryd.prog 90 #[.pointer (some ⟨b3, 0, none⟩), .pointer (some ⟨b4, 0, none⟩), .pointer (some ⟨b5, 0, none⟩)] v (fun r w' => r = .returned (.tuple #[]) ∧ Q w')) : Calls Tryd.prog 89 #[P0 g, .func (.func 90) #[] #[.pointer (some ⟨b3, 0, none⟩), .pointer (some ⟨b4, 0, none⟩), .pointer (some ⟨b5, 0, none⟩)]] w (Dnp g D sg sc C pa pc l Q w) := by
  obtain ⟨T, hT⟩ : ∃ T, T = Dnp g D sg sc C pa pc l Q w := ⟨_, rfl⟩
  rw [← hT]
  replace hT := hide hT
  obtain ⟨dd, hdd⟩ : ∃ x, x = D.dead := ⟨_, rfl⟩
  obtain ⟨sn, hsn⟩ : ∃ n, n = D.safe.length := ⟨_, rfl⟩
  obtain ⟨pn, hpn⟩ : ∃ n, n = D.pend.length := ⟨_, rfl⟩
  obtain ⟨os, hos⟩ : ∃ n, n = D.ops := ⟨_, rfl⟩
  have hcl := hP.cel
  rw [← hdd, ← hsn, ← hpn, ← hos] at hcl
  replace hdd := hide hdd; replace hsn := hide hsn; replace hpn := hide hpn; replace hos := hide hos; replace hcl := hide hcl; replace hP := hide hP
  have hom : os ≤ 1000000 := by rw [unhide hos]; exact Nat.le_trans hD.ops hm
  have hlh : D.left < 9223372036854775808 := hD.hi
  have hll := (unhide hP).lf
  have hB := (Bc.nil [g] w).add ⟨g, pdv (some ⟨sg, 0, none⟩) D.safe.length sc pa D.pend.length pc l D.ops D.dead, 92⟩ (unhide hP).cel (.inl (by simp)) (fun y hy => by cases hy)
  rw [← unhide hdd, ← unhide hsn, ← unhide hpn, ← unhide hos] at hB
  have hcase : (D.left = 0 ∧ l = 0) ∨ (D.left < 0 ∧ l < 0) ∨ (0 < D.left ∧ 0 < l ∧ l = D.left) := by
    obtain ⟨h1, h2⟩ := hll
    by_cases h : D.left < 0
    · exact .inr (.inl ⟨h, (h1 h).1⟩)
    · have := h2 (by omega)
      omega
  replace hD := hide hD; replace hB := hide hB; replace hC := hide hC; replace hll := hide hll
  go_enter Tryd.func89, Tryd.ntmps89
  go_upto_region 1 with fail
  replace hB : Hid (Bc [g] w [⟨g, pdv (some ⟨sg, 0, none⟩) sn sc pa pn pc l os dd, 92⟩] w) := hB
  rcases hcase with hcase | hcase | hcase
  · skip
    obtain ⟨hd0, rfl⟩ := hcase
    replace hB := unhide hB
    refine wp_region_lit ?_
    refine list_val (.pointer (some ⟨g, 0, none⟩)) (by kernel_rfl) (by kernel_rfl) ?_
    simp only [nrm]
    refine list_val (.pointer (some ⟨g, 0, none⟩)) (by kernel_rfl) (by kernel_rfl) ?_
    simp only [nrm]
    refine list_val (.pointer (some ⟨g, 2, none⟩)) (by kernel_rfl) (by kernel_rfl) ?_
    simp only [nrm]
    refine list_val (.int .i64 0) (by kernel_rfl) (exec_i64 _ (.tmp 7) rfl g 2 (by kernel_rfl) 0 (cell_of (hB.get 0 (x := ⟨g, pdv (some ⟨sg, 0, none⟩) sn sc pa pn pc 0 os dd, 92⟩) rfl) (i := 2) rfl)) ?_
    simp only [nrm]
    refine list_val (.bool true) (by kernel_rfl) (by go_simp) ?_
    simp only [nrm]
    refine wpList_nil ?_
    replace hd0 := hide hd0
    replace hB := hide hB
    go_upto_region 2 with fail
    replace hB := unhide hB
    refine wp_region_lit ?_
    refine list_val (.pointer (some ⟨g, 0, none⟩)) (by kernel_rfl) (by kernel_rfl) ?_
    simp only [nrm]
    refine list_val (.pointer (some ⟨g, 0, none⟩)) (by kernel_rfl) (by kernel_rfl) ?_
    simp only [nrm]
    refine list_val (.pointer (some ⟨g, 4, none⟩)) (by kernel_rfl) (by kernel_rfl) ?_
    simp only [nrm]
    have c4 := cell_of (hB.get 0 (x := ⟨g, pdv (some ⟨sg, 0, none⟩) sn sc pa pn pc 0 os dd, 92⟩) rfl) (i := 4) rfl
    have fz := froz_of (i := 4) (hB.get 0 (x := ⟨g, pdv (some ⟨sg, 0, none⟩) sn sc pa pn pc 0 os dd, 92⟩) rfl)
    have hB2 := hB.cell 0 (x := ⟨g, pdv (some ⟨sg, 0, none⟩) sn sc pa pn pc 0 os dd, 92⟩) rfl 4 (.bool true)
    simp only [List.set_cons_zero, List.set_cons_succ] at hB2
    replace hB2 : Bc [g] w [⟨g, pdv (some ⟨sg, 0, none⟩) sn sc pa pn pc 0 os true, 92⟩] _ := hB2
    clear hB
    replace hB2 := hide hB2
    dsimp only at c4 fz
    (refine wpList_step fun K hK => ?_; replace hK := hide hK; go_simp; refine unhide hK _ _ ?_; clear hK K)
    clear c4 fz
    have hB := unhide hB2
    clear hB2
    generalize World.setCell _ _ _ = u1 at *
    refine wpList_nil ?_
    have hZ : Hid (Dnp g D sg sc C pa pc 0 Q w (.returned (.int .i64 7)) u1) := by
      show Dnp g D sg sc C pa pc 0 Q w _ u1
      unfold Dnp
      rw [if_pos (unhide hd0)]
      refine ⟨rfl, (unhide hP).turn hB.chg ?_ ?_ ?_ ?_, hB.chg⟩
      · unfold Dk.doneD; rw [if_pos (unhide hd0)]
      · unfold Dk.doneD; rw [if_pos (unhide hd0)]
      · have e1 : D.doneD.ops = D.ops := by unfold Dk.doneD; rw [if_pos (unhide hd0)]
        have e2 : D.doneD.dead = true := by unfold Dk.doneD; rw [if_pos (unhide hd0)]
        rw [e1, e2, ← unhide hsn, ← unhide hpn, ← unhide hos]
        exact (hB.get 0 (x := ⟨g, pdv (some ⟨sg, 0, none⟩) sn sc pa pn pc 0 os true, 92⟩) rfl)
      · have e3 : D.doneD.left = 0 := by unfold Dk.doneD; rw [if_pos (unhide hd0)]; exact unhide hd0
        rw [e3]
        exact Lf.refl _ (by omega)
    replace hB := hide hB
    go_wp2_with fail
    rw [unhide hT]
    exact unhide hZ
  · skip
    obtain ⟨hdn, hln⟩ := hcase
    have hd0 : Hid (D.left ≠ 0) := by show D.left ≠ 0; omega
    have hl0 : ¬ l = 0 := by omega
    have hl1 : ¬ 0 < l := by omega
    have hlf : Hid (Lf (if 0 < D.left then D.left - 1 else D.left) l) := by show Lf _ l; rw [if_neg (by omega)]; exact unhide hll
    obtain ⟨o2, ho2⟩ : ∃ x, x = os + 1 := ⟨_, rfl⟩
    replace ho2 := hide ho2
    replace hB := unhide hB
    refine wp_region_lit ?_
    refine list_val (.pointer (some ⟨g, 0, none⟩)) (by kernel_rfl) (by kernel_rfl) ?_
    simp only [nrm]
    refine list_val (.pointer (some ⟨g, 0, none⟩)) (by kernel_rfl) (by kernel_rfl) ?_
    simp only [nrm]
    refine list_val (.pointer (some ⟨g, 2, none⟩)) (by kernel_rfl) (by kernel_rfl) ?_
    simp only [nrm]
    refine list_val (.int .i64 l) (by kernel_rfl) (exec_i64 _ (.tmp 7) rfl g 2 (by kernel_rfl) l (cell_of (hB.get 0 (x := ⟨g, pdv (some ⟨sg, 0, none⟩) sn sc pa pn pc l os dd, 92⟩) rfl) (i := 2) rfl)) ?_
    simp only [nrm]
    refine list_val (.bool false) (by kernel_rfl) (by go_simp) ?_
    simp only [nrm]
    refine wpList_nil ?_
    replace hB := hide hB
    go_upto_region 4 with fail
    replace hB := unhide hB
    refine wp_region_lit ?_
    refine list_val (.pointer (some ⟨g, 0, none⟩)) (by kernel_rfl) (by kernel_rfl) ?_
    simp only [nrm]
    refine list_val (.pointer (some ⟨g, 0, none⟩)) (by kernel_rfl) (by kernel_rfl) ?_
    simp only [nrm]
    refine list_val (.pointer (some ⟨g, 2, none⟩)) (by kernel_rfl) (by kernel_rfl) ?_
    simp only [nrm]
    refine list_val (.int .i64 l) (by kernel_rfl) (exec_i64 _ (.tmp 15) rfl g 2 (by kernel_rfl) l (cell_of (hB.get 0 (x := ⟨g, pdv (some ⟨sg, 0, none⟩) sn sc pa pn pc l os dd, 92⟩) rfl) (i := 2) rfl)) ?_
    simp only [nrm]
    refine list_val (.bool false) (by kernel_rfl) (by go_simp) ?_
    simp only [nrm]
    refine wpList_nil ?_
    replace hB := hide hB
    go_upto_region 6 with fail
    replace hB := unhide hB
    have ho1 : (os : Int) + 1 = (o2 : Int) := by have := unhide ho2; omega
    have ho3 : IntKind.i64.wrap (o2 : Int) = (o2 : Int) := by rw [IntKind.wrap_i64]; have := unhide ho2; omega
    refine wp_region_lit ?_
    refine list_val (.pointer (some ⟨g, 0, none⟩)) (by kernel_rfl) (by kernel_rfl) ?_
    simp only [nrm]
    refine list_val (.pointer (some ⟨g, 0, none⟩)) (by kernel_rfl) (by kernel_rfl) ?_
    simp only [nrm]
    refine list_val (.pointer (some ⟨g, 3, none⟩)) (by kernel_rfl) (by kernel_rfl) ?_
    simp only [nrm]
    refine list_val (.int .i64 os) (by kernel_rfl) (exec_i64 _ (.tmp 27) rfl g 3 (by kernel_rfl) os (cell_of (hB.get 0 (x := ⟨g, pdv (some ⟨sg, 0, none⟩) sn sc pa pn pc l os dd, 92⟩) rfl) (i := 3) rfl)) ?_
    simp only [nrm]
    refine list_val (.int .i64 o2) (by kernel_rfl) (by go_simp) ?_
    simp only [nrm]
    refine list_val (.pointer (some ⟨g, 0, none⟩)) (by kernel_rfl) (by kernel_rfl) ?_
    simp only [nrm]
    refine list_val (.pointer (some ⟨g, 3, none⟩)) (by kernel_rfl) (by kernel_rfl) ?_
    simp only [nrm]
    have c4 := cell_of (hB.get 0 (x := ⟨g, pdv (some ⟨sg, 0, none⟩) sn sc pa pn pc l os dd, 92⟩) rfl) (i := 3) rfl
    have fz := froz_of (i := 3) (hB.get 0 (x := ⟨g, pdv (some ⟨sg, 0, none⟩) sn sc pa pn pc l os dd, 92⟩) rfl)
    have hB2 := hB.cell 0 (x := ⟨g, pdv (some ⟨sg, 0, none⟩) sn sc pa pn pc l os dd, 92⟩) rfl 3 (.int .i64 (o2 : Int))
    simp only [List.set_cons_zero, List.set_cons_succ] at hB2
    replace hB2 : Bc [g] w [⟨g, pdv (some ⟨sg, 0, none⟩) sn sc pa pn pc l o2 dd, 92⟩] _ := hB2
    clear hB
    replace hB2 := hide hB2
    dsimp only at c4 fz
    (refine wpList_step fun K hK => ?_; replace hK := hide hK; go_simp; refine unhide hK _ _ ?_; clear hK K)
    clear c4 fz
    have hB := unhide hB2
    clear hB2
    generalize World.setCell _ _ _ = u8 at *
    refine wpList_nil ?_
    clear ho1 ho3
    replace hB := hide hB
    go_upto_region 7 with fail
    replace hB := unhide hB
    have hP9 : Hid (Pd g D.doneD u8 sg sc C pa pc l) := by
      refine (unhide hP).turn hB.chg ?_ ?_ ?_ ?_
      · unfold Dk.doneD; rw [if_neg (unhide hd0)]
      · unfold Dk.doneD; rw [if_neg (unhide hd0)]
      · have e1 : D.doneD.ops = D.ops + 1 := by unfold Dk.doneD; rw [if_neg (unhide hd0)]
        have e2 : D.doneD.dead = D.dead := by unfold Dk.doneD; rw [if_neg (unhide hd0)]
        rw [e1, e2, ← unhide hsn, ← unhide hpn, ← unhide hos, ← unhide hdd, ← unhide ho2]
        exact (hB.get 0 (x := ⟨g, pdv (some ⟨sg, 0, none⟩) sn sc pa pn pc l o2 dd, 92⟩) rfl)
      · have e3 : D.doneD.left = if 0 < D.left then D.left - 1 else D.left := by unfold Dk.doneD; rw [if_neg (unhide hd0)]
        rw [e3]
        exact unhide hlf
    refine wp_region_lit ?_
    refine list_val (.func (.func 90) #[] #[.pointer (some ⟨b3, 0, none⟩), .pointer (some ⟨b4, 0, none⟩), .pointer (some ⟨b5, 0, none⟩)]) (by kernel_rfl) (by kernel_rfl) ?_
    simp only [nrm]
    refine list_call 90 #[.pointer (some ⟨b3, 0, none⟩), .pointer (some ⟨b4, 0, none⟩), .pointer (some ⟨b5, 0, none⟩)] (by kernel_rfl) (by kernel_rfl) ((unhide hC u8 l (unhide hd0) (unhide hP9) hB.chg).mono ?_)
    rintro r u9 ⟨rfl, hQ9⟩
    refine ⟨_, rfl, ?_⟩
    clear hB
    replace hQ9 := hide hQ9
    simp only [nrm]
    refine wpList_nil ?_
    have hZ : Hid (Dnp g D sg sc C pa pc l Q w (.returned (.int .i64 0)) u9) := by
      show Dnp g D sg sc C pa pc l Q w _ u9
      unfold Dnp
      rw [if_neg (unhide hd0)]
      exact ⟨rfl, unhide hQ9⟩
    go_wp2_with fail
    rw [unhide hT]
    exact unhide hZ
  · skip
    obtain ⟨hdn, hln, hle⟩ := hcase
    have hd0 : Hid (D.left ≠ 0) := by show D.left ≠ 0; omega
    have hl0 : ¬ l = 0 := by omega
    have hl1 : 0 < l := by omega
    obtain ⟨l2, hl2⟩ : ∃ x, x = l - 1 := ⟨_, rfl⟩
    have hw2 : IntKind.i64.wrap (l - 1) = l2 := by rw [IntKind.wrap_i64]; omega
    have hlf : Hid (Lf (if 0 < D.left then D.left - 1 else D.left) l2) := by show Lf _ l2; rw [if_pos (by omega), ← hle, hl2]; exact Lf.refl _ (by omega)
    obtain ⟨o2, ho2⟩ : ∃ x, x = os + 1 := ⟨_, rfl⟩
    replace ho2 := hide ho2; replace hl2 := hide hl2; replace hle := hide hle
    replace hB := unhide hB
    refine wp_region_lit ?_
    refine list_val (.pointer (some ⟨g, 0, none⟩)) (by kernel_rfl) (by kernel_rfl) ?_
    simp only [nrm]
    refine list_val (.pointer (some ⟨g, 0, none⟩)) (by kernel_rfl) (by kernel_rfl) ?_
    simp only [nrm]
    refine list_val (.pointer (some ⟨g, 2, none⟩)) (by kernel_rfl) (by kernel_rfl) ?_
    simp only [nrm]
    refine list_val (.int .i64 l) (by kernel_rfl) (exec_i64 _ (.tmp 7) rfl g 2 (by kernel_rfl) l (cell_of (hB.get 0 (x := ⟨g, pdv (some ⟨sg, 0, none⟩) sn sc pa pn pc l os dd, 92⟩) rfl) (i := 2) rfl)) ?_
    simp only [nrm]
    refine list_val (.bool false) (by kernel_rfl) (by go_simp) ?_
    simp only [nrm]
    refine wpList_nil ?_
    replace hB := hide hB
    go_upto_region 4 with fail
    replace hB := unhide hB
    refine wp_region_lit ?_
    refine list_val (.pointer (some ⟨g, 0, none⟩)) (by kernel_rfl) (by kernel_rfl) ?_
    simp only [nrm]
    refine list_val (.pointer (some ⟨g, 0, none⟩)) (by kernel_rfl) (by kernel_rfl) ?_
    simp only [nrm]
    refine list_val (.pointer (some ⟨g, 2, none⟩)) (by kernel_rfl) (by kernel_rfl) ?_
    simp only [nrm]
    refine list_val (.int .i64 l) (by kernel_rfl) (exec_i64 _ (.tmp 15) rfl g 2 (by kernel_rfl) l (cell_of (hB.get 0 (x := ⟨g, pdv (some ⟨sg, 0, none⟩) sn sc pa pn pc l os dd, 92⟩) rfl) (i := 2) rfl)) ?_
    simp only [nrm]
    refine list_val (.bool true) (by kernel_rfl) (by go_simp) ?_
    simp only [nrm]
    refine wpList_nil ?_
    replace hB := hide hB
    go_upto_region 5 with fail
    replace hB := unhide hB
    refine wp_region_lit ?_
    refine list_val (.pointer (some ⟨g, 0, none⟩)) (by kernel_rfl) (by kernel_rfl) ?_
    simp only [nrm]
    refine list_val (.pointer (some ⟨g, 0, none⟩)) (by kernel_rfl) (by kernel_rfl) ?_
    simp only [nrm]
    refine list_val (.pointer (some ⟨g, 2, none⟩)) (by kernel_rfl) (by kernel_rfl) ?_
    simp only [nrm]
    refine list_val (.int .i64 l) (by kernel_rfl) (exec_i64 _ (.tmp 20) rfl g 2 (by kernel_rfl) l (cell_of (hB.get 0 (x := ⟨g, pdv (some ⟨sg, 0, none⟩) sn sc pa pn pc l os dd, 92⟩) rfl) (i := 2) rfl)) ?_
    simp only [nrm]
    refine list_val (.int .i64 l2) (by kernel_rfl) (by go_simp) ?_
    simp only [nrm]
    refine list_val (.pointer (some ⟨g, 0, none⟩)) (by kernel_rfl) (by kernel_rfl) ?_
    simp only [nrm]
    refine list_val (.pointer (some ⟨g, 2, none⟩)) (by kernel_rfl) (by kernel_rfl) ?_
    simp only [nrm]
    have c4 := cell_of (hB.get 0 (x := ⟨g, pdv (some ⟨sg, 0, none⟩) sn sc pa pn pc l os dd, 92⟩) rfl) (i := 2) rfl
    have fz := froz_of (i := 2) (hB.get 0 (x := ⟨g, pdv (some ⟨sg, 0, none⟩) sn sc pa pn pc l os dd, 92⟩) rfl)
    have hB2 := hB.cell 0 (x := ⟨g, pdv (some ⟨sg, 0, none⟩) sn sc pa pn pc l os dd, 92⟩) rfl 2 (.int .i64 l2)
    simp only [List.set_cons_zero, List.set_cons_succ] at hB2
    replace hB2 : Bc [g] w [⟨g, pdv (some ⟨sg, 0, none⟩) sn sc pa pn pc l2 os dd, 92⟩] _ := hB2
    clear hB
    replace hB2 := hide hB2
    dsimp only at c4 fz
    (refine wpList_step fun K hK => ?_; replace hK := hide hK; go_simp; refine unhide hK _ _ ?_; clear hK K)
    clear c4 fz
    have hB := unhide hB2
    clear hB2
    generalize World.setCell _ _ _ = u7 at *
    refine wpList_nil ?_
    clear hw2
    replace hB := hide hB
    go_upto_region 6 with fail
    replace hB := unhide hB
    have ho1 : (os : Int) + 1 = (o2 : Int) := by have := unhide ho2; omega
    have ho3 : IntKind.i64.wrap (o2 : Int) = (o2 : Int) := by rw [IntKind.wrap_i64]; have := unhide ho2; omega
    refine wp_region_lit ?_
    refine list_val (.pointer (some ⟨g, 0, none⟩)) (by kernel_rfl) (by kernel_rfl) ?_
    simp only [nrm]
    refine list_val (.pointer (some ⟨g, 0, none⟩)) (by kernel_rfl) (by kernel_rfl) ?_
    simp only [nrm]
    refine list_val (.pointer (some ⟨g, 3, none⟩)) (by kernel_rfl) (by kernel_rfl) ?_
    simp only [nrm]
    refine list_val (.int .i64 os) (by kernel_rfl) (exec_i64 _ (.tmp 27) rfl g 3 (by kernel_rfl) os (cell_of (hB.get 0 (x := ⟨g, pdv (some ⟨sg, 0, none⟩) sn sc pa pn pc l2 os dd, 92⟩) rfl) (i := 3) rfl)) ?_
    simp only [nrm]
    refine list_val (.int .i64 o2) (by kernel_rfl) (by go_simp) ?_
    simp only [nrm]
    refine list_val (.pointer (some ⟨g, 0, none⟩)) (by kernel_rfl) (by kernel_rfl) ?_
    simp only [nrm]
    refine list_val (.pointer (some ⟨g, 3, none⟩)) (by kernel_rfl) (by kernel_rfl) ?_
    simp only [nrm]
    have c4 := cell_of (hB.get 0 (x := ⟨g, pdv (some ⟨sg, 0, none⟩) sn sc pa pn pc l2 os dd, 92⟩) rfl) (i := 3) rfl
    have fz := froz_of (i := 3) (hB.get 0 (x := ⟨g, pdv (some ⟨sg, 0, none⟩) sn sc pa pn pc l2 os dd, 92⟩) rfl)
    have hB2 := hB.cell 0 (x := ⟨g, pdv (some ⟨sg, 0, none⟩) sn sc pa pn pc l2 os dd, 92⟩) rfl 3 (.int .i64 (o2 : Int))
    simp only [List.set_cons_zero, List.set_cons_succ] at hB2
    replace hB2 : Bc [g] w [⟨g, pdv (some ⟨sg, 0, none⟩) sn sc pa pn pc l2 o2 dd, 92⟩] _ := hB2
    clear hB
    replace hB2 := hide hB2
    dsimp only at c4 fz
    (refine wpList_step fun K hK => ?_; replace hK := hide hK; go_simp; refine unhide hK _ _ ?_; clear hK K)
    clear c4 fz
    have hB := unhide hB2
    clear hB2
    generalize World.setCell _ _ _ = u8 at *
    refine wpList_nil ?_
    clear ho1 ho3
    replace hB := hide hB
    go_upto_region 7 with fail
    replace hB := unhide hB
    have hP9 : Hid (Pd g D.doneD u8 sg sc C pa pc l2) := by
      refine (unhide hP).turn hB.chg ?_ ?_ ?_ ?_
      · unfold Dk.doneD; rw [if_neg (unhide hd0)]
      · unfold Dk.doneD; rw [if_neg (unhide hd0)]
      · have e1 : D.doneD.ops = D.ops + 1 := by unfold Dk.doneD; rw [if_neg (unhide hd0)]
        have e2 : D.doneD.dead = D.dead := by unfold Dk.doneD; rw [if_neg (unhide hd0)]
        rw [e1, e2, ← unhide hsn, ← unhide hpn, ← unhide hos, ← unhide hdd, ← unhide ho2]
        exact (hB.get 0 (x := ⟨g, pdv (some ⟨sg, 0, none⟩) sn sc pa pn pc l2 o2 dd, 92⟩) rfl)
      · have e3 : D.doneD.left = if 0 < D.left then D.left - 1 else D.left := by unfold Dk.doneD; rw [if_neg (unhide hd0)]
        rw [e3]
        exact unhide hlf
    refine wp_region_lit ?_
    refine list_val (.func (.func 90) #[] #[.pointer (some ⟨b3, 0, none⟩), .pointer (some ⟨b4, 0, none⟩), .pointer (some ⟨b5, 0, none⟩)]) (by kernel_rfl) (by kernel_rfl) ?_
    simp only [nrm]
    refine list_call 90 #[.pointer (some ⟨b3, 0, none⟩), .pointer (some ⟨b4, 0, none⟩), .pointer (some ⟨b5, 0, none⟩)] (by kernel_rfl) (by kernel_rfl) ((unhide hC u8 l2 (unhide hd0) (unhide hP9) hB.chg).mono ?_)
    rintro r u9 ⟨rfl, hQ9⟩
    refine ⟨_, rfl, ?_⟩
    clear hB
    replace hQ9 := hide hQ9
    simp only [nrm]
    refine wpList_nil ?_
    have hZ : Hid (Dnp g D sg sc C pa pc l Q w (.returned (.int .i64 0)) u9) := by
      show Dnp g D sg sc C pa pc l Q w _ u9
      unfold Dnp
      rw [if_neg (unhide hd0)]
      exact ⟨rfl, unhide hQ9⟩
    go_wp2_with fail
    rw [unhide hT]
    exact unhide hZ
set_option maxHeartbeats 4000000 in
theorem done_s (g : Nat) (D : Dk) (sg sc : Nat) (C : List Value) (pa : Option Addr) (pc : Nat) (l : Int) (b1 : Nat) (Q : World → Prop) (m : Nat) (hD : D.Ok m) (hm : m ≤ 1000000) (w : World) (hP : Pd g D w sg sc C pa pc l) (hC : ∀ (v : World) (l' : Int), D.left ≠ 0 → Pd g D.doneD v sg sc C pa pc l' → Chg [g] [g] w v → Calls Tryd.prog 91 #[.pointer (some ⟨b1, 0, none⟩)] v (fun r w' => r = .returned (.tuple #[]) ∧ Q w')) : Calls Tryd.prog 89 #[P0 g, .func (.func 91) #[] #[.pointer (some ⟨b1, 0, none⟩)]] w (Dnp g D sg sc C pa pc l Q w) := by
  obtain ⟨T, hT⟩ : ∃ T, T = Dnp g D sg sc C pa pc l Q w := ⟨_, rfl⟩
  rw [← hT]
  replace hT := hide hT
  obtain ⟨dd, hdd⟩ : ∃ x, x = D.dead := ⟨_, rfl⟩
  obtain ⟨sn, hsn⟩ : ∃ n, n = D.safe.length := ⟨_, rfl⟩
  obtain ⟨pn, hpn⟩ : ∃ n, n = D.pend.length := ⟨_, rfl⟩
  obtain ⟨os, hos⟩ : ∃ n, n = D.ops := ⟨_, rfl⟩
  have hcl := hP.cel
  rw [← hdd, ← hsn, ← hpn, ← hos] at hcl
  replace hdd := hide hdd; replace hsn := hide hsn; replace hpn := hide hpn; replace hos := hide hos; replace hcl := hide hcl; replace hP := hide hP
  have hom : os ≤ 1000000 := by rw [unhide hos]; exact Nat.le_trans hD.ops hm
  have hlh : D.left < 9223372036854775808 := hD.hi
  have hll := (unhide hP).lf
  have hB := (Bc.nil [g] w).add ⟨g, pdv (some ⟨sg, 0, none⟩) D.safe.length sc pa D.pend.length pc l D.ops D.dead, 92⟩ (unhide hP).cel (.inl (by simp)) (fun y hy => by cases hy)
  rw [← unhide hdd, ← unhide hsn, ← unhide hpn, ← unhide hos] at hB
  have hcase : (D.left = 0 ∧ l = 0) ∨ (D.left < 0 ∧ l < 0) ∨ (0 < D.left ∧ 0 < l ∧ l = D.left) := by
    obtain ⟨h1, h2⟩ := hll
    by_cases h : D.left < 0
    · exact .inr (.inl ⟨h, (h1 h).1⟩)
    · have := h2 (by omega)
      omega
  replace hD := hide hD; replace hB := hide hB; replace hC := hide hC; replace hll := hide hll
  go_enter Tryd.func89, Tryd.ntmps89
  go_upto_region 1 with fail
  replace hB : Hid (Bc [g] w [⟨g, pdv (some ⟨sg, 0, none⟩) sn sc pa pn pc l os dd, 92⟩] w) := hB
  rcases hcase with hcase | hcase | hcase
  · skip
    obtain ⟨hd0, rfl⟩ := hcase
    replace hB := unhide hB
    refine wp_region_lit ?_
    refine list_val (.pointer (some ⟨g, 0, none⟩)) (by kernel_rfl) (by kernel_rfl) ?_
    simp only [nrm]
    refine list_val (.pointer (some ⟨g, 0, none⟩)) (by kernel_rfl) (by kernel_rfl) ?_
    simp only [nrm]
    refine list_val (.pointer (some ⟨g, 2, none⟩)) (by kernel_rfl) (by kernel_rfl) ?_
    simp only [nrm]
    refine list_val (.int .i64 0) (by kernel_rfl) (exec_i64 _ (.tmp 7) rfl g 2 (by kernel_rfl) 0 (cell_of (hB.get 0 (x := ⟨g, pdv (some ⟨sg, 0, none⟩) sn sc pa pn pc 0 os dd, 92⟩) rfl) (i := 2) rfl)) ?_
    simp only [nrm]
    refine list_val (.bool true) (by kernel_rfl) (by go_simp) ?_
    simp only [nrm]
    refine wpList_nil ?_
    replace hd0 := hide hd0
    replace hB := hide hB
    go_upto_region 2 with fail
    replace hB := unhide hB
    refine wp_region_lit ?_
    refine list_val (.pointer (some ⟨g, 0, none⟩)) (by kernel_rfl) (by kernel_rfl) ?_
    simp only [nrm]
    refine list_val (.pointer (some ⟨g, 0, none⟩)) (by kernel_rfl) (by kernel_rfl) ?_
    simp only [nrm]
    refine list_val (.pointer (some ⟨g, 4, none⟩)) (by kernel_rfl) (by kernel_rfl) ?_
    simp only [nrm]
    have c4 := cell_of (hB.get 0 (x := ⟨g, pdv (some ⟨sg, 0, none⟩) sn sc pa pn pc 0 os dd, 92⟩) rfl) (i := 4) rfl
    have fz := froz_of (i := 4) (hB.get 0 (x := ⟨g, pdv (some ⟨sg, 0, none⟩) sn sc pa pn pc 0 os dd, 92⟩) rfl)
    have hB2 := hB.cell 0 (x := ⟨g, pdv (some ⟨sg, 0, none⟩) sn sc pa pn pc 0 os dd, 92⟩) rfl 4 (.bool true)
    simp only [List.set_cons_zero, List.set_cons_succ] at hB2
    replace hB2 : Bc [g] w [⟨g, pdv (some ⟨sg, 0, none⟩) sn sc pa pn pc 0 os true, 92⟩] _ := hB2
    clear hB
    replace hB2 := hide hB2
    dsimp only at c4 fz
    (refine wpList_step fun K hK => ?_; replace hK := hide hK; go_simp; refine unhide hK _ _ ?_; clear hK K)
    clear c4 fz
    have hB := unhide hB2
    clear hB2
    generalize World.setCell _ _ _ = u1 at *
    refine wpList_nil ?_
    have hZ : Hid (Dnp g D sg sc C pa pc 0 Q w (.returned (.int .i64 7)) u1) := by
      show Dnp g D sg sc C pa pc 0 Q w _ u1
      unfold Dnp
      rw [if_pos (unhide hd0)]
      refine ⟨rfl, (unhide hP).turn hB.chg ?_ ?_ ?_ ?_, hB.chg⟩
      · unfold Dk.doneD; rw [if_pos (unhide hd0)]
      · unfold Dk.doneD; rw [if_pos (unhide hd0)]
      · have e1 : D.doneD.ops = D.ops := by unfold Dk.doneD; rw [if_pos (unhide hd0)]
        have e2 : D.doneD.dead = true := by unfold Dk.doneD; rw [if_pos (unhide hd0)]
        rw [e1, e2, ← unhide hsn, ← unhide hpn, ← unhide hos]
        exact (hB.get 0 (x := ⟨g, pdv (some ⟨sg, 0, none⟩) sn sc pa pn pc 0 os true, 92⟩) rfl)
      · have e3 : D.doneD.left = 0 := by unfold Dk.doneD; rw [if_pos (unhide hd0)]; exact unhide hd0
        rw [e3]
        exact Lf.refl _ (by omega)
    replace hB := hide hB
    go_wp2_with fail
    rw [unhide hT]
    exact unhide hZ
  · skip
    obtain ⟨hdn, hln⟩ := hcase
    have hd0 : Hid (D.left ≠ 0) := by show D.left ≠ 0; omega
    have hl0 : ¬ l = 0 := by omega
    have hl1 : ¬ 0 < l := by omega
    have hlf : Hid (Lf (if 0 < D.left then D.left - 1 else D.left) l) := by show Lf _ l; rw [if_neg (by omega)]; exact unhide hll
    obtain ⟨o2, ho2⟩ : ∃ x, x = os + 1 := ⟨_, rfl⟩
    replace ho2 := hide ho2
    replace hB := unhide hB
    refine wp_region_lit ?_
    refine list_val (.pointer (some ⟨g, 0, none⟩)) (by kernel_rfl) (by kernel_rfl) ?_
    simp only [nrm]
    refine list_val (.pointer (some ⟨g, 0, none⟩)) (by kernel_rfl) (by kernel_rfl) ?_
    simp only [nrm]
    refine list_val (.pointer (some ⟨g, 2, none⟩)) (by kernel_rfl) (by kernel_rfl) ?_
    simp only [nrm]
    refine list_val (.int .i64 l) (by kernel_rfl) (exec_i64 _ (.tmp 7) rfl g 2 (by kernel_rfl) l (cell_of (hB.get 0 (x := ⟨g, pdv (some ⟨sg, 0, none⟩) sn sc pa pn pc l os dd, 92⟩) rfl) (i := 2) rfl)) ?_
    simp only [nrm]
    refine list_val (.bool false) (by kernel_rfl) (by go_simp) ?_
    simp only [nrm]
    refine wpList_nil ?_
    replace hB := hide hB
    go_upto_region 4 with fail
    replace hB := unhide hB
    refine wp_region_lit ?_
    refine list_val (.pointer (some ⟨g, 0, none⟩)) (by kernel_rfl) (by kernel_rfl) ?_
    simp only [nrm]
    refine list_val (.pointer (some ⟨g, 0, none⟩)) (by kernel_rfl) (by kernel_rfl) ?_
    simp only [nrm]
    refine list_val (.pointer (some ⟨g, 2, none⟩)) (by kernel_rfl) (by kernel_rfl) ?_
    simp only [nrm]
    refine list_val (.int .i64 l) (by kernel_rfl) (exec_i64 _ (.tmp 15) rfl g 2 (by kernel_rfl) l (cell_of (hB.get 0 (x := ⟨g, pdv (some ⟨sg, 0, none⟩) sn sc pa pn pc l os dd, 92⟩) rfl) (i := 2) rfl)) ?_
    simp only [nrm]
    refine list_val (.bool false) (by kernel_rfl) (by go_simp) ?_
    simp only [nrm]
    refine wpList_nil ?_
    replace hB := hide hB
    go_upto_region 6 with fail
    replace hB := unhide hB
    have ho1 : (os : Int) + 1 = (o2 : Int) := by have := unhide ho2; omega
    have ho3 : IntKind.i64.wrap (o2 : Int) = (o2 : Int) := by rw [IntKind.wrap_i64]; have := unhide ho2; omega
    refine wp_region_lit ?_
    refine list_val (.pointer (some ⟨g, 0, none⟩)) (by kernel_rfl) (by kernel_rfl) ?_
    simp only [nrm]
    refine list_val (.pointer (some ⟨g, 0, none⟩)) (by kernel_rfl) (by kernel_rfl) ?_
    simp only [nrm]
    refine list_val (.pointer (some ⟨g, 3, none⟩)) (by kernel_rfl) (by kernel_rfl) ?_
    simp only [nrm]
    refine list_val (.int .i64 os) (by kernel_rfl) (exec_i64 _ (.tmp 27) rfl g 3 (by kernel_rfl) os (cell_of (hB.get 0 (x := ⟨g, pdv (some ⟨sg, 0, none⟩) sn sc pa pn pc l os dd, 92⟩) rfl) (i := 3) rfl)) ?_
    simp only [nrm]
    refine list_val (.int .i64 o2) (by kernel_rfl) (by go_simp) ?_
    simp only [nrm]
    refine list_val (.pointer (some ⟨g, 0, none⟩)) (by kernel_rfl) (by kernel_rfl) ?_
    simp only [nrm]
    refine list_val (.pointer (some ⟨g, 3, none⟩)) (by kernel_rfl) (by kernel_rfl) ?_
    simp only [nrm]
    have c4 := cell_of (hB.get 0 (x := ⟨g, pdv (some ⟨sg, 0, none⟩) sn sc pa pn pc l os dd, 92⟩) rfl) (i := 3) rfl
    have fz := froz_of (i := 3) (hB.get 0 (x := ⟨g, pdv (some ⟨sg, 0, none⟩) sn sc pa pn pc l os dd, 92⟩) rfl)
    have hB2 := hB.cell 0 (x := ⟨g, pdv (some ⟨sg, 0, none⟩) sn sc pa pn pc l os dd, 92⟩) rfl 3 (.int .i64 (o2 : Int))
    simp only [List.set_cons_zero, List.set_cons_succ] at hB2
    replace hB2 : Bc [g] w [⟨g, pdv (some ⟨sg, 0, none⟩) sn sc pa pn pc l o2 dd, 92⟩] _ := hB2
    clear hB
    replace hB2 := hide hB2
    dsimp only at c4 fz
    (refine wpList_step fun K hK => ?_; replace hK := hide hK; go_simp; refine unhide hK _ _ ?_; clear hK K)
    clear c4 fz
    have hB := unhide hB2
    clear hB2
    generalize World.setCell _ _ _ = u8 at *
    refine wpList_nil ?_
    clear ho1 ho3
    replace hB := hide hB
    go_upto_region 7 with fail
    replace hB := unhide hB
    have hP9 : Hid (Pd g D.doneD u8 sg sc C pa pc l) := by
      refine (unhide hP).turn hB.chg ?_ ?_ ?_ ?_
      · unfold Dk.doneD; rw [if_neg (unhide hd0)]
      · unfold Dk.doneD; rw [if_neg (unhide hd0)]
      · have e1 : D.doneD.ops = D.ops + 1 := by unfold Dk.doneD; rw [if_neg (unhide hd0)]
        have e2 : D.doneD.dead = D.dead := by unfold Dk.doneD; rw [if_neg (unhide hd0)]
        rw [e1, e2, ← unhide hsn, ← unhide hpn, ← unhide hos, ← unhide hdd, ← unhide ho2]
        exact (hB.get 0 (x := ⟨g, pdv (some ⟨sg, 0, none⟩) sn sc pa pn pc l o2 dd, 92⟩) rfl)
      · have e3 : D.doneD.left = if 0 < D.left then D.left - 1 else D.left := by unfold Dk.doneD; rw [if_neg (unhide hd0)]
        rw [e3]
        exact unhide hlf
    refine wp_region_lit ?_
    refine list_val (.func (.func 91) #[] #[.pointer (some ⟨b1, 0, none⟩)]) (by kernel_rfl) (by kernel_rfl) ?_
    simp only [nrm]
    refine list_call 91 #[.pointer (some ⟨b1, 0, none⟩)] (by kernel_rfl) (by kernel_rfl) ((unhide hC u8 l (unhide hd0) (unhide hP9) hB.chg).mono ?_)
    rintro r u9 ⟨rfl, hQ9⟩
    refine ⟨_, rfl, ?_⟩
    clear hB
    replace hQ9 := hide hQ9
    simp only [nrm]
    refine wpList_nil ?_
    have hZ : Hid (Dnp g D sg sc C pa pc l Q w (.returned (.int .i64 0)) u9) := by
      show Dnp g D sg sc C pa pc l Q w _ u9
      unfold Dnp
      rw [if_neg (unhide hd0)]
      exact ⟨rfl, unhide hQ9⟩
    go_wp2_with fail
    rw [unhide hT]
    exact unhide hZ
  · skip
    obtain ⟨hdn, hln, hle⟩ := hcase
    have hd0 : Hid (D.left ≠ 0) := by show D.left ≠ 0; omega
    have hl0 : ¬ l = 0 := by omega
    have hl1 : 0 < l := by omega
    obtain ⟨l2, hl2⟩ : ∃ x, x = l - 1 := ⟨_, rfl⟩
    have hw2 : IntKind.i64.wrap (l - 1) = l2 := by rw [IntKind.wrap_i64]; omega
    have hlf : Hid (Lf (if 0 < D.left then D.left - 1 else D.left) l2) := by show Lf _ l2; rw [if_pos (by omega), ← hle, hl2]; exact Lf.refl _ (by omega)
    obtain ⟨o2, ho2⟩ : ∃ x, x = os + 1 := ⟨_, rfl⟩
    replace ho2 := hide ho2; replace hl2 := hide hl2; replace hle := hide hle
    replace hB := unhide hB
    refine wp_region_lit ?_
    refine list_val (.pointer (some ⟨g, 0, none⟩)) (by kernel_rfl) (by kernel_rfl) ?_
    simp only [nrm]
    refine list_val (.pointer (some ⟨g, 0, none⟩)) (by kernel_rfl) (by kernel_rfl) ?_
    simp only [nrm]
    refine list_val (.pointer (some ⟨g, 2, none⟩)) (by kernel_rfl) (by kernel_rfl) ?_
    simp only [nrm]
    refine list_val (.int .i64 l) (by kernel_rfl) (exec_i64 _ (.tmp 7) rfl g 2 (by kernel_rfl) l (cell_of (hB.get 0 (x := ⟨g, pdv (some ⟨sg, 0, none⟩) sn sc pa pn pc l os dd, 92⟩) rfl) (i := 2) rfl)) ?_
    simp only [nrm]
    refine list_val (.bool false) (by kernel_rfl) (by go_simp) ?_
    simp only [nrm]
    refine wpList_nil ?_
    replace hB := hide hB
    go_upto_region 4 with fail
    replace hB := unhide hB
    refine wp_region_lit ?_
    refine list_val (.pointer (some ⟨g, 0, none⟩)) (by kernel_rfl) (by kernel_rfl) ?_
    simp only [nrm]
    refine list_val (.pointer (some ⟨g, 0, none⟩)) (by kernel_rfl) (by kernel_rfl) ?_
    simp only [nrm]
    refine list_val (.pointer (some ⟨g, 2, none⟩)) (by kernel_rfl) (by kernel_rfl) ?_
    simp only [nrm]
    refine list_val (.int .i64 l) (by kernel_rfl) (exec_i64 _ (.tmp 15) rfl g 2 (by kernel_rfl) l (cell_of (hB.get 0 (x := ⟨g, pdv (some ⟨sg, 0, none⟩) sn sc pa pn pc l os dd, 92⟩) rfl) (i := 2) rfl)) ?_
    simp only [nrm]
    refine list_val (.bool true) (by kernel_rfl) (by go_simp) ?_
    simp only [nrm]
    refine wpList_nil ?_
    replace hB := hide hB
    go_upto_region 5 with fail
    replace hB := unhide hB
    refine wp_region_lit ?_
    refine list_val (.pointer (some ⟨g, 0, none⟩)) (by kernel_rfl) (by kernel_rfl) ?_
    simp only [nrm]
    refine list_val (.pointer (some ⟨g, 0, none⟩)) (by kernel_rfl) (by kernel_rfl) ?_
    simp only [nrm]
    refine list_val (.pointer (some ⟨g, 2, none⟩)) (by kernel_rfl) (by kernel_rfl) ?_
    simp only [nrm]
    refine list_val (.int .i64 l) (by kernel_rfl) (exec_i64 _ (.tmp 20) rfl g 2 (by kernel_rfl) l (cell_of (hB.get 0 (x := ⟨g, pdv (some ⟨sg, 0, none⟩) sn sc pa pn pc l os dd, 92⟩) rfl) (i := 2) rfl)) ?_
    simp only [nrm]
    refine list_val (.int .i64 l2) (by kernel_rfl) (by go_simp) ?_
    simp only [nrm]
    refine list_val (.pointer (some ⟨g, 0, none⟩)) (by kernel_rfl) (by kernel_rfl) ?_
    simp only [nrm]
    refine list_val (.pointer (some ⟨g, 2, none⟩)) (by kernel_rfl) (by kernel_rfl) ?_
    simp only [nrm]
    have c4 := cell_of (hB.get 0 (x := ⟨g, pdv (some ⟨sg, 0, none⟩) sn sc pa pn pc l os dd, 92⟩) rfl) (i := 2) rfl
    have fz := froz_of (i := 2) (hB.get 0 (x := ⟨g, pdv (some ⟨sg, 0, none⟩) sn sc pa pn pc l os dd, 92⟩) rfl)
    have hB2 := hB.cell 0 (x := ⟨g, pdv (some ⟨sg, 0, none⟩) sn sc pa pn pc l os dd, 92⟩) rfl 2 (.int .i64 l2)
    simp only [List.set_cons_zero, List.set_cons_succ] at hB2
    replace hB2 : Bc [g] w [⟨g, pdv (some ⟨sg, 0, none⟩) sn sc pa pn pc l2 os dd, 92⟩] _ := hB2
    clear hB
    replace hB2 := hide hB2
    dsimp only at c4 fz
    (refine wpList_step fun K hK => ?_; replace hK := hide hK; go_simp; refine unhide hK _ _ ?_; clear hK K)
    clear c4 fz
    have hB := unhide hB2
    clear hB2
    generalize World.setCell _ _ _ = u7 at *
    refine wpList_nil ?_
    clear hw2
    replace hB := hide hB
    go_upto_region 6 with fail
    replace hB := unhide hB
    have ho1 : (os : Int) + 1 = (o2 : Int) := by have := unhide ho2; omega
    have ho3 : IntKind.i64.wrap (o2 : Int) = (o2 : Int) := by rw [IntKind.wrap_i64]; have := unhide ho2; omega
    refine wp_region_lit ?_
    refine list_val (.pointer (some ⟨g, 0, none⟩)) (by kernel_rfl) (by kernel_rfl) ?_
    simp only [nrm]
    refine list_val (.pointer (some ⟨g, 0, none⟩)) (by kernel_rfl) (by kernel_rfl) ?_
    simp only [nrm]
    refine list_val (.pointer (some ⟨g, 3, none⟩)) (by kernel_rfl) (by kernel_rfl) ?_
    simp only [nrm]
    refine list_val (.int .i64 os) (by kernel_rfl) (exec_i64 _ (.tmp 27) rfl g 3 (by kernel_rfl) os (cell_of (hB.get 0 (x := ⟨g, pdv (some ⟨sg, 0, none⟩) sn sc pa pn pc l2 os dd, 92⟩) rfl) (i := 3) rfl)) ?_
    simp only [nrm]
    refine list_val (.int .i64 o2) (by kernel_rfl) (by go_simp) ?_
    simp only [nrm]
    refine list_val (.pointer (some ⟨g, 0, none⟩)) (by kernel_rfl) (by kernel_rfl) ?_
    simp only [nrm]
    refine list_val (.pointer (some ⟨g, 3, none⟩)) (by kernel_rfl) (by kernel_rfl) ?_
    simp only [nrm]
    have c4 := cell_of (hB.get 0 (x := ⟨g, pdv (some ⟨sg, 0, none⟩) sn sc pa pn pc l2 os dd, 92⟩) rfl) (i := 3) rfl
    have fz := froz_of (i := 3) (hB.get 0 (x := ⟨g, pdv (some ⟨sg, 0, none⟩) sn sc pa pn pc l2 os dd, 92⟩) rfl)
    have hB2 := hB.cell 0 (x := ⟨g, pdv (some ⟨sg, 0, none⟩) sn sc pa pn pc l2 os dd, 92⟩) rfl 3 (.int .i64 (o2 : Int))
    simp only [List.set_cons_zero, List.set_cons_succ] at hB2
    replace hB2 : Bc [g] w [⟨g, pdv (some ⟨sg, 0, none⟩) sn sc pa pn pc l2 o2 dd, 92⟩] _ := hB2
    clear hB
    replace hB2 := hide hB2
    dsimp only at c4 fz
    (refine wpList_step fun K hK => ?_; replace hK := hide hK; go_simp; refine unhide hK _ _ ?_; clear hK K)
    clear c4 fz
    have hB := unhide hB2
    clear hB2
    generalize World.setCell _ _ _ = u8 at *
    refine wpList_nil ?_
    clear ho1 ho3
    replace hB := hide hB
    go_upto_region 7 with fail
    replace hB := unhide hB
    have hP9 : Hid (Pd g D.doneD u8 sg sc C pa pc l2) := by
      refine (unhide hP).turn hB.chg ?_ ?_ ?_ ?_
      · unfold Dk.doneD; rw [if_neg (unhide hd0)]
      · unfold Dk.doneD; rw [if_neg (unhide hd0)]
      · have e1 : D.doneD.ops = D.ops + 1 := by unfold Dk.doneD; rw [if_neg (unhide hd0)]
        have e2 : D.doneD.dead = D.dead := by unfold Dk.doneD; rw [if_neg (unhide hd0)]
        rw [e1, e2, ← unhide hsn, ← unhide hpn, ← unhide hos, ← unhide hdd, ← unhide ho2]
        exact (hB.get 0 (x := ⟨g, pdv (some ⟨sg, 0, none⟩) sn sc pa pn pc l2 o2 dd, 92⟩) rfl)
      · have e3 : D.doneD.left = if 0 < D.left then D.left - 1 else D.left := by unfold Dk.doneD; rw [if_neg (unhide hd0)]
        rw [e3]
        exact unhide hlf
    refine wp_region_lit ?_
    refine list_val (.func (.func 91) #[] #[.pointer (some ⟨b1, 0, none⟩)]) (by kernel_rfl) (by kernel_rfl) ?_
    simp only [nrm]
    refine list_call 91 #[.pointer (some ⟨b1, 0, none⟩)] (by kernel_rfl) (by kernel_rfl) ((unhide hC u8 l2 (unhide hd0) (unhide hP9) hB.chg).mono ?_)
    rintro r u9 ⟨rfl, hQ9⟩
    refine ⟨_, rfl, ?_⟩
    clear hB
    replace hQ9 := hide hQ9
    simp only [nrm]
    refine wpList_nil ?_
    have hZ : Hid (Dnp g D sg sc C pa pc l Q w (.returned (.int .i64 0)) u9) := by
      show Dnp g D sg sc C pa pc l Q w _ u9
      unfold Dnp
      rw [if_neg (unhide hd0)]
      exact ⟨rfl, unhide hQ9⟩
    go_wp2_with fail
    rw [unhide hT]
    exact unhide hZ
set_option maxHeartbeats 4000000 in
theorem sync1_ok (g : Nat) (D : Dk) (sg sc : Nat) (C : List Value) (pa : Option Addr) (pc : Nat) (l : Int) (b1 m : Nat) (hD : D.Ok m) (hm : m ≤ 1000001) (w : World) (hP : Pd g D w sg sc C pa pc l) (h1 : w.heap[b1]? = some (.cells #[P0 g] 24 (0, 0))) : Calls Tryd.prog 91 #[.pointer (some ⟨b1, 0, none⟩)] w (fun r w' => r = .returned (.tuple #[]) ∧ ∃ C', Pd g (D.live D.all) w' sg sc C' none 0 l ∧ Chg [g, sg] [g, sg] w w') := by
  obtain ⟨T, hT⟩ : ∃ T : Ending → World → Prop, T = fun r w' => r = .returned (.tuple #[]) ∧ ∃ C', Pd g (D.live D.all) w' sg sc C' none 0 l ∧ Chg [g, sg] [g, sg] w w' := ⟨_, rfl⟩
  rw [← hT]
  replace hT := hide hT
  replace hP := hide hP; replace hD := hide hD; replace h1 := hide h1
  go_enter Tryd.func91, Tryd.ntmps91
  go_upto_region 0 with fail
  refine wp_region_lit ?_
  refine list_val (.pointer (some ⟨g, 0, none⟩)) (by kernel_rfl) (exec_pd _ (.tmp 0) rfl b1 0 (by kernel_rfl) (some ⟨g, 0, none⟩) (cell_of (unhide h1) (i := 0) rfl)) ?_
  simp only [nrm]
  refine list_call 68 #[P0 g, .func (.func 92) #[] #[]] (by kernel_rfl) (by kernel_rfl) ((settle_s g D sg sc C pa pc l D.all m (unhide hD) (by omega) w (unhide hP) (fun v hv j hj => by
    have e : D.all.getD j false = true := by
      unfold Dk.all
      rw [List.getD_eq_getElem?_getD, List.getElem?_replicate, if_pos hj]
      rfl
    rw [e]
    exact sync11_ok j v)).mono ?_)
  rintro r v1 ⟨rfl, C2, hP2, hch⟩
  refine ⟨_, rfl, ?_⟩
  replace hP2 := hide hP2; replace hch := hide hch
  simp only [nrm]
  refine wpList_nil ?_
  go_wp2_with fail
  rw [unhide hT]
  exact bodyPost_end (results_none Tryd.results91 _ _ _) rfl ⟨rfl, C2, unhide hP2, unhide hch⟩
set_option maxHeartbeats 4000000 in
theorem dsync_p (g : Nat) (D : Dk) (sg sc : Nat) (C : List Value) (pa : Option Addr) (pc : Nat) (l : Int) (m : Nat) (hD : D.Ok m) (hm : m ≤ 1000000) (w : World) (hP : Pd g D w sg sc C pa pc l) : Calls Tryd.prog 78 #[P0 g] w (Ch (pdF g sg pa) g D.syncD D.syncE w) := by
  obtain ⟨T, hT⟩ : ∃ T, T = Ch (pdF g sg pa) g D.syncD D.syncE w := ⟨_, rfl⟩
  rw [← hT]
  replace hT := hide hT
  have hgl := hP.lt g (mem_pdF.2 (.inl rfl))
  have hsl := hP.lt sg (mem_pdF.2 (.inr (.inl rfl)))
  replace hP := hide hP; replace hD := hide hD
  go_enter Tryd.func78, Tryd.ntmps78
  go_upto_region 1 with fail
  have hB := ((Bl.nil w).new #[P0 g] 24)
  simp only [size_alloc, List.nil_append, List.cons_append] at hB
  generalize World.alloc _ _ = u at *
  replace hB : Bl w [⟨w.heap.size, #[P0 g], 24⟩] u := hB
  refine wp_region_lit ?_
  refine list_val (.pointer (some ⟨g, 0, none⟩)) (by kernel_rfl) (exec_pd _ (.tmp 1) rfl w.heap.size 0 (by kernel_rfl) (some ⟨g, 0, none⟩) (cell_of (hB.get 0 (x := ⟨w.heap.size, #[P0 g], 24⟩) rfl) (i := 0) rfl)) ?_
  simp only [nrm]
  refine list_call 87 #[.pointer (some ⟨g, 0, none⟩)] (by kernel_rfl) (by kernel_rfl) ((power_ok g D sg sc C pa pc l _ ((unhide hP).gr hB.gr)).mono ?_)
  rintro r u1 ⟨rfl, hG⟩
  refine ⟨_, rfl, ?_⟩
  obtain ⟨pe, hpe⟩ : ∃ x : Int, x = if D.dead then 7 else 0 := ⟨_, rfl⟩
  rw [← hpe]
  replace hpe := hide hpe
  replace hB := hB.more hG
  clear hG
  simp only [nrm]
  (refine wpList_step fun K hK => ?_; replace hK := hide hK; go_simp; refine unhide hK _ _ ?_; clear hK K)
  refine wpList_nil ?_
  cases hd3 : D.dead
  case true =>
    have e7 : pe = 7 := by rw [unhide hpe, hd3]; rfl
    subst e7
    have hZ : Hid (Ch (pdF g sg pa) g D.syncD D.syncE w (.returned (.int .i64 7)) u1) := by
      have e1 : D.syncD = D := by unfold Dk.syncD; rw [hd3]; rfl
      have e2 : D.syncE = 7 := by unfold Dk.syncE; rw [hd3]; rfl
      rw [e1, e2]
      exact ⟨pdF g sg pa, rfl, ⟨sg, sc, C, pa, pc, l, (unhide hP).gr hB.gr, rfl⟩, hB.gr.chg0 _⟩
    replace hB := hide hB
    go_wp2_with fail
    rw [unhide hT]
    exact unhide hZ
  case false =>
    have e7 : pe = 0 := by rw [unhide hpe, hd3]; rfl
    subst e7
    replace hd3 := hide hd3
    replace hB := hide hB
    go_upto_region 4 with fail
    replace hB := unhide hB
    refine wp_region_lit ?_
    refine list_val (.pointer (some ⟨g, 0, none⟩)) (by kernel_rfl) (exec_pd _ (.tmp 1) rfl w.heap.size 0 (by kernel_rfl) (some ⟨g, 0, none⟩) (cell_of (hB.get 0 (x := ⟨w.heap.size, #[P0 g], 24⟩) rfl) (i := 0) rfl)) ?_
    simp only [nrm]
    refine list_val (.func (.func 91) #[] #[.pointer (some ⟨w.heap.size, 0, none⟩)]) (by kernel_rfl) (by kernel_rfl) ?_
    simp only [nrm]
    refine list_call 89 #[P0 g, .func (.func 91) #[] #[.pointer (some ⟨w.heap.size, 0, none⟩)]] (by kernel_rfl) (by kernel_rfl) ((done_s g D sg sc C pa pc l w.heap.size (fun w' => ∃ C' l', Pd g (D.doneD.live D.doneD.all) w' sg sc C' none 0 l' ∧ Chg [g, sg] [g, sg] u1 w') m (unhide hD) (by omega) u1 ((unhide hP).gr hB.gr) (fun v l' hne hv hch => (sync1_ok g D.doneD sg sc C pa pc l' w.heap.size (m + 1) (unhide hD).done (by omega) v hv (hch.blk (hB.get 0 (x := ⟨w.heap.size, #[P0 g], 24⟩) rfl) (by simp; omega))).mono (by
      rintro r w' ⟨rfl, C', h1, h2⟩
      exact ⟨rfl, C', l', h1, (hch.wide (F' := [g, sg]) (fun i hi => by simp at hi; simp [hi]) (fun i hi => .inl hi)).trans h2⟩))).mono ?_)
    intro r u2 hdn
    obtain ⟨e9, he9, hZ⟩ : ∃ e : Int, r = .returned (.int .i64 e) ∧ Hid (Ch (pdF g sg pa) g D.syncD D.syncE w (.returned (.int .i64 e)) u2) := by
      unfold Dnp at hdn
      by_cases h0 : D.left = 0
      · rw [if_pos h0] at hdn
        obtain ⟨rfl, hp, hch⟩ := hdn
        refine ⟨7, rfl, ?_⟩
        have e1 : D.syncD = D.doneD := by unfold Dk.syncD; rw [unhide hd3, if_pos h0]; rfl
        have e2 : D.syncE = 7 := by unfold Dk.syncE; rw [unhide hd3, if_pos h0]; rfl
        show Ch (pdF g sg pa) g D.syncD D.syncE w _ u2
        rw [e1, e2]
        exact ⟨pdF g sg pa, rfl, ⟨sg, sc, C, pa, pc, l, hp, rfl⟩, hB.gr.chg (hch.wide (fun i hi => by rw [List.mem_singleton] at hi; rw [hi]; exact mem_pdF.2 (.inl rfl)) (fun i hi => .inl hi))⟩
      · rw [if_neg h0] at hdn
        obtain ⟨rfl, C', l', hp, hch⟩ := hdn
        refine ⟨0, rfl, ?_⟩
        have e1 : D.syncD = D.doneD.live D.doneD.all := by unfold Dk.syncD; rw [unhide hd3, if_neg h0]; rfl
        have e2 : D.syncE = 0 := by unfold Dk.syncE; rw [unhide hd3, if_neg h0]; rfl
        show Ch (pdF g sg pa) g D.syncD D.syncE w _ u2
        rw [e1, e2]
        refine ⟨pdF g sg none, rfl, ⟨sg, sc, C', none, 0, l', hp, rfl⟩, hB.gr.chg (hch.wide (fun i hi => mem_pdF.2 (by simp at hi; rcases hi with hi | hi; exact .inl hi; exact .inr (.inl hi))) (fun i hi => .inl (mem_pdF.2 ?_)))⟩
        rcases mem_pdF.1 hi with hi | hi | hi
        · exact .inl hi
        · exact .inr (.inl hi)
        · cases hi
    subst he9
    refine ⟨_, rfl, ?_⟩
    clear hB hdn
    simp only [nrm]
    (refine wpList_step fun K hK => ?_; replace hK := hide hK; go_simp; refine unhide hK _ _ ?_; clear hK K)
    refine wpList_nil ?_
    go_wp2_with fail
    rw [unhide hT]
    exact unhide hZ
theorem dsync_ok (F : List Nat) (g m : Nat) (D : Dk) (hD : D.Ok m) (hm : m ≤ 1000000) (w : World) (h : Lies F g D w) : Calls Tryd.prog 78 #[P0 g] w (Ch F g D.syncD D.syncE w) := by
  obtain ⟨sg, sc, C, pa, pc, l, h, rfl⟩ := h
  exact dsync_p g D sg sc C pa pc l m hD hm w h
set_option maxHeartbeats 4000000 in
theorem dwrite_p (g : Nat) (D : Dk) (sg sc : Nat) (C : List Value) (pa : Option Addr) (pc : Nat) (l : Int) (i : Int) (b : List Int) (hb : BB b) (m : Nat) (hD : D.Ok m) (hm : m ≤ 1000000) (w : World) (hP : Pd g D w sg sc C pa pc l) : Calls Tryd.prog 77 #[P0 g, .int .i64 i, .agg (kc b)] w (Ch (pdF g sg pa) g (D.writeD i b) (D.writeE i) w) := by
  obtain ⟨T, hT⟩ : ∃ T, T = Ch (pdF g sg pa) g (D.writeD i b) (D.writeE i) w := ⟨_, rfl⟩
  rw [← hT]
  replace hT := hide hT
  have hgl := hP.lt g (mem_pdF.2 (.inl rfl))
  have hfl := hP.lt
  obtain ⟨SK, hSK⟩ : ∃ X, X = kc b := ⟨_, rfl⟩
  rw [← hSK]
  replace hSK := hide hSK; replace hb := hide hb
  replace hP := hide hP; replace hD := hide hD; replace hfl := hide hfl
  go_enter Tryd.func77, Tryd.ntmps77
  go_upto_region 1 with fail
  have hB := ((((Bl.nil w).new #[P0 g] 24).new #[.int .i64 i] 3).new SK 50)
  simp only [size_alloc, List.nil_append, List.cons_append] at hB
  generalize World.alloc _ _ = u at *
  rw [unhide hSK] at hB
  replace hB : Bl w [⟨w.heap.size, #[P0 g], 24⟩, ⟨w.heap.size + 1, #[.int .i64 i], 3⟩, ⟨w.heap.size + 1 + 1, kc b, 50⟩] u := hB
  refine wp_region_lit ?_
  refine list_val (.pointer (some ⟨g, 0, none⟩)) (by kernel_rfl) (exec_pd _ (.tmp 3) rfl w.heap.size 0 (by kernel_rfl) (some ⟨g, 0, none⟩) (cell_of (hB.get 0 (x := ⟨w.heap.size, #[P0 g], 24⟩) rfl) (i := 0) rfl)) ?_
  simp only [nrm]
  refine list_val (.int .i64 i) (by kernel_rfl) (exec_i64 _ (.tmp 4) rfl (w.heap.size + 1) 0 (by kernel_rfl) i (cell_of (hB.get 1 (x := ⟨w.heap.size + 1, #[.int .i64 i], 3⟩) rfl) (i := 0) rfl)) ?_
  simp only [nrm]
  refine list_call 71 #[.pointer (some ⟨g, 0, none⟩), .int .i64 i] (by kernel_rfl) (by kernel_rfl) ((reach_ok g D sg sc C pa pc l i _ ((unhide hP).gr hB.gr)).mono ?_)
  rintro r u1 ⟨rfl, hG⟩
  refine ⟨_, rfl, ?_⟩
  obtain ⟨pe, hpe⟩ : ∃ x : Int, x = D.readE i := ⟨_, rfl⟩
  rw [← hpe]
  replace hpe := hide hpe
  replace hB := hB.more hG
  clear hG
  simp only [nrm]
  (refine wpList_step fun K hK => ?_; replace hK := hide hK; go_simp; refine unhide hK _ _ ?_; clear hK K)
  refine wpList_nil ?_
  have hcase : (pe = 7 ∧ D.writeD i b = D ∧ D.writeE i = 7) ∨ (pe = 2 ∧ D.writeD i b = D ∧ D.writeE i = 2) ∨ (pe = 0 ∧ D.has i ∧ D.dead = false) := by
    rw [unhide hpe]
    unfold Dk.readE Dk.writeD Dk.writeE
    cases D.dead
    · by_cases h : D.has i
      · exact .inr (.inr (by simp [h]))
      · exact .inr (.inl (by simp [h]))
    · exact .inl (by simp)
  rcases hcase with ⟨rfl, hwd, hwe⟩ | ⟨rfl, hwd, hwe⟩ | ⟨rfl, hhas, hnd⟩
  · skip
    have hZ : Hid (Ch (pdF g sg pa) g (D.writeD i b) (D.writeE i) w (.returned (.int .i64 7)) u1) := by
      rw [hwd, hwe]
      exact ⟨pdF g sg pa, rfl, ⟨sg, sc, C, pa, pc, l, (unhide hP).gr hB.gr, rfl⟩, hB.gr.chg0 _⟩
    replace hB := hide hB
    clear hwd hwe
    go_wp2_with fail
    rw [unhide hT]
    exact unhide hZ
  · skip
    have hZ : Hid (Ch (pdF g sg pa) g (D.writeD i b) (D.writeE i) w (.returned (.int .i64 2)) u1) := by
      rw [hwd, hwe]
      exact ⟨pdF g sg pa, rfl, ⟨sg, sc, C, pa, pc, l, (unhide hP).gr hB.gr, rfl⟩, hB.gr.chg0 _⟩
    replace hB := hide hB
    clear hwd hwe
    go_wp2_with fail
    rw [unhide hT]
    exact unhide hZ
  obtain ⟨k, rfl⟩ := Int.eq_ofNat_of_zero_le hhas.1
  replace hhas := hide hhas; replace hnd := hide hnd
  replace hB := hide hB
  go_upto_region 4 with fail
  replace hB := unhide hB
  refine wp_region_lit ?_
  refine list_val (.pointer (some ⟨g, 0, none⟩)) (by kernel_rfl) (exec_pd _ (.tmp 3) rfl w.heap.size 0 (by kernel_rfl) (some ⟨g, 0, none⟩) (cell_of (hB.get 0 (x := ⟨w.heap.size, #[P0 g], 24⟩) rfl) (i := 0) rfl)) ?_
  simp only [nrm]
  refine list_val (.func (.func 90) #[] #[.pointer (some ⟨w.heap.size, 0, none⟩), .pointer (some ⟨w.heap.size + 1, 0, none⟩), .pointer (some ⟨w.heap.size + 1 + 1, 0, none⟩)]) (by kernel_rfl) (by kernel_rfl) ?_
  simp only [nrm]
  refine list_call 89 #[P0 g, .func (.func 90) #[] #[.pointer (some ⟨w.heap.size, 0, none⟩), .pointer (some ⟨w.heap.size + 1, 0, none⟩), .pointer (some ⟨w.heap.size + 1 + 1, 0, none⟩)]] (by kernel_rfl) (by kernel_rfl) ((done_w g D sg sc C pa pc l (w.heap.size) (w.heap.size + 1) (w.heap.size + 1 + 1) (fun w' => ∃ l' v, Wr1 g D.doneD k b sg sc C pa l' v w' ∧ Chg [g] [g] u1 v) m (unhide hD) (by omega) u1 ((unhide hP).gr hB.gr) (fun v l' hne hv hch => (write1_ok g D.doneD sg sc C pa pc l' k (w.heap.size) (w.heap.size + 1) (w.heap.size + 1 + 1) b (unhide hb) (m + 1) (unhide hD).done (by omega) v hv (hch.blk (hB.get 0 (x := ⟨w.heap.size, #[P0 g], 24⟩) rfl) (by simp; omega)) (hch.blk (hB.get 1 (x := ⟨w.heap.size + 1, #[.int .i64 (k : Int)], 3⟩) rfl) (by simp; omega)) (hch.blk (hB.get 2 (x := ⟨w.heap.size + 1 + 1, kc b, 50⟩) rfl) (by simp; omega))).mono (by
    rintro r w' ⟨rfl, h1⟩
    exact ⟨rfl, l', v, h1, hch⟩))).mono ?_)
  intro r u2 hdn
  obtain ⟨e9, he9, hZ⟩ : ∃ e : Int, r = .returned (.int .i64 e) ∧ Hid (Ch (pdF g sg pa) g (D.writeD (k : Int) b) (D.writeE (k : Int)) w (.returned (.int .i64 e)) u2) := by
    unfold Dnp at hdn
    by_cases h0 : D.left = 0
    · rw [if_pos h0] at hdn
      obtain ⟨rfl, hp, hch⟩ := hdn
      refine ⟨7, rfl, ?_⟩
      have e1 : D.writeD (k : Int) b = D.doneD := by unfold Dk.writeD; rw [unhide hnd, if_pos (unhide hhas), if_pos h0]; rfl
      have e2 : D.writeE (k : Int) = 7 := by unfold Dk.writeE; rw [unhide hnd, if_pos (unhide hhas), if_pos h0]; rfl
      show Ch (pdF g sg pa) g (D.writeD (k : Int) b) (D.writeE (k : Int)) w _ u2
      rw [e1, e2]
      exact ⟨pdF g sg pa, rfl, ⟨sg, sc, C, pa, pc, l, hp, rfl⟩, hB.gr.chg (hch.wide (fun i hi => by rw [List.mem_singleton] at hi; rw [hi]; exact mem_pdF.2 (.inl rfl)) (fun i hi => .inl hi))⟩
    · rw [if_neg h0] at hdn
      obtain ⟨rfl, l', v, ⟨pb, pd, hp, hch⟩, hcv⟩ := hdn
      refine ⟨0, rfl, ?_⟩
      have e1 : D.writeD (k : Int) b = { D.doneD with pend := D.doneD.pend ++ [(k, b)] } := by unfold Dk.writeD; rw [unhide hnd, if_pos (unhide hhas), if_neg h0, Int.toNat_natCast]; rfl
      have e2 : D.writeE (k : Int) = 0 := by unfold Dk.writeE; rw [unhide hnd, if_pos (unhide hhas), if_neg h0]; rfl
      show Ch (pdF g sg pa) g (D.writeD (k : Int) b) (D.writeE (k : Int)) w _ u2
      rw [e1, e2]
      refine ⟨pdF g sg pb, rfl, ⟨sg, sc, C, pb, pd, l', hp, rfl⟩, ?_⟩
      have hw : Chg (pdF g sg pa) (pdF g sg pa) w v := hB.gr.chg (hcv.wide (fun i hi => by rw [List.mem_singleton] at hi; rw [hi]; exact mem_pdF.2 (.inl rfl)) (fun i hi => .inl hi))
      exact ⟨hch.os.trans hw.os, hch.tape.trans hw.tape, hch.output.trans hw.output, Nat.le_trans hw.size hch.size, fun i hi hn => (hch.block i (Nat.lt_of_lt_of_le hi hw.size) hn).trans (hw.block i hi hn), fun i hi => (hch.new i hi).imp id (Nat.le_trans hw.size)⟩
  subst he9
  refine ⟨_, rfl, ?_⟩
  clear hB hdn
  simp only [nrm]
  (refine wpList_step fun K hK => ?_; replace hK := hide hK; go_simp; refine unhide hK _ _ ?_; clear hK K)
  refine wpList_nil ?_
  go_wp2_with fail
  rw [unhide hT]
  exact unhide hZ
theorem dwrite_ok (F : List Nat) (g m : Nat) (D : Dk) (hD : D.Ok m) (hm : m ≤ 1000000) (i : Int) (b : List Int) (hb : BB b) (w : World) (h : Lies F g D w) : Calls Tryd.prog 77 #[P0 g, .int .i64 i, .agg (kc b)] w (Ch F g (D.writeD i b) (D.writeE i) w) := by
  obtain ⟨sg, sc, C, pa, pc, l, h, rfl⟩ := h
  exact dwrite_p g D sg sc C pa pc l i b hb m hD hm w h
theorem Lies.gr {F : List Nat} {g : Nat} {D : Dk} {v u : World} (h : Lies F g D v) (k : Gr v u) : Lies F g D u := h.keep k.size (fun i hi => k.block i (h.lt i hi))
theorem Lies.bt {F : List Nat} {g b : Nat} {D : Dk} {v u : World} (h : Lies F g D v) (k : Bt b v u) (hb : b ∉ F) : Lies F g D u := h.keep k.size (fun i hi => k.block i (h.lt i hi) (fun e => hb (e ▸ hi)))
theorem getD_setD {α : Type} (l : List α) (i j : Nat) (x d : α) (hi : i < l.length) : (l.set i x).getD j d = if i = j then x else l.getD j d := by
  rw [List.getD_eq_getElem?_getD, List.getD_eq_getElem?_getD]
  by_cases h : i = j
  · subst h
    rw [List.getElem?_set_self hi, if_pos rfl]
    rfl
  · rw [List.getElem?_set_ne h, if_neg h]
theorem getD_app {α : Type} (l m : List α) (j : Nat) (d : α) (h : j < l.length) : (l ++ m).getD j d = l.getD j d := by
  rw [List.getD_eq_getElem?_getD, List.getD_eq_getElem?_getD, List.getElem?_append_left h]
theorem curL_app (S : List (List Int)) (P : List (Nat × List Int)) (x : Nat × List Int) (i : Nat) : ∀ k, k ≤ P.length → curL S (P ++ [x]) i k = curL S P i k
  | 0, _ => rfl
  | k + 1, h => by
    unfold curL
    rw [getD_app P [x] k _ (by omega), curL_app S P x i k (by omega)]
theorem curL_snoc (S : List (List Int)) (P : List (Nat × List Int)) (x : Nat × List Int) (i : Nat) : curL S (P ++ [x]) i (P ++ [x]).length = if x.1 = i then x.2 else curL S P i P.length := by
  rw [List.length_append, List.length_singleton]
  show (if ((P ++ [x]).getD P.length (0, [])).1 = i then ((P ++ [x]).getD P.length (0, [])).2 else curL S (P ++ [x]) i P.length) = _
  have e : (P ++ [x]).getD P.length (0, []) = x := by
    rw [List.getD_eq_getElem?_getD, List.getElem?_append_right (Nat.le_refl _), Nat.sub_self]
    rfl
  rw [e, curL_app S P x i P.length (Nat.le_refl _)]
theorem liv_all (S : List (List Int)) (P : List (Nat × List Int)) (hP : ∀ x ∈ P, x.1 < S.length) (n i : Nat) : ∀ k, k ≤ n → k ≤ P.length → (liv S P (List.replicate n true) k).getD i [] = curL S P i k
  | 0, _, _ => rfl
  | k + 1, h1, h2 => by
    have ih := liv_all S P hP n i k (by omega) (by omega)
    have e : (List.replicate n true).getD k false = true := by
      rw [List.getD_eq_getElem?_getD, List.getElem?_replicate, if_pos (by omega)]
      rfl
    unfold liv curL
    rw [e, if_pos rfl, getD_setD _ _ _ _ _ (by rw [liv_len]; exact hP _ (mem_of_getD (by omega))), ih]
theorem Dk.sync_cur {D : Dk} (hd : D.dead = false) (hl : D.left ≠ 0) (hP : ∀ x ∈ D.pend, x.1 < D.safe.length) (i : Nat) : D.syncD.cur i = D.cur i := by
  obtain ⟨S, P, dd, lf, os⟩ := D
  obtain ⟨d2, l2, o2, h2⟩ := done_form S P dd lf os
  have e : (Dk.mk S P dd lf os).syncD = (Dk.mk S P d2 l2 o2).live (List.replicate P.length true) := by
    unfold Dk.syncD
    rw [hd, if_neg (by decide), if_neg (show ¬ (Dk.mk S P dd lf os).left = 0 from hl), h2]
    rfl
  rw [e]
  exact liv_all S P hP P.length i P.length (Nat.le_refl _) (Nat.le_refl _)
theorem Dk.write_cur {D : Dk} (hd : D.dead = false) (hl : D.left ≠ 0) (a : Int) (ha : D.has a) (b : List Int) (i : Nat) : (D.writeD a b).cur i = if a.toNat = i then b else D.cur i := by
  obtain ⟨S, P, dd, lf, os⟩ := D
  obtain ⟨d2, l2, o2, h2⟩ := done_form S P dd lf os
  have e : (Dk.mk S P dd lf os).writeD a b = Dk.mk S (P ++ [(a.toNat, b)]) d2 l2 o2 := by
    unfold Dk.writeD
    rw [hd, if_neg (by decide), if_pos ha, if_neg (show ¬ (Dk.mk S P dd lf os).left = 0 from hl), h2]
  rw [e]
  exact curL_snoc S P (a.toNat, b) i
theorem list_off {P : Program} {ops : Array Oper} {Q : Exit → Act → World → Prop} {rest : List Oper} {o : Oper} {a : Act} {w : World} (hw : Region.wanted o (yielded ops a.tmps) = false) (h : wpList P ops Q rest (a.put o.dst undef) w) : wpList P ops Q (o :: rest) a w := by
  refine wpList_step fun K hK => ?_
  rw [if_neg (ne_true_of_eq_false hw)]
  exact hK _ _ h
def putU : List Oper → Act → Act
  | [], a => a
  | o :: os, a => putU os (a.put o.dst undef)
def offB (ops : Array Oper) : List Oper → Act → Bool
  | [], _ => true
  | o :: os, a => !(Region.wanted o (yielded ops a.tmps)) && offB ops os (a.put o.dst undef)
theorem list_offs {P : Program} {ops : Array Oper} {Q : Exit → Act → World → Prop} {w : World} : ∀ (k : Nat) (rest : List Oper) (a : Act), offB ops (rest.take k) a = true → wpList P ops Q (rest.drop k) (putU (rest.take k) a) w → wpList P ops Q rest a w
  | 0, rest, a, _, h => h
  | k + 1, [], a, _, h => h
  | k + 1, o :: rest, a, ho, h => by
    simp only [List.take_succ_cons, offB, Bool.and_eq_true, Bool.not_eq_true'] at ho
    exact list_off ho.1 (list_offs k rest _ ho.2 h)
theorem list_val_offs {P : Program} {ops : Array Oper} {Q : Exit → Act → World → Prop} {rest : List Oper} {o : Oper} {a : Act} {w : World} (k : Nat) (v : Value) (hw : Region.wanted o (yielded ops a.tmps) = true) (hx : (execOp a.eval o).run P w = .ok (.value v) w) (ho : offB ops (rest.take k) (a.put o.dst v) = true) (h : wpList P ops Q (rest.drop k) (putU (rest.take k) (a.put o.dst v)) w) : wpList P ops Q (o :: rest) a w :=
  list_val v hw hx (list_offs k rest _ ho h)
section
variable {w v u : World} {L : List (List Nat × Nat × Dk)} {F F' : List Nat} {g n : Nat} {D D' : Dk}
end
/-! armed -/
theorem read_cur {D : Dk} (hd : D.dead = false) (i : Nat) (hi : i < D.safe.length) : D.readB (i : Int) = D.cur i := by
  unfold Dk.readB
  rw [hd, if_neg (by decide), if_pos (by unfold Dk.has; omega)]
  rfl
theorem liv_pick (S : List (List Int)) (P : List (Nat × List Int)) (keep : List Bool) (hP : ∀ x ∈ P, x.1 < S.length) (i : Nat) : ∀ K, K ≤ P.length → (liv S P keep K).getD i [] = S.getD i [] ∨ ∃ k, k < K ∧ (P.getD k (0, [])).1 = i ∧ (liv S P keep K).getD i [] = (P.getD k (0, [])).2
  | 0, _ => .inl rfl
  | K + 1, hK => by
    have ih := liv_pick S P keep hP i K (by omega)
    have hlt : (P.getD K (0, [])).1 < (liv S P keep K).length := by
      rw [liv_len]
      refine hP _ ?_
      rw [List.getD_eq_getElem?_getD, List.getElem?_eq_getElem (by omega)]
      exact List.getElem_mem _
    unfold liv
    split
    · rw [getD_setD _ _ _ _ _ hlt]
      split
      · rename_i e
        exact .inr ⟨K, by omega, e, rfl⟩
      · rcases ih with h | ⟨k, h1, h2, h3⟩
        · exact .inl h
        · exact .inr ⟨k, by omega, h2, h3⟩
    · rcases ih with h | ⟨k, h1, h2, h3⟩
      · exact .inl h
      · exact .inr ⟨k, by omega, h2, h3⟩
def lowL (x : Int) : Nat → List Int
  | 0 => []
  | k + 1 => x % 256 :: lowL (x / 256) k
theorem lowL_len (x : Int) (k : Nat) : (lowL x k).length = k := by
  induction k generalizing x with
  | zero => rfl
  | succ k ih => simp [lowL, ih]
theorem lowL_isB (x : Int) (k : Nat) : IsB (lowL x k) := by
  induction k generalizing x with
  | zero => intro y hy; cases hy
  | succ k ih =>
    intro y hy
    simp only [lowL, List.mem_cons] at hy
    rcases hy with rfl | hy
    · omega
    · exact ih _ y hy
def lowN : List Int → Int
  | [] => 0
  | x :: r => x + 256 * lowN r
theorem lowN_bd (l : List Int) (h : IsB l) : 0 ≤ lowN l ∧ lowN l < 256 ^ l.length := by
  induction l with
  | nil => simp [lowN]
  | cons x r ih =>
    have := ih (fun y hy => h y (List.mem_cons_of_mem _ hy))
    have hx := h x (List.mem_cons_self ..)
    simp only [lowN, List.length_cons]
    rw [Int.pow_succ]
    omega
theorem lowN_lowL : ∀ (k : Nat) (x : Int), 0 ≤ x → x < 256 ^ k → lowN (lowL x k) = x
  | 0, x, h1, h2 => by
    rw [Int.pow_zero] at h2
    show (0 : Int) = x
    omega
  | k + 1, x, h1, h2 => by
    rw [Int.pow_succ] at h2
    have ih := lowN_lowL k (x / 256) (by omega) (by omega)
    rw [lowL, lowN, ih]
    omega
theorem lowL_lowN : ∀ (l : List Int), IsB l → lowL (lowN l) l.length = l
  | [], _ => rfl
  | x :: r, h => by
    have hx := h x List.mem_cons_self
    have ih := lowL_lowN r (fun y hy => h y (List.mem_cons_of_mem _ hy))
    rw [lowN, List.length_cons, lowL]
    have e1 : (x + 256 * lowN r) % 256 = x := by omega
    have e2 : (x + 256 * lowN r) / 256 = lowN r := by omega
    rw [e1, e2, ih]
def sh16 (L : List Int) : List Int := (sumL L).take 16
theorem sh16_len (L : List Int) : (sh16 L).length = 16 := by unfold sh16; rw [List.length_take, sumL_len]; rfl
theorem sh16_isB (L : List Int) (h : IsB (sumL L)) : IsB (sh16 L) := fun x hx => h x (List.mem_of_mem_take hx)
def htr : List Int := [104, 111, 108, 108, 111, 119, 116, 114, 101, 101]
structure Sup where
  place : Nat
  turn : Nat
  size : Nat
  hash : List Int
structure Sup.Ok (s : Sup) : Prop where
  p : s.place < 2
  t : s.turn < 18446744073709551616
  z : s.size < 4294967296
  hl : s.hash.length = 16
  hb : IsB s.hash
def Sup.b48 (s : Sup) : List Int := htr ++ ([(s.place : Int), 0] ++ (lowL (s.turn : Int) 8 ++ (lowL (s.size : Int) 4 ++ (s.hash ++ List.replicate 8 0))))
def Sup.blk (s : Sup) : List Int := s.b48 ++ sh16 s.b48
theorem Sup.b48_len (s : Sup) (h : s.hash.length = 16) : s.b48.length = 48 := by
  unfold Sup.b48 htr
  simp [lowL_len, h]
theorem Sup.blk_len (s : Sup) (h : s.hash.length = 16) : s.blk.length = 64 := by
  unfold Sup.blk
  rw [List.length_append, s.b48_len h, sh16_len]
def supOf (b : List Int) : Sup := ⟨(b.getD 10 0).toNat, (lowN ((b.drop 12).take 8)).toNat, (lowN ((b.drop 20).take 4)).toNat, (b.drop 24).take 16⟩
def rightB (b : List Int) : Bool := decide (b.take 10 = htr ∧ b.getD 10 0 < 2 ∧ (b.getD 11 0 = 0 ∧ (b.drop 40).take 8 = List.replicate 8 0) ∧ b.drop 48 = sh16 (b.take 48))
theorem drop_app {α : Type} (a b : List α) (n m : Nat) (h : a.length = n) : (a ++ b).drop (n + m) = b.drop m := by
  rw [List.drop_append, h, List.drop_eq_nil_of_le (by omega), List.nil_append]
  congr 1
  omega
theorem take_app {α : Type} (a b : List α) (n : Nat) (h : a.length = n) : (a ++ b).take n = a := by
  rw [← h]
  exact List.take_left
theorem Sup.parts (s : Sup) (h : s.hash.length = 16) (T : List Int) :
    let b := s.b48 ++ T
    b.take 10 = htr ∧ b.getD 10 0 = (s.place : Int) ∧ b.getD 11 0 = 0 ∧ (b.drop 12).take 8 = lowL (s.turn : Int) 8 ∧ (b.drop 20).take 4 = lowL (s.size : Int) 4 ∧ (b.drop 24).take 16 = s.hash ∧ (b.drop 40).take 8 = List.replicate 8 0 ∧ b.take 48 = s.b48 ∧ b.drop 48 = T := by
  intro b
  have hb : b = htr ++ ([(s.place : Int), 0] ++ (lowL (s.turn : Int) 8 ++ (lowL (s.size : Int) 4 ++ (s.hash ++ (List.replicate 8 0 ++ T))))) := by
    show s.b48 ++ T = _
    unfold Sup.b48
    simp only [List.append_assoc]
  have l1 := lowL_len (s.turn : Int) 8
  have l2 := lowL_len (s.size : Int) 4
  have d12 : b.drop 12 = lowL (s.turn : Int) 8 ++ (lowL (s.size : Int) 4 ++ (s.hash ++ (List.replicate 8 0 ++ T))) := by rw [hb]; rfl
  have d20 : b.drop 20 = lowL (s.size : Int) 4 ++ (s.hash ++ (List.replicate 8 0 ++ T)) := by
    rw [show (20 : Nat) = 12 + 8 from rfl, ← List.drop_drop, d12]
    exact drop_app _ _ 8 0 l1
  have d24 : b.drop 24 = s.hash ++ (List.replicate 8 0 ++ T) := by
    rw [show (24 : Nat) = 20 + 4 from rfl, ← List.drop_drop, d20]
    exact drop_app _ _ 4 0 l2
  have d40 : b.drop 40 = List.replicate 8 0 ++ T := by
    rw [show (40 : Nat) = 24 + 16 from rfl, ← List.drop_drop, d24]
    exact drop_app _ _ 16 0 h
  refine ⟨by rw [hb]; rfl, by rw [hb]; rfl, by rw [hb]; rfl, ?_, ?_, ?_, ?_, ?_, ?_⟩
  · rw [d12]; exact take_app _ _ 8 l1
  · rw [d20]; exact take_app _ _ 4 l2
  · rw [d24]; exact take_app _ _ 16 h
  · rw [d40]; exact take_app _ _ 8 (by simp)
  · exact take_app _ _ 48 (s.b48_len h)
  · exact drop_app _ _ 48 0 (s.b48_len h)
theorem supOf_blk {s : Sup} (h : s.Ok) : supOf s.blk = s := by
  obtain ⟨_, h2, _, h4, h5, h6, _⟩ := s.parts h.hl (sh16 s.b48)
  have ht := h.t
  have hz := h.z
  unfold supOf Sup.blk
  rw [h2, h4, h5, h6, lowN_lowL 8 _ (by omega) (by rw [show (256 : Int) ^ 8 = 18446744073709551616 from by decide]; omega), lowN_lowL 4 _ (by omega) (by rw [show (256 : Int) ^ 4 = 4294967296 from by decide]; omega)]
  obtain ⟨p, t, z, hh⟩ := s
  simp
theorem right_blk {s : Sup} (h : s.Ok) : rightB s.blk = true := by
  obtain ⟨h1, h2, h3, _, _, _, h7, h8, h9⟩ := s.parts h.hl (sh16 s.b48)
  have hp := h.p
  unfold rightB Sup.blk
  rw [h1, h2, h3, h7, h8, h9]
  simp
  omega
theorem take_split {α : Type} (l : List α) (n m : Nat) : l.drop n = (l.drop n).take m ++ l.drop (n + m) := by
  rw [← List.drop_drop]
  exact (List.take_append_drop m _).symm
theorem right_eq {b : List Int} (hb : BB b) (h : rightB b = true) : (supOf b).Ok ∧ b = (supOf b).blk := by
  unfold rightB at h
  obtain ⟨h1, h2, ⟨h3, h4⟩, h5⟩ := of_decide_eq_true h
  have hl := hb.1
  have hB := hb.2
  have m8 : ((b.drop 12).take 8).length = 8 := by rw [List.length_take, List.length_drop]; omega
  have m4 : ((b.drop 20).take 4).length = 4 := by rw [List.length_take, List.length_drop]; omega
  have m16 : ((b.drop 24).take 16).length = 16 := by rw [List.length_take, List.length_drop]; omega
  have i8 : IsB ((b.drop 12).take 8) := fun x hx => hB x (List.mem_of_mem_drop (List.mem_of_mem_take hx))
  have i4 : IsB ((b.drop 20).take 4) := fun x hx => hB x (List.mem_of_mem_drop (List.mem_of_mem_take hx))
  have i16 : IsB ((b.drop 24).take 16) := fun x hx => hB x (List.mem_of_mem_drop (List.mem_of_mem_take hx))
  have b8 := lowN_bd _ i8
  have b4 := lowN_bd _ i4
  rw [m8] at b8
  rw [m4] at b4
  have e8 : (256 : Int) ^ 8 = 18446744073709551616 := by decide
  have e4 : (256 : Int) ^ 4 = 4294967296 := by decide
  rw [e8] at b8
  rw [e4] at b4
  have g10 : 0 ≤ b.getD 10 0 := by
    rw [List.getD_eq_getElem?_getD, List.getElem?_eq_getElem (by omega)]
    exact (hB _ (List.getElem_mem _)).1
  refine ⟨⟨by show (b.getD 10 0).toNat < 2; omega, by show (lowN _).toNat < _; omega, by show (lowN _).toNat < _; omega, m16, i16⟩, ?_⟩
  have e48 : b.take 48 = (supOf b).b48 := by
    unfold Sup.b48 supOf
    dsimp only
    rw [Int.toNat_of_nonneg g10, Int.toNat_of_nonneg b8.1, Int.toNat_of_nonneg b4.1]
    have r8 := lowL_lowN _ i8
    have r4 := lowL_lowN _ i4
    rw [m8] at r8
    rw [m4] at r4
    rw [r8, r4, ← h1, ← h4]
    have x10 : (b.drop 10).take 2 = [b.getD 10 0, 0] := by
      apply List.ext_getElem
      · rw [List.length_take, List.length_drop]
        simp
        omega
      · intro i h1 h2
        have : i = 0 ∨ i = 1 := by simp at h2; omega
        rcases this with rfl | rfl
        · simp [List.getD_eq_getElem?_getD, hl]
        · have h6 : b[11]'(by omega) = 0 := by
            rw [List.getD_eq_getElem?_getD, List.getElem?_eq_getElem (by omega)] at h3
            exact h3
          simpa using h6
    rw [← x10]
    have s0 := take_split (b.take 48) 0 10
    have s1 := take_split (b.take 48) 10 2
    have s2 := take_split (b.take 48) 12 8
    have s3 := take_split (b.take 48) 20 4
    have s4 := take_split (b.take 48) 24 16
    have s5 := take_split (b.take 48) 40 8
    have s6 : (b.take 48).drop 48 = [] := List.drop_eq_nil_of_le (by rw [List.length_take]; omega)
    rw [List.drop_zero] at s0
    have tk : ∀ n m, n + m ≤ 48 → ((b.take 48).drop n).take m = (b.drop n).take m := by
      intro n m hnm
      rw [List.drop_take, List.take_take]
      congr 1
      omega
    rw [tk 10 2 (by omega)] at s1
    rw [tk 12 8 (by omega)] at s2
    rw [tk 20 4 (by omega)] at s3
    rw [tk 24 16 (by omega)] at s4
    rw [tk 40 8 (by omega), s6, List.append_nil] at s5
    rw [show ((b.take 48).take 10) = b.take 10 from by rw [List.take_take]; rfl] at s0
    rw [s0, s1, s2, s3, s4, s5]
  unfold Sup.blk
  rw [← e48, ← h5]
  exact (List.take_append_drop 48 b).symm
def cntS (b0 b1 : List Int) : Sup × Bool := if rightB b0 = false ∨ (rightB b1 = true ∧ (supOf b0).turn < (supOf b1).turn) then (supOf b1, rightB b1) else (supOf b0, rightB b0)
def chk (L : List Int) (i : Nat) : List Int := ((L.drop (64 * i)).take 64) ++ List.replicate (64 - ((L.drop (64 * i)).take 64).length) 0
theorem chk_len (L : List Int) (i : Nat) : (chk L i).length = 64 := by
  unfold chk
  have : ((L.drop (64 * i)).take 64).length ≤ 64 := by rw [List.length_take]; omega
  rw [List.length_append, List.length_replicate]
  omega
theorem chk_bb {L : List Int} (h : IsB L) (i : Nat) : BB (chk L i) := by
  refine ⟨chk_len L i, fun x hx => ?_⟩
  unfold chk at hx
  rcases List.mem_append.1 hx with hx | hx
  · exact h x (List.mem_of_mem_drop (List.mem_of_mem_take hx))
  · rw [List.eq_of_mem_replicate hx]
    omega
def rows (B : Nat → List Int) (o : Nat) : Nat → List Int
  | 0 => []
  | k + 1 => rows B o k ++ B (o + k)
theorem rows_chk {B : Nat → List Int} {o : Nat} {L : List Int} : ∀ (k : Nat), 64 * k ≤ L.length → (∀ i, i < k → B (o + i) = chk L i) → rows B o k = L.take (64 * k)
  | 0, _, _ => by simp [rows]
  | k + 1, hk, h => by
    rw [rows, rows_chk k (by omega) (fun i hi => h i (by omega)), h k (by omega)]
    unfold chk
    have e : ((L.drop (64 * k)).take 64).length = 64 := by rw [List.length_take, List.length_drop]; omega
    rw [e, Nat.sub_self, List.replicate_zero, List.append_nil, show 64 * (k + 1) = 64 * k + 64 from by omega, List.take_add]
theorem rows_all {B : Nat → List Int} {o : Nat} {L : List Int} (k : Nat) (h1 : L.length ≤ 64 * k) (h2 : 64 * k < L.length + 64) (h : ∀ i, 64 * i < L.length → B (o + i) = chk L i) : (rows B o k).take L.length = L := by
  cases k with
  | zero =>
    have e : L = [] := List.eq_nil_of_length_eq_zero (by omega)
    rw [e]
    rfl
  | succ k =>
    rw [rows, rows_chk k (by omega) (fun i hi => h i (by omega)), h k (by omega)]
    unfold chk
    have e0 : (L.drop (64 * k)).take 64 = L.drop (64 * k) := List.take_of_length_le (by rw [List.length_drop]; omega)
    rw [e0, ← List.append_assoc, List.take_append_drop]
    exact take_app _ _ _ rfl
structure Hs (B : Nat → List Int) (h : Nat) (s : Sup) (L : List Int) : Prop where
  ok : s.Ok
  isB : IsB L
  len : L.length = s.size
  fit : s.size ≤ 64 * h
  hash : s.hash = sh16 L
  sup : B (s.turn % 2) = s.blk
  oth : rightB (B ((s.turn + 1) % 2)) = true → (supOf (B ((s.turn + 1) % 2))).turn < s.turn
  dat : ∀ i, 64 * i < s.size → B (2 + s.place * h + i) = chk L i
theorem Hs.cnt {B : Nat → List Int} {h : Nat} {s : Sup} {L : List Int} (k : Hs B h s L) : cntS (B 0) (B 1) = (s, true) := by
  have e1 := supOf_blk k.ok
  have e2 := right_blk k.ok
  have hs := k.sup
  have ho := k.oth
  rcases Nat.mod_two_eq_zero_or_one s.turn with h0 | h0
  · have h1 : (s.turn + 1) % 2 = 1 := by omega
    rw [h0] at hs
    rw [h1] at ho
    unfold cntS
    rw [hs, e1, e2, if_neg]
    rintro (h | ⟨h, h2⟩)
    · cases h
    · have := ho h
      omega
  · have h1 : (s.turn + 1) % 2 = 0 := by omega
    rw [h0] at hs
    rw [h1] at ho
    unfold cntS
    rw [hs, e1, e2, if_pos]
    cases hr : rightB (B 0) with
    | false => exact .inl rfl
    | true => exact .inr ⟨rfl, ho hr⟩
theorem Hs.keep {B C : Nat → List Int} {h : Nat} {s : Sup} {L : List Int} (k : Hs B h s L) (h0 : C 0 = B 0) (h1 : C 1 = B 1) (hd : ∀ i, 64 * i < s.size → C (2 + s.place * h + i) = B (2 + s.place * h + i)) : Hs C h s L := by
  have e : ∀ n, n % 2 < 2 := fun n => Nat.mod_lt _ (by omega)
  have hc : ∀ n, C (n % 2) = B (n % 2) := fun n => by
    rcases Nat.mod_two_eq_zero_or_one n with h | h <;> rw [h] <;> assumption
  exact ⟨k.ok, k.isB, k.len, k.fit, k.hash, by rw [hc]; exact k.sup, by rw [hc]; exact k.oth, fun i hi => (hd i hi).trans (k.dat i hi)⟩
def Sup.next (s : Sup) (M : List Int) : Sup := ⟨1 - s.place, s.turn + 1, M.length, sh16 M⟩
theorem Sup.next_is (s : Sup) (M : List Int) : (s.next M).turn = s.turn + 1 ∧ (s.next M).size = M.length ∧ (s.next M).place = 1 - s.place ∧ (s.next M).hash = sh16 M := by
  simp only [Sup.next, and_self]
theorem Sup.next_ok {s : Sup} (k : s.Ok) (M : List Int) (hM : M.length < 4294967296) (ht : s.turn + 1 < 18446744073709551616) (hb : IsB (sumL M)) : (s.next M).Ok := by
  obtain ⟨e1, e2, e3, e4⟩ := s.next_is M
  generalize s.next M = x at *
  have hp : x.place < 2 := by omega
  rw [← e1] at ht
  rw [← e2] at hM
  have h1 : x.hash.length = 16 := by rw [e4]; exact sh16_len M
  have h2 : IsB x.hash := by rw [e4]; exact sh16_isB M hb
  exact ⟨hp, ht, hM, h1, h2⟩
theorem Hs.next {B C : Nat → List Int} {h : Nat} {s : Sup} {L M : List Int} (k : Hs B h s L) (hM : IsB M) (hf : M.length ≤ 64 * h) (hok : (s.next M).Ok) (h0 : C ((s.turn + 1) % 2) = (s.next M).blk) (h1 : C (s.turn % 2) = B (s.turn % 2)) (hd : ∀ i, 64 * i < M.length → C (2 + (1 - s.place) * h + i) = chk M i) : Hs C h (s.next M) M := by
  obtain ⟨e1, e2, e3, e4⟩ := s.next_is M
  have e5 := supOf_blk k.ok
  have e6 := k.sup
  have e : (s.turn + 1 + 1) % 2 = s.turn % 2 := by omega
  generalize s.next M = x at *
  rw [← e2] at hf hd
  rw [← e3] at hd
  rw [← e1] at h0
  refine ⟨hok, hM, e2.symm, hf, e4, h0, ?_, hd⟩
  rw [e1, e, h1, e6, e5]
  exact fun _ => Nat.lt_succ_self _
theorem sumL_isB (B : List Int) : IsB (sumL B) := keyL_isB _
structure Lb (w : World) (a : Option Addr) (n c : Nat) (P : List Int) : Prop where
  len : P.length = n
  isB : IsB P
  sl : Sl w a P
  cap : n ≤ c
  max : c < 9223372036854775808
theorem Lb.gr {w v : World} {a : Option Addr} {n c : Nat} {P : List Int} (h : Lb w a n c P) (k : Gr w v) : Lb v a n c P := ⟨h.len, h.isB, h.sl.gr k, h.cap, h.max⟩
theorem Lb.nil (w : World) : Lb w none 0 0 [] := ⟨rfl, (by intro x hx; cases hx), .inl rfl, by omega, by omega⟩
def Infd (L : List Int) (w : World) (r : Ending) (w' : World) : Prop := ∃ v, r = .returned v ∧ Ob w.heap.size w' v L ∧ Gr w w'
theorem lowL_snoc (x : Int) (k : Nat) : lowL x (k + 1) = lowL x k ++ [x / 256 ^ k % 256] := by
  induction k generalizing x with
  | zero => simp [lowL]
  | succ k ih =>
    have e : x / 256 / 256 ^ k = x / 256 ^ (k + 1) := by rw [Int.pow_succ, Int.mul_comm, Int.ediv_ediv_of_nonneg (by omega)]
    rw [lowL, ih, lowL, List.cons_append, e]
theorem ob_base {b c : Nat} {w : World} {v : Value} {L : List Int} (h : Ob b w v L) (hc : c ≤ b) : Ob c w v L := by
  refine ⟨h.1, ?_⟩
  rcases h.2 with h1 | ⟨g, cap, cur, h1, h2, h3⟩
  · exact .inl h1
  · exact .inr ⟨g, cap, cur, h1, Nat.le_trans hc h2, h3⟩
theorem Tryd.infoKy : (Tryd.prog.info? 128).map (·.size) = some 32 := by kernel_rfl
theorem exec_const {op : Oper} {a : Act} (w : World) (x : Operand) (ho : op.op = .convert 32 32 x) (C : Array Value) (n c : Nat) (hx : a.eval x = .slice (some ⟨w.heap.size, 0, none⟩) n c) :
    (execOp a.eval op).run Tryd.prog (w.alloc (.cells C 5 (0, 0))) = .ok (.value (.slice (some ⟨w.heap.size, 0, none⟩) n c)) (w.alloc (.cells C 5 (C.size, C.size + 1))) := by
  have h := Lib.run_convert_bytes_const (P := Tryd.prog) w 32 5 C n c Tryd.underlying32 Tryd.underlying5
  unfold execOp
  simp only [ho, hx, Sem.run_bind, h, Result.andThen_ok, Sem.run_pure]
theorem htr_isB : IsB htr := by intro x hx; unfold htr at hx; simp at hx; omega
theorem ob_lb {b : Nat} {w : World} {v : Value} {L : List Int} (h : Ob b w v L) (hb : IsB L) {n : Nat} (hn : L.length = n) : ∃ a c, v = .slice a n c ∧ Lb w a n c L := by
  obtain ⟨a, c, h1, h2, h3, h4⟩ := h.slice
  subst hn
  exact ⟨a, c, h1, rfl, hb, h4, h2, by unfold maxLen at h3; omega⟩
theorem nw_lb {w : World} {g n : Nat} {L : List Int} (h : w.heap[g]? = some (.cells (kc L) 5 (0, 0))) (hb : IsB L) (hn : L.length = n) (hs : n < 9223372036854775808) : Lb w (some ⟨g, 0, none⟩) n n L := ⟨hn, hb, .inr ⟨g, 0, rfl, kc_at h⟩, Nat.le_refl _, hs⟩
theorem isB_app {A B : List Int} (ha : IsB A) (hb : IsB B) : IsB (A ++ B) := fun x hx => (List.mem_append.1 hx).elim (ha x) (hb x)
theorem isB_rep (n : Nat) : IsB (List.replicate n 0) := fun x hx => by rw [List.eq_of_mem_replicate hx]; omega
theorem sub_lb {v : World} {g : Nat} {b : List Int} {t : TypeId} (h : v.heap[g]? = some (.cells (kc b) t (0, 0))) (hb : IsB b) (o n c : Nat) (hon : o + n ≤ b.length) (hc : n ≤ c) (hm : c < 9223372036854775808) : Lb v (some ⟨g, o, none⟩) n c ((b.drop o).take n) := by
  refine ⟨by rw [List.length_take, List.length_drop]; omega, fun x hx => hb x (List.mem_of_mem_drop (List.mem_of_mem_take hx)), .inr ⟨g, o, rfl, fun j hj => ?_⟩, hc, hm⟩
  rw [List.length_take, List.length_drop] at hj
  rw [kc_cell h (o + j) (by omega), List.getD_eq_getElem?_getD, List.getD_eq_getElem?_getD, List.getElem?_take, if_pos (by omega), List.getElem?_drop]
theorem byte_mem {b : List Int} (hb : IsB b) (i : Nat) : 0 ≤ b.getD i 0 ∧ b.getD i 0 < 256 := by
  rw [List.getD_eq_getElem?_getD]
  by_cases h : i < b.length
  · rw [List.getElem?_eq_getElem h]
    exact hb _ (List.getElem_mem _)
  · rw [List.getElem?_eq_none (by omega)]
    exact ⟨by decide, by decide⟩
theorem sup_nums {b : List Int} (hb : BB b) : ((supOf b).place : Int) = b.getD 10 0 ∧ ((supOf b).turn : Int) = lowN ((b.drop 12).take 8) ∧ ((supOf b).size : Int) = lowN ((b.drop 20).take 4) ∧ (supOf b).hash = (b.drop 24).take 16 ∧ 0 ≤ lowN ((b.drop 12).take 8) ∧ lowN ((b.drop 12).take 8) < 18446744073709551616 ∧ 0 ≤ lowN ((b.drop 20).take 4) ∧ lowN ((b.drop 20).take 4) < 4294967296 := by
  have hl := hb.1
  have i8 : IsB ((b.drop 12).take 8) := fun x hx => hb.2 x (List.mem_of_mem_drop (List.mem_of_mem_take hx))
  have i4 : IsB ((b.drop 20).take 4) := fun x hx => hb.2 x (List.mem_of_mem_drop (List.mem_of_mem_take hx))
  have b8 := lowN_bd _ i8
  have b4 := lowN_bd _ i4
  rw [show ((b.drop 12).take 8).length = 8 from by rw [List.length_take, List.length_drop]; omega, show (256 : Int) ^ 8 = 18446744073709551616 from by decide] at b8
  rw [show ((b.drop 20).take 4).length = 4 from by rw [List.length_take, List.length_drop]; omega, show (256 : Int) ^ 4 = 4294967296 from by decide] at b4
  have h10 := byte_mem hb.2 10
  exact ⟨Int.toNat_of_nonneg h10.1, Int.toNat_of_nonneg b8.1, Int.toNat_of_nonneg b4.1, rfl, b8.1, b8.2, b4.1, b4.2⟩
section
variable {P : Program} {md : Region.Mode} {ops : Array Oper} {Q : Exit → Act → World → Prop} {S : World → Prop}
end
theorem exec_u64 {op : Oper} {a : Act} (w : World) (x : Operand) (ho : op.op = .load 47 x) (g i : Nat) (hx : a.eval x = .pointer (some ⟨g, i, none⟩)) (v : Int) (hc : w.cell? ⟨g, i, none⟩ = some (.int .u64 v)) : (execOp a.eval op).run Tryd.prog w = .ok (.value (.int .u64 v)) w := by
  unfold execOp
  simp only [ho, hx, Instr.loadAt, Instr.sureAddr, Sem.run_bind, Sem.run_pure, Result.andThen_ok]
  go_simp
theorem cnt_ok {b0 b1 : List Int} (h0 : BB b0) (h1 : BB b1) : (cntS b0 b1).1.size < 4294967296 ∧ (cntS b0 b1).1.hash.length = 16 ∧ IsB (cntS b0 b1).1.hash ∧ ((cntS b0 b1).2 = true → (cntS b0 b1).1.place < 2) := by
  have f : ∀ b, BB b → (supOf b).size < 4294967296 ∧ (supOf b).hash.length = 16 ∧ IsB (supOf b).hash ∧ (rightB b = true → (supOf b).place < 2) := by
    intro b hb
    obtain ⟨_, _, h3, h4, _, _, _, h8⟩ := sup_nums hb
    have hl := hb.1
    refine ⟨by omega, by rw [h4, List.length_take, List.length_drop]; omega, by rw [h4]; exact fun x hx => hb.2 x (List.mem_of_mem_drop (List.mem_of_mem_take hx)), fun h => (right_eq hb h).1.p⟩
  unfold cntS
  split
  · exact f b1 h1
  · exact f b0 h0
theorem rows_len {B : Nat → List Int} {o : Nat} : ∀ (k : Nat), (∀ i, i < k → BB (B (o + i))) → (rows B o k).length = 64 * k ∧ IsB (rows B o k)
  | 0, _ => ⟨rfl, fun x hx => by cases hx⟩
  | k + 1, h => by
    obtain ⟨h1, h2⟩ := rows_len k (fun i hi => h i (by omega))
    have h3 := h k (by omega)
    refine ⟨by rw [rows, List.length_append, h1, h3.1]; omega, ?_⟩
    rw [rows]
    exact isB_app h2 h3.2
theorem exec_sby {op : Oper} {a : Act} (w : World) (x : Operand) (ho : op.op = .load 32 x) (g i : Nat) (hx : a.eval x = .pointer (some ⟨g, i, none⟩)) (s : Option Addr) (n c : Nat) (hc : w.cell? ⟨g, i, none⟩ = some (.slice s n c)) : (execOp a.eval op).run Tryd.prog w = .ok (.value (.slice s n c)) w := by
  unfold execOp
  simp only [ho, hx, Instr.loadAt, Instr.sureAddr, Sem.run_bind, Sem.run_pure, Result.andThen_ok]
  go_simp
theorem Lb.pre {w : World} {a : Option Addr} {n c : Nat} {P : List Int} (h : Lb w a n c P) (m : Nat) (hm : m ≤ n) : Lb w a m c (P.take m) := by
  have h1 := h.len
  have h2 := h.cap
  refine ⟨by rw [List.length_take]; omega, fun x hx => h.isB x (List.mem_of_mem_take hx), ?_, by omega, h.max⟩
  rcases h.sl with h3 | ⟨p, o, h3, h4⟩
  · left; rw [h3]; exact List.take_nil
  · right; exact ⟨p, o, h3, h4.take m⟩
def Dk.step (D : Dk) : Option (Nat × List Int) → Dk × Int
  | none => (D.syncD, D.syncE)
  | some x => (D.writeD (x.1 : Int) x.2, D.writeE (x.1 : Int))
def Dk.runD : List (Option (Nat × List Int)) → Dk → Dk × Int
  | [], D => (D, 0)
  | o :: r, D => if (D.step o).2 = 0 then Dk.runD r (D.step o).1 else D.step o
theorem run_app : ∀ (a b : List (Option (Nat × List Int))) (D : Dk), Dk.runD (a ++ b) D = if (Dk.runD a D).2 = 0 then Dk.runD b (Dk.runD a D).1 else Dk.runD a D
  | [], b, D => by simp [Dk.runD]
  | o :: r, b, D => by
    rw [List.cons_append, Dk.runD, Dk.runD]
    by_cases h : (D.step o).2 = 0
    · rw [if_pos h, if_pos h]
      exact run_app r b _
    · rw [if_neg h, if_neg h, if_neg h]
theorem step_write {D : Dk} (hd : D.dead = false) (x : Nat × List Int) (hx : x.1 < D.safe.length) (hl : D.left ≠ 0) : (D.step (some x)).2 = 0 ∧ (D.step (some x)).1.dead = false ∧ (D.step (some x)).1.safe = D.safe ∧ (D.step (some x)).1.pend = D.pend ++ [x] ∧ (D.step (some x)).1.left = (if 0 < D.left then D.left - 1 else D.left) ∧ (D.step (some x)).1.ops = D.ops + 1 := by
  have hh : D.has (x.1 : Int) := ⟨by omega, by omega⟩
  simp only [Dk.step, Dk.writeE, Dk.writeD]
  rw [hd]
  simp only [Bool.false_eq_true, if_false, if_pos hh, if_neg hl]
  unfold Dk.doneD
  rw [if_neg hl]
  refine ⟨trivial, hd, rfl, ?_, rfl, rfl⟩
  show D.pend ++ [((x.1 : Int).toNat, x.2)] = _
  rw [Int.toNat_natCast]
theorem step_write_off {D : Dk} (hd : D.dead = false) (x : Nat × List Int) (hx : x.1 < D.safe.length) (hl : D.left = 0) : (D.step (some x)).2 = 7 ∧ (D.step (some x)).1.dead = true ∧ (D.step (some x)).1.safe = D.safe ∧ (D.step (some x)).1.pend = D.pend := by
  have hh : D.has (x.1 : Int) := ⟨by omega, by omega⟩
  simp only [Dk.step, Dk.writeE, Dk.writeD]
  rw [hd]
  simp only [Bool.false_eq_true, if_false, if_pos hh, if_pos hl]
  unfold Dk.doneD
  rw [if_pos hl]
  exact ⟨trivial, rfl, rfl, rfl⟩
theorem step_sync {D : Dk} (hd : D.dead = false) (hl : D.left ≠ 0) : (D.step none).2 = 0 ∧ (D.step none).1.dead = false ∧ (D.step none).1.safe.length = D.safe.length ∧ (D.step none).1.pend = [] ∧ (D.step none).1.left = (if 0 < D.left then D.left - 1 else D.left) ∧ (D.step none).1.ops = D.ops + 1 := by
  simp only [Dk.step, Dk.syncE, Dk.syncD]
  rw [hd]
  simp only [Bool.false_eq_true, if_false, if_neg hl]
  refine ⟨trivial, ?_, ?_, rfl, ?_, ?_⟩
  · show D.doneD.dead = false
    unfold Dk.doneD
    rw [if_neg hl]
    exact hd
  · show (liv D.doneD.safe D.doneD.pend _ _).length = _
    rw [liv_len]
    unfold Dk.doneD
    rw [if_neg hl]
  · show D.doneD.left = _
    unfold Dk.doneD
    rw [if_neg hl]
  · show D.doneD.ops = _
    unfold Dk.doneD
    rw [if_neg hl]
theorem step_sync_off {D : Dk} (hd : D.dead = false) (hl : D.left = 0) : (D.step none).2 = 7 ∧ (D.step none).1.dead = true ∧ (D.step none).1.safe = D.safe ∧ (D.step none).1.pend = D.pend := by
  simp only [Dk.step, Dk.syncE, Dk.syncD]
  rw [hd]
  simp only [Bool.false_eq_true, if_false, if_pos hl]
  unfold Dk.doneD
  rw [if_pos hl]
  exact ⟨trivial, rfl, rfl, rfl⟩
structure Went (D E : Dk) (k : Nat) : Prop where
  dead : E.dead = false
  len : E.safe.length = D.safe.length
  left : D.left < 0 → E.left = D.left
  lo : -1 ≤ E.left
  ops : E.ops = D.ops + k
theorem run_writes : ∀ (X : List (Nat × List Int)) (D : Dk), D.dead = false → (∀ x ∈ X, x.1 < D.safe.length) → -1 ≤ D.left →
    ((Dk.runD (X.map some) D).2 = 0 ∧ Went D (Dk.runD (X.map some) D).1 X.length ∧ (Dk.runD (X.map some) D).1.safe = D.safe ∧ (Dk.runD (X.map some) D).1.pend = D.pend ++ X) ∨
    (0 ≤ D.left ∧ (Dk.runD (X.map some) D).2 = 7 ∧ (Dk.runD (X.map some) D).1.dead = true ∧ (Dk.runD (X.map some) D).1.safe = D.safe ∧ ∃ k, (Dk.runD (X.map some) D).1.pend = D.pend ++ X.take k)
  | [], D, hd, _, hl => .inl ⟨rfl, ⟨hd, rfl, fun _ => rfl, hl, rfl⟩, rfl, (List.append_nil _).symm⟩
  | x :: r, D, hd, hX, hl => by
    have hx := hX x List.mem_cons_self
    rw [List.map_cons, Dk.runD]
    by_cases h0 : D.left = 0
    · obtain ⟨e1, e2, e3, e4⟩ := step_write_off hd x hx h0
      right
      rw [if_neg (by rw [e1]; decide)]
      exact ⟨by omega, e1, e2, e3, 0, by rw [e4, List.take_zero, List.append_nil]⟩
    · obtain ⟨e1, e2, e3, e4, e5, e6⟩ := step_write hd x hx h0
      rw [if_pos e1]
      have hl2 : -1 ≤ (D.step (some x)).1.left := by rw [e5]; split <;> omega
      rcases run_writes r (D.step (some x)).1 e2 (fun y hy => by rw [e3]; exact hX y (List.mem_cons_of_mem _ hy)) hl2 with ⟨f1, f2, f3, f4⟩ | ⟨f0, f1, f2, f3, k, f4⟩
      · left
        refine ⟨f1, ⟨f2.dead, by rw [f2.len, e3], fun h => ?_, f2.lo, by rw [f2.ops, e6, List.length_cons]; omega⟩, by rw [f3, e3], by rw [f4, e4, List.append_assoc]; rfl⟩
        rw [f2.left (by rw [e5, if_neg (by omega)]; exact h), e5, if_neg (by omega)]
      · right
        refine ⟨?_, f1, f2, by rw [f3, e3], k + 1, by rw [f4, e4, List.append_assoc]; rfl⟩
        rw [e5] at f0
        split at f0 <;> omega
def wrs (o : Nat) (M : List Int) (k : Nat) : List (Nat × List Int) := (List.range k).map fun i => (o + i, chk M i)
theorem wrs_succ (o : Nat) (M : List Int) (k : Nat) : wrs o M (k + 1) = wrs o M k ++ [(o + k, chk M k)] := by unfold wrs; rw [List.range_succ, List.map_append]; rfl
theorem wrs_mem {o : Nat} {M : List Int} {k : Nat} {x : Nat × List Int} (h : x ∈ wrs o M k) : o ≤ x.1 ∧ x.1 < o + k := by
  unfold wrs at h
  obtain ⟨i, hi, rfl⟩ := List.mem_map.1 h
  rw [List.mem_range] at hi
  dsimp only
  omega
theorem wrs_len (o : Nat) (M : List Int) (k : Nat) : (wrs o M k).length = k := by unfold wrs; simp
theorem wrs_cur (S : List (List Int)) (P : List (Nat × List Int)) (o : Nat) (M : List Int) (j : Nat) : ∀ k, curL S (P ++ wrs o M k) j (P ++ wrs o M k).length = if o ≤ j ∧ j < o + k then chk M (j - o) else curL S P j P.length
  | 0 => by rw [if_neg (by omega), show wrs o M 0 = [] from rfl, List.append_nil]
  | k + 1 => by
    rw [wrs_succ, ← List.append_assoc, curL_snoc, wrs_cur S P o M j k]
    dsimp only
    by_cases h : o + k = j
    · rw [if_pos h, if_pos (by omega)]
      congr 1
      omega
    · rw [if_neg h]
      by_cases h2 : o ≤ j ∧ j < o + k
      · rw [if_pos h2, if_pos (by omega)]
      · rw [if_neg h2, if_neg (by omega)]
theorem curL_none (S : List (List Int)) (P : List (Nat × List Int)) (j : Nat) (h : ∀ x ∈ P, x.1 ≠ j) : ∀ k, k ≤ P.length → curL S P j k = S.getD j []
  | 0, _ => rfl
  | k + 1, hk => by
    rw [curL, if_neg (h _ (mem_of_getD (by omega)))]
    exact curL_none S P j h k (by omega)
theorem cur_none {D : Dk} {j : Nat} (h : ∀ x ∈ D.pend, x.1 ≠ j) : D.cur j = D.safe.getD j [] := curL_none _ _ _ h _ (Nat.le_refl _)
theorem crash_cur (D : Dk) (keep : List Bool) (j : Nat) : (D.crashD keep).cur j = (liv D.safe D.pend keep D.pend.length).getD j [] := rfl
theorem crash_none {D : Dk} (hP : ∀ x ∈ D.pend, x.1 < D.safe.length) (keep : List Bool) {j : Nat} (h : ∀ x ∈ D.pend, x.1 ≠ j) : (D.crashD keep).cur j = D.safe.getD j [] := by
  rw [crash_cur]
  rcases liv_pick D.safe D.pend keep hP j D.pend.length (Nat.le_refl _) with h1 | ⟨k, h1, h2, _⟩
  · exact h1
  · exact absurd h2 (h _ (mem_of_getD h1))
def takeOps (s : Sup) (h : Nat) (M : List Int) : List (Option (Nat × List Int)) := (wrs (2 + (1 - s.place) * h) M ((M.length + 63) / 64)).map some ++ [none, some ((s.turn + 1) % 2, (s.next M).blk), none]
set_option maxHeartbeats 400000 in
theorem take_run {D : Dk} {h : Nat} {s : Sup} {L M : List Int} (hd : D.dead = false) (hl : -1 ≤ D.left) (hn : 2 + 2 * h ≤ D.safe.length) (hp : ∀ x ∈ D.pend, 2 + 2 * h ≤ x.1 ∧ x.1 < D.safe.length) (k : Hs D.cur h s L) (hM : IsB M) (hf : M.length ≤ 64 * h) (hok : (s.next M).Ok) :
    ((Dk.runD (takeOps s h M) D).2 = 0 ∧ Went D (Dk.runD (takeOps s h M) D).1 ((M.length + 63) / 64 + 3) ∧ (Dk.runD (takeOps s h M) D).1.pend = [] ∧ Hs (Dk.runD (takeOps s h M) D).1.cur h (s.next M) M ∧ ∀ j, 2 + 2 * h ≤ j → (Dk.runD (takeOps s h M) D).1.cur j = D.cur j) ∨
    (0 ≤ D.left ∧ (Dk.runD (takeOps s h M) D).2 = 7 ∧ (Dk.runD (takeOps s h M) D).1.dead = true ∧ ∀ keep, Hs ((Dk.runD (takeOps s h M) D).1.crashD keep).cur h s L ∨ Hs ((Dk.runD (takeOps s h M) D).1.crashD keep).cur h (s.next M) M) := by
  obtain ⟨e1, e2, e3, e4⟩ := s.next_is M
  have hp2 := k.ok.p
  have hfit := k.fit
  generalize hbk : (s.next M).blk = bk at *
  obtain ⟨K, hK⟩ : ∃ K, K = (M.length + 63) / 64 := ⟨_, rfl⟩
  have hKh : K ≤ h := by omega
  obtain ⟨o, ho⟩ : ∃ o, o = 2 + (1 - s.place) * h := ⟨_, rfl⟩
  obtain ⟨q, hq⟩ : ∃ q, q = (s.turn + 1) % 2 := ⟨_, rfl⟩
  have hq2 : q < 2 := by omega
  have hpl : s.place = 0 ∨ s.place = 1 := by omega
  have hold : ∀ i, 64 * i < s.size → ¬ (o ≤ 2 + s.place * h + i ∧ 2 + s.place * h + i < o + K) ∧ 2 + s.place * h + i < 2 + 2 * h := by
    intro i hi
    rcases hpl with e | e <;> rw [e] at ho ⊢ <;> simp only [Nat.sub_zero, Nat.sub_self, Nat.zero_mul, Nat.one_mul, Nat.add_zero] at ho ⊢ <;> omega
  have ho2 : 2 ≤ o ∧ o + K ≤ 2 + 2 * h := by
    rcases hpl with e | e <;> rw [e] at ho <;> simp only [Nat.sub_zero, Nat.sub_self, Nat.zero_mul, Nat.one_mul, Nat.add_zero] at ho <;> omega
  have htk : takeOps s h M = (wrs o M K).map some ++ [none, some (q, bk), none] := by unfold takeOps; rw [hbk, hK, ho, hq]
  rw [htk, run_app]
  have cut1 : ∀ (E : Dk), E.safe = D.safe → (∃ m, E.pend = D.pend ++ (wrs o M K).take m) → ∀ keep, Hs (E.crashD keep).cur h s L := by
    rintro E hs ⟨m, hpe⟩ keep
    have hm : ∀ x ∈ E.pend, x ∈ D.pend ∨ x ∈ wrs o M K := by
      intro x hx
      rw [hpe] at hx
      exact (List.mem_append.1 hx).imp id List.mem_of_mem_take
    have hr : ∀ x ∈ E.pend, x.1 < E.safe.length := by
      intro x hx
      rw [hs]
      rcases hm x hx with hx | hx
      · exact (hp x hx).2
      · have := wrs_mem hx; omega
    have hc : ∀ j, j < 2 + 2 * h → ¬ (o ≤ j ∧ j < o + K) → (E.crashD keep).cur j = D.cur j := by
      intro j hj hj2
      rw [crash_none hr keep, cur_none, hs]
      · intro x hx e
        have := (hp x hx).1
        omega
      · intro x hx e
        rcases hm x hx with hx | hx
        · have := (hp x hx).1; omega
        · have := wrs_mem hx; omega
    exact k.keep (hc 0 (by omega) (by omega)) (hc 1 (by omega) (by omega)) (fun i hi => hc _ (hold i hi).2 (hold i hi).1)
  rcases run_writes (wrs o M K) D hd (fun x hx => by have := wrs_mem hx; omega) hl with ⟨f1, f2, f3, f4⟩ | ⟨f0, f1, f2, f3, m, f4⟩
  case inr =>
    right
    rw [if_neg (by rw [f1]; decide)]
    exact ⟨f0, f1, f2, fun keep => .inl (cut1 _ f3 ⟨m, f4⟩ keep)⟩
  rw [if_pos f1]
  have c1 : ∀ j, (Dk.runD ((wrs o M K).map some) D).1.cur j = if o ≤ j ∧ j < o + K then chk M (j - o) else D.cur j := by
    intro j
    unfold Dk.cur
    rw [f3, f4]
    exact wrs_cur _ _ _ _ _ _
  rw [wrs_len] at f2
  generalize (Dk.runD ((wrs o M K).map some) D).1 = D1 at *
  have hr1 : ∀ x ∈ D1.pend, x.1 < D1.safe.length := by
    intro x hx
    rw [f3]
    rw [f4] at hx
    rcases List.mem_append.1 hx with hx | hx
    · exact (hp x hx).2
    · have := wrs_mem hx; omega
  have cut2 := cut1 D1 f3 ⟨K, by rw [f4, List.take_of_length_le (by rw [wrs_len]; omega)]⟩
  rw [Dk.runD]
  by_cases h1 : D1.left = 0
  · obtain ⟨g1, g2, g3, g4⟩ := step_sync_off f2.dead h1
    right
    rw [if_neg (by rw [g1]; decide)]
    refine ⟨by have := f2.left; omega, g1, g2, fun keep => .inl ?_⟩
    exact cut1 _ (by rw [g3, f3]) ⟨K, by rw [g4, f4, List.take_of_length_le (by rw [wrs_len]; omega)]⟩ keep
  obtain ⟨g1, g2, g3, g4, g5, g6⟩ := step_sync f2.dead h1
  rw [if_pos g1]
  have c2 : ∀ j, (D1.step none).1.cur j = if o ≤ j ∧ j < o + K then chk M (j - o) else D.cur j := fun j => (Dk.sync_cur f2.dead h1 hr1 j).trans (c1 j)
  generalize (D1.step none).1 = D2 at *
  clear cut2 cut1 c1 hr1
  have l2 : D.left < 0 → D2.left = D.left := by
    intro e
    have := f2.left e
    rw [g5, if_neg (by omega)]
    exact this
  have m2 : -1 ≤ D2.left := by have := f2.lo; rw [g5]; split <;> omega
  have n2 : D2.safe.length = D.safe.length := g3.trans f2.len
  have s2 : ∀ j, D2.safe.getD j [] = D2.cur j := fun j => (cur_none (D := D2) (j := j) (by rw [g4]; intro x hx; cases hx)).symm
  have kold : ∀ (C : Nat → List Int), (∀ j, j < 2 + 2 * h → C j = D2.cur j) → Hs C h s L := by
    intro C hC
    refine k.keep ?_ ?_ (fun i hi => ?_)
    · rw [hC 0 (by omega), c2, if_neg (by omega)]
    · rw [hC 1 (by omega), c2, if_neg (by omega)]
    · rw [hC _ (hold i hi).2, c2, if_neg (hold i hi).1]
  have knew : ∀ (C : Nat → List Int), C q = bk → (∀ j, j ≠ q → j < 2 + 2 * h → C j = D2.cur j) → Hs C h (s.next M) M := by
    intro C hCq hC
    refine k.next hM hf hok (by rw [← hq, hbk]; exact hCq) ?_ (fun i hi => ?_)
    · rw [hC _ (by omega) (by omega), c2, if_neg (by omega)]
    · rw [← ho, hC _ (by omega) (by omega), c2, if_pos (by omega), show o + i - o = i from by omega]
  rw [Dk.runD]
  have hq3 : q < D2.safe.length := by omega
  by_cases h2 : D2.left = 0
  · obtain ⟨i1, i2, i3, i4⟩ := step_write_off g2 (q, bk) hq3 h2
    right
    rw [if_neg (by rw [i1]; decide)]
    refine ⟨by omega, i1, i2, fun keep => .inl (kold _ fun j hj => ?_)⟩
    rw [crash_none (by rw [i4, g4]; intro x hx; cases hx) keep (by rw [i4, g4]; intro x hx; cases hx), i3]
    exact s2 j
  obtain ⟨i1, i2, i3, i4, i5, i6⟩ := step_write g2 (q, bk) hq3 h2
  rw [if_pos i1]
  rw [g4, List.nil_append] at i4
  have c3 : ∀ j, (D2.step (some (q, bk))).1.cur j = if q = j then bk else D2.cur j := by
    intro j
    have hx := Dk.write_cur g2 h2 (q : Int) ⟨by omega, by omega⟩ bk j
    rw [Int.toNat_natCast] at hx
    exact hx
  generalize (D2.step (some (q, bk))).1 = D3 at *
  rw [Dk.runD]
  have hr3 : ∀ x ∈ D3.pend, x.1 < D3.safe.length := by
    intro x hx
    rw [i4, List.mem_singleton] at hx
    rw [hx, i3]
    exact hq3
  by_cases h3 : D3.left = 0
  · obtain ⟨j1, j2, j3, j4⟩ := step_sync_off i2 h3
    right
    rw [if_neg (by rw [j1]; decide)]
    refine ⟨?_, j1, j2, fun keep => ?_⟩
    · rw [i5] at h3
      split at h3 <;> omega
    · generalize (D3.step none).1 = E at *
      have hrE : ∀ x ∈ E.pend, x.1 < E.safe.length := by rw [j3, j4]; exact hr3
      have hoth : ∀ j, j ≠ q → (E.crashD keep).cur j = D2.cur j := by
        intro j hj
        rw [crash_none hrE keep, j3, i3, s2]
        intro x hx
        rw [j4, i4, List.mem_singleton] at hx
        rw [hx]
        exact fun e => hj e.symm
      have hself : (E.crashD keep).cur q = D2.cur q ∨ (E.crashD keep).cur q = bk := by
        rw [crash_cur]
        rcases liv_pick E.safe E.pend keep hrE q E.pend.length (Nat.le_refl _) with h1 | ⟨i, h1, h2, h3⟩
        · left
          rw [h1, j3, i3, s2]
        · right
          rw [h3]
          have hx : E.pend.getD i (0, []) ∈ E.pend := mem_of_getD h1
          rw [j4, i4] at hx
          rw [List.mem_singleton] at hx
          rw [j4, i4, hx]
      rcases hself with h1 | h1
      · left
        refine kold _ fun j _ => ?_
        by_cases hj : j = q
        · rw [hj]; exact h1
        · exact hoth j hj
      · right
        exact knew _ h1 (fun j hj _ => hoth j hj)
  obtain ⟨j1, j2, j3, j4, j5, j6⟩ := step_sync i2 h3
  have c4 : ∀ j, (D3.step none).1.cur j = if q = j then bk else D2.cur j := fun j => (Dk.sync_cur i2 h3 hr3 j).trans (c3 j)
  rw [if_pos j1, Dk.runD]
  generalize (D3.step none).1 = D4 at *
  left
  refine ⟨rfl, ⟨j2, by rw [j3, i3, n2], fun e => ?_, ?_, ?_⟩, j4, knew _ (by rw [c4, if_pos rfl]) (fun j hj _ => by rw [c4, if_neg (fun e => hj e.symm)]), fun j hj => ?_⟩
  · have a1 := l2 e
    have a2 : D3.left = D2.left := by rw [i5, if_neg (by omega)]
    rw [j5, if_neg (by omega), a2, a1]
  · have a2 : -1 ≤ D3.left := by rw [i5]; split <;> omega
    rw [j5]
    split <;> omega
  · rw [j6, i6, g6, f2.ops, hK]; omega
  · rw [c4, if_neg (by omega), c2, if_neg (by omega)]
def sup0 : Sup := ⟨0, 0, 0, sh16 []⟩
theorem sup0_is : sup0.place = 0 ∧ sup0.turn = 0 ∧ sup0.size = 0 ∧ sup0.hash = sh16 [] := by simp only [sup0, and_self]
theorem sup0_ok : sup0.Ok := by
  obtain ⟨e1, e2, e3, e4⟩ := sup0_is
  have h1 : sup0.hash.length = 16 := by rw [e4]; exact sh16_len []
  have h2 : IsB sup0.hash := by rw [e4]; exact sh16_isB [] (sumL_isB [])
  exact ⟨by omega, by omega, by omega, h1, h2⟩
theorem ZB_wrong : rightB ZB = false := by
  unfold rightB
  apply decide_eq_false
  rintro ⟨h, _⟩
  revert h
  decide
def fmtOps : List (Option (Nat × List Int)) := [some (0, sup0.blk), some (1, ZB), none]
set_option maxHeartbeats 400000 in
theorem format_run {D : Dk} {h : Nat} (hd : D.dead = false) (hl : D.left = -1) (hn : 2 ≤ D.safe.length) (hp : ∀ x ∈ D.pend, x.1 < D.safe.length) :
    (Dk.runD fmtOps D).2 = 0 ∧ Went D (Dk.runD fmtOps D).1 3 ∧ (Dk.runD fmtOps D).1.pend = [] ∧ Hs (Dk.runD fmtOps D).1.cur h sup0 [] ∧ ∀ j, 2 ≤ j → (Dk.runD fmtOps D).1.cur j = D.cur j := by
  obtain ⟨s1, s2, s3, s4⟩ := sup0_is
  have hok := sup0_ok
  unfold fmtOps
  generalize hbk : sup0.blk = bk at *
  generalize sup0 = s at *
  rw [Dk.runD]
  have c1 : ∀ j, (D.step (some (0, bk))).1.cur j = if 0 = j then bk else D.cur j := fun j => Dk.write_cur hd (by omega) ((0 : Nat) : Int) ⟨by omega, by omega⟩ bk j
  obtain ⟨i1, i2, i3, i4, i5, i6⟩ := step_write hd (0, bk) (by show 0 < _; omega) (by omega)
  rw [if_pos i1, Dk.runD]
  rw [hl, if_neg (by omega)] at i5
  generalize (D.step (some (0, bk))).1 = D1 at *
  have c2 : ∀ j, (D1.step (some (1, ZB))).1.cur j = if 1 = j then ZB else D1.cur j := fun j => Dk.write_cur i2 (by omega) ((1 : Nat) : Int) ⟨by omega, by rw [i3]; omega⟩ ZB j
  obtain ⟨k1, k2, k3, k4, k5, k6⟩ := step_write i2 (1, ZB) (by show 1 < _; rw [i3]; omega) (by omega)
  rw [if_pos k1, Dk.runD]
  rw [i5, if_neg (by omega)] at k5
  generalize (D1.step (some (1, ZB))).1 = D2 at *
  have hr : ∀ x ∈ D2.pend, x.1 < D2.safe.length := by
    intro x hx
    rw [k3, i3]
    rw [k4, i4] at hx
    rcases List.mem_append.1 hx with hx | hx
    · rcases List.mem_append.1 hx with hx | hx
      · exact hp x hx
      · rw [List.mem_singleton] at hx; rw [hx]; show 0 < _; omega
    · rw [List.mem_singleton] at hx; rw [hx]; show 1 < _; omega
  obtain ⟨j1, j2, j3, j4, j5, j6⟩ := step_sync k2 (by omega)
  have c3 : ∀ j, (D2.step none).1.cur j = D2.cur j := fun j => Dk.sync_cur k2 (by omega) hr j
  rw [if_pos j1, Dk.runD]
  rw [k5, if_neg (by omega)] at j5
  generalize (D2.step none).1 = D3 at *
  refine ⟨rfl, ⟨j2, by rw [j3, k3, i3], fun _ => by rw [j5, hl], by omega, by omega⟩, j4, ?_, fun j hj => ?_⟩
  · refine ⟨hok, (fun x hx => by cases hx), by rw [s3]; rfl, by omega, s4, ?_, ?_, fun i hi => by omega⟩
    · rw [s2, hbk, c3, c2, if_neg (by omega), c1, if_pos (by omega)]
    · rw [s2, c3, c2, if_pos (by omega), ZB_wrong]
      intro e
      cases e
  · rw [c3, c2, if_neg (by omega), c1, if_neg (by omega)]
def Dk.snap (D : Dk) (h : Nat) (s : Sup) : List Int := (rows D.cur (2 + s.place * h) ((s.size + 63) / 64)).take s.size
theorem hs_rows {B : Nat → List Int} {h : Nat} {s : Sup} {L : List Int} (k : Hs B h s L) : (rows B (2 + s.place * h) ((s.size + 63) / 64)).take s.size = L := by
  have h1 := k.len
  have h2 := rows_all (B := B) (o := 2 + s.place * h) (L := L) ((s.size + 63) / 64) (by omega) (by omega) (fun i hi => k.dat i (by omega))
  rw [h1] at h2
  exact h2
theorem hs_dk {D : Dk} {h : Nat} {s : Sup} {L : List Int} (k : Hs D.cur h s L) : D.snap h s = L := hs_rows k
theorem htr_byte : IsB htr := fun x hx => by
  simp only [htr, List.mem_cons, List.not_mem_nil, or_false] at hx
  omega
theorem blk_bb {s : Sup} (h : s.Ok) : BB s.blk := by
  refine ⟨s.blk_len h.hl, ?_⟩
  have hp := h.p
  have h48 : IsB s.b48 := by
    unfold Sup.b48
    refine isB_app htr_byte (isB_app ?_ (isB_app (lowL_isB _ _) (isB_app (lowL_isB _ _) (isB_app h.hb (isB_rep 8)))))
    intro x hx
    simp only [List.mem_cons, List.not_mem_nil, or_false] at hx
    omega
  unfold Sup.blk
  exact isB_app h48 (sh16_isB _ (sumL_isB _))
theorem step_ok {D : Dk} {m : Nat} (h : D.Ok m) (o : Option (Nat × List Int)) (ho : ∀ x, o = some x → BB x.2) : (D.step o).1.Ok (m + 1) := by
  cases o with
  | none => exact h.sync
  | some x => exact h.write _ _ (ho x rfl)
theorem run_ok : ∀ (l : List (Option (Nat × List Int))) {D : Dk} {m : Nat}, D.Ok m → (∀ x, some x ∈ l → BB x.2) → (Dk.runD l D).1.Ok (m + l.length)
  | [], D, m, h, _ => h
  | o :: r, D, m, h, hl => by
    rw [Dk.runD]
    have h1 := step_ok h o (fun x e => hl x (by rw [e]; exact List.mem_cons_self))
    split
    · have h2 := run_ok r h1 (fun x hx => hl x (List.mem_cons_of_mem _ hx))
      rw [List.length_cons, show m + (r.length + 1) = m + 1 + r.length from by omega]
      exact h2
    · exact h1.up (by rw [List.length_cons]; omega)
theorem take_bb {s : Sup} {h : Nat} {M : List Int} (hM : IsB M) (hok : (s.next M).Ok) : ∀ x, some x ∈ takeOps s h M → BB x.2 := by
  intro x hx
  have hb := blk_bb hok
  unfold takeOps at hx
  generalize (s.next M).blk = bk at *
  rcases List.mem_append.1 hx with hx | hx
  · obtain ⟨y, hy, e⟩ := List.mem_map.1 hx
    have e2 := Option.some.inj e
    subst e2
    unfold wrs at hy
    obtain ⟨i, _, rfl⟩ := List.mem_map.1 hy
    exact chk_bb hM i
  · simp only [List.mem_cons, List.not_mem_nil, or_false, reduceCtorEq, false_or, Option.some.injEq] at hx
    rw [hx]
    exact hb
theorem take_len (s : Sup) (h : Nat) (M : List Int) : (takeOps s h M).length = (M.length + 63) / 64 + 3 := by
  unfold takeOps
  rw [List.length_append, List.length_map, wrs_len]
  rfl
theorem fmt_bb : ∀ x, some x ∈ fmtOps → BB x.2 := by
  intro x hx
  have hb := blk_bb sup0_ok
  unfold fmtOps at hx
  generalize sup0.blk = bk at *
  simp only [List.mem_cons, List.not_mem_nil, or_false, reduceCtorEq, false_or, Option.some.injEq] at hx
  rcases hx with e | e
  · rw [e]; exact hb
  · rw [e]; exact ZB_bb
structure Os (D : Dk) (h : Nat) (s : Sup) (L : List Int) : Prop where
  cnt : cntS (D.cur 0) (D.cur 1) = (s, true)
  fit : s.size ≤ 64 * h
  snap : D.snap h s = L
  hash : s.hash = sh16 L
theorem Hs.os {D : Dk} {h : Nat} {s : Sup} {L : List Int} (k : Hs D.cur h s L) : Os D h s L := ⟨k.cnt, k.fit, hs_dk k, k.hash⟩
theorem next_ok {D : Dk} {h : Nat} {s : Sup} {L : List Int} (k : Hs D.cur h s L) {M : List Int} (hM : IsB M) (hf : M.length ≤ 64 * h) (hh : h ≤ 1000000) (ht : s.turn + 1 < 18446744073709551616) : (s.next M).Ok := Sup.next_ok k.ok M (by omega) ht (sumL_isB M)
structure Fd (D : Dk) (m : Nat) (s : Sup) (L : List Int) : Prop where
  ok : D.Ok m
  dead : D.dead = false
  left : D.left = -1
  len : 64 ≤ D.safe.length
  pend : ∀ x ∈ D.pend, 2 + 2 * ((D.safe.length - 2) / 4) ≤ x.1 ∧ x.1 < D.safe.length
  hs : Hs D.cur ((D.safe.length - 2) / 4) s L
theorem fmt_all {D : Dk} {m : Nat} (hD : D.Ok m) (hd : D.dead = false) (hl : D.left = -1) (hn : 64 ≤ D.safe.length) : (Dk.runD fmtOps D).2 = 0 ∧ Fd (Dk.runD fmtOps D).1 (m + 3) sup0 [] ∧ (Dk.runD fmtOps D).1.safe.length = D.safe.length ∧ (Dk.runD fmtOps D).1.pend = [] ∧ ∀ j, 2 ≤ j → (Dk.runD fmtOps D).1.cur j = D.cur j := by
  obtain ⟨h1, h2, h3, h4, h5⟩ := format_run (h := (D.safe.length - 2) / 4) hd hl (by omega) (fun x hx => (hD.pnd x hx).1)
  have h6 := run_ok fmtOps hD fmt_bb
  have h7 := h2.len
  refine ⟨h1, ⟨h6, h2.dead, (h2.left (by omega)).trans hl, by rw [h7]; exact hn, (by rw [h3]; intro x hx; cases hx), by rw [h7]; exact h4⟩, h7, h3, h5⟩
theorem take_all {D : Dk} {m : Nat} {s : Sup} {L M : List Int} (k : Fd D m s L) (hM : IsB M) (hf : M.length ≤ 64 * ((D.safe.length - 2) / 4)) (ht : s.turn + 1 < 18446744073709551616) : (Dk.runD (takeOps s ((D.safe.length - 2) / 4) M) D).2 = 0 ∧ Fd (Dk.runD (takeOps s ((D.safe.length - 2) / 4) M) D).1 (m + ((M.length + 63) / 64 + 3)) (s.next M) M ∧ (Dk.runD (takeOps s ((D.safe.length - 2) / 4) M) D).1.safe.length = D.safe.length ∧ (Dk.runD (takeOps s ((D.safe.length - 2) / 4) M) D).1.pend = [] ∧ ∀ j, 2 + 2 * ((D.safe.length - 2) / 4) ≤ j → (Dk.runD (takeOps s ((D.safe.length - 2) / 4) M) D).1.cur j = D.cur j := by
  have hl := k.left
  have hn := k.len
  have h512 := k.ok.hi1
  have hok := next_ok k.hs hM hf (by omega) ht
  have h6 := run_ok (takeOps s ((D.safe.length - 2) / 4) M) k.ok (take_bb hM hok)
  rw [take_len] at h6
  rcases take_run k.dead (by omega) (by omega) k.pend k.hs hM hf hok with ⟨h1, h2, h3, h4, h5⟩ | ⟨h0, _⟩
  · generalize (Dk.runD (takeOps s ((D.safe.length - 2) / 4) M) D).1 = E at *
    have h7 := h2.len
    refine ⟨h1, ⟨h6, h2.dead, (h2.left (by omega)).trans hl, by rw [h7]; exact hn, (by rw [h3]; intro x hx; cases hx), by rw [h7]; exact h4⟩, h7, h3, h5⟩
  · omega
theorem done_len (D : Dk) : D.doneD.safe = D.safe := by unfold Dk.doneD; split <;> rfl
theorem step_len (D : Dk) (o : Option (Nat × List Int)) : (D.step o).1.safe.length = D.safe.length := by
  cases o with
  | none =>
    show D.syncD.safe.length = _
    unfold Dk.syncD
    split
    · rfl
    · split
      · rw [done_len]
      · show (liv D.doneD.safe _ _ _).length = _
        rw [liv_len, done_len]
  | some x =>
    show (D.writeD _ _).safe.length = _
    unfold Dk.writeD
    split
    · rfl
    · split
      · split
        · rw [done_len]
        · show D.doneD.safe.length = _
          rw [done_len]
      · rfl
theorem run_len : ∀ (l : List (Option (Nat × List Int))) (D : Dk), (Dk.runD l D).1.safe.length = D.safe.length
  | [], D => rfl
  | o :: r, D => by
    rw [Dk.runD]
    split
    · rw [run_len r, step_len]
    · exact step_len D o
end Go.Proofs.YtaoiejgjdmakjaaDoor
