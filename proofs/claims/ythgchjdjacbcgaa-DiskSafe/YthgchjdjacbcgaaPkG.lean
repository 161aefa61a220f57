/-
  The program: what is done and counted, Write, Sync.
-/
import Derived.Test.YthgchjdjacbcgaaPkF
namespace Go.Proofs.Ythgchjdjacbcgaa
open Go.RowKit
set_option maxRecDepth 100000
set_option linter.unusedSimpArgs false
set_option linter.unusedVariables false
/-- what done answers and leaves -/
def Dnp (g : Nat) (D : Dk) (sg sc : Nat) (C : List Value) (pa : Option Addr) (pc : Nat) (l : Int) (Q : World → Prop) (w : World) (r : Ending) (w' : World) : Prop :=
  if D.left = 0 then r = .returned (.int .i64 7) ∧ Pd g D.doneD w' sg sc C pa pc l ∧ Chg [g] [g] w w' else r = .returned (.int .i64 0) ∧ Q w'
theorem Pd.turn {g : Nat} {D D' : Dk} {v u : World} {sg sc : Nat} {C : List Value} {pa : Option Addr} {pc : Nat} {l l' : Int} (h : Pd g D v sg sc C pa pc l) (k : Chg [g] [g] v u) (h1 : D'.safe = D.safe) (h2 : D'.pend = D.pend) (hg : u.heap[g]? = some (.cells (pdv (some ⟨sg, 0, none⟩) D.safe.length sc pa D.pend.length pc l' D'.ops D'.dead) 67 (0, 0))) (hl : Lf D'.left l') : Pd g D' u sg sc C pa pc l' := by
  have hk : ∀ i, i ∈ pdF g sg pa → i ≠ g → u.heap[i]? = v.heap[i]? := fun i hi hne => k.block i (h.lt i hi) (by simp [hne])
  refine ⟨by rw [h1, h2]; exact hg, ?_, by rw [h1]; exact h.cov, h.len, by rw [h1]; exact h.cap, h.max, by rw [h2]; exact or_keep h.pnd (fun i hi => hk i (mem_pdF.2 (.inr (.inr hi))) (h.pg_ne hi).1), hl⟩
  rw [hk sg (mem_pdF.2 (.inr (.inl rfl))) h.sg_ne.symm]
  exact h.saf
set_option maxHeartbeats 4000000 in
theorem done_w (g : Nat) (D : Dk) (sg sc : Nat) (C : List Value) (pa : Option Addr) (pc : Nat) (l : Int) (b3 b4 b5 : Nat) (Q : World → Prop) (m : Nat) (hD : D.Ok m) (hm : m ≤ 1000000) (w : World) (hP : Pd g D w sg sc C pa pc l) (hC : ∀ (v : World) (l' : Int), D.left ≠ 0 → Pd g D.doneD v sg sc C pa pc l' → Chg [g] [g] w v → Calls Try.prog 46 #[.pointer (some ⟨b3, 0, none⟩), .pointer (some ⟨b4, 0, none⟩), .pointer (some ⟨b5, 0, none⟩)] v (fun r w' => r = .returned (.tuple #[]) ∧ Q w')) : Calls Try.prog 43 #[P0 g, .func (.func 46) #[] #[.pointer (some ⟨b3, 0, none⟩), .pointer (some ⟨b4, 0, none⟩), .pointer (some ⟨b5, 0, none⟩)]] w (Dnp g D sg sc C pa pc l Q w) := by
  obtain ⟨T, hT⟩ : ∃ T, T = Dnp g D sg sc C pa pc l Q w := ⟨_, rfl⟩
  rw [← hT]
  replace hT := hide hT
  obtain ⟨dd, hdd⟩ : ∃ x, x = D.dead := ⟨_, rfl⟩
  obtain ⟨sn, hsn⟩ : ∃ n, n = D.safe.length := ⟨_, rfl⟩
  obtain ⟨pn, hpn⟩ : ∃ n, n = D.pend.length := ⟨_, rfl⟩
  obtain ⟨os, hos⟩ : ∃ n, n = D.ops := ⟨_, rfl⟩
  have hcl := hP.cel
  rw [← hdd, ← hsn, ← hpn, ← hos] at hcl
  replace hdd := hide hdd; replace hsn := hide hsn; replace hpn := hide hpn; replace hos := hide hos; replace hcl := hide hcl; replace hP := hide hP
  have hom : os ≤ 1000000 := by rw [unhide hos]; exact Nat.le_trans hD.ops hm
  have hlh : D.left < 9223372036854775808 := hD.hi
  have hll := (unhide hP).lf
  have hB := (Bc.nil [g] w).add ⟨g, pdv (some ⟨sg, 0, none⟩) D.safe.length sc pa D.pend.length pc l D.ops D.dead, 67⟩ (unhide hP).cel (.inl (by simp)) (fun y hy => by cases hy)
  rw [← unhide hdd, ← unhide hsn, ← unhide hpn, ← unhide hos] at hB
  have hcase : (D.left = 0 ∧ l = 0) ∨ (D.left < 0 ∧ l < 0) ∨ (0 < D.left ∧ 0 < l ∧ l = D.left) := by
    obtain ⟨h1, h2⟩ := hll
    by_cases h : D.left < 0
    · exact .inr (.inl ⟨h, (h1 h).1⟩)
    · have := h2 (by omega)
      omega
  replace hD := hide hD; replace hB := hide hB; replace hC := hide hC; replace hll := hide hll
  go_enter Try.func43, Try.ntmps43
  go_upto_region 1 with fail
  replace hB : Hid (Bc [g] w [⟨g, pdv (some ⟨sg, 0, none⟩) sn sc pa pn pc l os dd, 67⟩] w) := hB
  rcases hcase with hcase | hcase | hcase
  · skip
    obtain ⟨hd0, rfl⟩ := hcase
    replace hB := unhide hB
    refine wp_region_lit ?_
    refine list_val (.pointer (some ⟨g, 0, none⟩)) (by kernel_rfl) (by kernel_rfl) ?_
    simp only [Act.put, List.setIfInBounds_toArray, List.set_cons_zero, List.set_cons_succ, List.getElem_toArray, List.getElem_cons_zero, List.getElem_cons_succ]
    refine list_val (.pointer (some ⟨g, 0, none⟩)) (by kernel_rfl) (by kernel_rfl) ?_
    simp only [Act.put, List.setIfInBounds_toArray, List.set_cons_zero, List.set_cons_succ, List.getElem_toArray, List.getElem_cons_zero, List.getElem_cons_succ]
    refine list_val (.pointer (some ⟨g, 2, none⟩)) (by kernel_rfl) (by kernel_rfl) ?_
    simp only [Act.put, List.setIfInBounds_toArray, List.set_cons_zero, List.set_cons_succ, List.getElem_toArray, List.getElem_cons_zero, List.getElem_cons_succ]
    refine list_val (.int .i64 0) (by kernel_rfl) (exec_i64 _ (.tmp 7) rfl g 2 (by kernel_rfl) 0 (cell_of (hB.get 0 (x := ⟨g, pdv (some ⟨sg, 0, none⟩) sn sc pa pn pc 0 os dd, 67⟩) rfl) (i := 2) rfl)) ?_
    simp only [Act.put, List.setIfInBounds_toArray, List.set_cons_zero, List.set_cons_succ, List.getElem_toArray, List.getElem_cons_zero, List.getElem_cons_succ]
    refine list_val (.bool true) (by kernel_rfl) (by go_simp) ?_
    simp only [Act.put, List.setIfInBounds_toArray, List.set_cons_zero, List.set_cons_succ, List.getElem_toArray, List.getElem_cons_zero, List.getElem_cons_succ]
    refine wpList_nil ?_
    replace hd0 := hide hd0
    replace hB := hide hB
    go_upto_region 2 with fail
    replace hB := unhide hB
    refine wp_region_lit ?_
    refine list_val (.pointer (some ⟨g, 0, none⟩)) (by kernel_rfl) (by kernel_rfl) ?_
    simp only [Act.put, List.setIfInBounds_toArray, List.set_cons_zero, List.set_cons_succ, List.getElem_toArray, List.getElem_cons_zero, List.getElem_cons_succ]
    refine list_val (.pointer (some ⟨g, 0, none⟩)) (by kernel_rfl) (by kernel_rfl) ?_
    simp only [Act.put, List.setIfInBounds_toArray, List.set_cons_zero, List.set_cons_succ, List.getElem_toArray, List.getElem_cons_zero, List.getElem_cons_succ]
    refine list_val (.pointer (some ⟨g, 4, none⟩)) (by kernel_rfl) (by kernel_rfl) ?_
    simp only [Act.put, List.setIfInBounds_toArray, List.set_cons_zero, List.set_cons_succ, List.getElem_toArray, List.getElem_cons_zero, List.getElem_cons_succ]
    have c4 := cell_of (hB.get 0 (x := ⟨g, pdv (some ⟨sg, 0, none⟩) sn sc pa pn pc 0 os dd, 67⟩) rfl) (i := 4) rfl
    have fz := froz_of (i := 4) (hB.get 0 (x := ⟨g, pdv (some ⟨sg, 0, none⟩) sn sc pa pn pc 0 os dd, 67⟩) rfl)
    have hB2 := hB.cell 0 (x := ⟨g, pdv (some ⟨sg, 0, none⟩) sn sc pa pn pc 0 os dd, 67⟩) rfl 4 (.bool true)
    simp only [List.set_cons_zero, List.set_cons_succ] at hB2
    replace hB2 : Bc [g] w [⟨g, pdv (some ⟨sg, 0, none⟩) sn sc pa pn pc 0 os true, 67⟩] _ := hB2
    clear hB
    replace hB2 := hide hB2
    dsimp only at c4 fz
    (refine wpList_step fun K hK => ?_; replace hK := hide hK; go_simp; refine unhide hK _ _ ?_; clear hK K)
    clear c4 fz
    have hB := unhide hB2
    clear hB2
    generalize World.setCell _ _ _ = u1 at *
    refine wpList_nil ?_
    have hZ : Hid (Dnp g D sg sc C pa pc 0 Q w (.returned (.int .i64 7)) u1) := by
      show Dnp g D sg sc C pa pc 0 Q w _ u1
      unfold Dnp
      rw [if_pos (unhide hd0)]
      refine ⟨rfl, (unhide hP).turn hB.chg ?_ ?_ ?_ ?_, hB.chg⟩
      · unfold Dk.doneD; rw [if_pos (unhide hd0)]
      · unfold Dk.doneD; rw [if_pos (unhide hd0)]
      · have e1 : D.doneD.ops = D.ops := by unfold Dk.doneD; rw [if_pos (unhide hd0)]
        have e2 : D.doneD.dead = true := by unfold Dk.doneD; rw [if_pos (unhide hd0)]
        rw [e1, e2, ← unhide hsn, ← unhide hpn, ← unhide hos]
        exact (hB.get 0 (x := ⟨g, pdv (some ⟨sg, 0, none⟩) sn sc pa pn pc 0 os true, 67⟩) rfl)
      · have e3 : D.doneD.left = 0 := by unfold Dk.doneD; rw [if_pos (unhide hd0)]; exact unhide hd0
        rw [e3]
        exact Lf.refl _ (by omega)
    replace hB := hide hB
    go_wp2_with fail
    rw [unhide hT]
    exact unhide hZ
  · skip
    obtain ⟨hdn, hln⟩ := hcase
    have hd0 : Hid (D.left ≠ 0) := by show D.left ≠ 0; omega
    have hl0 : ¬ l = 0 := by omega
    have hl1 : ¬ 0 < l := by omega
    have hlf : Hid (Lf (if 0 < D.left then D.left - 1 else D.left) l) := by show Lf _ l; rw [if_neg (by omega)]; exact unhide hll
    obtain ⟨o2, ho2⟩ : ∃ x, x = os + 1 := ⟨_, rfl⟩
    replace ho2 := hide ho2
    replace hB := unhide hB
    refine wp_region_lit ?_
    refine list_val (.pointer (some ⟨g, 0, none⟩)) (by kernel_rfl) (by kernel_rfl) ?_
    simp only [Act.put, List.setIfInBounds_toArray, List.set_cons_zero, List.set_cons_succ, List.getElem_toArray, List.getElem_cons_zero, List.getElem_cons_succ]
    refine list_val (.pointer (some ⟨g, 0, none⟩)) (by kernel_rfl) (by kernel_rfl) ?_
    simp only [Act.put, List.setIfInBounds_toArray, List.set_cons_zero, List.set_cons_succ, List.getElem_toArray, List.getElem_cons_zero, List.getElem_cons_succ]
    refine list_val (.pointer (some ⟨g, 2, none⟩)) (by kernel_rfl) (by kernel_rfl) ?_
    simp only [Act.put, List.setIfInBounds_toArray, List.set_cons_zero, List.set_cons_succ, List.getElem_toArray, List.getElem_cons_zero, List.getElem_cons_succ]
    refine list_val (.int .i64 l) (by kernel_rfl) (exec_i64 _ (.tmp 7) rfl g 2 (by kernel_rfl) l (cell_of (hB.get 0 (x := ⟨g, pdv (some ⟨sg, 0, none⟩) sn sc pa pn pc l os dd, 67⟩) rfl) (i := 2) rfl)) ?_
    simp only [Act.put, List.setIfInBounds_toArray, List.set_cons_zero, List.set_cons_succ, List.getElem_toArray, List.getElem_cons_zero, List.getElem_cons_succ]
    refine list_val (.bool false) (by kernel_rfl) (by go_simp) ?_
    simp only [Act.put, List.setIfInBounds_toArray, List.set_cons_zero, List.set_cons_succ, List.getElem_toArray, List.getElem_cons_zero, List.getElem_cons_succ]
    refine wpList_nil ?_
    replace hB := hide hB
    go_upto_region 4 with fail
    replace hB := unhide hB
    refine wp_region_lit ?_
    refine list_val (.pointer (some ⟨g, 0, none⟩)) (by kernel_rfl) (by kernel_rfl) ?_
    simp only [Act.put, List.setIfInBounds_toArray, List.set_cons_zero, List.set_cons_succ, List.getElem_toArray, List.getElem_cons_zero, List.getElem_cons_succ]
    refine list_val (.pointer (some ⟨g, 0, none⟩)) (by kernel_rfl) (by kernel_rfl) ?_
    simp only [Act.put, List.setIfInBounds_toArray, List.set_cons_zero, List.set_cons_succ, List.getElem_toArray, List.getElem_cons_zero, List.getElem_cons_succ]
    refine list_val (.pointer (some ⟨g, 2, none⟩)) (by kernel_rfl) (by kernel_rfl) ?_
    simp only [Act.put, List.setIfInBounds_toArray, List.set_cons_zero, List.set_cons_succ, List.getElem_toArray, List.getElem_cons_zero, List.getElem_cons_succ]
    refine list_val (.int .i64 l) (by kernel_rfl) (exec_i64 _ (.tmp 15) rfl g 2 (by kernel_rfl) l (cell_of (hB.get 0 (x := ⟨g, pdv (some ⟨sg, 0, none⟩) sn sc pa pn pc l os dd, 67⟩) rfl) (i := 2) rfl)) ?_
    simp only [Act.put, List.setIfInBounds_toArray, List.set_cons_zero, List.set_cons_succ, List.getElem_toArray, List.getElem_cons_zero, List.getElem_cons_succ]
    refine list_val (.bool false) (by kernel_rfl) (by go_simp) ?_
    simp only [Act.put, List.setIfInBounds_toArray, List.set_cons_zero, List.set_cons_succ, List.getElem_toArray, List.getElem_cons_zero, List.getElem_cons_succ]
    refine wpList_nil ?_
    replace hB := hide hB
    go_upto_region 6 with fail
    replace hB := unhide hB
    have ho1 : (os : Int) + 1 = (o2 : Int) := by have := unhide ho2; omega
    have ho3 : IntKind.i64.wrap (o2 : Int) = (o2 : Int) := by rw [IntKind.wrap_i64]; have := unhide ho2; omega
    refine wp_region_lit ?_
    refine list_val (.pointer (some ⟨g, 0, none⟩)) (by kernel_rfl) (by kernel_rfl) ?_
    simp only [Act.put, List.setIfInBounds_toArray, List.set_cons_zero, List.set_cons_succ, List.getElem_toArray, List.getElem_cons_zero, List.getElem_cons_succ]
    refine list_val (.pointer (some ⟨g, 0, none⟩)) (by kernel_rfl) (by kernel_rfl) ?_
    simp only [Act.put, List.setIfInBounds_toArray, List.set_cons_zero, List.set_cons_succ, List.getElem_toArray, List.getElem_cons_zero, List.getElem_cons_succ]
    refine list_val (.pointer (some ⟨g, 3, none⟩)) (by kernel_rfl) (by kernel_rfl) ?_
    simp only [Act.put, List.setIfInBounds_toArray, List.set_cons_zero, List.set_cons_succ, List.getElem_toArray, List.getElem_cons_zero, List.getElem_cons_succ]
    refine list_val (.int .i64 os) (by kernel_rfl) (exec_i64 _ (.tmp 27) rfl g 3 (by kernel_rfl) os (cell_of (hB.get 0 (x := ⟨g, pdv (some ⟨sg, 0, none⟩) sn sc pa pn pc l os dd, 67⟩) rfl) (i := 3) rfl)) ?_
    simp only [Act.put, List.setIfInBounds_toArray, List.set_cons_zero, List.set_cons_succ, List.getElem_toArray, List.getElem_cons_zero, List.getElem_cons_succ]
    refine list_val (.int .i64 o2) (by kernel_rfl) (by go_simp) ?_
    simp only [Act.put, List.setIfInBounds_toArray, List.set_cons_zero, List.set_cons_succ, List.getElem_toArray, List.getElem_cons_zero, List.getElem_cons_succ]
    refine list_val (.pointer (some ⟨g, 0, none⟩)) (by kernel_rfl) (by kernel_rfl) ?_
    simp only [Act.put, List.setIfInBounds_toArray, List.set_cons_zero, List.set_cons_succ, List.getElem_toArray, List.getElem_cons_zero, List.getElem_cons_succ]
    refine list_val (.pointer (some ⟨g, 3, none⟩)) (by kernel_rfl) (by kernel_rfl) ?_
    simp only [Act.put, List.setIfInBounds_toArray, List.set_cons_zero, List.set_cons_succ, List.getElem_toArray, List.getElem_cons_zero, List.getElem_cons_succ]
    have c4 := cell_of (hB.get 0 (x := ⟨g, pdv (some ⟨sg, 0, none⟩) sn sc pa pn pc l os dd, 67⟩) rfl) (i := 3) rfl
    have fz := froz_of (i := 3) (hB.get 0 (x := ⟨g, pdv (some ⟨sg, 0, none⟩) sn sc pa pn pc l os dd, 67⟩) rfl)
    have hB2 := hB.cell 0 (x := ⟨g, pdv (some ⟨sg, 0, none⟩) sn sc pa pn pc l os dd, 67⟩) rfl 3 (.int .i64 (o2 : Int))
    simp only [List.set_cons_zero, List.set_cons_succ] at hB2
    replace hB2 : Bc [g] w [⟨g, pdv (some ⟨sg, 0, none⟩) sn sc pa pn pc l o2 dd, 67⟩] _ := hB2
    clear hB
    replace hB2 := hide hB2
    dsimp only at c4 fz
    (refine wpList_step fun K hK => ?_; replace hK := hide hK; go_simp; refine unhide hK _ _ ?_; clear hK K)
    clear c4 fz
    have hB := unhide hB2
    clear hB2
    generalize World.setCell _ _ _ = u8 at *
    refine wpList_nil ?_
    clear ho1 ho3
    replace hB := hide hB
    go_upto_region 7 with fail
    replace hB := unhide hB
    have hP9 : Hid (Pd g D.doneD u8 sg sc C pa pc l) := by
      refine (unhide hP).turn hB.chg ?_ ?_ ?_ ?_
      · unfold Dk.doneD; rw [if_neg (unhide hd0)]
      · unfold Dk.doneD; rw [if_neg (unhide hd0)]
      · have e1 : D.doneD.ops = D.ops + 1 := by unfold Dk.doneD; rw [if_neg (unhide hd0)]
        have e2 : D.doneD.dead = D.dead := by unfold Dk.doneD; rw [if_neg (unhide hd0)]
        rw [e1, e2, ← unhide hsn, ← unhide hpn, ← unhide hos, ← unhide hdd, ← unhide ho2]
        exact (hB.get 0 (x := ⟨g, pdv (some ⟨sg, 0, none⟩) sn sc pa pn pc l o2 dd, 67⟩) rfl)
      · have e3 : D.doneD.left = if 0 < D.left then D.left - 1 else D.left := by unfold Dk.doneD; rw [if_neg (unhide hd0)]
        rw [e3]
        exact unhide hlf
    refine wp_region_lit ?_
    refine list_val (.func (.func 46) #[] #[.pointer (some ⟨b3, 0, none⟩), .pointer (some ⟨b4, 0, none⟩), .pointer (some ⟨b5, 0, none⟩)]) (by kernel_rfl) (by kernel_rfl) ?_
    simp only [Act.put, List.setIfInBounds_toArray, List.set_cons_zero, List.set_cons_succ, List.getElem_toArray, List.getElem_cons_zero, List.getElem_cons_succ]
    refine list_call 46 #[.pointer (some ⟨b3, 0, none⟩), .pointer (some ⟨b4, 0, none⟩), .pointer (some ⟨b5, 0, none⟩)] (by kernel_rfl) (by kernel_rfl) ((unhide hC u8 l (unhide hd0) (unhide hP9) hB.chg).mono ?_)
    rintro r u9 ⟨rfl, hQ9⟩
    refine ⟨_, rfl, ?_⟩
    clear hB
    replace hQ9 := hide hQ9
    simp only [Act.put, List.setIfInBounds_toArray, List.set_cons_zero, List.set_cons_succ, List.getElem_toArray, List.getElem_cons_zero, List.getElem_cons_succ]
    refine wpList_nil ?_
    have hZ : Hid (Dnp g D sg sc C pa pc l Q w (.returned (.int .i64 0)) u9) := by
      show Dnp g D sg sc C pa pc l Q w _ u9
      unfold Dnp
      rw [if_neg (unhide hd0)]
      exact ⟨rfl, unhide hQ9⟩
    go_wp2_with fail
    rw [unhide hT]
    exact unhide hZ
  · skip
    obtain ⟨hdn, hln, hle⟩ := hcase
    have hd0 : Hid (D.left ≠ 0) := by show D.left ≠ 0; omega
    have hl0 : ¬ l = 0 := by omega
    have hl1 : 0 < l := by omega
    obtain ⟨l2, hl2⟩ : ∃ x, x = l - 1 := ⟨_, rfl⟩
    have hw2 : IntKind.i64.wrap (l - 1) = l2 := by rw [IntKind.wrap_i64]; omega
    have hlf : Hid (Lf (if 0 < D.left then D.left - 1 else D.left) l2) := by show Lf _ l2; rw [if_pos (by omega), ← hle, hl2]; exact Lf.refl _ (by omega)
    obtain ⟨o2, ho2⟩ : ∃ x, x = os + 1 := ⟨_, rfl⟩
    replace ho2 := hide ho2; replace hl2 := hide hl2; replace hle := hide hle
    replace hB := unhide hB
    refine wp_region_lit ?_
    refine list_val (.pointer (some ⟨g, 0, none⟩)) (by kernel_rfl) (by kernel_rfl) ?_
    simp only [Act.put, List.setIfInBounds_toArray, List.set_cons_zero, List.set_cons_succ, List.getElem_toArray, List.getElem_cons_zero, List.getElem_cons_succ]
    refine list_val (.pointer (some ⟨g, 0, none⟩)) (by kernel_rfl) (by kernel_rfl) ?_
    simp only [Act.put, List.setIfInBounds_toArray, List.set_cons_zero, List.set_cons_succ, List.getElem_toArray, List.getElem_cons_zero, List.getElem_cons_succ]
    refine list_val (.pointer (some ⟨g, 2, none⟩)) (by kernel_rfl) (by kernel_rfl) ?_
    simp only [Act.put, List.setIfInBounds_toArray, List.set_cons_zero, List.set_cons_succ, List.getElem_toArray, List.getElem_cons_zero, List.getElem_cons_succ]
    refine list_val (.int .i64 l) (by kernel_rfl) (exec_i64 _ (.tmp 7) rfl g 2 (by kernel_rfl) l (cell_of (hB.get 0 (x := ⟨g, pdv (some ⟨sg, 0, none⟩) sn sc pa pn pc l os dd, 67⟩) rfl) (i := 2) rfl)) ?_
    simp only [Act.put, List.setIfInBounds_toArray, List.set_cons_zero, List.set_cons_succ, List.getElem_toArray, List.getElem_cons_zero, List.getElem_cons_succ]
    refine list_val (.bool false) (by kernel_rfl) (by go_simp) ?_
    simp only [Act.put, List.setIfInBounds_toArray, List.set_cons_zero, List.set_cons_succ, List.getElem_toArray, List.getElem_cons_zero, List.getElem_cons_succ]
    refine wpList_nil ?_
    replace hB := hide hB
    go_upto_region 4 with fail
    replace hB := unhide hB
    refine wp_region_lit ?_
    refine list_val (.pointer (some ⟨g, 0, none⟩)) (by kernel_rfl) (by kernel_rfl) ?_
    simp only [Act.put, List.setIfInBounds_toArray, List.set_cons_zero, List.set_cons_succ, List.getElem_toArray, List.getElem_cons_zero, List.getElem_cons_succ]
    refine list_val (.pointer (some ⟨g, 0, none⟩)) (by kernel_rfl) (by kernel_rfl) ?_
    simp only [Act.put, List.setIfInBounds_toArray, List.set_cons_zero, List.set_cons_succ, List.getElem_toArray, List.getElem_cons_zero, List.getElem_cons_succ]
    refine list_val (.pointer (some ⟨g, 2, none⟩)) (by kernel_rfl) (by kernel_rfl) ?_
    simp only [Act.put, List.setIfInBounds_toArray, List.set_cons_zero, List.set_cons_succ, List.getElem_toArray, List.getElem_cons_zero, List.getElem_cons_succ]
    refine list_val (.int .i64 l) (by kernel_rfl) (exec_i64 _ (.tmp 15) rfl g 2 (by kernel_rfl) l (cell_of (hB.get 0 (x := ⟨g, pdv (some ⟨sg, 0, none⟩) sn sc pa pn pc l os dd, 67⟩) rfl) (i := 2) rfl)) ?_
    simp only [Act.put, List.setIfInBounds_toArray, List.set_cons_zero, List.set_cons_succ, List.getElem_toArray, List.getElem_cons_zero, List.getElem_cons_succ]
    refine list_val (.bool true) (by kernel_rfl) (by go_simp) ?_
    simp only [Act.put, List.setIfInBounds_toArray, List.set_cons_zero, List.set_cons_succ, List.getElem_toArray, List.getElem_cons_zero, List.getElem_cons_succ]
    refine wpList_nil ?_
    replace hB := hide hB
    go_upto_region 5 with fail
    replace hB := unhide hB
    refine wp_region_lit ?_
    refine list_val (.pointer (some ⟨g, 0, none⟩)) (by kernel_rfl) (by kernel_rfl) ?_
    simp only [Act.put, List.setIfInBounds_toArray, List.set_cons_zero, List.set_cons_succ, List.getElem_toArray, List.getElem_cons_zero, List.getElem_cons_succ]
    refine list_val (.pointer (some ⟨g, 0, none⟩)) (by kernel_rfl) (by kernel_rfl) ?_
    simp only [Act.put, List.setIfInBounds_toArray, List.set_cons_zero, List.set_cons_succ, List.getElem_toArray, List.getElem_cons_zero, List.getElem_cons_succ]
    refine list_val (.pointer (some ⟨g, 2, none⟩)) (by kernel_rfl) (by kernel_rfl) ?_
    simp only [Act.put, List.setIfInBounds_toArray, List.set_cons_zero, List.set_cons_succ, List.getElem_toArray, List.getElem_cons_zero, List.getElem_cons_succ]
    refine list_val (.int .i64 l) (by kernel_rfl) (exec_i64 _ (.tmp 20) rfl g 2 (by kernel_rfl) l (cell_of (hB.get 0 (x := ⟨g, pdv (some ⟨sg, 0, none⟩) sn sc pa pn pc l os dd, 67⟩) rfl) (i := 2) rfl)) ?_
    simp only [Act.put, List.setIfInBounds_toArray, List.set_cons_zero, List.set_cons_succ, List.getElem_toArray, List.getElem_cons_zero, List.getElem_cons_succ]
    refine list_val (.int .i64 l2) (by kernel_rfl) (by go_simp) ?_
    simp only [Act.put, List.setIfInBounds_toArray, List.set_cons_zero, List.set_cons_succ, List.getElem_toArray, List.getElem_cons_zero, List.getElem_cons_succ]
    refine list_val (.pointer (some ⟨g, 0, none⟩)) (by kernel_rfl) (by kernel_rfl) ?_
    simp only [Act.put, List.setIfInBounds_toArray, List.set_cons_zero, List.set_cons_succ, List.getElem_toArray, List.getElem_cons_zero, List.getElem_cons_succ]
    refine list_val (.pointer (some ⟨g, 2, none⟩)) (by kernel_rfl) (by kernel_rfl) ?_
    simp only [Act.put, List.setIfInBounds_toArray, List.set_cons_zero, List.set_cons_succ, List.getElem_toArray, List.getElem_cons_zero, List.getElem_cons_succ]
    have c4 := cell_of (hB.get 0 (x := ⟨g, pdv (some ⟨sg, 0, none⟩) sn sc pa pn pc l os dd, 67⟩) rfl) (i := 2) rfl
    have fz := froz_of (i := 2) (hB.get 0 (x := ⟨g, pdv (some ⟨sg, 0, none⟩) sn sc pa pn pc l os dd, 67⟩) rfl)
    have hB2 := hB.cell 0 (x := ⟨g, pdv (some ⟨sg, 0, none⟩) sn sc pa pn pc l os dd, 67⟩) rfl 2 (.int .i64 l2)
    simp only [List.set_cons_zero, List.set_cons_succ] at hB2
    replace hB2 : Bc [g] w [⟨g, pdv (some ⟨sg, 0, none⟩) sn sc pa pn pc l2 os dd, 67⟩] _ := hB2
    clear hB
    replace hB2 := hide hB2
    dsimp only at c4 fz
    (refine wpList_step fun K hK => ?_; replace hK := hide hK; go_simp; refine unhide hK _ _ ?_; clear hK K)
    clear c4 fz
    have hB := unhide hB2
    clear hB2
    generalize World.setCell _ _ _ = u7 at *
    refine wpList_nil ?_
    clear hw2
    replace hB := hide hB
    go_upto_region 6 with fail
    replace hB := unhide hB
    have ho1 : (os : Int) + 1 = (o2 : Int) := by have := unhide ho2; omega
    have ho3 : IntKind.i64.wrap (o2 : Int) = (o2 : Int) := by rw [IntKind.wrap_i64]; have := unhide ho2; omega
    refine wp_region_lit ?_
    refine list_val (.pointer (some ⟨g, 0, none⟩)) (by kernel_rfl) (by kernel_rfl) ?_
    simp only [Act.put, List.setIfInBounds_toArray, List.set_cons_zero, List.set_cons_succ, List.getElem_toArray, List.getElem_cons_zero, List.getElem_cons_succ]
    refine list_val (.pointer (some ⟨g, 0, none⟩)) (by kernel_rfl) (by kernel_rfl) ?_
    simp only [Act.put, List.setIfInBounds_toArray, List.set_cons_zero, List.set_cons_succ, List.getElem_toArray, List.getElem_cons_zero, List.getElem_cons_succ]
    refine list_val (.pointer (some ⟨g, 3, none⟩)) (by kernel_rfl) (by kernel_rfl) ?_
    simp only [Act.put, List.setIfInBounds_toArray, List.set_cons_zero, List.set_cons_succ, List.getElem_toArray, List.getElem_cons_zero, List.getElem_cons_succ]
    refine list_val (.int .i64 os) (by kernel_rfl) (exec_i64 _ (.tmp 27) rfl g 3 (by kernel_rfl) os (cell_of (hB.get 0 (x := ⟨g, pdv (some ⟨sg, 0, none⟩) sn sc pa pn pc l2 os dd, 67⟩) rfl) (i := 3) rfl)) ?_
    simp only [Act.put, List.setIfInBounds_toArray, List.set_cons_zero, List.set_cons_succ, List.getElem_toArray, List.getElem_cons_zero, List.getElem_cons_succ]
    refine list_val (.int .i64 o2) (by kernel_rfl) (by go_simp) ?_
    simp only [Act.put, List.setIfInBounds_toArray, List.set_cons_zero, List.set_cons_succ, List.getElem_toArray, List.getElem_cons_zero, List.getElem_cons_succ]
    refine list_val (.pointer (some ⟨g, 0, none⟩)) (by kernel_rfl) (by kernel_rfl) ?_
    simp only [Act.put, List.setIfInBounds_toArray, List.set_cons_zero, List.set_cons_succ, List.getElem_toArray, List.getElem_cons_zero, List.getElem_cons_succ]
    refine list_val (.pointer (some ⟨g, 3, none⟩)) (by kernel_rfl) (by kernel_rfl) ?_
    simp only [Act.put, List.setIfInBounds_toArray, List.set_cons_zero, List.set_cons_succ, List.getElem_toArray, List.getElem_cons_zero, List.getElem_cons_succ]
    have c4 := cell_of (hB.get 0 (x := ⟨g, pdv (some ⟨sg, 0, none⟩) sn sc pa pn pc l2 os dd, 67⟩) rfl) (i := 3) rfl
    have fz := froz_of (i := 3) (hB.get 0 (x := ⟨g, pdv (some ⟨sg, 0, none⟩) sn sc pa pn pc l2 os dd, 67⟩) rfl)
    have hB2 := hB.cell 0 (x := ⟨g, pdv (some ⟨sg, 0, none⟩) sn sc pa pn pc l2 os dd, 67⟩) rfl 3 (.int .i64 (o2 : Int))
    simp only [List.set_cons_zero, List.set_cons_succ] at hB2
    replace hB2 : Bc [g] w [⟨g, pdv (some ⟨sg, 0, none⟩) sn sc pa pn pc l2 o2 dd, 67⟩] _ := hB2
    clear hB
    replace hB2 := hide hB2
    dsimp only at c4 fz
    (refine wpList_step fun K hK => ?_; replace hK := hide hK; go_simp; refine unhide hK _ _ ?_; clear hK K)
    clear c4 fz
    have hB := unhide hB2
    clear hB2
    generalize World.setCell _ _ _ = u8 at *
    refine wpList_nil ?_
    clear ho1 ho3
    replace hB := hide hB
    go_upto_region 7 with fail
    replace hB := unhide hB
    have hP9 : Hid (Pd g D.doneD u8 sg sc C pa pc l2) := by
      refine (unhide hP).turn hB.chg ?_ ?_ ?_ ?_
      · unfold Dk.doneD; rw [if_neg (unhide hd0)]
      · unfold Dk.doneD; rw [if_neg (unhide hd0)]
      · have e1 : D.doneD.ops = D.ops + 1 := by unfold Dk.doneD; rw [if_neg (unhide hd0)]
        have e2 : D.doneD.dead = D.dead := by unfold Dk.doneD; rw [if_neg (unhide hd0)]
        rw [e1, e2, ← unhide hsn, ← unhide hpn, ← unhide hos, ← unhide hdd, ← unhide ho2]
        exact (hB.get 0 (x := ⟨g, pdv (some ⟨sg, 0, none⟩) sn sc pa pn pc l2 o2 dd, 67⟩) rfl)
      · have e3 : D.doneD.left = if 0 < D.left then D.left - 1 else D.left := by unfold Dk.doneD; rw [if_neg (unhide hd0)]
        rw [e3]
        exact unhide hlf
    refine wp_region_lit ?_
    refine list_val (.func (.func 46) #[] #[.pointer (some ⟨b3, 0, none⟩), .pointer (some ⟨b4, 0, none⟩), .pointer (some ⟨b5, 0, none⟩)]) (by kernel_rfl) (by kernel_rfl) ?_
    simp only [Act.put, List.setIfInBounds_toArray, List.set_cons_zero, List.set_cons_succ, List.getElem_toArray, List.getElem_cons_zero, List.getElem_cons_succ]
    refine list_call 46 #[.pointer (some ⟨b3, 0, none⟩), .pointer (some ⟨b4, 0, none⟩), .pointer (some ⟨b5, 0, none⟩)] (by kernel_rfl) (by kernel_rfl) ((unhide hC u8 l2 (unhide hd0) (unhide hP9) hB.chg).mono ?_)
    rintro r u9 ⟨rfl, hQ9⟩
    refine ⟨_, rfl, ?_⟩
    clear hB
    replace hQ9 := hide hQ9
    simp only [Act.put, List.setIfInBounds_toArray, List.set_cons_zero, List.set_cons_succ, List.getElem_toArray, List.getElem_cons_zero, List.getElem_cons_succ]
    refine wpList_nil ?_
    have hZ : Hid (Dnp g D sg sc C pa pc l Q w (.returned (.int .i64 0)) u9) := by
      show Dnp g D sg sc C pa pc l Q w _ u9
      unfold Dnp
      rw [if_neg (unhide hd0)]
      exact ⟨rfl, unhide hQ9⟩
    go_wp2_with fail
    rw [unhide hT]
    exact unhide hZ
set_option maxHeartbeats 4000000 in
theorem done_s (g : Nat) (D : Dk) (sg sc : Nat) (C : List Value) (pa : Option Addr) (pc : Nat) (l : Int) (b1 : Nat) (Q : World → Prop) (m : Nat) (hD : D.Ok m) (hm : m ≤ 1000000) (w : World) (hP : Pd g D w sg sc C pa pc l) (hC : ∀ (v : World) (l' : Int), D.left ≠ 0 → Pd g D.doneD v sg sc C pa pc l' → Chg [g] [g] w v → Calls Try.prog 44 #[.pointer (some ⟨b1, 0, none⟩)] v (fun r w' => r = .returned (.tuple #[]) ∧ Q w')) : Calls Try.prog 43 #[P0 g, .func (.func 44) #[] #[.pointer (some ⟨b1, 0, none⟩)]] w (Dnp g D sg sc C pa pc l Q w) := by
  obtain ⟨T, hT⟩ : ∃ T, T = Dnp g D sg sc C pa pc l Q w := ⟨_, rfl⟩
  rw [← hT]
  replace hT := hide hT
  obtain ⟨dd, hdd⟩ : ∃ x, x = D.dead := ⟨_, rfl⟩
  obtain ⟨sn, hsn⟩ : ∃ n, n = D.safe.length := ⟨_, rfl⟩
  obtain ⟨pn, hpn⟩ : ∃ n, n = D.pend.length := ⟨_, rfl⟩
  obtain ⟨os, hos⟩ : ∃ n, n = D.ops := ⟨_, rfl⟩
  have hcl := hP.cel
  rw [← hdd, ← hsn, ← hpn, ← hos] at hcl
  replace hdd := hide hdd; replace hsn := hide hsn; replace hpn := hide hpn; replace hos := hide hos; replace hcl := hide hcl; replace hP := hide hP
  have hom : os ≤ 1000000 := by rw [unhide hos]; exact Nat.le_trans hD.ops hm
  have hlh : D.left < 9223372036854775808 := hD.hi
  have hll := (unhide hP).lf
  have hB := (Bc.nil [g] w).add ⟨g, pdv (some ⟨sg, 0, none⟩) D.safe.length sc pa D.pend.length pc l D.ops D.dead, 67⟩ (unhide hP).cel (.inl (by simp)) (fun y hy => by cases hy)
  rw [← unhide hdd, ← unhide hsn, ← unhide hpn, ← unhide hos] at hB
  have hcase : (D.left = 0 ∧ l = 0) ∨ (D.left < 0 ∧ l < 0) ∨ (0 < D.left ∧ 0 < l ∧ l = D.left) := by
    obtain ⟨h1, h2⟩ := hll
    by_cases h : D.left < 0
    · exact .inr (.inl ⟨h, (h1 h).1⟩)
    · have := h2 (by omega)
      omega
  replace hD := hide hD; replace hB := hide hB; replace hC := hide hC; replace hll := hide hll
  go_enter Try.func43, Try.ntmps43
  go_upto_region 1 with fail
  replace hB : Hid (Bc [g] w [⟨g, pdv (some ⟨sg, 0, none⟩) sn sc pa pn pc l os dd, 67⟩] w) := hB
  rcases hcase with hcase | hcase | hcase
  · skip
    obtain ⟨hd0, rfl⟩ := hcase
    replace hB := unhide hB
    refine wp_region_lit ?_
    refine list_val (.pointer (some ⟨g, 0, none⟩)) (by kernel_rfl) (by kernel_rfl) ?_
    simp only [Act.put, List.setIfInBounds_toArray, List.set_cons_zero, List.set_cons_succ, List.getElem_toArray, List.getElem_cons_zero, List.getElem_cons_succ]
    refine list_val (.pointer (some ⟨g, 0, none⟩)) (by kernel_rfl) (by kernel_rfl) ?_
    simp only [Act.put, List.setIfInBounds_toArray, List.set_cons_zero, List.set_cons_succ, List.getElem_toArray, List.getElem_cons_zero, List.getElem_cons_succ]
    refine list_val (.pointer (some ⟨g, 2, none⟩)) (by kernel_rfl) (by kernel_rfl) ?_
    simp only [Act.put, List.setIfInBounds_toArray, List.set_cons_zero, List.set_cons_succ, List.getElem_toArray, List.getElem_cons_zero, List.getElem_cons_succ]
    refine list_val (.int .i64 0) (by kernel_rfl) (exec_i64 _ (.tmp 7) rfl g 2 (by kernel_rfl) 0 (cell_of (hB.get 0 (x := ⟨g, pdv (some ⟨sg, 0, none⟩) sn sc pa pn pc 0 os dd, 67⟩) rfl) (i := 2) rfl)) ?_
    simp only [Act.put, List.setIfInBounds_toArray, List.set_cons_zero, List.set_cons_succ, List.getElem_toArray, List.getElem_cons_zero, List.getElem_cons_succ]
    refine list_val (.bool true) (by kernel_rfl) (by go_simp) ?_
    simp only [Act.put, List.setIfInBounds_toArray, List.set_cons_zero, List.set_cons_succ, List.getElem_toArray, List.getElem_cons_zero, List.getElem_cons_succ]
    refine wpList_nil ?_
    replace hd0 := hide hd0
    replace hB := hide hB
    go_upto_region 2 with fail
    replace hB := unhide hB
    refine wp_region_lit ?_
    refine list_val (.pointer (some ⟨g, 0, none⟩)) (by kernel_rfl) (by kernel_rfl) ?_
    simp only [Act.put, List.setIfInBounds_toArray, List.set_cons_zero, List.set_cons_succ, List.getElem_toArray, List.getElem_cons_zero, List.getElem_cons_succ]
    refine list_val (.pointer (some ⟨g, 0, none⟩)) (by kernel_rfl) (by kernel_rfl) ?_
    simp only [Act.put, List.setIfInBounds_toArray, List.set_cons_zero, List.set_cons_succ, List.getElem_toArray, List.getElem_cons_zero, List.getElem_cons_succ]
    refine list_val (.pointer (some ⟨g, 4, none⟩)) (by kernel_rfl) (by kernel_rfl) ?_
    simp only [Act.put, List.setIfInBounds_toArray, List.set_cons_zero, List.set_cons_succ, List.getElem_toArray, List.getElem_cons_zero, List.getElem_cons_succ]
    have c4 := cell_of (hB.get 0 (x := ⟨g, pdv (some ⟨sg, 0, none⟩) sn sc pa pn pc 0 os dd, 67⟩) rfl) (i := 4) rfl
    have fz := froz_of (i := 4) (hB.get 0 (x := ⟨g, pdv (some ⟨sg, 0, none⟩) sn sc pa pn pc 0 os dd, 67⟩) rfl)
    have hB2 := hB.cell 0 (x := ⟨g, pdv (some ⟨sg, 0, none⟩) sn sc pa pn pc 0 os dd, 67⟩) rfl 4 (.bool true)
    simp only [List.set_cons_zero, List.set_cons_succ] at hB2
    replace hB2 : Bc [g] w [⟨g, pdv (some ⟨sg, 0, none⟩) sn sc pa pn pc 0 os true, 67⟩] _ := hB2
    clear hB
    replace hB2 := hide hB2
    dsimp only at c4 fz
    (refine wpList_step fun K hK => ?_; replace hK := hide hK; go_simp; refine unhide hK _ _ ?_; clear hK K)
    clear c4 fz
    have hB := unhide hB2
    clear hB2
    generalize World.setCell _ _ _ = u1 at *
    refine wpList_nil ?_
    have hZ : Hid (Dnp g D sg sc C pa pc 0 Q w (.returned (.int .i64 7)) u1) := by
      show Dnp g D sg sc C pa pc 0 Q w _ u1
      unfold Dnp
      rw [if_pos (unhide hd0)]
      refine ⟨rfl, (unhide hP).turn hB.chg ?_ ?_ ?_ ?_, hB.chg⟩
      · unfold Dk.doneD; rw [if_pos (unhide hd0)]
      · unfold Dk.doneD; rw [if_pos (unhide hd0)]
      · have e1 : D.doneD.ops = D.ops := by unfold Dk.doneD; rw [if_pos (unhide hd0)]
        have e2 : D.doneD.dead = true := by unfold Dk.doneD; rw [if_pos (unhide hd0)]
        rw [e1, e2, ← unhide hsn, ← unhide hpn, ← unhide hos]
        exact (hB.get 0 (x := ⟨g, pdv (some ⟨sg, 0, none⟩) sn sc pa pn pc 0 os true, 67⟩) rfl)
      · have e3 : D.doneD.left = 0 := by unfold Dk.doneD; rw [if_pos (unhide hd0)]; exact unhide hd0
        rw [e3]
        exact Lf.refl _ (by omega)
    replace hB := hide hB
    go_wp2_with fail
    rw [unhide hT]
    exact unhide hZ
  · skip
    obtain ⟨hdn, hln⟩ := hcase
    have hd0 : Hid (D.left ≠ 0) := by show D.left ≠ 0; omega
    have hl0 : ¬ l = 0 := by omega
    have hl1 : ¬ 0 < l := by omega
    have hlf : Hid (Lf (if 0 < D.left then D.left - 1 else D.left) l) := by show Lf _ l; rw [if_neg (by omega)]; exact unhide hll
    obtain ⟨o2, ho2⟩ : ∃ x, x = os + 1 := ⟨_, rfl⟩
    replace ho2 := hide ho2
    replace hB := unhide hB
    refine wp_region_lit ?_
    refine list_val (.pointer (some ⟨g, 0, none⟩)) (by kernel_rfl) (by kernel_rfl) ?_
    simp only [Act.put, List.setIfInBounds_toArray, List.set_cons_zero, List.set_cons_succ, List.getElem_toArray, List.getElem_cons_zero, List.getElem_cons_succ]
    refine list_val (.pointer (some ⟨g, 0, none⟩)) (by kernel_rfl) (by kernel_rfl) ?_
    simp only [Act.put, List.setIfInBounds_toArray, List.set_cons_zero, List.set_cons_succ, List.getElem_toArray, List.getElem_cons_zero, List.getElem_cons_succ]
    refine list_val (.pointer (some ⟨g, 2, none⟩)) (by kernel_rfl) (by kernel_rfl) ?_
    simp only [Act.put, List.setIfInBounds_toArray, List.set_cons_zero, List.set_cons_succ, List.getElem_toArray, List.getElem_cons_zero, List.getElem_cons_succ]
    refine list_val (.int .i64 l) (by kernel_rfl) (exec_i64 _ (.tmp 7) rfl g 2 (by kernel_rfl) l (cell_of (hB.get 0 (x := ⟨g, pdv (some ⟨sg, 0, none⟩) sn sc pa pn pc l os dd, 67⟩) rfl) (i := 2) rfl)) ?_
    simp only [Act.put, List.setIfInBounds_toArray, List.set_cons_zero, List.set_cons_succ, List.getElem_toArray, List.getElem_cons_zero, List.getElem_cons_succ]
    refine list_val (.bool false) (by kernel_rfl) (by go_simp) ?_
    simp only [Act.put, List.setIfInBounds_toArray, List.set_cons_zero, List.set_cons_succ, List.getElem_toArray, List.getElem_cons_zero, List.getElem_cons_succ]
    refine wpList_nil ?_
    replace hB := hide hB
    go_upto_region 4 with fail
    replace hB := unhide hB
    refine wp_region_lit ?_
    refine list_val (.pointer (some ⟨g, 0, none⟩)) (by kernel_rfl) (by kernel_rfl) ?_
    simp only [Act.put, List.setIfInBounds_toArray, List.set_cons_zero, List.set_cons_succ, List.getElem_toArray, List.getElem_cons_zero, List.getElem_cons_succ]
    refine list_val (.pointer (some ⟨g, 0, none⟩)) (by kernel_rfl) (by kernel_rfl) ?_
    simp only [Act.put, List.setIfInBounds_toArray, List.set_cons_zero, List.set_cons_succ, List.getElem_toArray, List.getElem_cons_zero, List.getElem_cons_succ]
    refine list_val (.pointer (some ⟨g, 2, none⟩)) (by kernel_rfl) (by kernel_rfl) ?_
    simp only [Act.put, List.setIfInBounds_toArray, List.set_cons_zero, List.set_cons_succ, List.getElem_toArray, List.getElem_cons_zero, List.getElem_cons_succ]
    refine list_val (.int .i64 l) (by kernel_rfl) (exec_i64 _ (.tmp 15) rfl g 2 (by kernel_rfl) l (cell_of (hB.get 0 (x := ⟨g, pdv (some ⟨sg, 0, none⟩) sn sc pa pn pc l os dd, 67⟩) rfl) (i := 2) rfl)) ?_
    simp only [Act.put, List.setIfInBounds_toArray, List.set_cons_zero, List.set_cons_succ, List.getElem_toArray, List.getElem_cons_zero, List.getElem_cons_succ]
    refine list_val (.bool false) (by kernel_rfl) (by go_simp) ?_
    simp only [Act.put, List.setIfInBounds_toArray, List.set_cons_zero, List.set_cons_succ, List.getElem_toArray, List.getElem_cons_zero, List.getElem_cons_succ]
    refine wpList_nil ?_
    replace hB := hide hB
    go_upto_region 6 with fail
    replace hB := unhide hB
    have ho1 : (os : Int) + 1 = (o2 : Int) := by have := unhide ho2; omega
    have ho3 : IntKind.i64.wrap (o2 : Int) = (o2 : Int) := by rw [IntKind.wrap_i64]; have := unhide ho2; omega
    refine wp_region_lit ?_
    refine list_val (.pointer (some ⟨g, 0, none⟩)) (by kernel_rfl) (by kernel_rfl) ?_
    simp only [Act.put, List.setIfInBounds_toArray, List.set_cons_zero, List.set_cons_succ, List.getElem_toArray, List.getElem_cons_zero, List.getElem_cons_succ]
    refine list_val (.pointer (some ⟨g, 0, none⟩)) (by kernel_rfl) (by kernel_rfl) ?_
    simp only [Act.put, List.setIfInBounds_toArray, List.set_cons_zero, List.set_cons_succ, List.getElem_toArray, List.getElem_cons_zero, List.getElem_cons_succ]
    refine list_val (.pointer (some ⟨g, 3, none⟩)) (by kernel_rfl) (by kernel_rfl) ?_
    simp only [Act.put, List.setIfInBounds_toArray, List.set_cons_zero, List.set_cons_succ, List.getElem_toArray, List.getElem_cons_zero, List.getElem_cons_succ]
    refine list_val (.int .i64 os) (by kernel_rfl) (exec_i64 _ (.tmp 27) rfl g 3 (by kernel_rfl) os (cell_of (hB.get 0 (x := ⟨g, pdv (some ⟨sg, 0, none⟩) sn sc pa pn pc l os dd, 67⟩) rfl) (i := 3) rfl)) ?_
    simp only [Act.put, List.setIfInBounds_toArray, List.set_cons_zero, List.set_cons_succ, List.getElem_toArray, List.getElem_cons_zero, List.getElem_cons_succ]
    refine list_val (.int .i64 o2) (by kernel_rfl) (by go_simp) ?_
    simp only [Act.put, List.setIfInBounds_toArray, List.set_cons_zero, List.set_cons_succ, List.getElem_toArray, List.getElem_cons_zero, List.getElem_cons_succ]
    refine list_val (.pointer (some ⟨g, 0, none⟩)) (by kernel_rfl) (by kernel_rfl) ?_
    simp only [Act.put, List.setIfInBounds_toArray, List.set_cons_zero, List.set_cons_succ, List.getElem_toArray, List.getElem_cons_zero, List.getElem_cons_succ]
    refine list_val (.pointer (some ⟨g, 3, none⟩)) (by kernel_rfl) (by kernel_rfl) ?_
    simp only [Act.put, List.setIfInBounds_toArray, List.set_cons_zero, List.set_cons_succ, List.getElem_toArray, List.getElem_cons_zero, List.getElem_cons_succ]
    have c4 := cell_of (hB.get 0 (x := ⟨g, pdv (some ⟨sg, 0, none⟩) sn sc pa pn pc l os dd, 67⟩) rfl) (i := 3) rfl
    have fz := froz_of (i := 3) (hB.get 0 (x := ⟨g, pdv (some ⟨sg, 0, none⟩) sn sc pa pn pc l os dd, 67⟩) rfl)
    have hB2 := hB.cell 0 (x := ⟨g, pdv (some ⟨sg, 0, none⟩) sn sc pa pn pc l os dd, 67⟩) rfl 3 (.int .i64 (o2 : Int))
    simp only [List.set_cons_zero, List.set_cons_succ] at hB2
    replace hB2 : Bc [g] w [⟨g, pdv (some ⟨sg, 0, none⟩) sn sc pa pn pc l o2 dd, 67⟩] _ := hB2
    clear hB
    replace hB2 := hide hB2
    dsimp only at c4 fz
    (refine wpList_step fun K hK => ?_; replace hK := hide hK; go_simp; refine unhide hK _ _ ?_; clear hK K)
    clear c4 fz
    have hB := unhide hB2
    clear hB2
    generalize World.setCell _ _ _ = u8 at *
    refine wpList_nil ?_
    clear ho1 ho3
    replace hB := hide hB
    go_upto_region 7 with fail
    replace hB := unhide hB
    have hP9 : Hid (Pd g D.doneD u8 sg sc C pa pc l) := by
      refine (unhide hP).turn hB.chg ?_ ?_ ?_ ?_
      · unfold Dk.doneD; rw [if_neg (unhide hd0)]
      · unfold Dk.doneD; rw [if_neg (unhide hd0)]
      · have e1 : D.doneD.ops = D.ops + 1 := by unfold Dk.doneD; rw [if_neg (unhide hd0)]
        have e2 : D.doneD.dead = D.dead := by unfold Dk.doneD; rw [if_neg (unhide hd0)]
        rw [e1, e2, ← unhide hsn, ← unhide hpn, ← unhide hos, ← unhide hdd, ← unhide ho2]
        exact (hB.get 0 (x := ⟨g, pdv (some ⟨sg, 0, none⟩) sn sc pa pn pc l o2 dd, 67⟩) rfl)
      · have e3 : D.doneD.left = if 0 < D.left then D.left - 1 else D.left := by unfold Dk.doneD; rw [if_neg (unhide hd0)]
        rw [e3]
        exact unhide hlf
    refine wp_region_lit ?_
    refine list_val (.func (.func 44) #[] #[.pointer (some ⟨b1, 0, none⟩)]) (by kernel_rfl) (by kernel_rfl) ?_
    simp only [Act.put, List.setIfInBounds_toArray, List.set_cons_zero, List.set_cons_succ, List.getElem_toArray, List.getElem_cons_zero, List.getElem_cons_succ]
    refine list_call 44 #[.pointer (some ⟨b1, 0, none⟩)] (by kernel_rfl) (by kernel_rfl) ((unhide hC u8 l (unhide hd0) (unhide hP9) hB.chg).mono ?_)
    rintro r u9 ⟨rfl, hQ9⟩
    refine ⟨_, rfl, ?_⟩
    clear hB
    replace hQ9 := hide hQ9
    simp only [Act.put, List.setIfInBounds_toArray, List.set_cons_zero, List.set_cons_succ, List.getElem_toArray, List.getElem_cons_zero, List.getElem_cons_succ]
    refine wpList_nil ?_
    have hZ : Hid (Dnp g D sg sc C pa pc l Q w (.returned (.int .i64 0)) u9) := by
      show Dnp g D sg sc C pa pc l Q w _ u9
      unfold Dnp
      rw [if_neg (unhide hd0)]
      exact ⟨rfl, unhide hQ9⟩
    go_wp2_with fail
    rw [unhide hT]
    exact unhide hZ
  · skip
    obtain ⟨hdn, hln, hle⟩ := hcase
    have hd0 : Hid (D.left ≠ 0) := by show D.left ≠ 0; omega
    have hl0 : ¬ l = 0 := by omega
    have hl1 : 0 < l := by omega
    obtain ⟨l2, hl2⟩ : ∃ x, x = l - 1 := ⟨_, rfl⟩
    have hw2 : IntKind.i64.wrap (l - 1) = l2 := by rw [IntKind.wrap_i64]; omega
    have hlf : Hid (Lf (if 0 < D.left then D.left - 1 else D.left) l2) := by show Lf _ l2; rw [if_pos (by omega), ← hle, hl2]; exact Lf.refl _ (by omega)
    obtain ⟨o2, ho2⟩ : ∃ x, x = os + 1 := ⟨_, rfl⟩
    replace ho2 := hide ho2; replace hl2 := hide hl2; replace hle := hide hle
    replace hB := unhide hB
    refine wp_region_lit ?_
    refine list_val (.pointer (some ⟨g, 0, none⟩)) (by kernel_rfl) (by kernel_rfl) ?_
    simp only [Act.put, List.setIfInBounds_toArray, List.set_cons_zero, List.set_cons_succ, List.getElem_toArray, List.getElem_cons_zero, List.getElem_cons_succ]
    refine list_val (.pointer (some ⟨g, 0, none⟩)) (by kernel_rfl) (by kernel_rfl) ?_
    simp only [Act.put, List.setIfInBounds_toArray, List.set_cons_zero, List.set_cons_succ, List.getElem_toArray, List.getElem_cons_zero, List.getElem_cons_succ]
    refine list_val (.pointer (some ⟨g, 2, none⟩)) (by kernel_rfl) (by kernel_rfl) ?_
    simp only [Act.put, List.setIfInBounds_toArray, List.set_cons_zero, List.set_cons_succ, List.getElem_toArray, List.getElem_cons_zero, List.getElem_cons_succ]
    refine list_val (.int .i64 l) (by kernel_rfl) (exec_i64 _ (.tmp 7) rfl g 2 (by kernel_rfl) l (cell_of (hB.get 0 (x := ⟨g, pdv (some ⟨sg, 0, none⟩) sn sc pa pn pc l os dd, 67⟩) rfl) (i := 2) rfl)) ?_
    simp only [Act.put, List.setIfInBounds_toArray, List.set_cons_zero, List.set_cons_succ, List.getElem_toArray, List.getElem_cons_zero, List.getElem_cons_succ]
    refine list_val (.bool false) (by kernel_rfl) (by go_simp) ?_
    simp only [Act.put, List.setIfInBounds_toArray, List.set_cons_zero, List.set_cons_succ, List.getElem_toArray, List.getElem_cons_zero, List.getElem_cons_succ]
    refine wpList_nil ?_
    replace hB := hide hB
    go_upto_region 4 with fail
    replace hB := unhide hB
    refine wp_region_lit ?_
    refine list_val (.pointer (some ⟨g, 0, none⟩)) (by kernel_rfl) (by kernel_rfl) ?_
    simp only [Act.put, List.setIfInBounds_toArray, List.set_cons_zero, List.set_cons_succ, List.getElem_toArray, List.getElem_cons_zero, List.getElem_cons_succ]
    refine list_val (.pointer (some ⟨g, 0, none⟩)) (by kernel_rfl) (by kernel_rfl) ?_
    simp only [Act.put, List.setIfInBounds_toArray, List.set_cons_zero, List.set_cons_succ, List.getElem_toArray, List.getElem_cons_zero, List.getElem_cons_succ]
    refine list_val (.pointer (some ⟨g, 2, none⟩)) (by kernel_rfl) (by kernel_rfl) ?_
    simp only [Act.put, List.setIfInBounds_toArray, List.set_cons_zero, List.set_cons_succ, List.getElem_toArray, List.getElem_cons_zero, List.getElem_cons_succ]
    refine list_val (.int .i64 l) (by kernel_rfl) (exec_i64 _ (.tmp 15) rfl g 2 (by kernel_rfl) l (cell_of (hB.get 0 (x := ⟨g, pdv (some ⟨sg, 0, none⟩) sn sc pa pn pc l os dd, 67⟩) rfl) (i := 2) rfl)) ?_
    simp only [Act.put, List.setIfInBounds_toArray, List.set_cons_zero, List.set_cons_succ, List.getElem_toArray, List.getElem_cons_zero, List.getElem_cons_succ]
    refine list_val (.bool true) (by kernel_rfl) (by go_simp) ?_
    simp only [Act.put, List.setIfInBounds_toArray, List.set_cons_zero, List.set_cons_succ, List.getElem_toArray, List.getElem_cons_zero, List.getElem_cons_succ]
    refine wpList_nil ?_
    replace hB := hide hB
    go_upto_region 5 with fail
    replace hB := unhide hB
    refine wp_region_lit ?_
    refine list_val (.pointer (some ⟨g, 0, none⟩)) (by kernel_rfl) (by kernel_rfl) ?_
    simp only [Act.put, List.setIfInBounds_toArray, List.set_cons_zero, List.set_cons_succ, List.getElem_toArray, List.getElem_cons_zero, List.getElem_cons_succ]
    refine list_val (.pointer (some ⟨g, 0, none⟩)) (by kernel_rfl) (by kernel_rfl) ?_
    simp only [Act.put, List.setIfInBounds_toArray, List.set_cons_zero, List.set_cons_succ, List.getElem_toArray, List.getElem_cons_zero, List.getElem_cons_succ]
    refine list_val (.pointer (some ⟨g, 2, none⟩)) (by kernel_rfl) (by kernel_rfl) ?_
    simp only [Act.put, List.setIfInBounds_toArray, List.set_cons_zero, List.set_cons_succ, List.getElem_toArray, List.getElem_cons_zero, List.getElem_cons_succ]
    refine list_val (.int .i64 l) (by kernel_rfl) (exec_i64 _ (.tmp 20) rfl g 2 (by kernel_rfl) l (cell_of (hB.get 0 (x := ⟨g, pdv (some ⟨sg, 0, none⟩) sn sc pa pn pc l os dd, 67⟩) rfl) (i := 2) rfl)) ?_
    simp only [Act.put, List.setIfInBounds_toArray, List.set_cons_zero, List.set_cons_succ, List.getElem_toArray, List.getElem_cons_zero, List.getElem_cons_succ]
    refine list_val (.int .i64 l2) (by kernel_rfl) (by go_simp) ?_
    simp only [Act.put, List.setIfInBounds_toArray, List.set_cons_zero, List.set_cons_succ, List.getElem_toArray, List.getElem_cons_zero, List.getElem_cons_succ]
    refine list_val (.pointer (some ⟨g, 0, none⟩)) (by kernel_rfl) (by kernel_rfl) ?_
    simp only [Act.put, List.setIfInBounds_toArray, List.set_cons_zero, List.set_cons_succ, List.getElem_toArray, List.getElem_cons_zero, List.getElem_cons_succ]
    refine list_val (.pointer (some ⟨g, 2, none⟩)) (by kernel_rfl) (by kernel_rfl) ?_
    simp only [Act.put, List.setIfInBounds_toArray, List.set_cons_zero, List.set_cons_succ, List.getElem_toArray, List.getElem_cons_zero, List.getElem_cons_succ]
    have c4 := cell_of (hB.get 0 (x := ⟨g, pdv (some ⟨sg, 0, none⟩) sn sc pa pn pc l os dd, 67⟩) rfl) (i := 2) rfl
    have fz := froz_of (i := 2) (hB.get 0 (x := ⟨g, pdv (some ⟨sg, 0, none⟩) sn sc pa pn pc l os dd, 67⟩) rfl)
    have hB2 := hB.cell 0 (x := ⟨g, pdv (some ⟨sg, 0, none⟩) sn sc pa pn pc l os dd, 67⟩) rfl 2 (.int .i64 l2)
    simp only [List.set_cons_zero, List.set_cons_succ] at hB2
    replace hB2 : Bc [g] w [⟨g, pdv (some ⟨sg, 0, none⟩) sn sc pa pn pc l2 os dd, 67⟩] _ := hB2
    clear hB
    replace hB2 := hide hB2
    dsimp only at c4 fz
    (refine wpList_step fun K hK => ?_; replace hK := hide hK; go_simp; refine unhide hK _ _ ?_; clear hK K)
    clear c4 fz
    have hB := unhide hB2
    clear hB2
    generalize World.setCell _ _ _ = u7 at *
    refine wpList_nil ?_
    clear hw2
    replace hB := hide hB
    go_upto_region 6 with fail
    replace hB := unhide hB
    have ho1 : (os : Int) + 1 = (o2 : Int) := by have := unhide ho2; omega
    have ho3 : IntKind.i64.wrap (o2 : Int) = (o2 : Int) := by rw [IntKind.wrap_i64]; have := unhide ho2; omega
    refine wp_region_lit ?_
    refine list_val (.pointer (some ⟨g, 0, none⟩)) (by kernel_rfl) (by kernel_rfl) ?_
    simp only [Act.put, List.setIfInBounds_toArray, List.set_cons_zero, List.set_cons_succ, List.getElem_toArray, List.getElem_cons_zero, List.getElem_cons_succ]
    refine list_val (.pointer (some ⟨g, 0, none⟩)) (by kernel_rfl) (by kernel_rfl) ?_
    simp only [Act.put, List.setIfInBounds_toArray, List.set_cons_zero, List.set_cons_succ, List.getElem_toArray, List.getElem_cons_zero, List.getElem_cons_succ]
    refine list_val (.pointer (some ⟨g, 3, none⟩)) (by kernel_rfl) (by kernel_rfl) ?_
    simp only [Act.put, List.setIfInBounds_toArray, List.set_cons_zero, List.set_cons_succ, List.getElem_toArray, List.getElem_cons_zero, List.getElem_cons_succ]
    refine list_val (.int .i64 os) (by kernel_rfl) (exec_i64 _ (.tmp 27) rfl g 3 (by kernel_rfl) os (cell_of (hB.get 0 (x := ⟨g, pdv (some ⟨sg, 0, none⟩) sn sc pa pn pc l2 os dd, 67⟩) rfl) (i := 3) rfl)) ?_
    simp only [Act.put, List.setIfInBounds_toArray, List.set_cons_zero, List.set_cons_succ, List.getElem_toArray, List.getElem_cons_zero, List.getElem_cons_succ]
    refine list_val (.int .i64 o2) (by kernel_rfl) (by go_simp) ?_
    simp only [Act.put, List.setIfInBounds_toArray, List.set_cons_zero, List.set_cons_succ, List.getElem_toArray, List.getElem_cons_zero, List.getElem_cons_succ]
    refine list_val (.pointer (some ⟨g, 0, none⟩)) (by kernel_rfl) (by kernel_rfl) ?_
    simp only [Act.put, List.setIfInBounds_toArray, List.set_cons_zero, List.set_cons_succ, List.getElem_toArray, List.getElem_cons_zero, List.getElem_cons_succ]
    refine list_val (.pointer (some ⟨g, 3, none⟩)) (by kernel_rfl) (by kernel_rfl) ?_
    simp only [Act.put, List.setIfInBounds_toArray, List.set_cons_zero, List.set_cons_succ, List.getElem_toArray, List.getElem_cons_zero, List.getElem_cons_succ]
    have c4 := cell_of (hB.get 0 (x := ⟨g, pdv (some ⟨sg, 0, none⟩) sn sc pa pn pc l2 os dd, 67⟩) rfl) (i := 3) rfl
    have fz := froz_of (i := 3) (hB.get 0 (x := ⟨g, pdv (some ⟨sg, 0, none⟩) sn sc pa pn pc l2 os dd, 67⟩) rfl)
    have hB2 := hB.cell 0 (x := ⟨g, pdv (some ⟨sg, 0, none⟩) sn sc pa pn pc l2 os dd, 67⟩) rfl 3 (.int .i64 (o2 : Int))
    simp only [List.set_cons_zero, List.set_cons_succ] at hB2
    replace hB2 : Bc [g] w [⟨g, pdv (some ⟨sg, 0, none⟩) sn sc pa pn pc l2 o2 dd, 67⟩] _ := hB2
    clear hB
    replace hB2 := hide hB2
    dsimp only at c4 fz
    (refine wpList_step fun K hK => ?_; replace hK := hide hK; go_simp; refine unhide hK _ _ ?_; clear hK K)
    clear c4 fz
    have hB := unhide hB2
    clear hB2
    generalize World.setCell _ _ _ = u8 at *
    refine wpList_nil ?_
    clear ho1 ho3
    replace hB := hide hB
    go_upto_region 7 with fail
    replace hB := unhide hB
    have hP9 : Hid (Pd g D.doneD u8 sg sc C pa pc l2) := by
      refine (unhide hP).turn hB.chg ?_ ?_ ?_ ?_
      · unfold Dk.doneD; rw [if_neg (unhide hd0)]
      · unfold Dk.doneD; rw [if_neg (unhide hd0)]
      · have e1 : D.doneD.ops = D.ops + 1 := by unfold Dk.doneD; rw [if_neg (unhide hd0)]
        have e2 : D.doneD.dead = D.dead := by unfold Dk.doneD; rw [if_neg (unhide hd0)]
        rw [e1, e2, ← unhide hsn, ← unhide hpn, ← unhide hos, ← unhide hdd, ← unhide ho2]
        exact (hB.get 0 (x := ⟨g, pdv (some ⟨sg, 0, none⟩) sn sc pa pn pc l2 o2 dd, 67⟩) rfl)
      · have e3 : D.doneD.left = if 0 < D.left then D.left - 1 else D.left := by unfold Dk.doneD; rw [if_neg (unhide hd0)]
        rw [e3]
        exact unhide hlf
    refine wp_region_lit ?_
    refine list_val (.func (.func 44) #[] #[.pointer (some ⟨b1, 0, none⟩)]) (by kernel_rfl) (by kernel_rfl) ?_
    simp only [Act.put, List.setIfInBounds_toArray, List.set_cons_zero, List.set_cons_succ, List.getElem_toArray, List.getElem_cons_zero, List.getElem_cons_succ]
    refine list_call 44 #[.pointer (some ⟨b1, 0, none⟩)] (by kernel_rfl) (by kernel_rfl) ((unhide hC u8 l2 (unhide hd0) (unhide hP9) hB.chg).mono ?_)
    rintro r u9 ⟨rfl, hQ9⟩
    refine ⟨_, rfl, ?_⟩
    clear hB
    replace hQ9 := hide hQ9
    simp only [Act.put, List.setIfInBounds_toArray, List.set_cons_zero, List.set_cons_succ, List.getElem_toArray, List.getElem_cons_zero, List.getElem_cons_succ]
    refine wpList_nil ?_
    have hZ : Hid (Dnp g D sg sc C pa pc l Q w (.returned (.int .i64 0)) u9) := by
      show Dnp g D sg sc C pa pc l Q w _ u9
      unfold Dnp
      rw [if_neg (unhide hd0)]
      exact ⟨rfl, unhide hQ9⟩
    go_wp2_with fail
    rw [unhide hT]
    exact unhide hZ
set_option maxHeartbeats 4000000 in
theorem sync1_ok (g : Nat) (D : Dk) (sg sc : Nat) (C : List Value) (pa : Option Addr) (pc : Nat) (l : Int) (b1 m : Nat) (hD : D.Ok m) (hm : m ≤ 1000001) (w : World) (hP : Pd g D w sg sc C pa pc l) (h1 : w.heap[b1]? = some (.cells #[P0 g] 24 (0, 0))) : Calls Try.prog 44 #[.pointer (some ⟨b1, 0, none⟩)] w (fun r w' => r = .returned (.tuple #[]) ∧ ∃ C', Pd g (D.live D.all) w' sg sc C' none 0 l ∧ Chg [g, sg] [g, sg] w w') := by
  obtain ⟨T, hT⟩ : ∃ T : Ending → World → Prop, T = fun r w' => r = .returned (.tuple #[]) ∧ ∃ C', Pd g (D.live D.all) w' sg sc C' none 0 l ∧ Chg [g, sg] [g, sg] w w' := ⟨_, rfl⟩
  rw [← hT]
  replace hT := hide hT
  replace hP := hide hP; replace hD := hide hD; replace h1 := hide h1
  go_enter Try.func44, Try.ntmps44
  go_upto_region 0 with fail
  refine wp_region_lit ?_
  refine list_val (.pointer (some ⟨g, 0, none⟩)) (by kernel_rfl) (exec_pd _ (.tmp 0) rfl b1 0 (by kernel_rfl) (some ⟨g, 0, none⟩) (cell_of (unhide h1) (i := 0) rfl)) ?_
  simp only [Act.put, List.setIfInBounds_toArray, List.set_cons_zero, List.set_cons_succ, List.getElem_toArray, List.getElem_cons_zero, List.getElem_cons_succ]
  refine list_call 40 #[P0 g, .func (.func 45) #[] #[]] (by kernel_rfl) (by kernel_rfl) ((settle_s g D sg sc C pa pc l D.all m (unhide hD) (by omega) w (unhide hP) (fun v hv j hj => by
    have e : D.all.getD j false = true := by
      unfold Dk.all
      rw [List.getD_eq_getElem?_getD, List.getElem?_replicate, if_pos hj]
      rfl
    rw [e]
    exact sync11_ok j v)).mono ?_)
  rintro r v1 ⟨rfl, C2, hP2, hch⟩
  refine ⟨_, rfl, ?_⟩
  replace hP2 := hide hP2; replace hch := hide hch
  simp only [Act.put, List.setIfInBounds_toArray, List.set_cons_zero, List.set_cons_succ, List.getElem_toArray, List.getElem_cons_zero, List.getElem_cons_succ]
  refine wpList_nil ?_
  go_wp2_with fail
  rw [unhide hT]
  exact bodyPost_end (results_none Try.results44 _ _ _) rfl ⟨rfl, C2, unhide hP2, unhide hch⟩
set_option maxHeartbeats 4000000 in
theorem dsync_p (g : Nat) (D : Dk) (sg sc : Nat) (C : List Value) (pa : Option Addr) (pc : Nat) (l : Int) (m : Nat) (hD : D.Ok m) (hm : m ≤ 1000000) (w : World) (hP : Pd g D w sg sc C pa pc l) : Calls Try.prog 26 #[P0 g] w (Ch (pdF g sg pa) g D.syncD D.syncE w) := by
  obtain ⟨T, hT⟩ : ∃ T, T = Ch (pdF g sg pa) g D.syncD D.syncE w := ⟨_, rfl⟩
  rw [← hT]
  replace hT := hide hT
  have hgl := hP.lt g (mem_pdF.2 (.inl rfl))
  have hsl := hP.lt sg (mem_pdF.2 (.inr (.inl rfl)))
  replace hP := hide hP; replace hD := hide hD
  go_enter Try.func26, Try.ntmps26
  go_upto_region 1 with fail
  have hB := ((Bl.nil w).new #[P0 g] 24)
  simp only [size_alloc, List.nil_append, List.cons_append] at hB
  generalize World.alloc _ _ = u at *
  replace hB : Bl w [⟨w.heap.size, #[P0 g], 24⟩] u := hB
  refine wp_region_lit ?_
  refine list_val (.pointer (some ⟨g, 0, none⟩)) (by kernel_rfl) (exec_pd _ (.tmp 1) rfl w.heap.size 0 (by kernel_rfl) (some ⟨g, 0, none⟩) (cell_of (hB.get 0 (x := ⟨w.heap.size, #[P0 g], 24⟩) rfl) (i := 0) rfl)) ?_
  simp only [Act.put, List.setIfInBounds_toArray, List.set_cons_zero, List.set_cons_succ, List.getElem_toArray, List.getElem_cons_zero, List.getElem_cons_succ]
  refine list_call 42 #[.pointer (some ⟨g, 0, none⟩)] (by kernel_rfl) (by kernel_rfl) ((power_ok g D sg sc C pa pc l _ ((unhide hP).gr hB.gr)).mono ?_)
  rintro r u1 ⟨rfl, hG⟩
  refine ⟨_, rfl, ?_⟩
  obtain ⟨pe, hpe⟩ : ∃ x : Int, x = if D.dead then 7 else 0 := ⟨_, rfl⟩
  rw [← hpe]
  replace hpe := hide hpe
  replace hB := hB.more hG
  clear hG
  simp only [Act.put, List.setIfInBounds_toArray, List.set_cons_zero, List.set_cons_succ, List.getElem_toArray, List.getElem_cons_zero, List.getElem_cons_succ]
  (refine wpList_step fun K hK => ?_; replace hK := hide hK; go_simp; refine unhide hK _ _ ?_; clear hK K)
  refine wpList_nil ?_
  cases hd3 : D.dead
  case true =>
    have e7 : pe = 7 := by rw [unhide hpe, hd3]; rfl
    subst e7
    have hZ : Hid (Ch (pdF g sg pa) g D.syncD D.syncE w (.returned (.int .i64 7)) u1) := by
      have e1 : D.syncD = D := by unfold Dk.syncD; rw [hd3]; rfl
      have e2 : D.syncE = 7 := by unfold Dk.syncE; rw [hd3]; rfl
      rw [e1, e2]
      exact ⟨pdF g sg pa, rfl, ⟨sg, sc, C, pa, pc, l, (unhide hP).gr hB.gr, rfl⟩, hB.gr.chg0 _⟩
    replace hB := hide hB
    go_wp2_with fail
    rw [unhide hT]
    exact unhide hZ
  case false =>
    have e7 : pe = 0 := by rw [unhide hpe, hd3]; rfl
    subst e7
    replace hd3 := hide hd3
    replace hB := hide hB
    go_upto_region 4 with fail
    replace hB := unhide hB
    refine wp_region_lit ?_
    refine list_val (.pointer (some ⟨g, 0, none⟩)) (by kernel_rfl) (exec_pd _ (.tmp 1) rfl w.heap.size 0 (by kernel_rfl) (some ⟨g, 0, none⟩) (cell_of (hB.get 0 (x := ⟨w.heap.size, #[P0 g], 24⟩) rfl) (i := 0) rfl)) ?_
    simp only [Act.put, List.setIfInBounds_toArray, List.set_cons_zero, List.set_cons_succ, List.getElem_toArray, List.getElem_cons_zero, List.getElem_cons_succ]
    refine list_val (.func (.func 44) #[] #[.pointer (some ⟨w.heap.size, 0, none⟩)]) (by kernel_rfl) (by kernel_rfl) ?_
    simp only [Act.put, List.setIfInBounds_toArray, List.set_cons_zero, List.set_cons_succ, List.getElem_toArray, List.getElem_cons_zero, List.getElem_cons_succ]
    refine list_call 43 #[P0 g, .func (.func 44) #[] #[.pointer (some ⟨w.heap.size, 0, none⟩)]] (by kernel_rfl) (by kernel_rfl) ((done_s g D sg sc C pa pc l w.heap.size (fun w' => ∃ C' l', Pd g (D.doneD.live D.doneD.all) w' sg sc C' none 0 l' ∧ Chg [g, sg] [g, sg] u1 w') m (unhide hD) (by omega) u1 ((unhide hP).gr hB.gr) (fun v l' hne hv hch => (sync1_ok g D.doneD sg sc C pa pc l' w.heap.size (m + 1) (unhide hD).done (by omega) v hv (hch.blk (hB.get 0 (x := ⟨w.heap.size, #[P0 g], 24⟩) rfl) (by simp; omega))).mono (by
      rintro r w' ⟨rfl, C', h1, h2⟩
      exact ⟨rfl, C', l', h1, (hch.wide (F' := [g, sg]) (fun i hi => by simp at hi; simp [hi]) (fun i hi => .inl hi)).trans h2⟩))).mono ?_)
    intro r u2 hdn
    obtain ⟨e9, he9, hZ⟩ : ∃ e : Int, r = .returned (.int .i64 e) ∧ Hid (Ch (pdF g sg pa) g D.syncD D.syncE w (.returned (.int .i64 e)) u2) := by
      unfold Dnp at hdn
      by_cases h0 : D.left = 0
      · rw [if_pos h0] at hdn
        obtain ⟨rfl, hp, hch⟩ := hdn
        refine ⟨7, rfl, ?_⟩
        have e1 : D.syncD = D.doneD := by unfold Dk.syncD; rw [unhide hd3, if_pos h0]; rfl
        have e2 : D.syncE = 7 := by unfold Dk.syncE; rw [unhide hd3, if_pos h0]; rfl
        show Ch (pdF g sg pa) g D.syncD D.syncE w _ u2
        rw [e1, e2]
        exact ⟨pdF g sg pa, rfl, ⟨sg, sc, C, pa, pc, l, hp, rfl⟩, hB.gr.chg (hch.wide (fun i hi => by rw [List.mem_singleton] at hi; rw [hi]; exact mem_pdF.2 (.inl rfl)) (fun i hi => .inl hi))⟩
      · rw [if_neg h0] at hdn
        obtain ⟨rfl, C', l', hp, hch⟩ := hdn
        refine ⟨0, rfl, ?_⟩
        have e1 : D.syncD = D.doneD.live D.doneD.all := by unfold Dk.syncD; rw [unhide hd3, if_neg h0]; rfl
        have e2 : D.syncE = 0 := by unfold Dk.syncE; rw [unhide hd3, if_neg h0]; rfl
        show Ch (pdF g sg pa) g D.syncD D.syncE w _ u2
        rw [e1, e2]
        refine ⟨pdF g sg none, rfl, ⟨sg, sc, C', none, 0, l', hp, rfl⟩, hB.gr.chg (hch.wide (fun i hi => mem_pdF.2 (by simp at hi; rcases hi with hi | hi; exact .inl hi; exact .inr (.inl hi))) (fun i hi => .inl (mem_pdF.2 ?_)))⟩
        rcases mem_pdF.1 hi with hi | hi | hi
        · exact .inl hi
        · exact .inr (.inl hi)
        · cases hi
    subst he9
    refine ⟨_, rfl, ?_⟩
    clear hB hdn
    simp only [Act.put, List.setIfInBounds_toArray, List.set_cons_zero, List.set_cons_succ, List.getElem_toArray, List.getElem_cons_zero, List.getElem_cons_succ]
    (refine wpList_step fun K hK => ?_; replace hK := hide hK; go_simp; refine unhide hK _ _ ?_; clear hK K)
    refine wpList_nil ?_
    go_wp2_with fail
    rw [unhide hT]
    exact unhide hZ
theorem dsync_ok (F : List Nat) (g m : Nat) (D : Dk) (hD : D.Ok m) (hm : m ≤ 1000000) (w : World) (h : Lies F g D w) : Calls Try.prog 26 #[P0 g] w (Ch F g D.syncD D.syncE w) := by
  obtain ⟨sg, sc, C, pa, pc, l, h, rfl⟩ := h
  exact dsync_p g D sg sc C pa pc l m hD hm w h
theorem dsync_nil (w : World) : Calls Try.prog 26 #[.pointer none] w (Vl (.int .i64 1) w) := by
  obtain ⟨T, hT⟩ : ∃ T, T = Vl (.int .i64 1) w := ⟨_, rfl⟩
  rw [← hT]
  replace hT := hide hT
  go_enter Try.func26, Try.ntmps26
  go_upto_region 1 with fail
  have hB := ((Bl.nil w).new #[.pointer none] 24)
  simp only [size_alloc, List.nil_append, List.cons_append] at hB
  generalize World.alloc _ _ = u at *
  replace hB : Bl w [⟨w.heap.size, #[.pointer none], 24⟩] u := hB
  refine wp_region_lit ?_
  refine list_val (.pointer none) (by kernel_rfl) (exec_pd _ (.tmp 1) rfl w.heap.size 0 (by kernel_rfl) none (cell_of (hB.get 0 (x := ⟨w.heap.size, #[.pointer none], 24⟩) rfl) (i := 0) rfl)) ?_
  simp only [Act.put, List.setIfInBounds_toArray, List.set_cons_zero, List.set_cons_succ, List.getElem_toArray, List.getElem_cons_zero, List.getElem_cons_succ]
  refine list_call 42 #[.pointer none] (by kernel_rfl) (by kernel_rfl) ((power_nil _).mono ?_)
  rintro r u1 ⟨rfl, hG⟩
  refine ⟨_, rfl, ?_⟩
  replace hB := hB.more hG
  clear hG
  simp only [Act.put, List.setIfInBounds_toArray, List.set_cons_zero, List.set_cons_succ, List.getElem_toArray, List.getElem_cons_zero, List.getElem_cons_succ]
  (refine wpList_step fun K hK => ?_; replace hK := hide hK; go_simp; refine unhide hK _ _ ?_; clear hK K)
  refine wpList_nil ?_
  have hZ : Hid (Vl (.int .i64 1) w (.returned (.int .i64 1)) u1) := ⟨rfl, hB.gr⟩
  replace hB := hide hB
  go_wp2_with fail
  rw [unhide hT]
  exact unhide hZ
set_option maxHeartbeats 4000000 in
theorem dwrite_p (g : Nat) (D : Dk) (sg sc : Nat) (C : List Value) (pa : Option Addr) (pc : Nat) (l : Int) (i : Int) (b : List Int) (hb : BB b) (m : Nat) (hD : D.Ok m) (hm : m ≤ 1000000) (w : World) (hP : Pd g D w sg sc C pa pc l) : Calls Try.prog 31 #[P0 g, .int .i64 i, .agg (kc b)] w (Ch (pdF g sg pa) g (D.writeD i b) (D.writeE i) w) := by
  obtain ⟨T, hT⟩ : ∃ T, T = Ch (pdF g sg pa) g (D.writeD i b) (D.writeE i) w := ⟨_, rfl⟩
  rw [← hT]
  replace hT := hide hT
  have hgl := hP.lt g (mem_pdF.2 (.inl rfl))
  have hfl := hP.lt
  obtain ⟨SK, hSK⟩ : ∃ X, X = kc b := ⟨_, rfl⟩
  rw [← hSK]
  replace hSK := hide hSK; replace hb := hide hb
  replace hP := hide hP; replace hD := hide hD; replace hfl := hide hfl
  go_enter Try.func31, Try.ntmps31
  go_upto_region 1 with fail
  have hB := ((((Bl.nil w).new #[P0 g] 24).new #[.int .i64 i] 3).new SK 39)
  simp only [size_alloc, List.nil_append, List.cons_append] at hB
  generalize World.alloc _ _ = u at *
  rw [unhide hSK] at hB
  replace hB : Bl w [⟨w.heap.size, #[P0 g], 24⟩, ⟨w.heap.size + 1, #[.int .i64 i], 3⟩, ⟨w.heap.size + 1 + 1, kc b, 39⟩] u := hB
  refine wp_region_lit ?_
  refine list_val (.pointer (some ⟨g, 0, none⟩)) (by kernel_rfl) (exec_pd _ (.tmp 3) rfl w.heap.size 0 (by kernel_rfl) (some ⟨g, 0, none⟩) (cell_of (hB.get 0 (x := ⟨w.heap.size, #[P0 g], 24⟩) rfl) (i := 0) rfl)) ?_
  simp only [Act.put, List.setIfInBounds_toArray, List.set_cons_zero, List.set_cons_succ, List.getElem_toArray, List.getElem_cons_zero, List.getElem_cons_succ]
  refine list_val (.int .i64 i) (by kernel_rfl) (exec_i64 _ (.tmp 4) rfl (w.heap.size + 1) 0 (by kernel_rfl) i (cell_of (hB.get 1 (x := ⟨w.heap.size + 1, #[.int .i64 i], 3⟩) rfl) (i := 0) rfl)) ?_
  simp only [Act.put, List.setIfInBounds_toArray, List.set_cons_zero, List.set_cons_succ, List.getElem_toArray, List.getElem_cons_zero, List.getElem_cons_succ]
  refine list_call 37 #[.pointer (some ⟨g, 0, none⟩), .int .i64 i] (by kernel_rfl) (by kernel_rfl) ((reach_ok g D sg sc C pa pc l i _ ((unhide hP).gr hB.gr)).mono ?_)
  rintro r u1 ⟨rfl, hG⟩
  refine ⟨_, rfl, ?_⟩
  obtain ⟨pe, hpe⟩ : ∃ x : Int, x = D.readE i := ⟨_, rfl⟩
  rw [← hpe]
  replace hpe := hide hpe
  replace hB := hB.more hG
  clear hG
  simp only [Act.put, List.setIfInBounds_toArray, List.set_cons_zero, List.set_cons_succ, List.getElem_toArray, List.getElem_cons_zero, List.getElem_cons_succ]
  (refine wpList_step fun K hK => ?_; replace hK := hide hK; go_simp; refine unhide hK _ _ ?_; clear hK K)
  refine wpList_nil ?_
  have hcase : (pe = 7 ∧ D.writeD i b = D ∧ D.writeE i = 7) ∨ (pe = 2 ∧ D.writeD i b = D ∧ D.writeE i = 2) ∨ (pe = 0 ∧ D.has i ∧ D.dead = false) := by
    rw [unhide hpe]
    unfold Dk.readE Dk.writeD Dk.writeE
    cases D.dead
    · by_cases h : D.has i
      · exact .inr (.inr (by simp [h]))
      · exact .inr (.inl (by simp [h]))
    · exact .inl (by simp)
  rcases hcase with ⟨rfl, hwd, hwe⟩ | ⟨rfl, hwd, hwe⟩ | ⟨rfl, hhas, hnd⟩
  · skip
    have hZ : Hid (Ch (pdF g sg pa) g (D.writeD i b) (D.writeE i) w (.returned (.int .i64 7)) u1) := by
      rw [hwd, hwe]
      exact ⟨pdF g sg pa, rfl, ⟨sg, sc, C, pa, pc, l, (unhide hP).gr hB.gr, rfl⟩, hB.gr.chg0 _⟩
    replace hB := hide hB
    clear hwd hwe
    go_wp2_with fail
    rw [unhide hT]
    exact unhide hZ
  · skip
    have hZ : Hid (Ch (pdF g sg pa) g (D.writeD i b) (D.writeE i) w (.returned (.int .i64 2)) u1) := by
      rw [hwd, hwe]
      exact ⟨pdF g sg pa, rfl, ⟨sg, sc, C, pa, pc, l, (unhide hP).gr hB.gr, rfl⟩, hB.gr.chg0 _⟩
    replace hB := hide hB
    clear hwd hwe
    go_wp2_with fail
    rw [unhide hT]
    exact unhide hZ
  obtain ⟨k, rfl⟩ := Int.eq_ofNat_of_zero_le hhas.1
  replace hhas := hide hhas; replace hnd := hide hnd
  replace hB := hide hB
  go_upto_region 4 with fail
  replace hB := unhide hB
  refine wp_region_lit ?_
  refine list_val (.pointer (some ⟨g, 0, none⟩)) (by kernel_rfl) (exec_pd _ (.tmp 3) rfl w.heap.size 0 (by kernel_rfl) (some ⟨g, 0, none⟩) (cell_of (hB.get 0 (x := ⟨w.heap.size, #[P0 g], 24⟩) rfl) (i := 0) rfl)) ?_
  simp only [Act.put, List.setIfInBounds_toArray, List.set_cons_zero, List.set_cons_succ, List.getElem_toArray, List.getElem_cons_zero, List.getElem_cons_succ]
  refine list_val (.func (.func 46) #[] #[.pointer (some ⟨w.heap.size, 0, none⟩), .pointer (some ⟨w.heap.size + 1, 0, none⟩), .pointer (some ⟨w.heap.size + 1 + 1, 0, none⟩)]) (by kernel_rfl) (by kernel_rfl) ?_
  simp only [Act.put, List.setIfInBounds_toArray, List.set_cons_zero, List.set_cons_succ, List.getElem_toArray, List.getElem_cons_zero, List.getElem_cons_succ]
  refine list_call 43 #[P0 g, .func (.func 46) #[] #[.pointer (some ⟨w.heap.size, 0, none⟩), .pointer (some ⟨w.heap.size + 1, 0, none⟩), .pointer (some ⟨w.heap.size + 1 + 1, 0, none⟩)]] (by kernel_rfl) (by kernel_rfl) ((done_w g D sg sc C pa pc l (w.heap.size) (w.heap.size + 1) (w.heap.size + 1 + 1) (fun w' => ∃ l' v, Wr1 g D.doneD k b sg sc C pa l' v w' ∧ Chg [g] [g] u1 v) m (unhide hD) (by omega) u1 ((unhide hP).gr hB.gr) (fun v l' hne hv hch => (write1_ok g D.doneD sg sc C pa pc l' k (w.heap.size) (w.heap.size + 1) (w.heap.size + 1 + 1) b (unhide hb) (m + 1) (unhide hD).done (by omega) v hv (hch.blk (hB.get 0 (x := ⟨w.heap.size, #[P0 g], 24⟩) rfl) (by simp; omega)) (hch.blk (hB.get 1 (x := ⟨w.heap.size + 1, #[.int .i64 (k : Int)], 3⟩) rfl) (by simp; omega)) (hch.blk (hB.get 2 (x := ⟨w.heap.size + 1 + 1, kc b, 39⟩) rfl) (by simp; omega))).mono (by
    rintro r w' ⟨rfl, h1⟩
    exact ⟨rfl, l', v, h1, hch⟩))).mono ?_)
  intro r u2 hdn
  obtain ⟨e9, he9, hZ⟩ : ∃ e : Int, r = .returned (.int .i64 e) ∧ Hid (Ch (pdF g sg pa) g (D.writeD (k : Int) b) (D.writeE (k : Int)) w (.returned (.int .i64 e)) u2) := by
    unfold Dnp at hdn
    by_cases h0 : D.left = 0
    · rw [if_pos h0] at hdn
      obtain ⟨rfl, hp, hch⟩ := hdn
      refine ⟨7, rfl, ?_⟩
      have e1 : D.writeD (k : Int) b = D.doneD := by unfold Dk.writeD; rw [unhide hnd, if_pos (unhide hhas), if_pos h0]; rfl
      have e2 : D.writeE (k : Int) = 7 := by unfold Dk.writeE; rw [unhide hnd, if_pos (unhide hhas), if_pos h0]; rfl
      show Ch (pdF g sg pa) g (D.writeD (k : Int) b) (D.writeE (k : Int)) w _ u2
      rw [e1, e2]
      exact ⟨pdF g sg pa, rfl, ⟨sg, sc, C, pa, pc, l, hp, rfl⟩, hB.gr.chg (hch.wide (fun i hi => by rw [List.mem_singleton] at hi; rw [hi]; exact mem_pdF.2 (.inl rfl)) (fun i hi => .inl hi))⟩
    · rw [if_neg h0] at hdn
      obtain ⟨rfl, l', v, ⟨pb, pd, hp, hch⟩, hcv⟩ := hdn
      refine ⟨0, rfl, ?_⟩
      have e1 : D.writeD (k : Int) b = { D.doneD with pend := D.doneD.pend ++ [(k, b)] } := by unfold Dk.writeD; rw [unhide hnd, if_pos (unhide hhas), if_neg h0, Int.toNat_natCast]; rfl
      have e2 : D.writeE (k : Int) = 0 := by unfold Dk.writeE; rw [unhide hnd, if_pos (unhide hhas), if_neg h0]; rfl
      show Ch (pdF g sg pa) g (D.writeD (k : Int) b) (D.writeE (k : Int)) w _ u2
      rw [e1, e2]
      refine ⟨pdF g sg pb, rfl, ⟨sg, sc, C, pb, pd, l', hp, rfl⟩, ?_⟩
      have hw : Chg (pdF g sg pa) (pdF g sg pa) w v := hB.gr.chg (hcv.wide (fun i hi => by rw [List.mem_singleton] at hi; rw [hi]; exact mem_pdF.2 (.inl rfl)) (fun i hi => .inl hi))
      exact ⟨hch.os.trans hw.os, hch.tape.trans hw.tape, hch.output.trans hw.output, Nat.le_trans hw.size hch.size, fun i hi hn => (hch.block i (Nat.lt_of_lt_of_le hi hw.size) hn).trans (hw.block i hi hn), fun i hi => (hch.new i hi).imp id (Nat.le_trans hw.size)⟩
  subst he9
  refine ⟨_, rfl, ?_⟩
  clear hB hdn
  simp only [Act.put, List.setIfInBounds_toArray, List.set_cons_zero, List.set_cons_succ, List.getElem_toArray, List.getElem_cons_zero, List.getElem_cons_succ]
  (refine wpList_step fun K hK => ?_; replace hK := hide hK; go_simp; refine unhide hK _ _ ?_; clear hK K)
  refine wpList_nil ?_
  go_wp2_with fail
  rw [unhide hT]
  exact unhide hZ
theorem dwrite_ok (F : List Nat) (g m : Nat) (D : Dk) (hD : D.Ok m) (hm : m ≤ 1000000) (i : Int) (b : List Int) (hb : BB b) (w : World) (h : Lies F g D w) : Calls Try.prog 31 #[P0 g, .int .i64 i, .agg (kc b)] w (Ch F g (D.writeD i b) (D.writeE i) w) := by
  obtain ⟨sg, sc, C, pa, pc, l, h, rfl⟩ := h
  exact dwrite_p g D sg sc C pa pc l i b hb m hD hm w h
theorem dwrite_nil (i : Int) (b : List Int) (hb : BB b) (w : World) : Calls Try.prog 31 #[.pointer none, .int .i64 i, .agg (kc b)] w (Vl (.int .i64 1) w) := by
  obtain ⟨T, hT⟩ : ∃ T, T = Vl (.int .i64 1) w := ⟨_, rfl⟩
  rw [← hT]
  replace hT := hide hT
  obtain ⟨SK, hSK⟩ : ∃ X, X = kc b := ⟨_, rfl⟩
  rw [← hSK]
  clear hSK
  go_enter Try.func31, Try.ntmps31
  go_upto_region 1 with fail
  have hB := ((((Bl.nil w).new #[.pointer none] 24).new #[.int .i64 i] 3).new SK 39)
  simp only [size_alloc, List.nil_append, List.cons_append] at hB
  generalize World.alloc _ _ = u at *
  replace hB : Bl w [⟨w.heap.size, #[.pointer none], 24⟩, ⟨w.heap.size + 1, #[.int .i64 i], 3⟩, ⟨w.heap.size + 1 + 1, SK, 39⟩] u := hB
  refine wp_region_lit ?_
  refine list_val (.pointer none) (by kernel_rfl) (exec_pd _ (.tmp 3) rfl w.heap.size 0 (by kernel_rfl) none (cell_of (hB.get 0 (x := ⟨w.heap.size, #[.pointer none], 24⟩) rfl) (i := 0) rfl)) ?_
  simp only [Act.put, List.setIfInBounds_toArray, List.set_cons_zero, List.set_cons_succ, List.getElem_toArray, List.getElem_cons_zero, List.getElem_cons_succ]
  refine list_val (.int .i64 i) (by kernel_rfl) (exec_i64 _ (.tmp 4) rfl (w.heap.size + 1) 0 (by kernel_rfl) i (cell_of (hB.get 1 (x := ⟨w.heap.size + 1, #[.int .i64 i], 3⟩) rfl) (i := 0) rfl)) ?_
  simp only [Act.put, List.setIfInBounds_toArray, List.set_cons_zero, List.set_cons_succ, List.getElem_toArray, List.getElem_cons_zero, List.getElem_cons_succ]
  refine list_call 37 #[.pointer none, .int .i64 i] (by kernel_rfl) (by kernel_rfl) ((reach_nil i _).mono ?_)
  rintro r u1 ⟨rfl, hG⟩
  refine ⟨_, rfl, ?_⟩
  replace hB := hB.more hG
  clear hG
  simp only [Act.put, List.setIfInBounds_toArray, List.set_cons_zero, List.set_cons_succ, List.getElem_toArray, List.getElem_cons_zero, List.getElem_cons_succ]
  (refine wpList_step fun K hK => ?_; replace hK := hide hK; go_simp; refine unhide hK _ _ ?_; clear hK K)
  refine wpList_nil ?_
  have hZ : Hid (Vl (.int .i64 1) w (.returned (.int .i64 1)) u1) := ⟨rfl, hB.gr⟩
  replace hB := hide hB
  go_wp2_with fail
  rw [unhide hT]
  exact unhide hZ
end Go.Proofs.Ythgchjdjacbcgaa
