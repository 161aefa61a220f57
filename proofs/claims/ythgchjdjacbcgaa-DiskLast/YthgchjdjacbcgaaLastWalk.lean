/-
  Without a crash each sector holds what was written last: the walk of DiskLast.
-/
import Derived.Test.YthgchjdjacbcgaaDkR
namespace Go.Proofs.Ythgchjdjacbcgaa
open Go.RowKit
set_option maxRecDepth 100000
set_option linter.unusedSimpArgs false
set_option linter.unusedVariables false
theorem exec_ia {a : Act} {o : Oper} (w : World) (x y : Operand) (ho : o.op = .indexAddr 61 x y) (g i : Nat) (hx : a.eval x = .pointer (some ⟨g, 0, none⟩)) (hy : a.eval y = .int .i64 i) (hi : i < 6) :
    (execOp a.eval o).run Try.prog w = .ok (.value (.pointer (some ⟨g, 64 * i, none⟩))) w := by
  have h1 : (i : Int) < 6 := by omega
  unfold execOp
  simp only [ho, hx, hy]
  go_simp
def Z384 : List Value := List.replicate 384 (Value.int .u8 0)
theorem cov_zero : Cov Z384 ((List.replicate 6 ZB).map bv).flatten := by
  have e : ((List.replicate 6 ZB).map bv).flatten = Z384 := by kernel_rfl
  rw [e]
  exact fun q x h => h
set_option maxHeartbeats 4000000 in
theorem last_law (l : List Opl) (a : Option Addr) (n c : Nat) (w : World) (hl : Los w a n c l) : Calls Try.prog 8 #[.slice a n c] w (Woke w) := by
  obtain ⟨T, hT⟩ : ∃ T, T = Woke w := ⟨_, rfl⟩
  rw [← hT]
  replace hT := hide hT
  have hcap := hl.cap
  replace hl := hide hl
  go_enter Try.func8, Try.ntmps8
  go_upto_region 1 with fail
  refine wp_region_lit ?_
  refine list_call 9 #[] (by kernel_rfl) (by kernel_rfl) ((wakes_ok _).mono ?_)
  rintro r v ⟨rfl, hG⟩
  refine ⟨_, rfl, ?_⟩
  simp only [Act.put, List.setIfInBounds_toArray, List.set_cons_zero, List.set_cons_succ, List.getElem_toArray, List.getElem_cons_zero, List.getElem_cons_succ]
  refine list_val (.bool false) (by kernel_rfl) (by kernel_rfl) ?_
  simp only [Act.put, List.setIfInBounds_toArray, List.set_cons_zero, List.set_cons_succ, List.getElem_toArray, List.getElem_cons_zero, List.getElem_cons_succ]
  refine wpList_nil ?_
  replace hG := hide hG
  go_upto_region 3 with fail
  refine wp_region_lit ?_
  refine list_val (.slice a n c) (by kernel_rfl) (by kernel_rfl) ?_
  simp only [Act.put, List.setIfInBounds_toArray, List.set_cons_zero, List.set_cons_succ, List.getElem_toArray, List.getElem_cons_zero, List.getElem_cons_succ]
  refine list_call 23 #[.slice a n c] (by kernel_rfl) (by kernel_rfl) ((worn_ok l a n c _ ((unhide hl).gr (unhide hG))).mono ?_)
  rintro r u ⟨g, F, rfl, hL, hF, hg⟩
  refine ⟨_, rfl, ?_⟩
  replace hF : ∀ i ∈ F, w.heap.size ≤ i := fun i hi => Nat.le_trans (unhide hG).size (hF i hi)
  replace hG := hide ((unhide hG).trans hg)
  replace hL := hide hL
  clear hg
  simp only [Act.put, List.setIfInBounds_toArray, List.set_cons_zero, List.set_cons_succ, List.getElem_toArray, List.getElem_cons_zero, List.getElem_cons_succ]
  (refine wpList_step fun K hK => ?_; replace hK := hide hK; go_simp; refine unhide hK _ _ ?_; clear hK K)
  refine wpList_nil ?_
  go_upto_region 6 with fail
  have hB := Bl.nil u
  refine wp_region_lit ?_
  refine list_valw (.pointer (some ⟨u.heap.size, 0, none⟩)) (u.alloc (.cells (Z384.toArray) 61 (0, 0))) (by kernel_rfl) (by kernel_rfl) ?_
  replace hB := hB.new (Z384.toArray) 61
  simp only [List.nil_append, List.cons_append] at hB
  generalize World.alloc _ _ = u1 at *
  generalize u.heap.size = gl at *
  replace hB : Bl u [⟨gl, Z384.toArray, 61⟩] u1 := hB
  simp only [Act.put, List.setIfInBounds_toArray, List.set_cons_zero, List.set_cons_succ, List.getElem_toArray, List.getElem_cons_zero, List.getElem_cons_succ]
  refine wpList_nil ?_
  replace hB := hide hB
  go_upto_region 7 with fail
  replace hB := unhide hB
  refine wp_region_lit ?_
  refine list_val (.slice a n c) (by kernel_rfl) (by kernel_rfl) ?_
  simp only [Act.put, List.setIfInBounds_toArray, List.set_cons_zero, List.set_cons_succ, List.getElem_toArray, List.getElem_cons_zero, List.getElem_cons_succ]
  refine list_call 12 #[.slice a n c] (by kernel_rfl) (by kernel_rfl) ((few_ok a n c hcap _).mono ?_)
  rintro r u_ ⟨m, rfl, hm, hu⟩
  refine ⟨_, rfl, ?_⟩
  replace hu := hu.symm
  subst hu
  have hlf := hide ((unhide hl).few hm)
  have hm120 : m ≤ 120 := by omega
  replace hm := hide hm
  simp only [Act.put, List.setIfInBounds_toArray, List.set_cons_zero, List.set_cons_succ, List.getElem_toArray, List.getElem_cons_zero, List.getElem_cons_succ]
  refine list_val (.int .i64 m) (by kernel_rfl) (by kernel_rfl) ?_
  simp only [Act.put, List.setIfInBounds_toArray, List.set_cons_zero, List.set_cons_succ, List.getElem_toArray, List.getElem_cons_zero, List.getElem_cons_succ]
  refine list_val (.int .i64 0) (by kernel_rfl) (by kernel_rfl) ?_
  simp only [Act.put, List.setIfInBounds_toArray, List.set_cons_zero, List.set_cons_succ, List.getElem_toArray, List.getElem_cons_zero, List.getElem_cons_succ]
  refine wpList_nil ?_
  obtain ⟨l2, hl2⟩ : ∃ x, x = l.take 120 := ⟨_, rfl⟩
  rw [← hl2] at hlf
  have hok := hide (unhide hlf).ok
  have hlen : Hid (l2.length = m) := (unhide hlf).len
  have hI0 : Hid (∃ C : List Value, C.length = 384 ∧ Cov C ((lstN l2 0).map bv).flatten ∧ Bl u [⟨gl, C.toArray, 61⟩] u1) := ⟨Z384, by rw [Z384, List.length_replicate], cov_zero, hB⟩
  replace hl2 := hide hl2
  clear hB
  go_wp2_with fail
  go_loopw [18] (fun i wr => ∃ j : Nat, j ≤ m ∧ i = .int .i64 j ∧ Hid (∃ C : List Value, C.length = 384 ∧ Cov C ((lstN l2 j).map bv).flatten ∧ Bl u [⟨gl, C.toArray, 61⟩] wr)) (fun i _ => m - (intOf i).toNat)
  case atStart => exact ⟨0, by omega, rfl, hI0⟩
  case round =>
  clear hI0
  obtain ⟨j, hj, rfl, hIj⟩ := hrel
  by_cases hjl : j < m
  · skip
    have jI : (j : Int) < (m : Int) := by omega
    obtain ⟨p, o, ka, kn, kp, rfl, hrw, hkp, hqo⟩ := (unhide hlf).at_ j hjl
    have hsc : Hid (lstN l2 (j + 1) = if (l2.getD j op0).k = 1 ∧ 0 ≤ (l2.getD j op0).at_ ∧ (l2.getD j op0).at_ < 6 then (lstN l2 j).set (l2.getD j op0).at_.toNat (blkL (l2.getD j op0).fill) else lstN l2 j) := rfl
    generalize l2.getD j op0 = q at *
    obtain ⟨C, hCl, hCov, hB⟩ := unhide hIj
    clear hIj hkp
    replace hrw := hide hrw; replace hqo := hide hqo; replace hB := hide hB; replace hCov := hide hCov
    go_upto_region 9 with fail
    replace hB := unhide hB
    refine wp_region_lit ?_
    refine list_val (.pointer (some ⟨p, o + 4 * j, none⟩)) (by kernel_rfl) (exec_io _ (.tmp 16) (.tmp 18) rfl p o m c j rfl rfl hjl) ?_
    simp only [Act.put, List.setIfInBounds_toArray, List.set_cons_zero, List.set_cons_succ, List.getElem_toArray, List.getElem_cons_zero, List.getElem_cons_succ]
    refine list_val (.agg (opv q ka kn kp)) (by kernel_rfl) (exec_lop _ (.tmp 20) rfl p (o + 4 * j) (by kernel_rfl) q ka kn kp (range_gr (unhide hrw) ((unhide hG).trans hB.gr))) ?_
    simp only [Act.put, List.setIfInBounds_toArray, List.set_cons_zero, List.set_cons_succ, List.getElem_toArray, List.getElem_cons_zero, List.getElem_cons_succ]
    refine list_valw (.pointer (some ⟨wr.heap.size, 0, none⟩)) (wr.alloc (.cells (opv op0 none 0 0) 37 (0, 0))) (by kernel_rfl) (by kernel_rfl) ?_
    replace hB := hB.new (opv op0 none 0 0) 37
    simp only [List.nil_append, List.cons_append] at hB
    generalize World.alloc _ _ = v1 at *
    generalize wr.heap.size = go at *
    replace hB : Bl u [⟨gl, C.toArray, 61⟩, ⟨go, opv op0 none 0 0, 37⟩] v1 := hB
    simp only [Act.put, List.setIfInBounds_toArray, List.set_cons_zero, List.set_cons_succ, List.getElem_toArray, List.getElem_cons_zero, List.getElem_cons_succ]
    refine list_store 37 (.tmp 6) (.tmp 21) go (opv q ka kn kp) 37 (opv op0 none 0 0) (by kernel_rfl) rfl (by kernel_rfl) (by kernel_rfl) (hB.get 1 (x := ⟨go, opv op0 none 0 0, 37⟩) rfl) (by rw [Try.infoO]; rfl) rfl (opv_one ..) ?_
    replace hB := hB.set 1 (x := ⟨go, opv op0 none 0 0, 37⟩) rfl (opv q ka kn kp)
    simp only [List.set_cons_zero, List.set_cons_succ] at hB
    generalize World.setRow _ _ _ = v2 at *
    replace hB : Bl u [⟨gl, C.toArray, 61⟩, ⟨go, opv q ka kn kp, 37⟩] v2 := hB
    simp only [Act.put, List.setIfInBounds_toArray, List.set_cons_zero, List.set_cons_succ, List.getElem_toArray, List.getElem_cons_zero, List.getElem_cons_succ]
    refine wpList_nil ?_
    replace hB := hide hB
    go_upto_region 10 with fail
    replace hB := unhide hB
    by_cases hk1 : ¬ q.k = 1
    · skip
      refine wp_region_lit ?_
      refine list_val (.agg (opv q ka kn kp)) (by kernel_rfl) (exec_arr _ 37 (.tmp 6) rfl go (by kernel_rfl) (opv q ka kn kp) 37 _ (hB.get 1 (x := ⟨go, opv q ka kn kp, 37⟩) rfl) Try.underlying37 rfl (by rw [Try.infoO]; rfl)) ?_
      simp only [Act.put, List.setIfInBounds_toArray, List.set_cons_zero, List.set_cons_succ, List.getElem_toArray, List.getElem_cons_zero, List.getElem_cons_succ]
      refine list_call 29 #[.agg (opv q ka kn kp)] (by kernel_rfl) (by kernel_rfl) ((kind_ok q (unhide hqo) ka kn kp _).mono ?_)
      rintro r v3 ⟨rfl, hg⟩
      refine ⟨_, rfl, ?_⟩
      replace hB := hB.more hg
      obtain ⟨kk, hkk⟩ : ∃ kk, kk = q.k := ⟨_, rfl⟩
      rw [← hkk]
      replace hkk := hide hkk
      clear hg
      simp only [Act.put, List.setIfInBounds_toArray, List.set_cons_zero, List.set_cons_succ, List.getElem_toArray, List.getElem_cons_zero, List.getElem_cons_succ]
      refine list_val (.bool false) (by kernel_rfl) (by have h0 : ¬ kk = 1 := (by have h7 := unhide hkk; omega); have h : ¬ (kk : Int) = 1 := (by omega); go_simp) ?_
      simp only [Act.put, List.setIfInBounds_toArray, List.set_cons_zero, List.set_cons_succ, List.getElem_toArray, List.getElem_cons_zero, List.getElem_cons_succ]
      refine list_val (.bool false) (by kernel_rfl) (by kernel_rfl) ?_
      simp only [Act.put, List.setIfInBounds_toArray, List.set_cons_zero, List.set_cons_succ, List.getElem_toArray, List.getElem_cons_zero, List.getElem_cons_succ]
      refine wpList_step fun K hK => ?_
      rw [if_neg (ne_true_of_eq_false (by kernel_rfl))]
      refine hK _ _ ?_
      clear hK K
      simp only [Act.put, List.setIfInBounds_toArray, List.set_cons_zero, List.set_cons_succ, List.getElem_toArray, List.getElem_cons_zero, List.getElem_cons_succ]
      refine wpList_step fun K hK => ?_
      rw [if_neg (ne_true_of_eq_false (by kernel_rfl))]
      refine hK _ _ ?_
      clear hK K
      simp only [Act.put, List.setIfInBounds_toArray, List.set_cons_zero, List.set_cons_succ, List.getElem_toArray, List.getElem_cons_zero, List.getElem_cons_succ]
      refine wpList_step fun K hK => ?_
      rw [if_neg (ne_true_of_eq_false (by kernel_rfl))]
      refine hK _ _ ?_
      clear hK K
      simp only [Act.put, List.setIfInBounds_toArray, List.set_cons_zero, List.set_cons_succ, List.getElem_toArray, List.getElem_cons_zero, List.getElem_cons_succ]
      refine list_val (.bool false) (by kernel_rfl) (by kernel_rfl) ?_
      simp only [Act.put, List.setIfInBounds_toArray, List.set_cons_zero, List.set_cons_succ, List.getElem_toArray, List.getElem_cons_zero, List.getElem_cons_succ]
      refine list_val (.bool false) (by kernel_rfl) (by kernel_rfl) ?_
      simp only [Act.put, List.setIfInBounds_toArray, List.set_cons_zero, List.set_cons_succ, List.getElem_toArray, List.getElem_cons_zero, List.getElem_cons_succ]
      refine wpList_step fun K hK => ?_
      rw [if_neg (ne_true_of_eq_false (by kernel_rfl))]
      refine hK _ _ ?_
      clear hK K
      simp only [Act.put, List.setIfInBounds_toArray, List.set_cons_zero, List.set_cons_succ, List.getElem_toArray, List.getElem_cons_zero, List.getElem_cons_succ]
      refine wpList_step fun K hK => ?_
      rw [if_neg (ne_true_of_eq_false (by kernel_rfl))]
      refine hK _ _ ?_
      clear hK K
      simp only [Act.put, List.setIfInBounds_toArray, List.set_cons_zero, List.set_cons_succ, List.getElem_toArray, List.getElem_cons_zero, List.getElem_cons_succ]
      refine wpList_step fun K hK => ?_
      rw [if_neg (ne_true_of_eq_false (by kernel_rfl))]
      refine hK _ _ ?_
      clear hK K
      simp only [Act.put, List.setIfInBounds_toArray, List.set_cons_zero, List.set_cons_succ, List.getElem_toArray, List.getElem_cons_zero, List.getElem_cons_succ]
      refine list_val (.bool false) (by kernel_rfl) (by kernel_rfl) ?_
      simp only [Act.put, List.setIfInBounds_toArray, List.set_cons_zero, List.set_cons_succ, List.getElem_toArray, List.getElem_cons_zero, List.getElem_cons_succ]
      refine wpList_nil ?_
      have hng : ¬ (q.k = 1 ∧ 0 ≤ q.at_ ∧ q.at_ < 6) := by omega
      replace hng := hide hng
      have hI2 : Hid (∃ C : List Value, C.length = 384 ∧ Cov C ((lstN l2 (j + 1)).map bv).flatten ∧ Bl u [⟨gl, C.toArray, 61⟩] v3) := ⟨C, hCl, (by rw [unhide hsc, if_neg (unhide hng)]; exact unhide hCov), Bl.left (M := [⟨go, opv q ka kn kp, 37⟩]) hB⟩
      clear hB
      go_wp2_with fail
      go_roundw
      case rel => exact ⟨j + 1, by omega, by go_num, hI2⟩
      case measure => simp [intOf]; omega
    by_cases ha0 : ¬ 0 ≤ q.at_
    · skip
      refine wp_region_lit ?_
      refine list_val (.agg (opv q ka kn kp)) (by kernel_rfl) (exec_arr _ 37 (.tmp 6) rfl go (by kernel_rfl) (opv q ka kn kp) 37 _ (hB.get 1 (x := ⟨go, opv q ka kn kp, 37⟩) rfl) Try.underlying37 rfl (by rw [Try.infoO]; rfl)) ?_
      simp only [Act.put, List.setIfInBounds_toArray, List.set_cons_zero, List.set_cons_succ, List.getElem_toArray, List.getElem_cons_zero, List.getElem_cons_succ]
      refine list_call 29 #[.agg (opv q ka kn kp)] (by kernel_rfl) (by kernel_rfl) ((kind_ok q (unhide hqo) ka kn kp _).mono ?_)
      rintro r v3 ⟨rfl, hg⟩
      refine ⟨_, rfl, ?_⟩
      replace hB := hB.more hg
      obtain ⟨kk, hkk⟩ : ∃ kk, kk = q.k := ⟨_, rfl⟩
      rw [← hkk]
      replace hkk := hide hkk
      clear hg
      simp only [Act.put, List.setIfInBounds_toArray, List.set_cons_zero, List.set_cons_succ, List.getElem_toArray, List.getElem_cons_zero, List.getElem_cons_succ]
      refine list_val (.bool true) (by kernel_rfl) (by have h0 : kk = 1 := (by have h7 := unhide hkk; omega); have h : (kk : Int) = 1 := (by omega); go_simp) ?_
      simp only [Act.put, List.setIfInBounds_toArray, List.set_cons_zero, List.set_cons_succ, List.getElem_toArray, List.getElem_cons_zero, List.getElem_cons_succ]
      refine list_val (.bool true) (by kernel_rfl) (by kernel_rfl) ?_
      simp only [Act.put, List.setIfInBounds_toArray, List.set_cons_zero, List.set_cons_succ, List.getElem_toArray, List.getElem_cons_zero, List.getElem_cons_succ]
      refine list_val (.pointer (some ⟨go, 1, none⟩)) (by kernel_rfl) (by kernel_rfl) ?_
      simp only [Act.put, List.setIfInBounds_toArray, List.set_cons_zero, List.set_cons_succ, List.getElem_toArray, List.getElem_cons_zero, List.getElem_cons_succ]
      refine list_val (.int .i64 q.at_) (by kernel_rfl) (exec_i64 _ (.tmp 26) rfl (go) 1 (by kernel_rfl) q.at_ (cell_of (hB.get 1 (x := ⟨go, opv q ka kn kp, 37⟩) rfl) (i := 1) rfl)) ?_
      simp only [Act.put, List.setIfInBounds_toArray, List.set_cons_zero, List.set_cons_succ, List.getElem_toArray, List.getElem_cons_zero, List.getElem_cons_succ]
      refine list_val (.bool false) (by kernel_rfl) (by have h : ¬ 0 ≤ q.at_ := (by omega); go_simp) ?_
      simp only [Act.put, List.setIfInBounds_toArray, List.set_cons_zero, List.set_cons_succ, List.getElem_toArray, List.getElem_cons_zero, List.getElem_cons_succ]
      refine list_val (.bool false) (by kernel_rfl) (by kernel_rfl) ?_
      simp only [Act.put, List.setIfInBounds_toArray, List.set_cons_zero, List.set_cons_succ, List.getElem_toArray, List.getElem_cons_zero, List.getElem_cons_succ]
      refine list_val (.bool false) (by kernel_rfl) (by kernel_rfl) ?_
      simp only [Act.put, List.setIfInBounds_toArray, List.set_cons_zero, List.set_cons_succ, List.getElem_toArray, List.getElem_cons_zero, List.getElem_cons_succ]
      refine wpList_step fun K hK => ?_
      rw [if_neg (ne_true_of_eq_false (by kernel_rfl))]
      refine hK _ _ ?_
      clear hK K
      simp only [Act.put, List.setIfInBounds_toArray, List.set_cons_zero, List.set_cons_succ, List.getElem_toArray, List.getElem_cons_zero, List.getElem_cons_succ]
      refine wpList_step fun K hK => ?_
      rw [if_neg (ne_true_of_eq_false (by kernel_rfl))]
      refine hK _ _ ?_
      clear hK K
      simp only [Act.put, List.setIfInBounds_toArray, List.set_cons_zero, List.set_cons_succ, List.getElem_toArray, List.getElem_cons_zero, List.getElem_cons_succ]
      refine wpList_step fun K hK => ?_
      rw [if_neg (ne_true_of_eq_false (by kernel_rfl))]
      refine hK _ _ ?_
      clear hK K
      simp only [Act.put, List.setIfInBounds_toArray, List.set_cons_zero, List.set_cons_succ, List.getElem_toArray, List.getElem_cons_zero, List.getElem_cons_succ]
      refine list_val (.bool false) (by kernel_rfl) (by kernel_rfl) ?_
      simp only [Act.put, List.setIfInBounds_toArray, List.set_cons_zero, List.set_cons_succ, List.getElem_toArray, List.getElem_cons_zero, List.getElem_cons_succ]
      refine wpList_nil ?_
      have hng : ¬ (q.k = 1 ∧ 0 ≤ q.at_ ∧ q.at_ < 6) := by omega
      replace hng := hide hng
      have hI2 : Hid (∃ C : List Value, C.length = 384 ∧ Cov C ((lstN l2 (j + 1)).map bv).flatten ∧ Bl u [⟨gl, C.toArray, 61⟩] v3) := ⟨C, hCl, (by rw [unhide hsc, if_neg (unhide hng)]; exact unhide hCov), Bl.left (M := [⟨go, opv q ka kn kp, 37⟩]) hB⟩
      clear hB
      go_wp2_with fail
      go_roundw
      case rel => exact ⟨j + 1, by omega, by go_num, hI2⟩
      case measure => simp [intOf]; omega
    by_cases ha6 : ¬ q.at_ < 6
    · skip
      refine wp_region_lit ?_
      refine list_val (.agg (opv q ka kn kp)) (by kernel_rfl) (exec_arr _ 37 (.tmp 6) rfl go (by kernel_rfl) (opv q ka kn kp) 37 _ (hB.get 1 (x := ⟨go, opv q ka kn kp, 37⟩) rfl) Try.underlying37 rfl (by rw [Try.infoO]; rfl)) ?_
      simp only [Act.put, List.setIfInBounds_toArray, List.set_cons_zero, List.set_cons_succ, List.getElem_toArray, List.getElem_cons_zero, List.getElem_cons_succ]
      refine list_call 29 #[.agg (opv q ka kn kp)] (by kernel_rfl) (by kernel_rfl) ((kind_ok q (unhide hqo) ka kn kp _).mono ?_)
      rintro r v3 ⟨rfl, hg⟩
      refine ⟨_, rfl, ?_⟩
      replace hB := hB.more hg
      obtain ⟨kk, hkk⟩ : ∃ kk, kk = q.k := ⟨_, rfl⟩
      rw [← hkk]
      replace hkk := hide hkk
      clear hg
      simp only [Act.put, List.setIfInBounds_toArray, List.set_cons_zero, List.set_cons_succ, List.getElem_toArray, List.getElem_cons_zero, List.getElem_cons_succ]
      refine list_val (.bool true) (by kernel_rfl) (by have h0 : kk = 1 := (by have h7 := unhide hkk; omega); have h : (kk : Int) = 1 := (by omega); go_simp) ?_
      simp only [Act.put, List.setIfInBounds_toArray, List.set_cons_zero, List.set_cons_succ, List.getElem_toArray, List.getElem_cons_zero, List.getElem_cons_succ]
      refine list_val (.bool true) (by kernel_rfl) (by kernel_rfl) ?_
      simp only [Act.put, List.setIfInBounds_toArray, List.set_cons_zero, List.set_cons_succ, List.getElem_toArray, List.getElem_cons_zero, List.getElem_cons_succ]
      refine list_val (.pointer (some ⟨go, 1, none⟩)) (by kernel_rfl) (by kernel_rfl) ?_
      simp only [Act.put, List.setIfInBounds_toArray, List.set_cons_zero, List.set_cons_succ, List.getElem_toArray, List.getElem_cons_zero, List.getElem_cons_succ]
      refine list_val (.int .i64 q.at_) (by kernel_rfl) (exec_i64 _ (.tmp 26) rfl (go) 1 (by kernel_rfl) q.at_ (cell_of (hB.get 1 (x := ⟨go, opv q ka kn kp, 37⟩) rfl) (i := 1) rfl)) ?_
      simp only [Act.put, List.setIfInBounds_toArray, List.set_cons_zero, List.set_cons_succ, List.getElem_toArray, List.getElem_cons_zero, List.getElem_cons_succ]
      refine list_val (.bool true) (by kernel_rfl) (by have h : 0 ≤ q.at_ := (by omega); go_simp) ?_
      simp only [Act.put, List.setIfInBounds_toArray, List.set_cons_zero, List.set_cons_succ, List.getElem_toArray, List.getElem_cons_zero, List.getElem_cons_succ]
      refine list_val (.bool true) (by kernel_rfl) (by kernel_rfl) ?_
      simp only [Act.put, List.setIfInBounds_toArray, List.set_cons_zero, List.set_cons_succ, List.getElem_toArray, List.getElem_cons_zero, List.getElem_cons_succ]
      refine list_val (.bool true) (by kernel_rfl) (by kernel_rfl) ?_
      simp only [Act.put, List.setIfInBounds_toArray, List.set_cons_zero, List.set_cons_succ, List.getElem_toArray, List.getElem_cons_zero, List.getElem_cons_succ]
      refine list_val (.pointer (some ⟨go, 1, none⟩)) (by kernel_rfl) (by kernel_rfl) ?_
      simp only [Act.put, List.setIfInBounds_toArray, List.set_cons_zero, List.set_cons_succ, List.getElem_toArray, List.getElem_cons_zero, List.getElem_cons_succ]
      refine list_val (.int .i64 q.at_) (by kernel_rfl) (exec_i64 _ (.tmp 31) rfl (go) 1 (by kernel_rfl) q.at_ (cell_of (hB.get 1 (x := ⟨go, opv q ka kn kp, 37⟩) rfl) (i := 1) rfl)) ?_
      simp only [Act.put, List.setIfInBounds_toArray, List.set_cons_zero, List.set_cons_succ, List.getElem_toArray, List.getElem_cons_zero, List.getElem_cons_succ]
      refine list_val (.bool false) (by kernel_rfl) (by have h : ¬ q.at_ < 6 := (by omega); go_simp) ?_
      simp only [Act.put, List.setIfInBounds_toArray, List.set_cons_zero, List.set_cons_succ, List.getElem_toArray, List.getElem_cons_zero, List.getElem_cons_succ]
      refine list_val (.bool false) (by kernel_rfl) (by kernel_rfl) ?_
      simp only [Act.put, List.setIfInBounds_toArray, List.set_cons_zero, List.set_cons_succ, List.getElem_toArray, List.getElem_cons_zero, List.getElem_cons_succ]
      refine wpList_nil ?_
      have hng : ¬ (q.k = 1 ∧ 0 ≤ q.at_ ∧ q.at_ < 6) := by omega
      replace hng := hide hng
      have hI2 : Hid (∃ C : List Value, C.length = 384 ∧ Cov C ((lstN l2 (j + 1)).map bv).flatten ∧ Bl u [⟨gl, C.toArray, 61⟩] v3) := ⟨C, hCl, (by rw [unhide hsc, if_neg (unhide hng)]; exact unhide hCov), Bl.left (M := [⟨go, opv q ka kn kp, 37⟩]) hB⟩
      clear hB
      go_wp2_with fail
      go_roundw
      case rel => exact ⟨j + 1, by omega, by go_num, hI2⟩
      case measure => simp [intOf]; omega
    refine wp_region_lit ?_
    refine list_val (.agg (opv q ka kn kp)) (by kernel_rfl) (exec_arr _ 37 (.tmp 6) rfl go (by kernel_rfl) (opv q ka kn kp) 37 _ (hB.get 1 (x := ⟨go, opv q ka kn kp, 37⟩) rfl) Try.underlying37 rfl (by rw [Try.infoO]; rfl)) ?_
    simp only [Act.put, List.setIfInBounds_toArray, List.set_cons_zero, List.set_cons_succ, List.getElem_toArray, List.getElem_cons_zero, List.getElem_cons_succ]
    refine list_call 29 #[.agg (opv q ka kn kp)] (by kernel_rfl) (by kernel_rfl) ((kind_ok q (unhide hqo) ka kn kp _).mono ?_)
    rintro r v3 ⟨rfl, hg⟩
    refine ⟨_, rfl, ?_⟩
    replace hB := hB.more hg
    obtain ⟨kk, hkk⟩ : ∃ kk, kk = q.k := ⟨_, rfl⟩
    rw [← hkk]
    replace hkk := hide hkk
    clear hg
    simp only [Act.put, List.setIfInBounds_toArray, List.set_cons_zero, List.set_cons_succ, List.getElem_toArray, List.getElem_cons_zero, List.getElem_cons_succ]
    refine list_val (.bool true) (by kernel_rfl) (by have h0 : kk = 1 := (by have h7 := unhide hkk; omega); have h : (kk : Int) = 1 := (by omega); go_simp) ?_
    simp only [Act.put, List.setIfInBounds_toArray, List.set_cons_zero, List.set_cons_succ, List.getElem_toArray, List.getElem_cons_zero, List.getElem_cons_succ]
    refine list_val (.bool true) (by kernel_rfl) (by kernel_rfl) ?_
    simp only [Act.put, List.setIfInBounds_toArray, List.set_cons_zero, List.set_cons_succ, List.getElem_toArray, List.getElem_cons_zero, List.getElem_cons_succ]
    refine list_val (.pointer (some ⟨go, 1, none⟩)) (by kernel_rfl) (by kernel_rfl) ?_
    simp only [Act.put, List.setIfInBounds_toArray, List.set_cons_zero, List.set_cons_succ, List.getElem_toArray, List.getElem_cons_zero, List.getElem_cons_succ]
    refine list_val (.int .i64 q.at_) (by kernel_rfl) (exec_i64 _ (.tmp 26) rfl (go) 1 (by kernel_rfl) q.at_ (cell_of (hB.get 1 (x := ⟨go, opv q ka kn kp, 37⟩) rfl) (i := 1) rfl)) ?_
    simp only [Act.put, List.setIfInBounds_toArray, List.set_cons_zero, List.set_cons_succ, List.getElem_toArray, List.getElem_cons_zero, List.getElem_cons_succ]
    refine list_val (.bool true) (by kernel_rfl) (by have h : 0 ≤ q.at_ := (by omega); go_simp) ?_
    simp only [Act.put, List.setIfInBounds_toArray, List.set_cons_zero, List.set_cons_succ, List.getElem_toArray, List.getElem_cons_zero, List.getElem_cons_succ]
    refine list_val (.bool true) (by kernel_rfl) (by kernel_rfl) ?_
    simp only [Act.put, List.setIfInBounds_toArray, List.set_cons_zero, List.set_cons_succ, List.getElem_toArray, List.getElem_cons_zero, List.getElem_cons_succ]
    refine list_val (.bool true) (by kernel_rfl) (by kernel_rfl) ?_
    simp only [Act.put, List.setIfInBounds_toArray, List.set_cons_zero, List.set_cons_succ, List.getElem_toArray, List.getElem_cons_zero, List.getElem_cons_succ]
    refine list_val (.pointer (some ⟨go, 1, none⟩)) (by kernel_rfl) (by kernel_rfl) ?_
    simp only [Act.put, List.setIfInBounds_toArray, List.set_cons_zero, List.set_cons_succ, List.getElem_toArray, List.getElem_cons_zero, List.getElem_cons_succ]
    refine list_val (.int .i64 q.at_) (by kernel_rfl) (exec_i64 _ (.tmp 31) rfl (go) 1 (by kernel_rfl) q.at_ (cell_of (hB.get 1 (x := ⟨go, opv q ka kn kp, 37⟩) rfl) (i := 1) rfl)) ?_
    simp only [Act.put, List.setIfInBounds_toArray, List.set_cons_zero, List.set_cons_succ, List.getElem_toArray, List.getElem_cons_zero, List.getElem_cons_succ]
    refine list_val (.bool true) (by kernel_rfl) (by have h : q.at_ < 6 := (by omega); go_simp) ?_
    simp only [Act.put, List.setIfInBounds_toArray, List.set_cons_zero, List.set_cons_succ, List.getElem_toArray, List.getElem_cons_zero, List.getElem_cons_succ]
    refine list_val (.bool true) (by kernel_rfl) (by kernel_rfl) ?_
    simp only [Act.put, List.setIfInBounds_toArray, List.set_cons_zero, List.set_cons_succ, List.getElem_toArray, List.getElem_cons_zero, List.getElem_cons_succ]
    refine wpList_nil ?_
    obtain ⟨at_, hat⟩ : ∃ k : Nat, (k : Int) = q.at_ := ⟨q.at_.toNat, by omega⟩
    have hat6 : at_ < 6 := by omega
    have hng : q.k = 1 ∧ 0 ≤ q.at_ ∧ q.at_ < 6 := by omega
    have hatn : q.at_.toNat = at_ := by omega
    replace hng := hide hng; replace hatn := hide hatn; replace hat := hide hat
    clear hk1 ha0 ha6
    replace hB := hide hB
    go_upto_region 11 with fail
    replace hB := unhide hB
    refine any_start (S := fun v => v.heap[go]? = some (.cells (opv q ka kn kp) 37 (0, 0))) (by kernel_rfl) ?_
    replace hB := hB.drew
    generalize World.drew _ = x0 at *
    simp only [List.size_toArray, List.length_cons, List.length_nil, Array.replicate, List.replicate]
    refine any_take (i := 0) (v := (.pointer (some ⟨go, 1, none⟩))) #[false, false, false, false, false, false, false] rfl (by kernel_rfl) (by kernel_rfl) (by kernel_rfl) (by kernel_rfl) (fun _ _ _ h => h) (.inl ⟨by kernel_rfl, fun x_ hu => by kernel_rfl⟩) (hB.get 1 (x := ⟨go, opv q ka kn kp, 37⟩) rfl) ?_
    simp only [Act.put, List.setIfInBounds_toArray, List.set_cons_zero, List.set_cons_succ, List.getElem_toArray, List.getElem_cons_zero, List.getElem_cons_succ]
    refine any_take (i := 1) (v := (.int .i64 (at_ : Int))) #[true, false, false, false, false, false, false] rfl (by kernel_rfl) (by kernel_rfl) (by kernel_rfl) (by kernel_rfl) (fun _ _ _ h => h) (.inl ⟨by kernel_rfl, fun x_ hu => exec_i64 _ (.tmp 35) rfl go 1 (by kernel_rfl) _ (by rw [unhide hat]; exact cell_of hu (i := 1) rfl)⟩) (hB.get 1 (x := ⟨go, opv q ka kn kp, 37⟩) rfl) ?_
    simp only [Act.put, List.setIfInBounds_toArray, List.set_cons_zero, List.set_cons_succ, List.getElem_toArray, List.getElem_cons_zero, List.getElem_cons_succ]
    refine any_take (i := 2) (v := (.pointer (some ⟨go, 2, none⟩))) #[true, true, false, false, false, false, false] rfl (by kernel_rfl) (by kernel_rfl) (by kernel_rfl) (by kernel_rfl) (fun _ _ _ h => h) (.inl ⟨by kernel_rfl, fun x_ hu => by kernel_rfl⟩) (hB.get 1 (x := ⟨go, opv q ka kn kp, 37⟩) rfl) ?_
    simp only [Act.put, List.setIfInBounds_toArray, List.set_cons_zero, List.set_cons_succ, List.getElem_toArray, List.getElem_cons_zero, List.getElem_cons_succ]
    refine any_take (i := 3) (v := (.int .u8 q.fill)) #[true, true, true, false, false, false, false] rfl (by kernel_rfl) (by kernel_rfl) (by kernel_rfl) (by kernel_rfl) (fun _ _ _ h => h) (.inl ⟨by kernel_rfl, fun x_ hu => exec_b _ (.tmp 37) rfl go 2 (by kernel_rfl) q.fill (cell_of hu (i := 2) rfl)⟩) (hB.get 1 (x := ⟨go, opv q ka kn kp, 37⟩) rfl) ?_
    simp only [Act.put, List.setIfInBounds_toArray, List.set_cons_zero, List.set_cons_succ, List.getElem_toArray, List.getElem_cons_zero, List.getElem_cons_succ]
    refine any_one (i := 4) (by kernel_rfl) rfl (fun K_ hQ => ?_)
    refine step_callw (by kernel_rfl) 30 #[.int .u8 q.fill] (by kernel_rfl) ((block_ok q.fill _).mono ?_)
    rintro r x1 ⟨rfl, hg⟩
    refine ⟨_, rfl, ?_⟩
    replace hB := hB.more hg
    clear hg
    refine hQ.out _ _ (hB.get 1 (x := ⟨go, opv q ka kn kp, 37⟩) rfl) (fun _ => ?_)
    clear hQ K_
    simp only [Act.put, List.setIfInBounds_toArray, List.set_cons_zero, List.set_cons_succ, List.getElem_toArray, List.getElem_cons_zero, List.getElem_cons_succ]
    refine any_take (i := 5) (v := (.pointer (some ⟨gl, 64 * at_, none⟩))) #[true, true, true, true, true, false, false] rfl (by kernel_rfl) (by kernel_rfl) (by kernel_rfl) (by kernel_rfl) (fun _ _ _ h => h) (.inl ⟨by kernel_rfl, fun x_ hu => exec_ia _ (.tmp 4) (.tmp 36) rfl gl at_ (by kernel_rfl) (by kernel_rfl) hat6⟩) (hB.get 1 (x := ⟨go, opv q ka kn kp, 37⟩) rfl) ?_
    simp only [Act.put, List.setIfInBounds_toArray, List.set_cons_zero, List.set_cons_succ, List.getElem_toArray, List.getElem_cons_zero, List.getElem_cons_succ]
    refine any_one (i := 6) (by kernel_rfl) rfl (fun K_ hQ => ?_)
    have hgC := (hB.get 0 (x := ⟨gl, C.toArray, 61⟩) rfl)
    dsimp only at hgC
    have hbl := (blkL_bb q.fill).1
    refine list_store_mid 39 (.tmp 40) (.tmp 39) gl (64 * at_) (kc (blkL q.fill)) (by kernel_rfl) rfl (by kernel_rfl) (by kernel_rfl) (there_of hgC (by rw [kc_size, hbl, hCl]; omega)) (by rw [Try.infoB, kc_size, hbl]) (kc_one _) ?_
    have hC3 : Hid (Cov (sp C (64 * at_) (bv (blkL q.fill))) ((lstN l2 (j + 1)).map bv).flatten) := by
      show Cov _ ((lstN l2 (j + 1)).map bv).flatten
      rw [unhide hsc, if_pos (unhide hng), unhide hatn]
      have h := cov_set 64 (by omega) C ((lstN l2 j).map bv) (bv_rows (lstN_bb l2 j)) at_ (by rw [List.length_map, lstN_len]; exact hat6) (bv (blkL q.fill)) (by rw [bv_len, hbl]) (by rw [List.length_map, lstN_len, hCl]; omega) (unhide hCov)
      rw [← List.map_set] at h
      exact h
    have hbs := setCells_bt ((kc (blkL q.fill)).toList) x1 gl (64 * at_)
    have hcl := setCells_heap ((kc (blkL q.fill)).toList) x1 gl (64 * at_) C 61 hgC
    have e9 : (kc (blkL q.fill)).toList = bv (blkL q.fill) := by unfold kc bv; simp
    rw [e9] at hcl hbs
    rw [e9]
    have hB4 := hB.but hbs 0 (x := ⟨gl, C.toArray, 61⟩) rfl rfl hcl
    simp only [List.set_cons_zero, List.set_cons_succ] at hB4
    clear hB hcl hbs hgC e9
    generalize World.setCells _ _ _ _ = x2 at *
    have hB := hB4
    clear hB4
    refine hQ.out _ _ (hB.get 1 (x := ⟨go, opv q ka kn kp, 37⟩) rfl) (fun _ => ?_)
    clear hQ K_
    simp only [Act.put, List.setIfInBounds_toArray, List.set_cons_zero, List.set_cons_succ, List.getElem_toArray, List.getElem_cons_zero, List.getElem_cons_succ]
    refine any_done (by kernel_rfl) ?_
    have hI2 : Hid (∃ C : List Value, C.length = 384 ∧ Cov C ((lstN l2 (j + 1)).map bv).flatten ∧ Bl u [⟨gl, C.toArray, 61⟩] x2) := ⟨sp C (64 * at_) (bv (blkL q.fill)), by rw [sp_length]; exact hCl, unhide hC3, Bl.left (M := [⟨go, opv q ka kn kp, 37⟩]) hB⟩
    clear hB
    go_wp2_with fail
    go_roundw
    case rel => exact ⟨j + 1, by omega, by go_num, hI2⟩
    case measure => simp [intOf]; omega
  have jI : ¬ (j : Int) < (m : Int) := by omega
  have hjm : j = m := by omega
  obtain ⟨C, hCl, hCov, hB⟩ := unhide hIj
  clear hIj
  have hDo : Hid ((wornD l).Ok m) := by
    unfold wornD
    rw [← unhide hl2, unhide hlen]
    exact wrn_ok (unhide hok) m
  have hDs : Hid (Six (wornD l)) := by
    unfold wornD
    exact wrn_six _ _
  have hDl : Hid (∀ i : Nat, i < 6 → (wornD l).readB (i : Int) = (lstN l2 j).getD i []) := fun i hi => by
    rw [(unhide hDs).read i hi]
    unfold wornD
    rw [← unhide hl2, unhide hlen, hjm]
    exact wrn_last (unhide hok) i hi m
  generalize wornD l = D at *
  replace hB := hide hB; replace hCov := hide hCov
  go_upto_region 13 with fail
  replace hB := unhide hB
  refine wp_region_lit ?_
  refine list_val (.pointer (some ⟨g, 0, none⟩)) (by kernel_rfl) (by kernel_rfl) ?_
  simp only [Act.put, List.setIfInBounds_toArray, List.set_cons_zero, List.set_cons_succ, List.getElem_toArray, List.getElem_cons_zero, List.getElem_cons_succ]
  refine list_call 24 #[.pointer (some ⟨g, 0, none⟩)] (by kernel_rfl) (by kernel_rfl) ((held_ok F g m D (unhide hDo) (by omega) _ ((unhide hL).gr hB.gr)).mono ?_)
  rintro r y1 ⟨ha, hc, rfl, hls, hfr, hg⟩
  refine ⟨_, rfl, ?_⟩
  have e6 := (unhide hDs).six
  rw [e6] at hls ⊢
  have e7 : (heldL D) = (heldN D 6) := by unfold heldL; rw [e6]
  rw [e7] at hls
  replace hB := hB.more hg
  replace hls := hide hls
  clear hg hfr e6 e7
  simp only [Act.put, List.setIfInBounds_toArray, List.set_cons_zero, List.set_cons_succ, List.getElem_toArray, List.getElem_cons_zero, List.getElem_cons_succ]
  refine list_val (.int .i64 6) (by kernel_rfl) (by kernel_rfl) ?_
  simp only [Act.put, List.setIfInBounds_toArray, List.set_cons_zero, List.set_cons_succ, List.getElem_toArray, List.getElem_cons_zero, List.getElem_cons_succ]
  refine list_val (.int .i64 0) (by kernel_rfl) (by kernel_rfl) ?_
  simp only [Act.put, List.setIfInBounds_toArray, List.set_cons_zero, List.set_cons_succ, List.getElem_toArray, List.getElem_cons_zero, List.getElem_cons_succ]
  refine wpList_nil ?_
  have hgl := hide (hB.get 0 (x := ⟨gl, C.toArray, 61⟩) rfl)
  have hGq := hide hB.gr
  clear hB
  go_wp2_with fail
  go_loopw [45] (fun i wr => ∃ i2 : Nat, i2 ≤ 6 ∧ i = .int .i64 i2 ∧ Hid (Gr y1 wr)) (fun i _ => 6 - (intOf i).toNat)
  case atStart => exact ⟨0, by omega, rfl, Gr.refl y1⟩
  case round =>
  obtain ⟨i2, hi2, rfl, hGy⟩ := hrel
  by_cases hil : i2 < 6
  · skip
    have jI2 : (i2 : Int) < 6 := by omega
    obtain ⟨p3, o3, rfl, h3⟩ := (unhide hls).at_ i2 hil
    have hb0 : BB (D.readB (i2 : Int)) := Dk.readB_bb (unhide hDo) _
    have e8 : (heldN D 6).getD i2 [] = D.readB (i2 : Int) := by unfold heldN; rw [getD_map (fun i : Nat => D.readB (i : Int)) (List.range 6) i2 0 [] (by simp; exact hil), List.getD_eq_getElem?_getD, List.getElem?_range hil]; rfl
    rw [getD_map bv (heldN D 6) i2 [] [] (by rw [heldN_len]; exact hil), e8] at h3
    have h4 : Hid (∀ (jj : Nat) (x : Value), (bv (D.readB (i2 : Int)))[jj]? = some x → C[64 * i2 + jj]? = some x) := by
      intro jj x hx
      apply unhide hCov
      have hjj : jj < 64 := by have := (List.getElem?_eq_some_iff.1 hx).1; rw [bv_len, hb0.1] at this; exact this
      rw [flat_row _ 64 (bv_rows (lstN_bb l2 j)) i2 jj (by rw [List.length_map, lstN_len]; exact hil) hjj, getD_map bv (lstN l2 j) i2 [] [] (by rw [lstN_len]; exact hil), ← unhide hDl i2 hil]
      exact hx
    obtain ⟨b, hb⟩ : ∃ b, b = D.readB (i2 : Int) := ⟨_, rfl⟩
    rw [← hb] at h3 hb0
    simp only [← hb] at h4
    have hbl := hb0.1
    replace hb := hide hb; replace h3 := hide h3
    clear hb0 e8
    go_upto_region 15 with fail
    replace hGy := unhide hGy
    have hB := (Bl.nil y1).more hGy
    refine wp_region_lit ?_
    refine list_val (.int .i64 i2) (by kernel_rfl) (by kernel_rfl) ?_
    simp only [Act.put, List.setIfInBounds_toArray, List.set_cons_zero, List.set_cons_succ, List.getElem_toArray, List.getElem_cons_zero, List.getElem_cons_succ]
    refine list_val (.pointer (some ⟨p3, o3 + 64 * i2, none⟩)) (by kernel_rfl) (exec_ib _ (.tmp 43) (.tmp 45) rfl p3 o3 6 hc i2 rfl rfl hil) ?_
    simp only [Act.put, List.setIfInBounds_toArray, List.set_cons_zero, List.set_cons_succ, List.getElem_toArray, List.getElem_cons_zero, List.getElem_cons_succ]
    refine list_val (.agg (kc b)) (by kernel_rfl) (exec_row _ 39 (.tmp 48) rfl p3 (o3 + 64 * i2) (by kernel_rfl) (bv b) _ (range_gr (unhide h3) hGy) Try.underlying39 rfl (by rw [Try.infoB, bv_len, hbl])) ?_
    simp only [Act.put, List.setIfInBounds_toArray, List.set_cons_zero, List.set_cons_succ, List.getElem_toArray, List.getElem_cons_zero, List.getElem_cons_succ]
    refine list_valw (.pointer (some ⟨wr.heap.size, 0, none⟩)) (wr.alloc (.cells (kc ZB) 39 (0, 0))) (by kernel_rfl) (by kernel_rfl) ?_
    replace hB := hB.new (kc ZB) 39
    simp only [List.nil_append, List.cons_append] at hB
    generalize World.alloc _ _ = z1 at *
    generalize wr.heap.size = g8 at *
    replace hB : Bl y1 [⟨g8, kc ZB, 39⟩] z1 := hB
    simp only [Act.put, List.setIfInBounds_toArray, List.set_cons_zero, List.set_cons_succ, List.getElem_toArray, List.getElem_cons_zero, List.getElem_cons_succ]
    (refine wpList_step fun K hK => ?_; replace hK := hide hK; go_simp; refine unhide hK _ _ ?_; clear hK K)
    refine list_store 39 (.tmp 8) (.tmp 49) (g8) (kc b) 39 (kc ZB) (by kernel_rfl) rfl (by kernel_rfl) (by kernel_rfl) (hB.get 0 (x := ⟨g8, kc ZB, 39⟩) rfl) (by rw [Try.infoB, kc_size, hbl]) ((show (kc ZB).size = 64 from rfl).trans ((kc_size _).trans hbl).symm) (kc_one _) ?_
    replace hB := hB.set 0 (x := ⟨g8, kc ZB, 39⟩) rfl (kc b)
    simp only [List.set_cons_zero, List.set_cons_succ] at hB
    generalize World.setRow _ _ _ = z2 at *
    replace hB : Bl y1 [⟨g8, kc b, 39⟩] z2 := hB
    simp only [Act.put, List.setIfInBounds_toArray, List.set_cons_zero, List.set_cons_succ, List.getElem_toArray, List.getElem_cons_zero, List.getElem_cons_succ]
    refine wpList_nil ?_
    replace hB := hide hB
    go_upto_region 16 with fail
    replace hB := unhide hB
    refine any_start (S := fun v => Bl y1 [⟨g8, kc b, 39⟩] v) (by kernel_rfl) ?_
    replace hB := hB.drew
    generalize World.drew _ = z3 at *
    simp only [List.size_toArray, List.length_cons, List.length_nil, Array.replicate, List.replicate]
    refine any_take (i := 0) (v := (.agg (kc b))) #[false, false, false, false, false] rfl (by kernel_rfl) (by kernel_rfl) (by kernel_rfl) (by kernel_rfl) (fun _ _ _ h => h) (.inl ⟨by kernel_rfl, fun x_ hu => exec_arr _ 39 (.tmp 8) rfl (g8) (by kernel_rfl) (kc b) 39 _ (hu.get 0 (x := ⟨g8, kc b, 39⟩) rfl) Try.underlying39 rfl (by rw [Try.infoB, kc_size, hbl])⟩) hB ?_
    simp only [Act.put, List.setIfInBounds_toArray, List.set_cons_zero, List.set_cons_succ, List.getElem_toArray, List.getElem_cons_zero, List.getElem_cons_succ]
    refine any_take (i := 1) (v := (.int .i64 (i2 : Int))) #[true, false, false, false, false] rfl (by kernel_rfl) (by kernel_rfl) (by kernel_rfl) (by kernel_rfl) (fun _ _ _ h => h) (.inl ⟨by kernel_rfl, fun x_ hu => by kernel_rfl⟩) hB ?_
    simp only [Act.put, List.setIfInBounds_toArray, List.set_cons_zero, List.set_cons_succ, List.getElem_toArray, List.getElem_cons_zero, List.getElem_cons_succ]
    refine any_take (i := 2) (v := (.pointer (some ⟨gl, 64 * i2, none⟩))) #[true, true, false, false, false] rfl (by kernel_rfl) (by kernel_rfl) (by kernel_rfl) (by kernel_rfl) (fun _ _ _ h => h) (.inl ⟨by kernel_rfl, fun x_ hu => exec_ia _ (.tmp 4) (.tmp 51) rfl gl i2 (by kernel_rfl) (by kernel_rfl) hil⟩) hB ?_
    simp only [Act.put, List.setIfInBounds_toArray, List.set_cons_zero, List.set_cons_succ, List.getElem_toArray, List.getElem_cons_zero, List.getElem_cons_succ]
    refine any_take (i := 3) (v := (.agg (kc b))) #[true, true, true, false, false] rfl (by kernel_rfl) (by kernel_rfl) (by kernel_rfl) (by kernel_rfl) (fun _ _ _ h => h) (.inl ⟨by kernel_rfl, fun x_ hu => exec_row _ 39 (.tmp 52) rfl gl (64 * i2) (by kernel_rfl) (bv b) _ (fun jj x hx => cell_of (hu.gr.blk (unhide hgl)) (by rw [List.getElem?_toArray]; exact unhide h4 jj x hx)) Try.underlying39 rfl (by rw [Try.infoB, bv_len, hbl])⟩) hB ?_
    simp only [Act.put, List.setIfInBounds_toArray, List.set_cons_zero, List.set_cons_succ, List.getElem_toArray, List.getElem_cons_zero, List.getElem_cons_succ]
    refine any_take (i := 4) (v := (.bool false)) #[true, true, true, true, false] rfl (by kernel_rfl) (by kernel_rfl) (by kernel_rfl) (by kernel_rfl) (fun _ _ _ h => h) (.inl ⟨by kernel_rfl, fun x_ hu => exec_neB _ (.tmp 50) (.tmp 53) rfl b hbl (by kernel_rfl) (by kernel_rfl)⟩) hB ?_
    simp only [Act.put, List.setIfInBounds_toArray, List.set_cons_zero, List.set_cons_succ, List.getElem_toArray, List.getElem_cons_zero, List.getElem_cons_succ]
    refine any_done (by kernel_rfl) ?_
    have hGz := hide hB.gr
    clear hB
    go_wp2_with fail
    go_roundw
    case rel => exact ⟨i2 + 1, by omega, by go_num, hGz⟩
    case measure => simp [intOf]; omega
  have jI2 : ¬ (i2 : Int) < 6 := by omega
  have hP : Hid (Gr w _) := ((unhide hG).trans (unhide hGq)).trans (unhide hGy)
  clear hGy
  go_wp2_with fail
  rw [unhide hT]
  exact ⟨rfl, unhide hP⟩
end Go.Proofs.Ythgchjdjacbcgaa
