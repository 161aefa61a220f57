/-
  Layer 14: pieces for FrameAnnounces.
-/
import Derived.Test.YtiejdpodffkdpaaFZ
import Derived.Test.YtiejdpodffkdpaaFV
namespace Go.Proofs.Ytiejdpodffkdpaa
open Go.RowKit
set_option maxRecDepth 100000
set_option linter.unusedSimpArgs false
set_option linter.unusedVariables false
set_option maxHeartbeats 4000000 in
theorem qran_ok (r : Int) (a : Option Addr) (n c : Nat) (w : World) : Calls Try.prog 8 #[.agg #[.int .u64 r, .slice a n c]] w (Vl (.bool (anR r n)) w) := by
  obtain ⟨T, hT⟩ : ∃ T, T = Vl (.bool (anR r n)) w := ⟨_, rfl⟩
  rw [← hT]
  replace hT := hide hT
  go_enter Try.func8, Try.ntmps8
  go_upto_region 1 with fail
  have hB := ((Bl.nil w).new #[.int .u64 r, .slice a n c] 25)
  simp only [size_alloc, List.nil_append, List.cons_append] at hB
  generalize World.alloc _ _ = u at *
  replace hB : Bl w [⟨w.heap.size, #[.int .u64 r, .slice a n c], 25⟩] u := hB
  by_cases h1 : 0 < r
  · skip
    by_cases h2 : 1 ≤ n
    · skip
      have h2I : (1 : Int) ≤ (n : Int) := by omega
      by_cases h3 : n ≤ 3
      · skip
        have h3I : (n : Int) ≤ 3 := by omega
        refine wp_region_lit ?_
        refine list_val (.pointer (some ⟨w.heap.size, 0, none⟩)) (by kernel_rfl) (by kernel_rfl) ?_
        simp only [Act.put, List.setIfInBounds_toArray, List.set_cons_zero, List.set_cons_succ, List.getElem_toArray, List.getElem_cons_zero, List.getElem_cons_succ]
        refine list_val (.int .u64 r) (by kernel_rfl) (exec_u64 _ (.tmp 3) rfl (w.heap.size) 0 (by kernel_rfl) r (cell_of (hB.get 0 (x := ⟨w.heap.size, #[.int .u64 r, .slice a n c], 25⟩) rfl) (i := 0) rfl)) ?_
        simp only [Act.put, List.setIfInBounds_toArray, List.set_cons_zero, List.set_cons_succ, List.getElem_toArray, List.getElem_cons_zero, List.getElem_cons_succ]
        refine list_val (.bool true) (by kernel_rfl) (by go_simp) ?_
        simp only [Act.put, List.setIfInBounds_toArray, List.set_cons_zero, List.set_cons_succ, List.getElem_toArray, List.getElem_cons_zero, List.getElem_cons_succ]
        refine list_val (.bool true) (by kernel_rfl) (by kernel_rfl) ?_
        simp only [Act.put, List.setIfInBounds_toArray, List.set_cons_zero, List.set_cons_succ, List.getElem_toArray, List.getElem_cons_zero, List.getElem_cons_succ]
        refine list_val (.pointer (some ⟨w.heap.size, 1, none⟩)) (by kernel_rfl) (by kernel_rfl) ?_
        simp only [Act.put, List.setIfInBounds_toArray, List.set_cons_zero, List.set_cons_succ, List.getElem_toArray, List.getElem_cons_zero, List.getElem_cons_succ]
        refine list_val (.slice a n c) (by kernel_rfl) (exec_sks _ (.tmp 7) rfl (w.heap.size) 1 (by kernel_rfl) a n c (cell_of (hB.get 0 (x := ⟨w.heap.size, #[.int .u64 r, .slice a n c], 25⟩) rfl) (i := 1) rfl)) ?_
        simp only [Act.put, List.setIfInBounds_toArray, List.set_cons_zero, List.set_cons_succ, List.getElem_toArray, List.getElem_cons_zero, List.getElem_cons_succ]
        refine list_val (.int .i64 (n : Int)) (by kernel_rfl) (by kernel_rfl) ?_
        simp only [Act.put, List.setIfInBounds_toArray, List.set_cons_zero, List.set_cons_succ, List.getElem_toArray, List.getElem_cons_zero, List.getElem_cons_succ]
        refine list_val (.bool true) (by kernel_rfl) (by go_simp) ?_
        simp only [Act.put, List.setIfInBounds_toArray, List.set_cons_zero, List.set_cons_succ, List.getElem_toArray, List.getElem_cons_zero, List.getElem_cons_succ]
        refine list_val (.bool true) (by kernel_rfl) (by kernel_rfl) ?_
        simp only [Act.put, List.setIfInBounds_toArray, List.set_cons_zero, List.set_cons_succ, List.getElem_toArray, List.getElem_cons_zero, List.getElem_cons_succ]
        refine list_val (.bool true) (by kernel_rfl) (by kernel_rfl) ?_
        simp only [Act.put, List.setIfInBounds_toArray, List.set_cons_zero, List.set_cons_succ, List.getElem_toArray, List.getElem_cons_zero, List.getElem_cons_succ]
        refine list_val (.pointer (some ⟨w.heap.size, 1, none⟩)) (by kernel_rfl) (by kernel_rfl) ?_
        simp only [Act.put, List.setIfInBounds_toArray, List.set_cons_zero, List.set_cons_succ, List.getElem_toArray, List.getElem_cons_zero, List.getElem_cons_succ]
        refine list_val (.slice a n c) (by kernel_rfl) (exec_sks _ (.tmp 13) rfl (w.heap.size) 1 (by kernel_rfl) a n c (cell_of (hB.get 0 (x := ⟨w.heap.size, #[.int .u64 r, .slice a n c], 25⟩) rfl) (i := 1) rfl)) ?_
        simp only [Act.put, List.setIfInBounds_toArray, List.set_cons_zero, List.set_cons_succ, List.getElem_toArray, List.getElem_cons_zero, List.getElem_cons_succ]
        refine list_val (.int .i64 (n : Int)) (by kernel_rfl) (by kernel_rfl) ?_
        simp only [Act.put, List.setIfInBounds_toArray, List.set_cons_zero, List.set_cons_succ, List.getElem_toArray, List.getElem_cons_zero, List.getElem_cons_succ]
        refine list_val (.bool true) (by kernel_rfl) (by go_simp) ?_
        simp only [Act.put, List.setIfInBounds_toArray, List.set_cons_zero, List.set_cons_succ, List.getElem_toArray, List.getElem_cons_zero, List.getElem_cons_succ]
        refine list_val (.bool true) (by kernel_rfl) (by kernel_rfl) ?_
        simp only [Act.put, List.setIfInBounds_toArray, List.set_cons_zero, List.set_cons_succ, List.getElem_toArray, List.getElem_cons_zero, List.getElem_cons_succ]
        (refine wpList_step fun K hK => ?_; replace hK := hide hK; go_simp; refine unhide hK _ _ ?_; clear hK K)
        refine wpList_nil ?_
        have hE : anR r n = true := by unfold anR; rw [decide_eq_true_iff]; omega
        rw [hE] at hT
        have hZ : Hid (Vl (.bool true) w (.returned (.bool true)) u) := ⟨rfl, hB.gr⟩
        clear hB
        go_wp2_with fail
        rw [unhide hT]
        exact unhide hZ
      · skip
        have h3I : ¬ (n : Int) ≤ 3 := by omega
        refine wp_region_lit ?_
        refine list_val (.pointer (some ⟨w.heap.size, 0, none⟩)) (by kernel_rfl) (by kernel_rfl) ?_
        simp only [Act.put, List.setIfInBounds_toArray, List.set_cons_zero, List.set_cons_succ, List.getElem_toArray, List.getElem_cons_zero, List.getElem_cons_succ]
        refine list_val (.int .u64 r) (by kernel_rfl) (exec_u64 _ (.tmp 3) rfl (w.heap.size) 0 (by kernel_rfl) r (cell_of (hB.get 0 (x := ⟨w.heap.size, #[.int .u64 r, .slice a n c], 25⟩) rfl) (i := 0) rfl)) ?_
        simp only [Act.put, List.setIfInBounds_toArray, List.set_cons_zero, List.set_cons_succ, List.getElem_toArray, List.getElem_cons_zero, List.getElem_cons_succ]
        refine list_val (.bool true) (by kernel_rfl) (by go_simp) ?_
        simp only [Act.put, List.setIfInBounds_toArray, List.set_cons_zero, List.set_cons_succ, List.getElem_toArray, List.getElem_cons_zero, List.getElem_cons_succ]
        refine list_val (.bool true) (by kernel_rfl) (by kernel_rfl) ?_
        simp only [Act.put, List.setIfInBounds_toArray, List.set_cons_zero, List.set_cons_succ, List.getElem_toArray, List.getElem_cons_zero, List.getElem_cons_succ]
        refine list_val (.pointer (some ⟨w.heap.size, 1, none⟩)) (by kernel_rfl) (by kernel_rfl) ?_
        simp only [Act.put, List.setIfInBounds_toArray, List.set_cons_zero, List.set_cons_succ, List.getElem_toArray, List.getElem_cons_zero, List.getElem_cons_succ]
        refine list_val (.slice a n c) (by kernel_rfl) (exec_sks _ (.tmp 7) rfl (w.heap.size) 1 (by kernel_rfl) a n c (cell_of (hB.get 0 (x := ⟨w.heap.size, #[.int .u64 r, .slice a n c], 25⟩) rfl) (i := 1) rfl)) ?_
        simp only [Act.put, List.setIfInBounds_toArray, List.set_cons_zero, List.set_cons_succ, List.getElem_toArray, List.getElem_cons_zero, List.getElem_cons_succ]
        refine list_val (.int .i64 (n : Int)) (by kernel_rfl) (by kernel_rfl) ?_
        simp only [Act.put, List.setIfInBounds_toArray, List.set_cons_zero, List.set_cons_succ, List.getElem_toArray, List.getElem_cons_zero, List.getElem_cons_succ]
        refine list_val (.bool true) (by kernel_rfl) (by go_simp) ?_
        simp only [Act.put, List.setIfInBounds_toArray, List.set_cons_zero, List.set_cons_succ, List.getElem_toArray, List.getElem_cons_zero, List.getElem_cons_succ]
        refine list_val (.bool true) (by kernel_rfl) (by kernel_rfl) ?_
        simp only [Act.put, List.setIfInBounds_toArray, List.set_cons_zero, List.set_cons_succ, List.getElem_toArray, List.getElem_cons_zero, List.getElem_cons_succ]
        refine list_val (.bool true) (by kernel_rfl) (by kernel_rfl) ?_
        simp only [Act.put, List.setIfInBounds_toArray, List.set_cons_zero, List.set_cons_succ, List.getElem_toArray, List.getElem_cons_zero, List.getElem_cons_succ]
        refine list_val (.pointer (some ⟨w.heap.size, 1, none⟩)) (by kernel_rfl) (by kernel_rfl) ?_
        simp only [Act.put, List.setIfInBounds_toArray, List.set_cons_zero, List.set_cons_succ, List.getElem_toArray, List.getElem_cons_zero, List.getElem_cons_succ]
        refine list_val (.slice a n c) (by kernel_rfl) (exec_sks _ (.tmp 13) rfl (w.heap.size) 1 (by kernel_rfl) a n c (cell_of (hB.get 0 (x := ⟨w.heap.size, #[.int .u64 r, .slice a n c], 25⟩) rfl) (i := 1) rfl)) ?_
        simp only [Act.put, List.setIfInBounds_toArray, List.set_cons_zero, List.set_cons_succ, List.getElem_toArray, List.getElem_cons_zero, List.getElem_cons_succ]
        refine list_val (.int .i64 (n : Int)) (by kernel_rfl) (by kernel_rfl) ?_
        simp only [Act.put, List.setIfInBounds_toArray, List.set_cons_zero, List.set_cons_succ, List.getElem_toArray, List.getElem_cons_zero, List.getElem_cons_succ]
        refine list_val (.bool false) (by kernel_rfl) (by go_simp) ?_
        simp only [Act.put, List.setIfInBounds_toArray, List.set_cons_zero, List.set_cons_succ, List.getElem_toArray, List.getElem_cons_zero, List.getElem_cons_succ]
        refine list_val (.bool false) (by kernel_rfl) (by kernel_rfl) ?_
        simp only [Act.put, List.setIfInBounds_toArray, List.set_cons_zero, List.set_cons_succ, List.getElem_toArray, List.getElem_cons_zero, List.getElem_cons_succ]
        (refine wpList_step fun K hK => ?_; replace hK := hide hK; go_simp; refine unhide hK _ _ ?_; clear hK K)
        refine wpList_nil ?_
        have hE : anR r n = false := by unfold anR; rw [decide_eq_false_iff_not]; omega
        rw [hE] at hT
        have hZ : Hid (Vl (.bool false) w (.returned (.bool false)) u) := ⟨rfl, hB.gr⟩
        clear hB
        go_wp2_with fail
        rw [unhide hT]
        exact unhide hZ
    · skip
      have h2I : ¬ (1 : Int) ≤ (n : Int) := by omega
      refine wp_region_lit ?_
      refine list_val (.pointer (some ⟨w.heap.size, 0, none⟩)) (by kernel_rfl) (by kernel_rfl) ?_
      simp only [Act.put, List.setIfInBounds_toArray, List.set_cons_zero, List.set_cons_succ, List.getElem_toArray, List.getElem_cons_zero, List.getElem_cons_succ]
      refine list_val (.int .u64 r) (by kernel_rfl) (exec_u64 _ (.tmp 3) rfl (w.heap.size) 0 (by kernel_rfl) r (cell_of (hB.get 0 (x := ⟨w.heap.size, #[.int .u64 r, .slice a n c], 25⟩) rfl) (i := 0) rfl)) ?_
      simp only [Act.put, List.setIfInBounds_toArray, List.set_cons_zero, List.set_cons_succ, List.getElem_toArray, List.getElem_cons_zero, List.getElem_cons_succ]
      refine list_val (.bool true) (by kernel_rfl) (by go_simp) ?_
      simp only [Act.put, List.setIfInBounds_toArray, List.set_cons_zero, List.set_cons_succ, List.getElem_toArray, List.getElem_cons_zero, List.getElem_cons_succ]
      refine list_val (.bool true) (by kernel_rfl) (by kernel_rfl) ?_
      simp only [Act.put, List.setIfInBounds_toArray, List.set_cons_zero, List.set_cons_succ, List.getElem_toArray, List.getElem_cons_zero, List.getElem_cons_succ]
      refine list_val (.pointer (some ⟨w.heap.size, 1, none⟩)) (by kernel_rfl) (by kernel_rfl) ?_
      simp only [Act.put, List.setIfInBounds_toArray, List.set_cons_zero, List.set_cons_succ, List.getElem_toArray, List.getElem_cons_zero, List.getElem_cons_succ]
      refine list_val (.slice a n c) (by kernel_rfl) (exec_sks _ (.tmp 7) rfl (w.heap.size) 1 (by kernel_rfl) a n c (cell_of (hB.get 0 (x := ⟨w.heap.size, #[.int .u64 r, .slice a n c], 25⟩) rfl) (i := 1) rfl)) ?_
      simp only [Act.put, List.setIfInBounds_toArray, List.set_cons_zero, List.set_cons_succ, List.getElem_toArray, List.getElem_cons_zero, List.getElem_cons_succ]
      refine list_val (.int .i64 (n : Int)) (by kernel_rfl) (by kernel_rfl) ?_
      simp only [Act.put, List.setIfInBounds_toArray, List.set_cons_zero, List.set_cons_succ, List.getElem_toArray, List.getElem_cons_zero, List.getElem_cons_succ]
      refine list_val (.bool false) (by kernel_rfl) (by go_simp) ?_
      simp only [Act.put, List.setIfInBounds_toArray, List.set_cons_zero, List.set_cons_succ, List.getElem_toArray, List.getElem_cons_zero, List.getElem_cons_succ]
      refine list_val (.bool false) (by kernel_rfl) (by kernel_rfl) ?_
      simp only [Act.put, List.setIfInBounds_toArray, List.set_cons_zero, List.set_cons_succ, List.getElem_toArray, List.getElem_cons_zero, List.getElem_cons_succ]
      refine list_val_offs 4 (.bool false) (by kernel_rfl) (by kernel_rfl) (by kernel_rfl) ?_
      simp only [List.drop_succ_cons, List.drop_zero, List.take_succ_cons, List.take_zero, putU]
      simp only [Act.put, List.setIfInBounds_toArray, List.set_cons_zero, List.set_cons_succ, List.getElem_toArray, List.getElem_cons_zero, List.getElem_cons_succ]
      refine list_val (.bool false) (by kernel_rfl) (by kernel_rfl) ?_
      simp only [Act.put, List.setIfInBounds_toArray, List.set_cons_zero, List.set_cons_succ, List.getElem_toArray, List.getElem_cons_zero, List.getElem_cons_succ]
      (refine wpList_step fun K hK => ?_; replace hK := hide hK; go_simp; refine unhide hK _ _ ?_; clear hK K)
      refine wpList_nil ?_
      have hE : anR r n = false := by unfold anR; rw [decide_eq_false_iff_not]; omega
      rw [hE] at hT
      have hZ : Hid (Vl (.bool false) w (.returned (.bool false)) u) := ⟨rfl, hB.gr⟩
      clear hB
      go_wp2_with fail
      rw [unhide hT]
      exact unhide hZ
  · skip
    refine wp_region_lit ?_
    refine list_val (.pointer (some ⟨w.heap.size, 0, none⟩)) (by kernel_rfl) (by kernel_rfl) ?_
    simp only [Act.put, List.setIfInBounds_toArray, List.set_cons_zero, List.set_cons_succ, List.getElem_toArray, List.getElem_cons_zero, List.getElem_cons_succ]
    refine list_val (.int .u64 r) (by kernel_rfl) (exec_u64 _ (.tmp 3) rfl (w.heap.size) 0 (by kernel_rfl) r (cell_of (hB.get 0 (x := ⟨w.heap.size, #[.int .u64 r, .slice a n c], 25⟩) rfl) (i := 0) rfl)) ?_
    simp only [Act.put, List.setIfInBounds_toArray, List.set_cons_zero, List.set_cons_succ, List.getElem_toArray, List.getElem_cons_zero, List.getElem_cons_succ]
    refine list_val (.bool false) (by kernel_rfl) (by go_simp) ?_
    simp only [Act.put, List.setIfInBounds_toArray, List.set_cons_zero, List.set_cons_succ, List.getElem_toArray, List.getElem_cons_zero, List.getElem_cons_succ]
    refine list_val_offs 4 (.bool false) (by kernel_rfl) (by kernel_rfl) (by kernel_rfl) ?_
    simp only [List.drop_succ_cons, List.drop_zero, List.take_succ_cons, List.take_zero, putU]
    simp only [Act.put, List.setIfInBounds_toArray, List.set_cons_zero, List.set_cons_succ, List.getElem_toArray, List.getElem_cons_zero, List.getElem_cons_succ]
    refine list_val (.bool false) (by kernel_rfl) (by kernel_rfl) ?_
    simp only [Act.put, List.setIfInBounds_toArray, List.set_cons_zero, List.set_cons_succ, List.getElem_toArray, List.getElem_cons_zero, List.getElem_cons_succ]
    refine list_val_offs 4 (.bool false) (by kernel_rfl) (by kernel_rfl) (by kernel_rfl) ?_
    simp only [List.drop_succ_cons, List.drop_zero, List.take_succ_cons, List.take_zero, putU]
    simp only [Act.put, List.setIfInBounds_toArray, List.set_cons_zero, List.set_cons_succ, List.getElem_toArray, List.getElem_cons_zero, List.getElem_cons_succ]
    refine list_val (.bool false) (by kernel_rfl) (by kernel_rfl) ?_
    simp only [Act.put, List.setIfInBounds_toArray, List.set_cons_zero, List.set_cons_succ, List.getElem_toArray, List.getElem_cons_zero, List.getElem_cons_succ]
    (refine wpList_step fun K hK => ?_; replace hK := hide hK; go_simp; refine unhide hK _ _ ?_; clear hK K)
    refine wpList_nil ?_
    have hE : anR r n = false := by unfold anR; rw [decide_eq_false_iff_not]; omega
    rw [hE] at hT
    have hZ : Hid (Vl (.bool false) w (.returned (.bool false)) u) := ⟨rfl, hB.gr⟩
    clear hB
    go_wp2_with fail
    rw [unhide hT]
    exact unhide hZ
theorem exec_neq_k {a : Act} {o : Oper} (w : World) (x y : Operand) (ho : o.op = .binOp .neq 30 x y 30) (c : Array Value) (hx : a.eval x = .agg c) (hy : a.eval y = .agg c) (hg : (eqGuard .neq 30 x y (.agg c) (.agg c)).run Try.prog w = .ok () w) (he : (Op.equalIn 10000 30 (.agg c) (.agg c)).run Try.prog w = .ok true w) : (execOp a.eval o).run Try.prog w = .ok (.value (.bool false)) w := by
  have hu := Try.underlying30
  unfold execOp
  simp only [ho, hx, hy]
  go_simp
theorem eq_kc {b : List Int} (h : b.length = 32) (w : World) : (Op.equalIn 10000 30 (.agg (kc b)) (.agg (kc b))).run Try.prog w = .ok true w :=
  eq_bytes Try.underlying30 9998 _ (fun i hi => by
    have h9 := (by_mid (C := bv b) (A := []) (D := []) (K := b) (by simp) rfl h).2 i hi
    rw [List.length_nil, Nat.zero_add] at h9
    exact h9) w
set_option maxHeartbeats 4000000 in
theorem jhops_some (ks : List (List Int)) (hks : KsOk ks) (p q n c p2 q2 c2 : Nat) (w : World) (l1 : Ls 32 w (some ⟨p, q, none⟩) n c (ks.map bv)) (l2 : Ls 32 w (some ⟨p2, q2, none⟩) n c2 (ks.map bv)) : Calls Try.prog 7 #[.slice (some ⟨p, q, none⟩) n c, .slice (some ⟨p2, q2, none⟩) n c2] w (Vl (.bool true) w) := by
  obtain ⟨T, hT⟩ : ∃ T, T = Vl (.bool true) w := ⟨_, rfl⟩
  rw [← hT]
  replace hT := hide hT
  have hkn : ks.length = n := by have := l1.len; rwa [List.length_map] at this
  have hn : n < 9223372036854775808 := by have h1 := l1.cap; have h2 := l1.max; omega
  have hI0 : Hid (Gr w w) := Gr.refl w
  replace l1 := hide l1; replace l2 := hide l2; replace hks := hide hks; replace hkn := hide hkn
  go_enter Try.func7, Try.ntmps7
  go_wp2_with fail
  go_loopw [5, 13] (fun x i wr => ∃ (j : Nat), j ≤ n ∧ i = .int .i64 (j : Int) ∧ Hid (Gr w wr)) (fun _ i _ => n - (intOf i).toNat)
  case atStart => exact ⟨0, by omega, rfl, hI0⟩
  case round =>
  clear hI0
  obtain ⟨j, hj, rfl, hG⟩ := hrel
  by_cases hlt : j < n
  · skip
    have jI : (j : Int) < (n : Int) := by omega
    have hjk : j < ks.length := by rw [unhide hkn]; exact hlt
    have hkj := (unhide hks).at_ j hjk
    have hra : ∀ v, Gr w v → v.rangeAt p (q + 32 * j) (bv (ks.getD j [])) := by
      intro v g
      obtain ⟨p', q', e, h⟩ := ((unhide l1).gr g).at_ j hlt
      have e2 := Option.some.inj e
      injection e2 with e3 e4 _
      subst e3 e4
      rw [getD_map bv ks j [] [] hjk] at h
      exact h
    have hrb : ∀ v, Gr w v → v.rangeAt p2 (q2 + 32 * j) (bv (ks.getD j [])) := by
      intro v g
      obtain ⟨p', q', e, h⟩ := ((unhide l2).gr g).at_ j hlt
      have e2 := Option.some.inj e
      injection e2 with e3 e4 _
      subst e3 e4
      rw [getD_map bv ks j [] [] hjk] at h
      exact h
    generalize ks.getD j [] = KJ at *
    obtain ⟨hkl, hkb⟩ := hkj
    replace hra := hide hra; replace hrb := hide hrb; replace hkb := hide hkb
    go_upto_region 6 with fail
    refine any_start (S := fun v => Gr w v) (by kernel_rfl) ?_
    replace hG := hide ((unhide hG).trans (Gr.refl _).drew)
    generalize World.drew _ = x0 at *
    simp only [List.size_toArray, List.length_cons, List.length_nil, Array.replicate, List.replicate]
    refine any_take (i := 0) (v := (.slice (some ⟨p, q, none⟩) n c)) #[false, false, false, false, false, false, false, false, false] rfl (by kernel_rfl) (by kernel_rfl) (by kernel_rfl) (by kernel_rfl) (fun _ _ _ h => h) (.inl ⟨by kernel_rfl, fun x_ hu => by kernel_rfl⟩) (unhide hG) ?_
    simp only [Act.put, List.setIfInBounds_toArray, List.set_cons_zero, List.set_cons_succ, List.getElem_toArray, List.getElem_cons_zero, List.getElem_cons_succ]
    refine any_take (i := 1) (v := (.int .i64 (j : Int))) #[true, false, false, false, false, false, false, false, false] rfl (by kernel_rfl) (by kernel_rfl) (by kernel_rfl) (by kernel_rfl) (fun _ _ _ h => h) (.inl ⟨by kernel_rfl, fun x_ hu => by kernel_rfl⟩) (unhide hG) ?_
    simp only [Act.put, List.setIfInBounds_toArray, List.set_cons_zero, List.set_cons_succ, List.getElem_toArray, List.getElem_cons_zero, List.getElem_cons_succ]
    refine any_take (i := 2) (v := (.pointer (some ⟨p, q + 32 * j, none⟩))) #[true, true, false, false, false, false, false, false, false] rfl (by kernel_rfl) (by kernel_rfl) (by kernel_rfl) (by kernel_rfl) (fun _ _ _ h => h) (.inl ⟨by kernel_rfl, fun x_ hu => exec_iks _ (.tmp 16) (.tmp 17) rfl p q n c j (by kernel_rfl) (by kernel_rfl) hlt⟩) (unhide hG) ?_
    simp only [Act.put, List.setIfInBounds_toArray, List.set_cons_zero, List.set_cons_succ, List.getElem_toArray, List.getElem_cons_zero, List.getElem_cons_succ]
    refine any_take (i := 3) (v := (.agg (kc KJ))) #[true, true, true, false, false, false, false, false, false] rfl (by kernel_rfl) (by kernel_rfl) (by kernel_rfl) (by kernel_rfl) (fun _ _ _ h => h) (.inl ⟨by kernel_rfl, fun x_ hu => exec_row _ 30 (.tmp 18) rfl p (q + 32 * j) (by kernel_rfl) (bv KJ) _ (unhide hra _ hu) Try.underlying30 rfl (by rw [Try.infoKy, bv_len, hkl])⟩) (unhide hG) ?_
    simp only [Act.put, List.setIfInBounds_toArray, List.set_cons_zero, List.set_cons_succ, List.getElem_toArray, List.getElem_cons_zero, List.getElem_cons_succ]
    refine any_take (i := 4) (v := (.slice (some ⟨p2, q2, none⟩) n c2)) #[true, true, true, true, false, false, false, false, false] rfl (by kernel_rfl) (by kernel_rfl) (by kernel_rfl) (by kernel_rfl) (fun _ _ _ h => h) (.inl ⟨by kernel_rfl, fun x_ hu => by kernel_rfl⟩) (unhide hG) ?_
    simp only [Act.put, List.setIfInBounds_toArray, List.set_cons_zero, List.set_cons_succ, List.getElem_toArray, List.getElem_cons_zero, List.getElem_cons_succ]
    refine any_take (i := 5) (v := (.int .i64 (j : Int))) #[true, true, true, true, true, false, false, false, false] rfl (by kernel_rfl) (by kernel_rfl) (by kernel_rfl) (by kernel_rfl) (fun _ _ _ h => h) (.inl ⟨by kernel_rfl, fun x_ hu => by kernel_rfl⟩) (unhide hG) ?_
    simp only [Act.put, List.setIfInBounds_toArray, List.set_cons_zero, List.set_cons_succ, List.getElem_toArray, List.getElem_cons_zero, List.getElem_cons_succ]
    refine any_take (i := 6) (v := (.pointer (some ⟨p2, q2 + 32 * j, none⟩))) #[true, true, true, true, true, true, false, false, false] rfl (by kernel_rfl) (by kernel_rfl) (by kernel_rfl) (by kernel_rfl) (fun _ _ _ h => h) (.inl ⟨by kernel_rfl, fun x_ hu => exec_iks _ (.tmp 20) (.tmp 21) rfl p2 q2 n c2 j (by kernel_rfl) (by kernel_rfl) hlt⟩) (unhide hG) ?_
    simp only [Act.put, List.setIfInBounds_toArray, List.set_cons_zero, List.set_cons_succ, List.getElem_toArray, List.getElem_cons_zero, List.getElem_cons_succ]
    refine any_take (i := 7) (v := (.agg (kc KJ))) #[true, true, true, true, true, true, true, false, false] rfl (by kernel_rfl) (by kernel_rfl) (by kernel_rfl) (by kernel_rfl) (fun _ _ _ h => h) (.inl ⟨by kernel_rfl, fun x_ hu => exec_row _ 30 (.tmp 22) rfl p2 (q2 + 32 * j) (by kernel_rfl) (bv KJ) _ (unhide hrb _ hu) Try.underlying30 rfl (by rw [Try.infoKy, bv_len, hkl])⟩) (unhide hG) ?_
    simp only [Act.put, List.setIfInBounds_toArray, List.set_cons_zero, List.set_cons_succ, List.getElem_toArray, List.getElem_cons_zero, List.getElem_cons_succ]
    refine any_take (i := 8) (v := (.bool false)) #[true, true, true, true, true, true, true, true, false] rfl (by kernel_rfl) (by kernel_rfl) (by kernel_rfl) (by kernel_rfl) (fun _ _ _ h => h) (.inl ⟨by kernel_rfl, fun x_ hu => exec_neq_k _ (.tmp 19) (.tmp 23) rfl (kc KJ) (by kernel_rfl) (by kernel_rfl) (by kernel_rfl) (eq_kc hkl _)⟩) (unhide hG) ?_
    simp only [Act.put, List.setIfInBounds_toArray, List.set_cons_zero, List.set_cons_succ, List.getElem_toArray, List.getElem_cons_zero, List.getElem_cons_succ]
    refine any_done (by kernel_rfl) ?_
    have ej : IntKind.i64.wrap ((j : Int) + 1) = ((j + 1 : Nat) : Int) := by rw [IntKind.wrap_i64]; omega
    clear hra hrb hkl hkb
    go_wp2_with fail
    go_roundw
    case rel => exact ⟨j + 1, by omega, by go_num, hG⟩
    case measure => simp [intOf]; omega
  · skip
    obtain rfl : j = n := by omega
    have jI : ¬ (j : Int) < (j : Int) := by omega
    have hZ : Hid (Vl (.bool true) w (.returned (.bool true)) wr) := ⟨rfl, unhide hG⟩
    go_wp2_with fail
    rw [unhide hT]
    exact unhide hZ
end Go.Proofs.Ytiejdpodffkdpaa
