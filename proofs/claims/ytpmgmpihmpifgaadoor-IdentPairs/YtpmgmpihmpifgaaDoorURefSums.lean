/-
  The reference's Add, Sub and Small.
-/
import Derived.Test.YtpmgmpihmpifgaaDoorXK1
import Derived.Test.YtpmgmpihmpifgaaDoorUCarry
import Derived.StillTailTactics
namespace Go.Proofs.YtpmgmpihmpifgaaDoor.Cv
open Go.RowKit
set_option maxRecDepth 100000
set_option linter.unusedSimpArgs false

theorem mul_bd {x q : Int} (hx : 0 ≤ x ∧ x < 65536) (hq : 0 ≤ q ∧ q < 1048576) : 0 ≤ x * q ∧ x * q < 68719476736 := by
  have h1 := Int.mul_nonneg hx.1 hq.1
  have h2 := Int.mul_le_mul_of_nonneg_right (show x ≤ 65535 by omega) hq.1
  omega
theorem sv_comb (x y : Int) : ∀ (c a b : List Int), a.length = c.length → b.length = c.length → (∀ j, j < c.length → c.getD j 0 = x * a.getD j 0 + y * b.getD j 0) → sv c = x * sv a + y * sv b
  | [], a, b, h1, h2, _ => by
    rw [List.eq_nil_of_length_eq_zero h1, List.eq_nil_of_length_eq_zero h2]
    simp [sv]
  | _ :: _, [], _, h1, _, _ => by simp at h1
  | _ :: _, _ :: _, [], _, h2, _ => by simp at h2
  | z :: c, u :: a, v :: b, h1, h2, h => by
    have ih := sv_comb x y c a b (by simpa using h1) (by simpa using h2) (fun j hj => by
      have := h (j + 1) (by simpa using hj)
      simpa using this)
    have h0 := h 0 (by simp)
    simp only [List.getD_cons_zero] at h0
    simp only [sv, ih, h0]
    grind
set_option maxHeartbeats 2000000 in
theorem nAdd_ok (a b : List Int)  (ha : a.length = 16) (da : D16 a) (hb : b.length = 16) (db : D16 b) (w : World) :
    Calls Tryd.prog 53 #[.agg (nc a), .agg (nc b)] w (RetN (sv a + sv b) w) := by
  have hn : (nc a).size = 16 := by rw [nc_size]; exact ha
  have hn2 : (nc b).size = 16 := by rw [nc_size]; exact hb
  go_enter Tryd.func53, Tryd.ntmps53
  go_wp2_with fail
  have hB := (((Bl.nil w).new (nc a) 80).new (nc b) 80).new #[.int .i64 0, .int .i64 0, .int .i64 0, .int .i64 0, .int .i64 0, .int .i64 0, .int .i64 0, .int .i64 0, .int .i64 0, .int .i64 0, .int .i64 0, .int .i64 0, .int .i64 0, .int .i64 0, .int .i64 0, .int .i64 0] 80
  simp only [size_alloc, List.nil_append, List.cons_append] at hB
  generalize World.alloc _ _ = u at *
  replace hB : Hid (Bl w [⟨w.heap.size, nc a, 80⟩, ⟨w.heap.size + 1, nc b, 80⟩, ⟨w.heap.size + 1 + 1, nc Zl, 80⟩] u) := hide hB
  go_loopw [5] (fun i wr => ∃ k : Nat, ∃ m : List Int, k ≤ 16 ∧ i = .int .i64 k ∧ Hid (m.length = 16 ∧ ∀ j, j < 16 → m.getD j 0 = if j < k then a.getD j 0 + b.getD j 0 else a.getD j 0) ∧ Hid (Bl w [⟨w.heap.size, nc m, 80⟩, ⟨w.heap.size + 1, nc b, 80⟩, ⟨w.heap.size + 1 + 1, nc Zl, 80⟩] wr)) (fun i _ => 16 - (intOf i).toNat)
  case atStart => exact ⟨0, a, by omega, rfl, hide ⟨ha, fun j _ => by rw [if_neg (by omega)]⟩, hB⟩
  case round =>
  clear hB
  obtain ⟨i, m, hi, rfl, hm, hB⟩ := hrel
  by_cases hil : i < 16
  · have c1 := nc_cell (Bl.get (unhide hB) 0 (x := ⟨w.heap.size, nc m, 80⟩) rfl) i (by rw [(unhide hm).1]; exact hil)
    have f1 := froz_of (i := i) (Bl.get (unhide hB) 0 (x := ⟨w.heap.size, nc m, 80⟩) rfl)
    have c2 := nc_cell (Bl.get (unhide hB) 1 (x := ⟨w.heap.size + 1, nc b, 80⟩) rfl) i (by rw [hb]; exact hil)
    have b2 := db _ (getD_mem (l := b) (i := i) (by omega))
    have b1 := da _ (getD_mem (l := a) (i := i) (by omega))
    have ei := (unhide hm).2 i hil
    rw [if_neg (by omega)] at ei
    rw [ei] at c1
    have hm2 : Hid ((m.set i (a.getD i 0 + b.getD i 0)).length = 16 ∧ ∀ j, j < 16 → (m.set i (a.getD i 0 + b.getD i 0)).getD j 0 = if j < i + 1 then a.getD j 0 + b.getD j 0 else a.getD j 0) := by
      refine hide ⟨by simpa using (unhide hm).1, fun j hj => ?_⟩
      rw [getD_set m i j _ (by rw [(unhide hm).1]; exact hil)]
      by_cases e : j = i
      · subst e
        rw [if_pos rfl, if_pos (by omega)]
      · rw [if_neg e, (unhide hm).2 j hj]
        by_cases e2 : j < i
        · rw [if_pos e2, if_pos (by omega)]
        · rw [if_neg e2, if_neg (by omega)]
    have hB2 := Bl.cell (unhide hB).drew 0 (x := ⟨w.heap.size, nc m, 80⟩) rfl i (.int .i64 (a.getD i 0 + b.getD i 0))
    simp only [List.set_cons_zero, nc_set] at hB2
    replace hB2 := hide hB2
    clear ei
    generalize a.getD i 0 = x at *
    generalize b.getD i 0 = y at *
    go_wp2_with fail
    go_still_tail 9, (by kernel_rfl)
    go_wp2_with fail
    go_roundw
    case rel => exact ⟨i + 1, _, by omega, by go_num, hm2, hB2⟩
    case measure => simp [intOf]; omega
  · have e : i = 16 := by omega
    subst e
    have hv : sv m = sv a + sv b := by
      have h := sv_comb 1 1 m a b (by rw [ha, (unhide hm).1]) (by rw [hb, (unhide hm).1]) (fun j hj => by have h1 := (unhide hm).2 j (by rw [(unhide hm).1] at hj; exact hj); rw [if_pos (by rw [(unhide hm).1] at hj; exact hj)] at h1; omega)
      omega
    have hz := (unhide hm).1
    have hbd : ∀ j, j < 16 → -36028797018963968 ≤ m.getD j 0 ∧ m.getD j 0 ≤ 36028797018963968 := by
      intro j hj
      have h1 := (unhide hm).2 j hj
      rw [if_pos hj] at h1
      have b1 := da _ (getD_mem (l := a) (i := j) (by omega))
      have b2 := db _ (getD_mem (l := b) (i := j) (by omega))
      rw [h1]
      omega
    go_upto_region 5 with fail
    replace hB := unhide hB
    refine wp_region_lit ?_
    refine list_val (.agg (nc m)) (by kernel_rfl) (exec_arr _ 80 (.tmp 2) rfl w.heap.size (by kernel_rfl) (nc m) 80 _ (hB.get 0 (x := ⟨w.heap.size, (nc m), 80⟩) rfl) Tryd.underlying80 rfl (by rw [Tryd.infoNum, nc_size, hz])) ?_
    simp only [nrm]
    refine list_call 72 #[.agg (nc m)] (by kernel_rfl) (by kernel_rfl) ((carry_ok m hz hbd _).mono ?_)
    rintro r v1_ ⟨c1, rfl, hc1, hg⟩
    refine ⟨_, rfl, ?_⟩
    rw [hv] at hc1
    replace hB := hB.more hg
    clear hg
    simp only [nrm]
    refine list_store 80 (.tmp 4) (.tmp 20) (w.heap.size + 1 + 1) c1 80 (nc Zl) (by kernel_rfl) rfl (by kernel_rfl) (by kernel_rfl) (hB.get 2 (x := ⟨w.heap.size + 1 + 1, (nc Zl), 80⟩) rfl) (by rw [Tryd.infoNum, NC.size _ hc1]) ((show (nc Zl).size = 16 from rfl).trans (NC.size _ hc1).symm) (NC.one _ hc1) ?_
    replace hB := hB.set 2 (x := ⟨w.heap.size + 1 + 1, (nc Zl), 80⟩) rfl c1
    simp only [List.set_cons_zero, List.set_cons_succ] at hB
    generalize World.setRow _ _ _ = v2_ at *
    simp only [nrm]
    refine wpList_nil ?_
    go_wp2_with fail
    exact bodyPost_ret (v := .agg c1) (results_cell_row Tryd.results53 _ _ (w.heap.size + 1 + 1) 80 c1 (0, 0) _ rfl (hB.get 2 (x := ⟨w.heap.size + 1 + 1, c1, 80⟩) rfl) Tryd.underlying80 rfl (by rw [Tryd.infoNum, NC.size _ hc1])) rfl ⟨_, rfl, hc1, hB.gr⟩
set_option maxHeartbeats 2000000 in
theorem nSub_ok (a b : List Int)  (ha : a.length = 16) (da : D16 a) (hb : b.length = 16) (db : D16 b) (w : World) :
    Calls Tryd.prog 54 #[.agg (nc a), .agg (nc b)] w (RetN (sv a - sv b) w) := by
  have hn : (nc a).size = 16 := by rw [nc_size]; exact ha
  have hn2 : (nc b).size = 16 := by rw [nc_size]; exact hb
  go_enter Tryd.func54, Tryd.ntmps54
  go_wp2_with fail
  have hB := (((Bl.nil w).new (nc a) 80).new (nc b) 80).new #[.int .i64 0, .int .i64 0, .int .i64 0, .int .i64 0, .int .i64 0, .int .i64 0, .int .i64 0, .int .i64 0, .int .i64 0, .int .i64 0, .int .i64 0, .int .i64 0, .int .i64 0, .int .i64 0, .int .i64 0, .int .i64 0] 80
  simp only [size_alloc, List.nil_append, List.cons_append] at hB
  generalize World.alloc _ _ = u at *
  replace hB : Hid (Bl w [⟨w.heap.size, nc a, 80⟩, ⟨w.heap.size + 1, nc b, 80⟩, ⟨w.heap.size + 1 + 1, nc Zl, 80⟩] u) := hide hB
  go_loopw [5] (fun i wr => ∃ k : Nat, ∃ m : List Int, k ≤ 16 ∧ i = .int .i64 k ∧ Hid (m.length = 16 ∧ ∀ j, j < 16 → m.getD j 0 = if j < k then a.getD j 0 - b.getD j 0 else a.getD j 0) ∧ Hid (Bl w [⟨w.heap.size, nc m, 80⟩, ⟨w.heap.size + 1, nc b, 80⟩, ⟨w.heap.size + 1 + 1, nc Zl, 80⟩] wr)) (fun i _ => 16 - (intOf i).toNat)
  case atStart => exact ⟨0, a, by omega, rfl, hide ⟨ha, fun j _ => by rw [if_neg (by omega)]⟩, hB⟩
  case round =>
  clear hB
  obtain ⟨i, m, hi, rfl, hm, hB⟩ := hrel
  by_cases hil : i < 16
  · have c1 := nc_cell (Bl.get (unhide hB) 0 (x := ⟨w.heap.size, nc m, 80⟩) rfl) i (by rw [(unhide hm).1]; exact hil)
    have f1 := froz_of (i := i) (Bl.get (unhide hB) 0 (x := ⟨w.heap.size, nc m, 80⟩) rfl)
    have c2 := nc_cell (Bl.get (unhide hB) 1 (x := ⟨w.heap.size + 1, nc b, 80⟩) rfl) i (by rw [hb]; exact hil)
    have b2 := db _ (getD_mem (l := b) (i := i) (by omega))
    have b1 := da _ (getD_mem (l := a) (i := i) (by omega))
    have ei := (unhide hm).2 i hil
    rw [if_neg (by omega)] at ei
    rw [ei] at c1
    have hm2 : Hid ((m.set i (a.getD i 0 - b.getD i 0)).length = 16 ∧ ∀ j, j < 16 → (m.set i (a.getD i 0 - b.getD i 0)).getD j 0 = if j < i + 1 then a.getD j 0 - b.getD j 0 else a.getD j 0) := by
      refine hide ⟨by simpa using (unhide hm).1, fun j hj => ?_⟩
      rw [getD_set m i j _ (by rw [(unhide hm).1]; exact hil)]
      by_cases e : j = i
      · subst e
        rw [if_pos rfl, if_pos (by omega)]
      · rw [if_neg e, (unhide hm).2 j hj]
        by_cases e2 : j < i
        · rw [if_pos e2, if_pos (by omega)]
        · rw [if_neg e2, if_neg (by omega)]
    have hB2 := Bl.cell (unhide hB).drew 0 (x := ⟨w.heap.size, nc m, 80⟩) rfl i (.int .i64 (a.getD i 0 - b.getD i 0))
    simp only [List.set_cons_zero, nc_set] at hB2
    replace hB2 := hide hB2
    clear ei
    generalize a.getD i 0 = x at *
    generalize b.getD i 0 = y at *
    go_wp2_with fail
    go_still_tail 9, (by kernel_rfl)
    go_wp2_with fail
    go_roundw
    case rel => exact ⟨i + 1, _, by omega, by go_num, hm2, hB2⟩
    case measure => simp [intOf]; omega
  · have e : i = 16 := by omega
    subst e
    have hv : sv m = sv a - sv b := by
      have h := sv_comb 1 (-1) m a b (by rw [ha, (unhide hm).1]) (by rw [hb, (unhide hm).1]) (fun j hj => by have h1 := (unhide hm).2 j (by rw [(unhide hm).1] at hj; exact hj); rw [if_pos (by rw [(unhide hm).1] at hj; exact hj)] at h1; omega)
      omega
    have hz := (unhide hm).1
    have hbd : ∀ j, j < 16 → -36028797018963968 ≤ m.getD j 0 ∧ m.getD j 0 ≤ 36028797018963968 := by
      intro j hj
      have h1 := (unhide hm).2 j hj
      rw [if_pos hj] at h1
      have b1 := da _ (getD_mem (l := a) (i := j) (by omega))
      have b2 := db _ (getD_mem (l := b) (i := j) (by omega))
      rw [h1]
      omega
    go_upto_region 5 with fail
    replace hB := unhide hB
    refine wp_region_lit ?_
    refine list_val (.agg (nc m)) (by kernel_rfl) (exec_arr _ 80 (.tmp 2) rfl w.heap.size (by kernel_rfl) (nc m) 80 _ (hB.get 0 (x := ⟨w.heap.size, (nc m), 80⟩) rfl) Tryd.underlying80 rfl (by rw [Tryd.infoNum, nc_size, hz])) ?_
    simp only [nrm]
    refine list_call 72 #[.agg (nc m)] (by kernel_rfl) (by kernel_rfl) ((carry_ok m hz hbd _).mono ?_)
    rintro r v1_ ⟨c1, rfl, hc1, hg⟩
    refine ⟨_, rfl, ?_⟩
    rw [hv] at hc1
    replace hB := hB.more hg
    clear hg
    simp only [nrm]
    refine list_store 80 (.tmp 4) (.tmp 20) (w.heap.size + 1 + 1) c1 80 (nc Zl) (by kernel_rfl) rfl (by kernel_rfl) (by kernel_rfl) (hB.get 2 (x := ⟨w.heap.size + 1 + 1, (nc Zl), 80⟩) rfl) (by rw [Tryd.infoNum, NC.size _ hc1]) ((show (nc Zl).size = 16 from rfl).trans (NC.size _ hc1).symm) (NC.one _ hc1) ?_
    replace hB := hB.set 2 (x := ⟨w.heap.size + 1 + 1, (nc Zl), 80⟩) rfl c1
    simp only [List.set_cons_zero, List.set_cons_succ] at hB
    generalize World.setRow _ _ _ = v2_ at *
    simp only [nrm]
    refine wpList_nil ?_
    go_wp2_with fail
    exact bodyPost_ret (v := .agg c1) (results_cell_row Tryd.results54 _ _ (w.heap.size + 1 + 1) 80 c1 (0, 0) _ rfl (hB.get 2 (x := ⟨w.heap.size + 1 + 1, c1, 80⟩) rfl) Tryd.underlying80 rfl (by rw [Tryd.infoNum, NC.size _ hc1])) rfl ⟨_, rfl, hc1, hB.gr⟩
set_option maxHeartbeats 2000000 in
theorem nSmall_ok (a  : List Int) (q : Int) (hq : 0 ≤ q ∧ q < 1048576) (ha : a.length = 16) (da : D16 a)  (w : World) :
    Calls Tryd.prog 56 #[.agg (nc a), .int .i64 q] w (RetN (sv a * q) w) := by
  have hn : (nc a).size = 16 := by rw [nc_size]; exact ha
  go_enter Tryd.func56, Tryd.ntmps56
  go_wp2_with fail
  have hB := ((Bl.nil w).new (nc a) 80).new #[.int .i64 0, .int .i64 0, .int .i64 0, .int .i64 0, .int .i64 0, .int .i64 0, .int .i64 0, .int .i64 0, .int .i64 0, .int .i64 0, .int .i64 0, .int .i64 0, .int .i64 0, .int .i64 0, .int .i64 0, .int .i64 0] 80
  simp only [size_alloc, List.nil_append, List.cons_append] at hB
  generalize World.alloc _ _ = u at *
  replace hB : Hid (Bl w [⟨w.heap.size, nc a, 80⟩, ⟨w.heap.size + 1, nc Zl, 80⟩] u) := hide hB
  go_loopw [5] (fun i wr => ∃ k : Nat, ∃ m : List Int, k ≤ 16 ∧ i = .int .i64 k ∧ Hid (m.length = 16 ∧ ∀ j, j < 16 → m.getD j 0 = if j < k then a.getD j 0 * q else a.getD j 0) ∧ Hid (Bl w [⟨w.heap.size, nc m, 80⟩, ⟨w.heap.size + 1, nc Zl, 80⟩] wr)) (fun i _ => 16 - (intOf i).toNat)
  case atStart => exact ⟨0, a, by omega, rfl, hide ⟨ha, fun j _ => by rw [if_neg (by omega)]⟩, hB⟩
  case round =>
  clear hB
  obtain ⟨i, m, hi, rfl, hm, hB⟩ := hrel
  by_cases hil : i < 16
  · have c1 := nc_cell (Bl.get (unhide hB) 0 (x := ⟨w.heap.size, nc m, 80⟩) rfl) i (by rw [(unhide hm).1]; exact hil)
    have f1 := froz_of (i := i) (Bl.get (unhide hB) 0 (x := ⟨w.heap.size, nc m, 80⟩) rfl)
    have b1 := da _ (getD_mem (l := a) (i := i) (by omega))
    have ei := (unhide hm).2 i hil
    rw [if_neg (by omega)] at ei
    rw [ei] at c1
    have hm2 : Hid ((m.set i (a.getD i 0 * q)).length = 16 ∧ ∀ j, j < 16 → (m.set i (a.getD i 0 * q)).getD j 0 = if j < i + 1 then a.getD j 0 * q else a.getD j 0) := by
      refine hide ⟨by simpa using (unhide hm).1, fun j hj => ?_⟩
      rw [getD_set m i j _ (by rw [(unhide hm).1]; exact hil)]
      by_cases e : j = i
      · subst e
        rw [if_pos rfl, if_pos (by omega)]
      · rw [if_neg e, (unhide hm).2 j hj]
        by_cases e2 : j < i
        · rw [if_pos e2, if_pos (by omega)]
        · rw [if_neg e2, if_neg (by omega)]
    have hB2 := Bl.cell (unhide hB) 0 (x := ⟨w.heap.size, nc m, 80⟩) rfl i (.int .i64 (a.getD i 0 * q))
    simp only [List.set_cons_zero, nc_set] at hB2
    replace hB2 := hide hB2
    have hp := mul_bd b1 hq
    clear ei
    generalize a.getD i 0 = x at *
    go_wp2_with fail
    
    go_roundw
    case rel => exact ⟨i + 1, _, by omega, by go_num, hm2, hB2⟩
    case measure => simp [intOf]; omega
  · have e : i = 16 := by omega
    subst e
    have hv : sv m = sv a * q := by
      have h := sv_comb q 0 m a a (by rw [ha, (unhide hm).1]) (by rw [ha, (unhide hm).1]) (fun j hj => by have h1 := (unhide hm).2 j (by rw [(unhide hm).1] at hj; exact hj); rw [if_pos (by rw [(unhide hm).1] at hj; exact hj)] at h1; rw [h1, Int.zero_mul, Int.add_zero, Int.mul_comm])
      rw [h, Int.zero_mul, Int.add_zero, Int.mul_comm]
    have hz := (unhide hm).1
    have hbd : ∀ j, j < 16 → -36028797018963968 ≤ m.getD j 0 ∧ m.getD j 0 ≤ 36028797018963968 := by
      intro j hj
      have h1 := (unhide hm).2 j hj
      rw [if_pos hj] at h1
      have b1 := da _ (getD_mem (l := a) (i := j) (by omega))
      
      rw [h1]
      have := mul_bd b1 hq
      omega
    go_upto_region 5 with fail
    replace hB := unhide hB
    refine wp_region_lit ?_
    refine list_val (.agg (nc m)) (by kernel_rfl) (exec_arr _ 80 (.tmp 2) rfl w.heap.size (by kernel_rfl) (nc m) 80 _ (hB.get 0 (x := ⟨w.heap.size, (nc m), 80⟩) rfl) Tryd.underlying80 rfl (by rw [Tryd.infoNum, nc_size, hz])) ?_
    simp only [nrm]
    refine list_call 72 #[.agg (nc m)] (by kernel_rfl) (by kernel_rfl) ((carry_ok m hz hbd _).mono ?_)
    rintro r v1_ ⟨c1, rfl, hc1, hg⟩
    refine ⟨_, rfl, ?_⟩
    rw [hv] at hc1
    replace hB := hB.more hg
    clear hg
    simp only [nrm]
    refine list_store 80 (.tmp 4) (.tmp 18) (w.heap.size + 1) c1 80 (nc Zl) (by kernel_rfl) rfl (by kernel_rfl) (by kernel_rfl) (hB.get 1 (x := ⟨w.heap.size + 1, (nc Zl), 80⟩) rfl) (by rw [Tryd.infoNum, NC.size _ hc1]) ((show (nc Zl).size = 16 from rfl).trans (NC.size _ hc1).symm) (NC.one _ hc1) ?_
    replace hB := hB.set 1 (x := ⟨w.heap.size + 1, (nc Zl), 80⟩) rfl c1
    simp only [List.set_cons_zero, List.set_cons_succ] at hB
    generalize World.setRow _ _ _ = v2_ at *
    simp only [nrm]
    refine wpList_nil ?_
    go_wp2_with fail
    exact bodyPost_ret (v := .agg c1) (results_cell_row Tryd.results56 _ _ (w.heap.size + 1) 80 c1 (0, 0) _ rfl (hB.get 1 (x := ⟨w.heap.size + 1, c1, 80⟩) rfl) Tryd.underlying80 rfl (by rw [Tryd.infoNum, NC.size _ hc1])) rfl ⟨_, rfl, hc1, hB.gr⟩
end Go.Proofs.YtpmgmpihmpifgaaDoor.Cv
