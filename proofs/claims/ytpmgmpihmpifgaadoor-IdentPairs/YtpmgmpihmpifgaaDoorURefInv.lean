/-
  The reference's numbers, over cells; its Inv.
-/
import Derived.Test.YtpmgmpihmpifgaaDoorXK1
import Derived.Test.YtpmgmpihmpifgaaDoorURefFrom
namespace Go.Proofs.YtpmgmpihmpifgaaDoor.Cv
open Go.RowKit
set_option maxRecDepth 100000
set_option linter.unusedSimpArgs false

theorem nadd_nc {m n : Int} {a b : Array Value} (ha : NC m a) (hb : NC n b) (w : World) : Calls Tryd.prog 53 #[.agg a, .agg b] w (RetN (m + n) w) := by
  obtain ⟨l, rfl, h⟩ := ha
  obtain ⟨k, rfl, h'⟩ := hb
  refine (nAdd_ok l k (unhide h).1 (unhide h).2.1 (unhide h').1 (unhide h').2.1 w).mono ?_
  rintro r w' ⟨c, rfl, hc, hg⟩
  exact ⟨c, rfl, hc.same (by rw [Int.add_emod, (unhide h).2.2, (unhide h').2.2, ← Int.add_emod]), hg⟩
theorem nsub_nc {m n : Int} {a b : Array Value} (ha : NC m a) (hb : NC n b) (w : World) : Calls Tryd.prog 54 #[.agg a, .agg b] w (RetN (m - n) w) := by
  obtain ⟨l, rfl, h⟩ := ha
  obtain ⟨k, rfl, h'⟩ := hb
  refine (nSub_ok l k (unhide h).1 (unhide h).2.1 (unhide h').1 (unhide h').2.1 w).mono ?_
  rintro r w' ⟨c, rfl, hc, hg⟩
  exact ⟨c, rfl, hc.same (by rw [Int.sub_emod, (unhide h).2.2, (unhide h').2.2, ← Int.sub_emod]), hg⟩
theorem nmul_nc {m n : Int} {a b : Array Value} (ha : NC m a) (hb : NC n b) (w : World) : Calls Tryd.prog 55 #[.agg a, .agg b] w (RetN (m * n) w) := by
  obtain ⟨l, rfl, h⟩ := ha
  obtain ⟨k, rfl, h'⟩ := hb
  refine (nMul_ok l k (unhide h).1 (unhide h).2.1 (unhide h').1 (unhide h').2.1 w).mono ?_
  rintro r w' ⟨c, rfl, hc, hg⟩
  exact ⟨c, rfl, hc.same (by rw [Int.mul_emod, (unhide h).2.2, (unhide h').2.2, ← Int.mul_emod]), hg⟩
theorem nsmall_nc {m : Int} {a : Array Value} (q : Int) (hq : 0 ≤ q ∧ q < 1048576) (ha : NC m a) (w : World) : Calls Tryd.prog 56 #[.agg a, .int .i64 q] w (RetN (m * q) w) := by
  obtain ⟨l, rfl, h⟩ := ha
  refine (nSmall_ok l q hq (unhide h).1 (unhide h).2.1 w).mono ?_
  rintro r w' ⟨c, rfl, hc, hg⟩
  exact ⟨c, rfl, hc.same (by rw [Int.mul_emod, (unhide h).2.2, ← Int.mul_emod]), hg⟩
theorem inv_bit (t : Nat) (h : t < 255) : p2 / 2 ^ t % 2 = if t = 2 ∨ t = 4 then 0 else 1 := by
  have : ∀ t : Fin 255, p2 / 2 ^ t.val % 2 = if t.val = 2 ∨ t.val = 4 then 0 else 1 := by decide +kernel
  exact this ⟨t, h⟩
theorem p2_255 : p2 / 2 ^ 255 = 0 := by decide +kernel
theorem ncalls {n : Int} {w : World} {r : Ending} {w' : World} (h : RetN n w r w') : ∃ c, r = .returned (.agg c) ∧ NC n c ∧ Gr w w' := h

set_option maxHeartbeats 2000000 in
theorem ninv_nc {n : Int} {a : Array Value} (ha : NC n a) (w : World) : Calls Tryd.prog 57 #[.agg a] w (RetN (n ^ p2) w) := by
  go_enter Tryd.func57, Tryd.ntmps57
  go_upto_region 1 with fail
  have hB := ((Bl.nil w).new a 80).new #[.int .i64 0, .int .i64 0, .int .i64 0, .int .i64 0, .int .i64 0, .int .i64 0, .int .i64 0, .int .i64 0, .int .i64 0, .int .i64 0, .int .i64 0, .int .i64 0, .int .i64 0, .int .i64 0, .int .i64 0, .int .i64 0] 80
  simp only [size_alloc, List.nil_append, List.cons_append] at hB
  generalize World.alloc _ _ = v1_ at *
  replace hB : Bl w [⟨w.heap.size, a, 80⟩, ⟨w.heap.size + 1, (nc Zl), 80⟩] v1_ := hB
  refine wp_region_lit ?_
  refine list_val (.agg (kc (digs ((1 : Nat) : Int) 32))) (by kernel_rfl) (by kernel_rfl) ?_
  simp only [nrm]
  refine list_call 52 #[.agg (kc (digs ((1 : Nat) : Int) 32))] (by kernel_rfl) (by kernel_rfl) ((rFrom_ok 1 (by decide) _).mono ?_)
  rintro r v2_ ⟨c1, rfl, hc1, hg⟩
  refine ⟨_, rfl, ?_⟩
  replace hB := hB.more hg
  clear hg
  simp only [nrm]
  refine wpList_step fun K hK => ?_
  replace hK := hide hK
  go_simp
  refine unhide hK _ _ ?_
  clear hK K
  replace hB := hB.new #[.int .i64 0, .int .i64 0, .int .i64 0, .int .i64 0, .int .i64 0, .int .i64 0, .int .i64 0, .int .i64 0, .int .i64 0, .int .i64 0, .int .i64 0, .int .i64 0, .int .i64 0, .int .i64 0, .int .i64 0, .int .i64 0] 80
  simp only [List.cons_append, List.nil_append] at hB
  generalize v2_.heap.size = g1_2 at *
  generalize World.alloc _ _ = v3_ at *
  replace hB : Bl w [⟨w.heap.size, a, 80⟩, ⟨w.heap.size + 1, (nc Zl), 80⟩, ⟨g1_2, (nc Zl), 80⟩] v3_ := hB
  refine list_store 80 (.tmp 3) (.tmp 6) g1_2 c1 80 (nc Zl) (by kernel_rfl) rfl (by kernel_rfl) (by kernel_rfl) (hB.get 2 (x := ⟨g1_2, (nc Zl), 80⟩) rfl) (by rw [Tryd.infoNum, NC.size _ hc1]) ((show (nc Zl).size = 16 from rfl).trans (NC.size _ hc1).symm) (NC.one _ hc1) ?_
  replace hB := hB.set 2 (x := ⟨g1_2, (nc Zl), 80⟩) rfl c1
  simp only [List.set_cons_zero, List.set_cons_succ] at hB
  generalize World.setRow _ _ _ = v4_ at *
  simp only [nrm]
  refine wpList_nil ?_
  go_wp2_with fail
  have hS : Hid (NC (n ^ (p2 / 2 ^ 255)) c1) := by
    rw [p2_255, Int.pow_zero]
    exact hide (NC.same hc1 rfl)
  replace hB := hide hB
  go_loopw [4] (fun i wr => ∃ j : Nat, ∃ c : Array Value, j ≤ 255 ∧ i = .int .i64 ((j : Int) - 1) ∧ Hid (NC (n ^ (p2 / 2 ^ j)) c) ∧ Hid (Bl w [⟨w.heap.size, a, 80⟩, ⟨w.heap.size + 1, nc Zl, 80⟩, ⟨g1_2, c, 80⟩] wr)) (fun i _ => (intOf i + 1).toNat)
  case atStart => exact ⟨255, c1, by omega, rfl, hS, hB⟩
  case round =>
  clear hB hS
  obtain ⟨j, c, hj, rfl, hc, hB⟩ := hrel
  by_cases h0 : j = 0
  · subst h0
    have e0 : ((0 : Nat) : Int) - 1 = -1 := by omega
    rw [e0]
    rw [Nat.pow_zero, Nat.div_one] at hc
    go_upto_region 8 with fail
    replace hB := unhide hB
    replace hc := unhide hc
    refine wp_region_lit ?_
    refine list_val (.agg c) (by kernel_rfl) (exec_arr _ 80 (.tmp 3) rfl g1_2 (by kernel_rfl) c 80 _ (hB.get 2 (x := ⟨g1_2, c, 80⟩) rfl) Tryd.underlying80 rfl (by rw [Tryd.infoNum, NC.size _ hc])) ?_
    simp only [nrm]
    refine list_store 80 (.tmp 2) (.tmp 23) (w.heap.size + 1) c 80 (nc Zl) (by kernel_rfl) rfl (by kernel_rfl) (by kernel_rfl) (hB.get 1 (x := ⟨w.heap.size + 1, (nc Zl), 80⟩) rfl) (by rw [Tryd.infoNum, NC.size _ hc]) ((show (nc Zl).size = 16 from rfl).trans (NC.size _ hc).symm) (NC.one _ hc) ?_
    replace hB := hB.set 1 (x := ⟨w.heap.size + 1, (nc Zl), 80⟩) rfl c
    simp only [List.set_cons_zero, List.set_cons_succ] at hB
    generalize World.setRow _ _ _ = v5_ at *
    simp only [nrm]
    refine wpList_nil ?_
    go_wp2_with fail
    exact bodyPost_ret (v := .agg c) (results_cell_row Tryd.results57 _ _ (w.heap.size + 1) 80 c (0, 0) _ rfl (hB.get 1 (x := ⟨w.heap.size + 1, c, 80⟩) rfl) Tryd.underlying80 rfl (by rw [Tryd.infoNum, NC.size _ hc])) rfl ⟨_, rfl, hc, hB.gr⟩
  · obtain ⟨t, rfl⟩ : ∃ t, j = t + 1 := ⟨j - 1, by omega⟩
    have ej : ((t + 1 : Nat) : Int) - 1 = (t : Int) := by omega
    rw [ej]
    have hP2 := pow_half n p2 t
    have hbt := inv_bit t (by omega)
    obtain ⟨P, hP⟩ : ∃ P, P = n ^ (p2 / 2 ^ (t + 1)) := ⟨_, rfl⟩
    rw [← hP] at hP2 hc
    replace hP := hide hP
    go_upto_region 5 with fail
    replace hB := unhide hB
    replace hc := unhide hc
    refine wp_region_lit ?_
    refine list_val (.agg c) (by kernel_rfl) (exec_arr _ 80 (.tmp 3) rfl g1_2 (by kernel_rfl) c 80 _ (hB.get 2 (x := ⟨g1_2, c, 80⟩) rfl) Tryd.underlying80 rfl (by rw [Tryd.infoNum, NC.size _ hc])) ?_
    simp only [nrm]
    refine list_val (.agg c) (by kernel_rfl) (exec_arr _ 80 (.tmp 3) rfl g1_2 (by kernel_rfl) c 80 _ (hB.get 2 (x := ⟨g1_2, c, 80⟩) rfl) Tryd.underlying80 rfl (by rw [Tryd.infoNum, NC.size _ hc])) ?_
    simp only [nrm]
    refine list_call 55 #[.agg c, .agg c] (by kernel_rfl) (by kernel_rfl) ((nmul_nc hc hc _).mono ?_)
    rintro r v5_ ⟨c2, rfl, hc2, hg⟩
    refine ⟨_, rfl, ?_⟩
    replace hB := hB.more hg
    clear hg
    simp only [nrm]
    refine list_store 80 (.tmp 3) (.tmp 13) g1_2 c2 80 c (by kernel_rfl) rfl (by kernel_rfl) (by kernel_rfl) (hB.get 2 (x := ⟨g1_2, c, 80⟩) rfl) (by rw [Tryd.infoNum, NC.size _ hc2]) ((NC.size _ hc).trans (NC.size _ hc2).symm) (NC.one _ hc2) ?_
    replace hB := hB.set 2 (x := ⟨g1_2, c, 80⟩) rfl c2
    simp only [List.set_cons_zero, List.set_cons_succ] at hB
    generalize World.setRow _ _ _ = v6_ at *
    simp only [nrm]
    refine wpList_nil ?_
    by_cases hb : t = 2 ∨ t = 4
    · rw [if_pos hb] at hbt
      rw [hbt, if_neg (by omega), Int.mul_one] at hP2
      have hR : Hid (NC (n ^ (p2 / 2 ^ t)) c2) := by rw [hP2]; exact hide hc2
      replace hB := hide hB
      clear hP2 hbt hP
      rcases hb with rfl | rfl
      · go_wp2_with fail
        go_roundw
        case rel => exact ⟨2, _, by omega, by go_num, hR, hB⟩
        case measure => simp [intOf]
      · go_wp2_with fail
        go_roundw
        case rel => exact ⟨4, _, by omega, by go_num, hR, hB⟩
        case measure => simp [intOf]
    · rw [if_neg hb] at hbt
      rw [hbt, if_pos rfl] at hP2
      have n2 : ¬ (t : Int) = 2 := by omega
      have n4 : ¬ (t : Int) = 4 := by omega
      have m2 : ((t : Int) != 2) = true := by simpa using n2
      have m4 : ((t : Int) != 4) = true := by simpa using n4
      replace hP2 := hide hP2
      clear hbt
      replace hB := hide hB
      go_upto_region 7 with fail
      replace hB := unhide hB
      refine wp_region_lit ?_
      refine list_val (.agg c2) (by kernel_rfl) (exec_arr _ 80 (.tmp 3) rfl g1_2 (by kernel_rfl) c2 80 _ (hB.get 2 (x := ⟨g1_2, c2, 80⟩) rfl) Tryd.underlying80 rfl (by rw [Tryd.infoNum, NC.size _ hc2])) ?_
      simp only [nrm]
      refine list_val (.agg a) (by kernel_rfl) (exec_arr _ 80 (.tmp 1) rfl w.heap.size (by kernel_rfl) a 80 _ (hB.get 0 (x := ⟨w.heap.size, a, 80⟩) rfl) Tryd.underlying80 rfl (by rw [Tryd.infoNum, NC.size _ ha])) ?_
      simp only [nrm]
      refine list_call 55 #[.agg c2, .agg a] (by kernel_rfl) (by kernel_rfl) ((nmul_nc hc2 ha _).mono ?_)
      rintro r v7_ ⟨c3, rfl, hc3, hg⟩
      refine ⟨_, rfl, ?_⟩
      replace hB := hB.more hg
      clear hg
      simp only [nrm]
      refine list_store 80 (.tmp 3) (.tmp 22) g1_2 c3 80 c2 (by kernel_rfl) rfl (by kernel_rfl) (by kernel_rfl) (hB.get 2 (x := ⟨g1_2, c2, 80⟩) rfl) (by rw [Tryd.infoNum, NC.size _ hc3]) ((NC.size _ hc2).trans (NC.size _ hc3).symm) (NC.one _ hc3) ?_
      replace hB := hB.set 2 (x := ⟨g1_2, c2, 80⟩) rfl c3
      simp only [List.set_cons_zero, List.set_cons_succ] at hB
      generalize World.setRow _ _ _ = v8_ at *
      simp only [nrm]
      refine wpList_nil ?_
      have hR : Hid (NC (n ^ (p2 / 2 ^ t)) c3) := by rw [unhide hP2]; exact hide hc3
      replace hB := hide hB
      go_wp2_with fail
      go_roundw
      case rel => exact ⟨t, _, by omega, by go_num, hR, hB⟩
      case measure => simp [intOf]
end Go.Proofs.YtpmgmpihmpifgaaDoor.Cv
