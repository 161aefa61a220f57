/-
  What constants answers.
-/
import Derived.Test.YthnmebhljkccnaaDoorShaConst
namespace Go.Proofs.YthnmebhljkccnaaDoor
open Go.RowKit
set_option maxRecDepth 100000
set_option linter.unusedSimpArgs false

theorem rl_at (S : ByteArray) (hS : S.data.toList = rl) (n : Nat) (h : n < S.size) : (S[n]'h).toNat = (rl.getD n 0).toNat := by
  have h1 : S[n]'h = S.data[n]'h := rfl
  have h2 : S.data[n]'h = S.data.toList[n]'(by simpa using h) := by simp
  rw [h1, h2, List.getElem_of_eq hS]
  have h3 : n < rl.length := by rw [← hS]; simpa using h
  simp [h3]
theorem rl_rng (n : Nat) (h : n < 512) : (48 ≤ ((rl.getD n 0).toNat : Int) ∧ ((rl.getD n 0).toNat : Int) ≤ 57) ∨ (97 ≤ ((rl.getD n 0).toNat : Int) ∧ ((rl.getD n 0).toNat : Int) ≤ 102) := by
  have h3 : n < rl.length := by rw [rl_len]; exact h
  have h1 := List.all_eq_true.1 rl_all (rl.getD n 0) (by simp [h3])
  simp at h1
  simp only [List.getD_eq_getElem?_getD]
  omega

set_option maxHeartbeats 2000000 in
theorem constants_ok (w : World) : Calls Tryd.prog 48 #[] w (fun r w' => r = .returned (.agg (uc KL)) ∧ Gr w w') := by
  go_enter Tryd.func48, Tryd.ntmps48
  go_wp2_with fail
  have hB := ((Bl.nil w).new #[.int .u32 0, .int .u32 0, .int .u32 0, .int .u32 0, .int .u32 0, .int .u32 0, .int .u32 0, .int .u32 0, .int .u32 0, .int .u32 0, .int .u32 0, .int .u32 0, .int .u32 0, .int .u32 0, .int .u32 0, .int .u32 0, .int .u32 0, .int .u32 0, .int .u32 0, .int .u32 0, .int .u32 0, .int .u32 0, .int .u32 0, .int .u32 0, .int .u32 0, .int .u32 0, .int .u32 0, .int .u32 0, .int .u32 0, .int .u32 0, .int .u32 0, .int .u32 0, .int .u32 0, .int .u32 0, .int .u32 0, .int .u32 0, .int .u32 0, .int .u32 0, .int .u32 0, .int .u32 0, .int .u32 0, .int .u32 0, .int .u32 0, .int .u32 0, .int .u32 0, .int .u32 0, .int .u32 0, .int .u32 0, .int .u32 0, .int .u32 0, .int .u32 0, .int .u32 0, .int .u32 0, .int .u32 0, .int .u32 0, .int .u32 0, .int .u32 0, .int .u32 0, .int .u32 0, .int .u32 0, .int .u32 0, .int .u32 0, .int .u32 0, .int .u32 0] 64).new #[.int .u32 0, .int .u32 0, .int .u32 0, .int .u32 0, .int .u32 0, .int .u32 0, .int .u32 0, .int .u32 0, .int .u32 0, .int .u32 0, .int .u32 0, .int .u32 0, .int .u32 0, .int .u32 0, .int .u32 0, .int .u32 0, .int .u32 0, .int .u32 0, .int .u32 0, .int .u32 0, .int .u32 0, .int .u32 0, .int .u32 0, .int .u32 0, .int .u32 0, .int .u32 0, .int .u32 0, .int .u32 0, .int .u32 0, .int .u32 0, .int .u32 0, .int .u32 0, .int .u32 0, .int .u32 0, .int .u32 0, .int .u32 0, .int .u32 0, .int .u32 0, .int .u32 0, .int .u32 0, .int .u32 0, .int .u32 0, .int .u32 0, .int .u32 0, .int .u32 0, .int .u32 0, .int .u32 0, .int .u32 0, .int .u32 0, .int .u32 0, .int .u32 0, .int .u32 0, .int .u32 0, .int .u32 0, .int .u32 0, .int .u32 0, .int .u32 0, .int .u32 0, .int .u32 0, .int .u32 0, .int .u32 0, .int .u32 0, .int .u32 0, .int .u32 0] 64
  simp only [size_alloc, List.nil_append, List.cons_append] at hB
  have hgs : ((w.alloc (.cells #[.int .u32 0, .int .u32 0, .int .u32 0, .int .u32 0, .int .u32 0, .int .u32 0, .int .u32 0, .int .u32 0, .int .u32 0, .int .u32 0, .int .u32 0, .int .u32 0, .int .u32 0, .int .u32 0, .int .u32 0, .int .u32 0, .int .u32 0, .int .u32 0, .int .u32 0, .int .u32 0, .int .u32 0, .int .u32 0, .int .u32 0, .int .u32 0, .int .u32 0, .int .u32 0, .int .u32 0, .int .u32 0, .int .u32 0, .int .u32 0, .int .u32 0, .int .u32 0, .int .u32 0, .int .u32 0, .int .u32 0, .int .u32 0, .int .u32 0, .int .u32 0, .int .u32 0, .int .u32 0, .int .u32 0, .int .u32 0, .int .u32 0, .int .u32 0, .int .u32 0, .int .u32 0, .int .u32 0, .int .u32 0, .int .u32 0, .int .u32 0, .int .u32 0, .int .u32 0, .int .u32 0, .int .u32 0, .int .u32 0, .int .u32 0, .int .u32 0, .int .u32 0, .int .u32 0, .int .u32 0, .int .u32 0, .int .u32 0, .int .u32 0, .int .u32 0] 64)).alloc (.cells #[.int .u32 0, .int .u32 0, .int .u32 0, .int .u32 0, .int .u32 0, .int .u32 0, .int .u32 0, .int .u32 0, .int .u32 0, .int .u32 0, .int .u32 0, .int .u32 0, .int .u32 0, .int .u32 0, .int .u32 0, .int .u32 0, .int .u32 0, .int .u32 0, .int .u32 0, .int .u32 0, .int .u32 0, .int .u32 0, .int .u32 0, .int .u32 0, .int .u32 0, .int .u32 0, .int .u32 0, .int .u32 0, .int .u32 0, .int .u32 0, .int .u32 0, .int .u32 0, .int .u32 0, .int .u32 0, .int .u32 0, .int .u32 0, .int .u32 0, .int .u32 0, .int .u32 0, .int .u32 0, .int .u32 0, .int .u32 0, .int .u32 0, .int .u32 0, .int .u32 0, .int .u32 0, .int .u32 0, .int .u32 0, .int .u32 0, .int .u32 0, .int .u32 0, .int .u32 0, .int .u32 0, .int .u32 0, .int .u32 0, .int .u32 0, .int .u32 0, .int .u32 0, .int .u32 0, .int .u32 0, .int .u32 0, .int .u32 0, .int .u32 0, .int .u32 0] 64)).heap.size = w.heap.size + 1 + 1 := by simp only [size_alloc]
  generalize World.alloc _ _ = u at *
  generalize hS : ByteArray.mk _ = S at *
  have hS1 : S.data.toList = rl := by rw [← hS]; decide +kernel
  have hS2 : S.size = 512 := by
    have : S.data.toList.length = 512 := by rw [hS1]; exact rl_len
    simpa using this
  clear hS
  have hI : Hid ((u.iter S 0).heap[w.heap.size + 1 + 1]? = some (.stringIter S 0)) := by
    rw [← hgs]
    exact World.iter_heap u S 0
  replace hB : Hid (Bl w [⟨w.heap.size, uc Z64, 64⟩, ⟨w.heap.size + 1, uc (KP 0), 64⟩] (u.iter S 0)) := hide (Bl.more hB ((Gr.refl u).alloc _))
  clear hgs
  generalize World.iter _ _ _ = u1 at *
  replace hS1 := hide hS1
  go_loopw [] (fun wr => ∃ n : Nat, ∃ m : List Int, n ≤ 512 ∧ Hid (m = KP n) ∧ Hid (wr.heap[w.heap.size + 1 + 1]? = some (.stringIter S n)) ∧ Hid (Bl w [⟨w.heap.size, uc Z64, 64⟩, ⟨w.heap.size + 1, uc m, 64⟩] wr)) (fun wr => 512 - wr.iterPos (w.heap.size + 1 + 1))
  case atStart => exact ⟨0, KP 0, by omega, rfl, hI, hB⟩
  case round =>
  clear hB hI
  obtain ⟨n, m, hn, hm, hI, hB⟩ := hrel
  have hml : m.length = 64 := by rw [unhide hm]; exact KP_len n
  by_cases hil : n < 512
  · have hp : n < S.size := by omega
    have hd := rl_rng n hil
    have hd0 := rl_at S (unhide hS1) n hp
    have hnx : ∀ ty, (Instr.next (.pointer (some ⟨w.heap.size + 1 + 1, 0, none⟩)) true ty).run Tryd.prog wr = .ok (.tuple #[.bool true, .int .i64 n, .int .i32 (S[n]'hp).toNat]) (itr wr (w.heap.size + 1 + 1) S (n + 1)) := fun ty => run_next_at wr _ S n ty (unhide hI) hp (by omega)
    rw [hd0] at hnx
    have hI0 := hide (iterPos_of (unhide hI))
    replace hI : Hid ((itr wr (w.heap.size + 1 + 1) S (n + 1)).heap[w.heap.size + 1 + 1]? = some (.stringIter S (n + 1))) := itr_self S (n + 1) (lt_of_block (unhide hI))
    replace hB : Hid (Bl w [⟨w.heap.size, uc Z64, 64⟩, ⟨w.heap.size + 1, uc m, 64⟩] (itr wr (w.heap.size + 1 + 1) S (n + 1))) := (unhide hB).itr _ (by omega) (by intro x hx; simp only [List.mem_cons, List.not_mem_nil, or_false] at hx; rcases hx with rfl | rfl <;> dsimp only <;> omega) S (n + 1)
    obtain ⟨q, hq⟩ : ∃ q, q = n / 8 := ⟨_, rfl⟩
    have hm2 : Hid (m.set q (bits .or .u32 (IntKind.u32.wrap (m.getD q 0 * 16)) (dg ((rl.getD n 0).toNat : Int))) = KP (n + 1)) := by
      rw [hq, unhide hm]
      rfl
    have hg := (unhide hB).get 1 (x := ⟨w.heap.size + 1, uc m, 64⟩) rfl
    have c4 := uc_cell hg q (by omega)
    have f4 := froz_of (i := q) hg
    clear hg
    generalize itr wr (w.heap.size + 1 + 1) S (n + 1) = v at *
    have hB2 := Bl.drew ((unhide hB).cell 1 (x := ⟨w.heap.size + 1, uc m, 64⟩) rfl q (.int .u32 (bits .or .u32 (IntKind.u32.wrap (m.getD q 0 * 16)) (dg ((rl.getD n 0).toNat : Int)))))
    simp only [List.set_cons_zero, List.set_cons_succ, uc_set] at hB2
    replace hB2 := hide hB2
    have hI2 : Hid ((v.setCell ⟨w.heap.size + 1, q, none⟩ (.int .u32 (bits .or .u32 (IntKind.u32.wrap (m.getD q 0 * 16)) (dg ((rl.getD n 0).toNat : Int))))).drew.heap[w.heap.size + 1 + 1]? = some (.stringIter S (n + 1))) := (Below.heap_setCell v ⟨w.heap.size + 1, q, none⟩ _ (w.heap.size + 1 + 1) (by dsimp only; omega)).trans (unhide hI)
    generalize ((rl.getD n 0).toNat : Int) = d at *
    generalize m.getD q 0 = x at *
    have e0 : (n : Int) / 8 = (q : Int) := by omega
    have e1 : Int.tdiv (n : Int) 8 = (q : Int) := by rw [Int.tdiv_eq_ediv_of_nonneg (by omega)]; exact e0
    have g0 : IntKind.i64.wrap (q : Int) = (q : Int) := by rw [IntKind.wrap_i64]; omega
    have l0 : 0 ≤ (q : Int) ∧ (q : Int) < 64 := by omega
    have m0 : q < 64 := by omega
    replace hq := hide hq
    replace hd0 := hide hd0
    go_upto_region 5 with fail
    go_region_with (go_at_call 51; refine (value_ok _ (by assumption) _).mono ?_; rintro e w1 ⟨rfl, rfl⟩)
    all_goals
      go_wp2_with fail
      go_roundw
      case rel => exact ⟨n + 1, _, by omega, hm2, hI2, hB2⟩
      case measure =>
        have e2 := iterPos_of (unhide hI2)
        have e3 := unhide hI0
        rw [e2, e3]
        omega
  · have e : n = 512 := by omega
    subst e
    have hnx : ∀ ty, (Instr.next (.pointer (some ⟨w.heap.size + 1 + 1, 0, none⟩)) true ty).run Tryd.prog wr = .ok (.tuple #[.bool false]) wr := fun ty => run_next_stop wr _ S 512 ty (unhide hI) (by omega)
    clear hil
    have hr0 : m = KL := (unhide hm).trans KP_all
    clear hm
    go_upto_region 6 with fail
    replace hB := unhide hB
    refine wp_region_lit ?_
    refine list_val (.agg (uc m)) (by kernel_rfl) (exec_arr _ 64 (.tmp 1) rfl (w.heap.size + 1) (by kernel_rfl) (uc m) 64 _ (hB.get 1 (x := ⟨w.heap.size + 1, uc m, 64⟩) rfl) Tryd.underlying64 rfl (by rw [Tryd.infoW, uc_size, hml])) ?_
    simp only [Act.put, List.setIfInBounds_toArray, List.set_cons_zero, List.set_cons_succ, List.getElem_toArray, List.getElem_cons_zero, List.getElem_cons_succ]
    refine list_store 64 (.tmp 0) (.tmp 20) w.heap.size (uc m) 64 (uc Z64) (by kernel_rfl) rfl (by kernel_rfl) (by kernel_rfl) (hB.get 0 (x := ⟨w.heap.size, uc Z64, 64⟩) rfl) (by rw [Tryd.infoW, uc_size, hml]) ((show (uc Z64).size = 64 from rfl).trans ((uc_size _).trans hml).symm) (uc_one _) ?_
    replace hB := hB.set 0 (x := ⟨w.heap.size, uc Z64, 64⟩) rfl (uc m)
    simp only [List.set_cons_zero, List.set_cons_succ] at hB
    generalize World.setRow _ _ _ = v1_ at *
    simp only [Act.put, List.setIfInBounds_toArray, List.set_cons_zero, List.set_cons_succ, List.getElem_toArray, List.getElem_cons_zero, List.getElem_cons_succ]
    refine wpList_nil ?_
    go_wp2_with fail
    exact bodyPost_ret (v := .agg (uc m)) (results_cell_row Tryd.results48 _ _ w.heap.size 64 (uc m) (0, 0) _ rfl (hB.get 0 (x := ⟨w.heap.size, uc m, 64⟩) rfl) Tryd.underlying64 rfl (by rw [Tryd.infoW, uc_size, hml])) rfl ⟨by rw [hr0], hB.gr⟩
end Go.Proofs.YthnmebhljkccnaaDoor
