/-
  Of layer 12: what the proof leans on.
-/
import Derived.Test.YtaoiejgjdmakjabDoorFillsK11
namespace Go.Proofs.YtaoiejgjdmakjabDoor
open Go.RowKit
set_option maxRecDepth 100000
set_option linter.unusedSimpArgs false
set_option linter.unusedVariables false
def emp (j : Nat) : List (List Int) := List.replicate j []
theorem emp_usd (j : Nat) : usd (emp j) = j := by
  unfold emp
  induction j with
  | zero => rfl
  | succ j ih => rw [List.replicate_succ, usd, ih]; unfold ned; simp; omega
theorem emp_succ (j : Nat) : emp j ++ [[]] = emp (j + 1) := by unfold emp; rw [List.replicate_succ']
theorem emp_len (j : Nat) : (emp j).length = j := List.length_replicate
set_option maxHeartbeats 4000000 in
theorem fills_law (n : Int) (h1 : -9223372036854775808 ≤ n) (h2 : n < 9223372036854775808) (w : World) (hf0 : Fst w) : Calls Tryd.prog 4 #[.int .i64 n] w (Vl (.bool true) w) := by
  obtain ⟨T, hT⟩ : ∃ T, T = Vl (.bool true) w := ⟨_, rfl⟩
  rw [← hT]
  replace hT := hide hT
  replace hf0 := hide hf0
  go_enter Tryd.func4, Tryd.ntmps4
  go_upto_region 1 with fail
  refine wp_region_lit ?_
  refine list_call 5 #[] (by kernel_rfl) (by kernel_rfl) ((wakes12_ok w (unhide hf0)).mono ?_)
  rintro r v0 ⟨rfl, hg⟩
  refine ⟨_, rfl, ?_⟩
  have hf := hide ((unhide hf0).gr hg)
  have hgw := hide hg
  clear hg
  simp only [Act.put, List.setIfInBounds_toArray, List.set_cons_zero, List.set_cons_succ, List.getElem_toArray, List.getElem_cons_zero, List.getElem_cons_succ]
  refine list_val (.bool false) (by kernel_rfl) (by kernel_rfl) ?_
  simp only [Act.put, List.setIfInBounds_toArray, List.set_cons_zero, List.set_cons_succ, List.getElem_toArray, List.getElem_cons_zero, List.getElem_cons_succ]
  refine wpList_nil ?_
  go_upto_region 3 with fail
  refine wp_region_lit ?_
  refine list_call 6 #[.int .i64 0] (by kernel_rfl) (by kernel_rfl) ((store_ok 0 v0 (unhide hf)).mono ?_)
  rintro r u1 ⟨F, G, gs, gd, D, rfl, hXs, hwd, hDz⟩
  obtain ⟨s1, s2, s3, s4⟩ := sup0_is
  have hz := stz_bd 0
  generalize stz 0 = zz at *
  generalize sup0 = S0 at *
  have hs0 : S0.turn = 0 := by omega
  clear s1 s2 s3 s4
  refine ⟨_, rfl, ?_⟩
  replace hXs := hide hXs; replace hwd := hide hwd; replace hDz := hide hDz
  simp only [Act.put, List.setIfInBounds_toArray, List.set_cons_zero, List.set_cons_succ, List.getElem_toArray, List.getElem_cons_zero, List.getElem_cons_succ]
  refine list_val (.tuple #[.pointer (some ⟨gd, 0, none⟩), .pointer (some ⟨gs, 0, none⟩)]) (by kernel_rfl) (by kernel_rfl) ?_
  simp only [Act.put, List.setIfInBounds_toArray, List.set_cons_zero, List.set_cons_succ, List.getElem_toArray, List.getElem_cons_zero, List.getElem_cons_succ]
  refine list_val (.pointer (some ⟨gd, 0, none⟩)) (by kernel_rfl) (by kernel_rfl) ?_
  simp only [Act.put, List.setIfInBounds_toArray, List.set_cons_zero, List.set_cons_succ, List.getElem_toArray, List.getElem_cons_zero, List.getElem_cons_succ]
  refine list_val (.pointer (some ⟨gs, 0, none⟩)) (by kernel_rfl) (by kernel_rfl) ?_
  simp only [Act.put, List.setIfInBounds_toArray, List.set_cons_zero, List.set_cons_succ, List.getElem_toArray, List.getElem_cons_zero, List.getElem_cons_succ]
  (refine wpList_step fun K hK => ?_; replace hK := hide hK; go_simp; refine unhide hK _ _ ?_; clear hK K)
  (refine wpList_step fun K hK => ?_; replace hK := hide hK; go_simp; refine unhide hK _ _ ?_; clear hK K)
  refine wpList_nil ?_
  go_upto_region 4 with fail
  refine wp_region_lit ?_
  refine list_val (.pointer (some ⟨gs, 0, none⟩)) (by kernel_rfl) (by kernel_rfl) ?_
  simp only [Act.put, List.setIfInBounds_toArray, List.set_cons_zero, List.set_cons_succ, List.getElem_toArray, List.getElem_cons_zero, List.getElem_cons_succ]
  skip
  refine list_call 7 #[P0 gs] (by kernel_rfl) (by kernel_rfl) ((x_open (unhide hXs) (unhide hwd) (by omega) (unhide hf)).mono ?_)
  rintro r u2 ⟨l, H, rfl, hlx, hln, hg⟩
  refine ⟨_, rfl, ?_⟩
  have hX := hide hlx
  clear hlx hln
  clear hg
  simp only [Act.put, List.setIfInBounds_toArray, List.set_cons_zero, List.set_cons_succ, List.getElem_toArray, List.getElem_cons_zero, List.getElem_cons_succ]
  refine list_val (.tuple #[.pointer (some ⟨l, 0, none⟩), .int .i64 0]) (by kernel_rfl) (by kernel_rfl) ?_
  simp only [Act.put, List.setIfInBounds_toArray, List.set_cons_zero, List.set_cons_succ, List.getElem_toArray, List.getElem_cons_zero, List.getElem_cons_succ]
  refine list_val (.pointer (some ⟨l, 0, none⟩)) (by kernel_rfl) (by kernel_rfl) ?_
  simp only [Act.put, List.setIfInBounds_toArray, List.set_cons_zero, List.set_cons_succ, List.getElem_toArray, List.getElem_cons_zero, List.getElem_cons_succ]
  refine list_val (.int .i64 0) (by kernel_rfl) (by kernel_rfl) ?_
  simp only [Act.put, List.setIfInBounds_toArray, List.set_cons_zero, List.set_cons_succ, List.getElem_toArray, List.getElem_cons_zero, List.getElem_cons_succ]
  (refine wpList_step fun K hK => ?_; replace hK := hide hK; go_simp; refine unhide hK _ _ ?_; clear hK K)
  (refine wpList_step fun K hK => ?_; replace hK := hide hK; go_simp; refine unhide hK _ _ ?_; clear hK K)
  refine wpList_nil ?_
  go_upto_region 5 with fail
  refine wp_region_lit ?_
  refine list_val (.pointer (some ⟨gs, 0, none⟩)) (by kernel_rfl) (by kernel_rfl) ?_
  simp only [Act.put, List.setIfInBounds_toArray, List.set_cons_zero, List.set_cons_succ, List.getElem_toArray, List.getElem_cons_zero, List.getElem_cons_succ]
  refine list_val (.bool false) (by kernel_rfl) (by kernel_rfl) ?_
  simp only [Act.put, List.setIfInBounds_toArray, List.set_cons_zero, List.set_cons_succ, List.getElem_toArray, List.getElem_cons_zero, List.getElem_cons_succ]
  refine list_val (.bool false) (by kernel_rfl) (by kernel_rfl) ?_
  simp only [Act.put, List.setIfInBounds_toArray, List.set_cons_zero, List.set_cons_succ, List.getElem_toArray, List.getElem_cons_zero, List.getElem_cons_succ]
  refine list_val (.int .i64 0) (by kernel_rfl) (by kernel_rfl) ?_
  simp only [Act.put, List.setIfInBounds_toArray, List.set_cons_zero, List.set_cons_succ, List.getElem_toArray, List.getElem_cons_zero, List.getElem_cons_succ]
  refine list_val (.bool false) (by kernel_rfl) (by kernel_rfl) ?_
  simp only [Act.put, List.setIfInBounds_toArray, List.set_cons_zero, List.set_cons_succ, List.getElem_toArray, List.getElem_cons_zero, List.getElem_cons_succ]
  refine list_val (.bool false) (by kernel_rfl) (by kernel_rfl) ?_
  simp only [Act.put, List.setIfInBounds_toArray, List.set_cons_zero, List.set_cons_succ, List.getElem_toArray, List.getElem_cons_zero, List.getElem_cons_succ]
  refine wpList_nil ?_
  go_upto_region 7 with fail
  obtain ⟨sl, hsl⟩ : ∃ k : Nat, k = zz - lgo zz := ⟨_, rfl⟩
  have hsl2 := lgo_slots zz
  have hslz : 32 ≤ sl ∧ sl ≤ 44 := by unfold lgo at hsl; omega
  obtain ⟨rm, hrm⟩ : ∃ k : Nat, k = 64 * ((zz - 2) / 4) := ⟨_, rfl⟩
  replace hsl := hide hsl; replace hsl2 := hide hsl2; replace hrm := hide hrm
  refine wp_region_lit ?_
  refine list_val (.pointer (some ⟨gs, 0, none⟩)) (by kernel_rfl) (by kernel_rfl) ?_
  simp only [Act.put, List.setIfInBounds_toArray, List.set_cons_zero, List.set_cons_succ, List.getElem_toArray, List.getElem_cons_zero, List.getElem_cons_succ]
  refine list_call 17 #[.pointer (some ⟨gs, 0, none⟩)] (by kernel_rfl) (by kernel_rfl) ((slots_ok G gs gd D.safe.length S0 (by have := (unhide hX).wd.fd.ok.hi1; omega) _ (unhide hX).xs.st).mono ?_)
  rintro r u3 ⟨rfl, hg⟩
  refine ⟨_, rfl, ?_⟩
  rw [unhide hDz, ← unhide hsl2, ← unhide hsl]
  replace hX := hide ((unhide hX).more hg)
  clear hg
  simp only [Act.put, List.setIfInBounds_toArray, List.set_cons_zero, List.set_cons_succ, List.getElem_toArray, List.getElem_cons_zero, List.getElem_cons_succ]
  refine list_val (.int .i64 0) (by kernel_rfl) (by kernel_rfl) ?_
  simp only [Act.put, List.setIfInBounds_toArray, List.set_cons_zero, List.set_cons_succ, List.getElem_toArray, List.getElem_cons_zero, List.getElem_cons_succ]
  refine wpList_nil ?_
  have hI0 : Hid (∃ F H E m, Xl v0 F G H l gs gd E m S0 [] (emp 0) u3 ∧ E.safe.length = zz ∧ m ≤ 3 + 3 * 0) := ⟨F, H, D, 3, unhide hX, unhide hDz, by omega⟩
  clear hX hXs hwd
  go_wp2_with fail
  go_loopw [28] (fun i wr => ∃ j : Nat, j ≤ sl ∧ i = .int .i64 (j : Int) ∧ Hid (∃ F H E m, Xl v0 F G H l gs gd E m S0 [] (emp j) wr ∧ E.safe.length = zz ∧ m ≤ 3 + 3 * j)) (fun i _ => sl - (intOf i).toNat)
  case atStart => exact ⟨0, by omega, rfl, hI0⟩
  case round =>
  clear hI0
  obtain ⟨j, hj, rfl, hA⟩ := hrel
  obtain ⟨F2, H2, E, m, hX, hEz, hm⟩ := unhide hA
  clear hA
  have hEs : E.safe.length - lgo E.safe.length = sl := by rw [hEz]; exact (unhide hsl).symm
  replace hX := hide hX; replace hEz := hide hEz; replace hEs := hide hEs
  by_cases hlt : j < sl
  · skip
    have jI : (j : Int) < (sl : Int) := by omega
    obtain ⟨j1, hj1⟩ : ∃ k, k = j + 1 := ⟨_, rfl⟩
    have wj1 : IntKind.i64.wrap ((j : Int) + 1) = (j1 : Int) := by rw [IntKind.wrap_i64]; omega
    replace hj1 := hide hj1
    go_upto_region 10 with fail
    refine wp_region_lit ?_
    refine list_val (.pointer (some ⟨l, 0, none⟩)) (by kernel_rfl) (by kernel_rfl) ?_
    simp only [Act.put, List.setIfInBounds_toArray, List.set_cons_zero, List.set_cons_succ, List.getElem_toArray, List.getElem_cons_zero, List.getElem_cons_succ]
    refine list_call 11 #[.pointer (some ⟨l, 0, none⟩), .int .i64 0] (by kernel_rfl) (by kernel_rfl) ((x_room (unhide hX) 0 (by omega) (by omega)).mono ?_)
    rintro r u5 ⟨rfl, hg⟩
    refine ⟨_, rfl, ?_⟩
    rw [show decide ((0 : Int) ≤ 0 ∧ nedI 0 ≤ ((E.safe.length - lgo E.safe.length - usd (emp j) : Nat) : Int)) = true from by rw [unhide hEs, emp_usd, show nedI 0 = 1 from by decide]; exact decide_eq_true ⟨by omega, by omega⟩]
    replace hX := hide ((unhide hX).more hg)
    clear hg
    simp only [Act.put, List.setIfInBounds_toArray, List.set_cons_zero, List.set_cons_succ, List.getElem_toArray, List.getElem_cons_zero, List.getElem_cons_succ]
    refine list_val (.bool false) (by kernel_rfl) (by kernel_rfl) ?_
    simp only [Act.put, List.setIfInBounds_toArray, List.set_cons_zero, List.set_cons_succ, List.getElem_toArray, List.getElem_cons_zero, List.getElem_cons_succ]
    refine list_val (.bool false) (by kernel_rfl) (by kernel_rfl) ?_
    simp only [Act.put, List.setIfInBounds_toArray, List.set_cons_zero, List.set_cons_succ, List.getElem_toArray, List.getElem_cons_zero, List.getElem_cons_succ]
    refine list_val (.pointer (some ⟨l, 0, none⟩)) (by kernel_rfl) (by kernel_rfl) ?_
    simp only [Act.put, List.setIfInBounds_toArray, List.set_cons_zero, List.set_cons_succ, List.getElem_toArray, List.getElem_cons_zero, List.getElem_cons_succ]
    refine list_call 8 #[P0 l, .slice none 0 0] (by kernel_rfl) (by kernel_rfl) ((x_append (unhide hX) (by omega) (unhide hf) [] none 0 0 (Lb.nil0 _) (.inl rfl) (by rw [unhide hEs, emp_usd]; show j + 1 ≤ sl; omega)).mono ?_)
    rintro r u6 ⟨F3, H3, E3, rfl, hX3, hE3, hC, -⟩
    rw [emp_succ] at hX3
    have hXn := hide hX3
    have hEn : E3.safe.length = zz := hE3.trans (unhide hEz)
    replace hEn := hide hEn
    clear hX hX3 hC hE3
    refine ⟨_, rfl, ?_⟩
    simp only [Act.put, List.setIfInBounds_toArray, List.set_cons_zero, List.set_cons_succ, List.getElem_toArray, List.getElem_cons_zero, List.getElem_cons_succ]
    refine list_val (.bool false) (by kernel_rfl) (by kernel_rfl) ?_
    simp only [Act.put, List.setIfInBounds_toArray, List.set_cons_zero, List.set_cons_succ, List.getElem_toArray, List.getElem_cons_zero, List.getElem_cons_succ]
    refine list_val (.bool false) (by kernel_rfl) (by kernel_rfl) ?_
    simp only [Act.put, List.setIfInBounds_toArray, List.set_cons_zero, List.set_cons_succ, List.getElem_toArray, List.getElem_cons_zero, List.getElem_cons_succ]
    refine list_val (.bool false) (by kernel_rfl) (by kernel_rfl) ?_
    simp only [Act.put, List.setIfInBounds_toArray, List.set_cons_zero, List.set_cons_succ, List.getElem_toArray, List.getElem_cons_zero, List.getElem_cons_succ]
    refine list_val (.pointer (some ⟨l, 0, none⟩)) (by kernel_rfl) (by kernel_rfl) ?_
    simp only [Act.put, List.setIfInBounds_toArray, List.set_cons_zero, List.set_cons_succ, List.getElem_toArray, List.getElem_cons_zero, List.getElem_cons_succ]
    refine list_call 9 #[.pointer (some ⟨l, 0, none⟩)] (by kernel_rfl) (by kernel_rfl) ((x_used (unhide hXn)).mono ?_)
    rintro r u7 ⟨rfl, hg⟩
    refine ⟨_, rfl, ?_⟩
    rw [emp_usd, ← unhide hj1]
    replace hXn := hide ((unhide hXn).more hg)
    clear hg
    simp only [Act.put, List.setIfInBounds_toArray, List.set_cons_zero, List.set_cons_succ, List.getElem_toArray, List.getElem_cons_zero, List.getElem_cons_succ]
    refine list_val (.int .i64 (j : Int)) (by kernel_rfl) (by kernel_rfl) ?_
    simp only [Act.put, List.setIfInBounds_toArray, List.set_cons_zero, List.set_cons_succ, List.getElem_toArray, List.getElem_cons_zero, List.getElem_cons_succ]
    refine list_val (.int .i64 (j1 : Int)) (by kernel_rfl) (by go_simp) ?_
    simp only [Act.put, List.setIfInBounds_toArray, List.set_cons_zero, List.set_cons_succ, List.getElem_toArray, List.getElem_cons_zero, List.getElem_cons_succ]
    refine list_val (.bool false) (by kernel_rfl) (by go_simp) ?_
    simp only [Act.put, List.setIfInBounds_toArray, List.set_cons_zero, List.set_cons_succ, List.getElem_toArray, List.getElem_cons_zero, List.getElem_cons_succ]
    refine list_val (.bool false) (by kernel_rfl) (by kernel_rfl) ?_
    simp only [Act.put, List.setIfInBounds_toArray, List.set_cons_zero, List.set_cons_succ, List.getElem_toArray, List.getElem_cons_zero, List.getElem_cons_succ]
    refine wpList_nil ?_
    go_wp2_with fail
    go_roundw
    case rel => exact ⟨j + 1, by omega, by have := unhide hj1; subst this; rfl, ⟨F3, H3, E3, _, unhide hXn, unhide hEn, by simp; omega⟩⟩
    case measure => have := unhide hj1; simp [intOf]; omega
  have jI : ¬ (j : Int) < (sl : Int) := by omega
  obtain rfl : j = sl := by omega
  go_upto_region 13 with fail
  refine wp_region_lit ?_
  refine list_val (.pointer (some ⟨l, 0, none⟩)) (by kernel_rfl) (by kernel_rfl) ?_
  simp only [Act.put, List.setIfInBounds_toArray, List.set_cons_zero, List.set_cons_succ, List.getElem_toArray, List.getElem_cons_zero, List.getElem_cons_succ]
  refine list_call 11 #[.pointer (some ⟨l, 0, none⟩), .int .i64 0] (by kernel_rfl) (by kernel_rfl) ((x_room (unhide hX) 0 (by omega) (by omega)).mono ?_)
  rintro r u5 ⟨rfl, hg⟩
  refine ⟨_, rfl, ?_⟩
  rw [show decide ((0 : Int) ≤ 0 ∧ nedI 0 ≤ ((E.safe.length - lgo E.safe.length - usd (emp j) : Nat) : Int)) = false from by rw [unhide hEs, emp_usd, show nedI 0 = 1 from by decide]; exact decide_eq_false (fun h => by omega)]
  replace hX := hide ((unhide hX).more hg)
  clear hg
  simp only [Act.put, List.setIfInBounds_toArray, List.set_cons_zero, List.set_cons_succ, List.getElem_toArray, List.getElem_cons_zero, List.getElem_cons_succ]
  refine list_val (.bool false) (by kernel_rfl) (by kernel_rfl) ?_
  simp only [Act.put, List.setIfInBounds_toArray, List.set_cons_zero, List.set_cons_succ, List.getElem_toArray, List.getElem_cons_zero, List.getElem_cons_succ]
  refine list_val (.pointer (some ⟨l, 0, none⟩)) (by kernel_rfl) (by kernel_rfl) ?_
  simp only [Act.put, List.setIfInBounds_toArray, List.set_cons_zero, List.set_cons_succ, List.getElem_toArray, List.getElem_cons_zero, List.getElem_cons_succ]
  refine list_call 8 #[.pointer (some ⟨l, 0, none⟩), .slice none 0 0] (by kernel_rfl) (by kernel_rfl) ((x_full (unhide hX) none 0 0 (by omega) (by rw [unhide hEs, emp_usd]; show ¬ j + 1 ≤ j; omega)).mono ?_)
  rintro r u6 ⟨rfl, hg⟩
  refine ⟨_, rfl, ?_⟩
  replace hX := hide ((unhide hX).more hg)
  clear hg
  simp only [Act.put, List.setIfInBounds_toArray, List.set_cons_zero, List.set_cons_succ, List.getElem_toArray, List.getElem_cons_zero, List.getElem_cons_succ]
  refine list_val (.bool false) (by kernel_rfl) (by kernel_rfl) ?_
  simp only [Act.put, List.setIfInBounds_toArray, List.set_cons_zero, List.set_cons_succ, List.getElem_toArray, List.getElem_cons_zero, List.getElem_cons_succ]
  refine list_val (.bool false) (by kernel_rfl) (by kernel_rfl) ?_
  simp only [Act.put, List.setIfInBounds_toArray, List.set_cons_zero, List.set_cons_succ, List.getElem_toArray, List.getElem_cons_zero, List.getElem_cons_succ]
  refine list_val (.bool false) (by kernel_rfl) (by kernel_rfl) ?_
  simp only [Act.put, List.setIfInBounds_toArray, List.set_cons_zero, List.set_cons_succ, List.getElem_toArray, List.getElem_cons_zero, List.getElem_cons_succ]
  refine list_val (.pointer (some ⟨l, 0, none⟩)) (by kernel_rfl) (by kernel_rfl) ?_
  simp only [Act.put, List.setIfInBounds_toArray, List.set_cons_zero, List.set_cons_succ, List.getElem_toArray, List.getElem_cons_zero, List.getElem_cons_succ]
  refine list_call 16 #[P0 l] (by kernel_rfl) (by kernel_rfl) ((x_txs (unhide hX)).mono ?_)
  rintro r u7 ⟨vx, rfl, hox, hg⟩
  obtain ⟨xa, xc, rfl, -⟩ := hox.lq
  rw [emp_len]
  refine ⟨_, rfl, ?_⟩
  replace hX := hide ((unhide hX).more hg)
  clear hox hg
  simp only [Act.put, List.setIfInBounds_toArray, List.set_cons_zero, List.set_cons_succ, List.getElem_toArray, List.getElem_cons_zero, List.getElem_cons_succ]
  refine list_val (.int .i64 (j : Int)) (by kernel_rfl) (by kernel_rfl) ?_
  simp only [Act.put, List.setIfInBounds_toArray, List.set_cons_zero, List.set_cons_succ, List.getElem_toArray, List.getElem_cons_zero, List.getElem_cons_succ]
  refine list_val (.pointer (some ⟨gs, 0, none⟩)) (by kernel_rfl) (by kernel_rfl) ?_
  simp only [Act.put, List.setIfInBounds_toArray, List.set_cons_zero, List.set_cons_succ, List.getElem_toArray, List.getElem_cons_zero, List.getElem_cons_succ]
  refine list_call 17 #[.pointer (some ⟨gs, 0, none⟩)] (by kernel_rfl) (by kernel_rfl) ((slots_ok G gs gd E.safe.length S0 (by have := (unhide hX).wd.fd.ok.hi1; omega) _ (unhide hX).xs.st).mono ?_)
  rintro r u8 ⟨rfl, hg⟩
  refine ⟨_, rfl, ?_⟩
  rw [unhide hEz, ← unhide hsl2, ← unhide hsl]
  replace hX := hide ((unhide hX).more hg)
  clear hg
  simp only [Act.put, List.setIfInBounds_toArray, List.set_cons_zero, List.set_cons_succ, List.getElem_toArray, List.getElem_cons_zero, List.getElem_cons_succ]
  refine list_val (.bool false) (by kernel_rfl) (by go_simp) ?_
  simp only [Act.put, List.setIfInBounds_toArray, List.set_cons_zero, List.set_cons_succ, List.getElem_toArray, List.getElem_cons_zero, List.getElem_cons_succ]
  refine list_val (.bool false) (by kernel_rfl) (by kernel_rfl) ?_
  simp only [Act.put, List.setIfInBounds_toArray, List.set_cons_zero, List.set_cons_succ, List.getElem_toArray, List.getElem_cons_zero, List.getElem_cons_succ]
  refine wpList_nil ?_
  obtain ⟨qa, hqa⟩ : ∃ q : Int, q = IntKind.u64.wrap n := ⟨_, rfl⟩
  have pa : 0 ≤ qa ∧ qa < 18446744073709551616 := by rw [hqa, IntKind.wrap_u64]; omega
  have hrb : rm ≤ 10000 := by have := unhide hrm; omega
  obtain ⟨r1, hr1⟩ : ∃ k : Nat, k = rm + 1 := ⟨_, rfl⟩
  have w1 : IntKind.i64.wrap ((rm : Int) + 1) = (r1 : Int) := by rw [IntKind.wrap_i64]; omega
  have w2 : IntKind.u64.wrap (r1 : Int) = (r1 : Int) := by rw [IntKind.wrap_u64]; omega
  obtain ⟨t, ht⟩ : ∃ t : Nat, (t : Int) = qa % (r1 : Int) := ⟨(qa % (r1 : Int)).toNat, by have := Int.emod_nonneg qa (b := (r1 : Int)) (by omega); omega⟩
  have htb : t < r1 := by have := Int.emod_lt_of_pos qa (b := (r1 : Int)) (by omega); omega
  have et : qa.tmod (r1 : Int) = (t : Int) := by rw [Int.tmod_eq_emod_of_nonneg pa.1, ht]
  have w3 : IntKind.u64.wrap (t : Int) = (t : Int) := by rw [IntKind.wrap_u64]; omega
  have w4 : IntKind.i64.wrap (t : Int) = (t : Int) := by rw [IntKind.wrap_i64]; omega
  have hr10 : ¬ (r1 : Int) = 0 := by omega
  have hr11 : ¬ r1 = 0 := by omega
  have hr1b : r1 ≤ 10001 := by omega
  replace hqa := hide hqa; replace ht := hide ht; replace hr1 := hide hr1
  go_upto_region 15 with fail
  refine wp_region_lit ?_
  refine list_val (.int .i64 n) (by kernel_rfl) (by kernel_rfl) ?_
  simp only [Act.put, List.setIfInBounds_toArray, List.set_cons_zero, List.set_cons_succ, List.getElem_toArray, List.getElem_cons_zero, List.getElem_cons_succ]
  refine list_val (.int .u64 qa) (by kernel_rfl) (by have h9 := unhide hqa; go_simp) ?_
  simp only [Act.put, List.setIfInBounds_toArray, List.set_cons_zero, List.set_cons_succ, List.getElem_toArray, List.getElem_cons_zero, List.getElem_cons_succ]
  refine list_val (.pointer (some ⟨gs, 0, none⟩)) (by kernel_rfl) (by kernel_rfl) ?_
  simp only [Act.put, List.setIfInBounds_toArray, List.set_cons_zero, List.set_cons_succ, List.getElem_toArray, List.getElem_cons_zero, List.getElem_cons_succ]
  refine list_call 18 #[.pointer (some ⟨gs, 0, none⟩)] (by kernel_rfl) (by kernel_rfl) ((room_ok G gs gd E.safe.length S0 (by have := (unhide hX).wd.fd.ok.hi1; omega) _ (unhide hX).xs.st).mono ?_)
  rintro r u9 ⟨rfl, hg⟩
  refine ⟨_, rfl, ?_⟩
  rw [unhide hEz, ← unhide hrm]
  replace hX := hide ((unhide hX).more hg)
  clear hg
  simp only [Act.put, List.setIfInBounds_toArray, List.set_cons_zero, List.set_cons_succ, List.getElem_toArray, List.getElem_cons_zero, List.getElem_cons_succ]
  refine list_val (.int .i64 (r1 : Int)) (by kernel_rfl) (by go_simp) ?_
  simp only [Act.put, List.setIfInBounds_toArray, List.set_cons_zero, List.set_cons_succ, List.getElem_toArray, List.getElem_cons_zero, List.getElem_cons_succ]
  refine list_val (.int .u64 (r1 : Int)) (by kernel_rfl) (by go_simp) ?_
  simp only [Act.put, List.setIfInBounds_toArray, List.set_cons_zero, List.set_cons_succ, List.getElem_toArray, List.getElem_cons_zero, List.getElem_cons_succ]
  refine list_val (.int .u64 (t : Int)) (by kernel_rfl) (by go_simp) ?_
  simp only [Act.put, List.setIfInBounds_toArray, List.set_cons_zero, List.set_cons_succ, List.getElem_toArray, List.getElem_cons_zero, List.getElem_cons_succ]
  refine list_val (.int .i64 (t : Int)) (by kernel_rfl) (by go_simp) ?_
  simp only [Act.put, List.setIfInBounds_toArray, List.set_cons_zero, List.set_cons_succ, List.getElem_toArray, List.getElem_cons_zero, List.getElem_cons_succ]
  refine wpList_step fun K_ hQ => ?_
  rw [if_pos (by kernel_rfl)]
  refine make_op (.tmp 69) (.tmp 69) rfl t t (by kernel_rfl) (by kernel_rfl) (Nat.le_refl _) (by omega) ?_
  have hg := (Gr.refl u9).alloc (.cells (kc (List.replicate t 0)) 5 (0, 0))
  have hlb : Lb (u9.alloc (.cells (kc (List.replicate t 0)) 5 (0, 0))) (some ⟨u9.heap.size, 0, none⟩) t t (List.replicate t 0) := nw_lb (blk_new _ _) (isB_rep t) List.length_replicate (by omega)
  have hfar : (List.replicate t (0 : Int)) = [] ∨ ∀ i, i ∈ F2 ∨ i ∈ G ∨ i ∈ H2 → blkOf (some ⟨u9.heap.size, 0, none⟩) ≠ some i := by
    right
    intro i hi e
    have e2 : u9.heap.size = i := Option.some.inj e
    rcases hi with hi | hi | hi
    · have := (unhide hX).xs.ls.lt i hi; omega
    · have := (unhide hX).xs.st.lt i hi; omega
    · have := (unhide hX).lg.lt i hi; omega
  replace hX := hide ((unhide hX).more hg)
  replace hlb := hide hlb; replace hfar := hide hfar
  clear hg
  refine hQ _ _ ?_
  clear hQ K_
  generalize World.alloc _ _ = u10 at *
  generalize u9.heap.size = g9 at *
  simp only [Act.put, List.setIfInBounds_toArray, List.set_cons_zero, List.set_cons_succ, List.getElem_toArray, List.getElem_cons_zero, List.getElem_cons_succ]
  (refine wpList_step fun K hK => ?_; replace hK := hide hK; go_simp; refine unhide hK _ _ ?_; clear hK K)
  refine wpList_nil ?_
  go_upto_region 16 with fail
  refine wp_region_lit ?_
  refine list_val (.pointer (some ⟨l, 0, none⟩)) (by kernel_rfl) (by kernel_rfl) ?_
  simp only [Act.put, List.setIfInBounds_toArray, List.set_cons_zero, List.set_cons_succ, List.getElem_toArray, List.getElem_cons_zero, List.getElem_cons_succ]
  refine list_val (.slice (some ⟨g9, 0, none⟩) t t) (by kernel_rfl) (by kernel_rfl) ?_
  simp only [Act.put, List.setIfInBounds_toArray, List.set_cons_zero, List.set_cons_succ, List.getElem_toArray, List.getElem_cons_zero, List.getElem_cons_succ]
  refine list_call 19 #[P0 l, .slice (some ⟨g9, 0, none⟩) t t] (by kernel_rfl) (by kernel_rfl) ((x_check (unhide hX) (by omega) (unhide hf) (by omega) (List.replicate t 0) (some ⟨g9, 0, none⟩) t t (unhide hlb) (unhide hfar) (by rw [unhide hEz, ← unhide hrm]; have := unhide hr1; omega)).mono ?_)
  rintro r u11 ⟨F4, H4, E4, rfl, hX4, hE4, hC, -⟩
  have hm4 : m + (((List.replicate t (0 : Int)).length + 63) / 64 + 3) ≤ 800000 := by rw [List.length_replicate]; omega
  have hEz4 : E4.safe.length = zz := hE4.trans (unhide hEz)
  generalize m + (((List.replicate t (0 : Int)).length + 63) / 64 + 3) = m4 at *
  generalize S0.next (List.replicate t 0) = S4 at *
  generalize List.replicate t (0 : Int) = ZT at *
  replace hX4 := hide hX4; replace hEz4 := hide hEz4
  clear hX hlb hfar hC hE4
  refine ⟨_, rfl, ?_⟩
  simp only [Act.put, List.setIfInBounds_toArray, List.set_cons_zero, List.set_cons_succ, List.getElem_toArray, List.getElem_cons_zero, List.getElem_cons_succ]
  refine list_val (.bool true) (by kernel_rfl) (by kernel_rfl) ?_
  simp only [Act.put, List.setIfInBounds_toArray, List.set_cons_zero, List.set_cons_succ, List.getElem_toArray, List.getElem_cons_zero, List.getElem_cons_succ]
  refine list_val (.bool true) (by kernel_rfl) (by kernel_rfl) ?_
  simp only [Act.put, List.setIfInBounds_toArray, List.set_cons_zero, List.set_cons_succ, List.getElem_toArray, List.getElem_cons_zero, List.getElem_cons_succ]
  refine list_val (.pointer (some ⟨l, 0, none⟩)) (by kernel_rfl) (by kernel_rfl) ?_
  simp only [Act.put, List.setIfInBounds_toArray, List.set_cons_zero, List.set_cons_succ, List.getElem_toArray, List.getElem_cons_zero, List.getElem_cons_succ]
  refine list_call 9 #[.pointer (some ⟨l, 0, none⟩)] (by kernel_rfl) (by kernel_rfl) ((x_used (unhide hX4)).mono ?_)
  rintro r u12 ⟨rfl, hg⟩
  refine ⟨_, rfl, ?_⟩
  replace hX4 := hide ((unhide hX4).more hg)
  clear hg
  simp only [Act.put, List.setIfInBounds_toArray, List.set_cons_zero, List.set_cons_succ, List.getElem_toArray, List.getElem_cons_zero, List.getElem_cons_succ]
  refine list_val (.bool true) (by kernel_rfl) (by kernel_rfl) ?_
  simp only [Act.put, List.setIfInBounds_toArray, List.set_cons_zero, List.set_cons_succ, List.getElem_toArray, List.getElem_cons_zero, List.getElem_cons_succ]
  refine list_val (.bool true) (by kernel_rfl) (by kernel_rfl) ?_
  simp only [Act.put, List.setIfInBounds_toArray, List.set_cons_zero, List.set_cons_succ, List.getElem_toArray, List.getElem_cons_zero, List.getElem_cons_succ]
  refine list_val (.bool true) (by kernel_rfl) (by kernel_rfl) ?_
  simp only [Act.put, List.setIfInBounds_toArray, List.set_cons_zero, List.set_cons_succ, List.getElem_toArray, List.getElem_cons_zero, List.getElem_cons_succ]
  refine list_val (.pointer (some ⟨l, 0, none⟩)) (by kernel_rfl) (by kernel_rfl) ?_
  simp only [Act.put, List.setIfInBounds_toArray, List.set_cons_zero, List.set_cons_succ, List.getElem_toArray, List.getElem_cons_zero, List.getElem_cons_succ]
  refine list_call 8 #[P0 l, .slice none 0 0] (by kernel_rfl) (by kernel_rfl) ((x_append (unhide hX4) (by omega) (unhide hf) [] none 0 0 (Lb.nil0 _) (.inl rfl) (by rw [unhide hEz4, ← unhide hsl]; show 0 + 1 ≤ j; omega)).mono ?_)
  rintro r u13 ⟨F5, H5, E5, rfl, hX5, hE5, hC, -⟩
  have hZ : Hid (Vl (.bool true) w (.returned (.bool true)) u13) := ⟨rfl, (unhide hgw).trans hX5.xs.gr⟩
  clear hX4 hX5 hC hE5
  refine ⟨_, rfl, ?_⟩
  simp only [Act.put, List.setIfInBounds_toArray, List.set_cons_zero, List.set_cons_succ, List.getElem_toArray, List.getElem_cons_zero, List.getElem_cons_succ]
  refine list_val (.bool true) (by kernel_rfl) (by kernel_rfl) ?_
  simp only [Act.put, List.setIfInBounds_toArray, List.set_cons_zero, List.set_cons_succ, List.getElem_toArray, List.getElem_cons_zero, List.getElem_cons_succ]
  refine list_val (.bool true) (by kernel_rfl) (by kernel_rfl) ?_
  simp only [Act.put, List.setIfInBounds_toArray, List.set_cons_zero, List.set_cons_succ, List.getElem_toArray, List.getElem_cons_zero, List.getElem_cons_succ]
  (refine wpList_step fun K hK => ?_; replace hK := hide hK; go_simp; refine unhide hK _ _ ?_; clear hK K)
  refine wpList_nil ?_
  go_wp2_with fail
  rw [unhide hT]
  exact unhide hZ
end Go.Proofs.YtaoiejgjdmakjabDoor
