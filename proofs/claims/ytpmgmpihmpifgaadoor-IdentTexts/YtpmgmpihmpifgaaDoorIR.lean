/-
  The reference: which texts are names, what a digit stands for, which texts are keys.
-/
import Derived.Test.YtpmgmpihmpifgaaDoorIH
namespace Go.Proofs.YtpmgmpihmpifgaaDoor
open Go.RowKit
set_option maxRecDepth 100000
set_option linter.unusedSimpArgs false
set_option linter.unusedVariables false
set_option maxHeartbeats 4000000 in
theorem ename_ok (L : List Int) (hL : IsB L) (hbig : L.length < 4611686018427387904) (w : World) : Calls Tryd.prog 11 #[.string (strOfNums L)] w (Bod (nmL L) w) := by
  obtain ⟨T, hT⟩ : ∃ T, T = Bod (nmL L) w := ⟨_, rfl⟩
  rw [← hT]
  replace hT := hide hT
  replace hL := hide hL
  obtain ⟨SS, hSS⟩ : ∃ S, S = strOfNums L := ⟨_, rfl⟩
  obtain ⟨m, hm⟩ : ∃ m, m = L.length := ⟨_, rfl⟩
  rw [← hSS]
  replace hSS := hide hSS
  have hmb : m < 4611686018427387904 := by rw [hm]; exact hbig
  replace hm := hide hm
  go_enter Tryd.func11, Tryd.ntmps11
  go_wp2_with fail
  go_loopw [3] (fun i wr => ∃ (n : Nat), n ≤ m ∧ i = .int .i64 (n : Int) ∧ Hid (∀ k, k < n → isN (L.getD k 0) = true) ∧ wr = w) (fun i _ => m - (intOf i).toNat)
  case atStart => exact ⟨0, by omega, rfl, fun k hk => absurd hk (by omega), rfl⟩
  case round =>
  obtain ⟨n, hn, rfl, hE, rfl⟩ := hrel
  by_cases hlt : n < m
  · have jI : (n : Int) < (m : Int) := by omega
    obtain ⟨c, hc⟩ : ∃ c, c = L.getD n 0 := ⟨_, rfl⟩
    have hil : n < L.length := by rw [← unhide hm]; exact hlt
    have hw1 : IntKind.i64.wrap ((n : Int) + 1) = (n : Int) + 1 := by rw [IntKind.wrap_i64]; omega
    replace hc := hide hc; replace jI := hide jI; replace hw1 := hide hw1
    go_upto_region 2 with fail
    refine wp_region_lit ?_
    refine list_val (.int .i64 (n : Int)) (by kernel_rfl) (by kernel_rfl) ?_
    simp only [Act.put, List.setIfInBounds_toArray, List.set_cons_zero, List.set_cons_succ, List.getElem_toArray, List.getElem_cons_zero, List.getElem_cons_succ]
    refine list_val (.string SS) (by kernel_rfl) (by kernel_rfl) ?_
    simp only [Act.put, List.setIfInBounds_toArray, List.set_cons_zero, List.set_cons_succ, List.getElem_toArray, List.getElem_cons_zero, List.getElem_cons_succ]
    refine list_val (.int .i64 (m : Int)) (by kernel_rfl) (exec_slen _ (.tmp 6) rfl L m (unhide hm).symm (by rw [← unhide hSS]; kernel_rfl)) ?_
    simp only [Act.put, List.setIfInBounds_toArray, List.set_cons_zero, List.set_cons_succ, List.getElem_toArray, List.getElem_cons_zero, List.getElem_cons_succ]
    refine list_val (.bool true) (by kernel_rfl) (by have h := unhide jI; go_simp) ?_
    simp only [Act.put, List.setIfInBounds_toArray, List.set_cons_zero, List.set_cons_succ, List.getElem_toArray, List.getElem_cons_zero, List.getElem_cons_succ]
    refine wpList_nil ?_
    go_upto_region 4 with fail
    refine wp_region_lit ?_
    refine list_val (.string SS) (by kernel_rfl) (by kernel_rfl) ?_
    simp only [Act.put, List.setIfInBounds_toArray, List.set_cons_zero, List.set_cons_succ, List.getElem_toArray, List.getElem_cons_zero, List.getElem_cons_succ]
    refine list_val (.int .i64 (n : Int)) (by kernel_rfl) (by kernel_rfl) ?_
    simp only [Act.put, List.setIfInBounds_toArray, List.set_cons_zero, List.set_cons_succ, List.getElem_toArray, List.getElem_cons_zero, List.getElem_cons_succ]
    refine list_val (.int .u8 c) (by kernel_rfl) (by rw [unhide hc]; exact exec_six _ (.tmp 11) (.tmp 12) rfl L (unhide hL) .i64 n (by rw [← unhide hSS]; kernel_rfl) (by kernel_rfl) hil) ?_
    simp only [Act.put, List.setIfInBounds_toArray, List.set_cons_zero, List.set_cons_succ, List.getElem_toArray, List.getElem_cons_zero, List.getElem_cons_succ]
    (refine wpList_step fun K hK => ?_; replace hK := hide hK; go_simp; refine unhide hK _ _ ?_; clear hK K)
    refine wpList_nil ?_
    cases hN : isN c with
    | false =>
      have h : (¬ 97 ≤ c ∧ ¬ 48 ≤ c ∧ ¬ c = 45) ∨ (¬ 97 ≤ c ∧ 48 ≤ c ∧ ¬ c ≤ 57 ∧ ¬ c = 45) ∨ (97 ≤ c ∧ ¬ c ≤ 122 ∧ 48 ≤ c ∧ ¬ c ≤ 57 ∧ ¬ c = 45) := by
        unfold isN at hN
        simp at hN
        omega
      have hZ : Hid (T (.returned (.bool false)) wr) := by
        rw [unhide hT, nm_bad hil (by rw [← unhide hc]; exact hN)]
        exact ⟨rfl, Gr.refl _⟩
      clear hN
      have hb : (c == 45) = false := by
        have h9 : ¬ c = 45 := by omega
        simpa using h9
      rcases h with ⟨h1, h2, h3⟩ | ⟨h1, h2, h3, h4⟩ | ⟨h1, h2, h3, h4, h5⟩
      all_goals
        go_wp2_with fail
        exact unhide hZ
    | true =>
      have h : (97 ≤ c ∧ c ≤ 122) ∨ (¬ 97 ≤ c ∧ 48 ≤ c ∧ c ≤ 57) ∨ c = 45 := by
        unfold isN at hN
        simp at hN
        omega
      have hE2 : Hid (∀ k, k < n + 1 → isN (L.getD k 0) = true) := hide (fun k hk => by
        by_cases e : k = n
        · rw [e, ← unhide hc]; exact hN
        · exact unhide hE k (by omega))
      clear hN hc
      have hw2 := unhide hw1
      rcases h with ⟨h1, h2⟩ | ⟨h1, h2, h3⟩ | rfl
      all_goals
        go_wp2_with fail
        go_roundw
        case rel => exact ⟨n + 1, by omega, by simp, hE2, trivial⟩
        case measure => simp [intOf]; omega
  · have e : n = m := by omega
    have jI : ¬ (n : Int) < (m : Int) := by omega
    have hE2 := hide (fun k (hk : k < L.length) => unhide hE k (by rw [e, unhide hm]; exact hk))
    replace jI := hide jI; clear hE
    go_upto_region 2 with fail
    refine wp_region_lit ?_
    refine list_val (.int .i64 (n : Int)) (by kernel_rfl) (by kernel_rfl) ?_
    simp only [Act.put, List.setIfInBounds_toArray, List.set_cons_zero, List.set_cons_succ, List.getElem_toArray, List.getElem_cons_zero, List.getElem_cons_succ]
    refine list_val (.string SS) (by kernel_rfl) (by kernel_rfl) ?_
    simp only [Act.put, List.setIfInBounds_toArray, List.set_cons_zero, List.set_cons_succ, List.getElem_toArray, List.getElem_cons_zero, List.getElem_cons_succ]
    refine list_val (.int .i64 (m : Int)) (by kernel_rfl) (exec_slen _ (.tmp 6) rfl L m (unhide hm).symm (by rw [← unhide hSS]; kernel_rfl)) ?_
    simp only [Act.put, List.setIfInBounds_toArray, List.set_cons_zero, List.set_cons_succ, List.getElem_toArray, List.getElem_cons_zero, List.getElem_cons_succ]
    refine list_val (.bool false) (by kernel_rfl) (by have h := unhide jI; go_simp) ?_
    simp only [Act.put, List.setIfInBounds_toArray, List.set_cons_zero, List.set_cons_succ, List.getElem_toArray, List.getElem_cons_zero, List.getElem_cons_succ]
    refine wpList_nil ?_
    go_upto_region 7 with fail
    by_cases h1 : 1 ≤ m
    · by_cases h2 : m ≤ 16
      · have i1 : (1 : Int) ≤ (m : Int) := by omega
        have i2 : (m : Int) ≤ 16 := by omega
        replace i1 := hide i1; replace i2 := hide i2
        refine wp_region_lit ?_
        refine list_val (.string SS) (by kernel_rfl) (by kernel_rfl) ?_
        simp only [Act.put, List.setIfInBounds_toArray, List.set_cons_zero, List.set_cons_succ, List.getElem_toArray, List.getElem_cons_zero, List.getElem_cons_succ]
        refine list_val (.int .i64 (m : Int)) (by kernel_rfl) (exec_slen _ (.tmp 33) rfl L m (unhide hm).symm (by rw [← unhide hSS]; kernel_rfl)) ?_
        simp only [Act.put, List.setIfInBounds_toArray, List.set_cons_zero, List.set_cons_succ, List.getElem_toArray, List.getElem_cons_zero, List.getElem_cons_succ]
        refine list_val (.bool true) (by kernel_rfl) (by have h := unhide i1; go_simp) ?_
        simp only [Act.put, List.setIfInBounds_toArray, List.set_cons_zero, List.set_cons_succ, List.getElem_toArray, List.getElem_cons_zero, List.getElem_cons_succ]
        refine list_val (.bool true) (by kernel_rfl) (by kernel_rfl) ?_
        simp only [Act.put, List.setIfInBounds_toArray, List.set_cons_zero, List.set_cons_succ, List.getElem_toArray, List.getElem_cons_zero, List.getElem_cons_succ]
        refine list_val (.string SS) (by kernel_rfl) (by kernel_rfl) ?_
        simp only [Act.put, List.setIfInBounds_toArray, List.set_cons_zero, List.set_cons_succ, List.getElem_toArray, List.getElem_cons_zero, List.getElem_cons_succ]
        refine list_val (.int .i64 (m : Int)) (by kernel_rfl) (exec_slen _ (.tmp 37) rfl L m (unhide hm).symm (by rw [← unhide hSS]; kernel_rfl)) ?_
        simp only [Act.put, List.setIfInBounds_toArray, List.set_cons_zero, List.set_cons_succ, List.getElem_toArray, List.getElem_cons_zero, List.getElem_cons_succ]
        refine list_val (.bool true) (by kernel_rfl) (by have h := unhide i2; go_simp) ?_
        simp only [Act.put, List.setIfInBounds_toArray, List.set_cons_zero, List.set_cons_succ, List.getElem_toArray, List.getElem_cons_zero, List.getElem_cons_succ]
        refine list_val (.bool true) (by kernel_rfl) (by kernel_rfl) ?_
        simp only [Act.put, List.setIfInBounds_toArray, List.set_cons_zero, List.set_cons_succ, List.getElem_toArray, List.getElem_cons_zero, List.getElem_cons_succ]
        (refine wpList_step fun K hK => ?_; replace hK := hide hK; go_simp; refine unhide hK _ _ ?_; clear hK K)
        refine wpList_nil ?_
        have hZ : Hid (T (.returned (.bool true)) wr) := by
          rw [unhide hT, nm_good (by rw [← unhide hm]; exact h1) (by rw [← unhide hm]; exact h2) (unhide hE2)]
          exact ⟨rfl, Gr.refl _⟩
        clear hE2
        go_wp2_with fail
        exact unhide hZ
      · have i1 : (1 : Int) ≤ (m : Int) := by omega
        have i2 : ¬ (m : Int) ≤ 16 := by omega
        replace i1 := hide i1; replace i2 := hide i2
        refine wp_region_lit ?_
        refine list_val (.string SS) (by kernel_rfl) (by kernel_rfl) ?_
        simp only [Act.put, List.setIfInBounds_toArray, List.set_cons_zero, List.set_cons_succ, List.getElem_toArray, List.getElem_cons_zero, List.getElem_cons_succ]
        refine list_val (.int .i64 (m : Int)) (by kernel_rfl) (exec_slen _ (.tmp 33) rfl L m (unhide hm).symm (by rw [← unhide hSS]; kernel_rfl)) ?_
        simp only [Act.put, List.setIfInBounds_toArray, List.set_cons_zero, List.set_cons_succ, List.getElem_toArray, List.getElem_cons_zero, List.getElem_cons_succ]
        refine list_val (.bool true) (by kernel_rfl) (by have h := unhide i1; go_simp) ?_
        simp only [Act.put, List.setIfInBounds_toArray, List.set_cons_zero, List.set_cons_succ, List.getElem_toArray, List.getElem_cons_zero, List.getElem_cons_succ]
        refine list_val (.bool true) (by kernel_rfl) (by kernel_rfl) ?_
        simp only [Act.put, List.setIfInBounds_toArray, List.set_cons_zero, List.set_cons_succ, List.getElem_toArray, List.getElem_cons_zero, List.getElem_cons_succ]
        refine list_val (.string SS) (by kernel_rfl) (by kernel_rfl) ?_
        simp only [Act.put, List.setIfInBounds_toArray, List.set_cons_zero, List.set_cons_succ, List.getElem_toArray, List.getElem_cons_zero, List.getElem_cons_succ]
        refine list_val (.int .i64 (m : Int)) (by kernel_rfl) (exec_slen _ (.tmp 37) rfl L m (unhide hm).symm (by rw [← unhide hSS]; kernel_rfl)) ?_
        simp only [Act.put, List.setIfInBounds_toArray, List.set_cons_zero, List.set_cons_succ, List.getElem_toArray, List.getElem_cons_zero, List.getElem_cons_succ]
        refine list_val (.bool false) (by kernel_rfl) (by have h := unhide i2; go_simp) ?_
        simp only [Act.put, List.setIfInBounds_toArray, List.set_cons_zero, List.set_cons_succ, List.getElem_toArray, List.getElem_cons_zero, List.getElem_cons_succ]
        refine list_val (.bool false) (by kernel_rfl) (by kernel_rfl) ?_
        simp only [Act.put, List.setIfInBounds_toArray, List.set_cons_zero, List.set_cons_succ, List.getElem_toArray, List.getElem_cons_zero, List.getElem_cons_succ]
        (refine wpList_step fun K hK => ?_; replace hK := hide hK; go_simp; refine unhide hK _ _ ?_; clear hK K)
        refine wpList_nil ?_
        have hZ : Hid (T (.returned (.bool false)) wr) := by
          rw [unhide hT, show nmL L = false from by unfold nmL; rw [← unhide hm]; simp; omega]
          exact ⟨rfl, Gr.refl _⟩
        clear hE2
        go_wp2_with fail
        exact unhide hZ
    · have i1 : ¬ (1 : Int) ≤ (m : Int) := by omega
      replace i1 := hide i1
      refine wp_region_lit ?_
      refine list_val (.string SS) (by kernel_rfl) (by kernel_rfl) ?_
      simp only [Act.put, List.setIfInBounds_toArray, List.set_cons_zero, List.set_cons_succ, List.getElem_toArray, List.getElem_cons_zero, List.getElem_cons_succ]
      refine list_val (.int .i64 (m : Int)) (by kernel_rfl) (exec_slen _ (.tmp 33) rfl L m (unhide hm).symm (by rw [← unhide hSS]; kernel_rfl)) ?_
      simp only [Act.put, List.setIfInBounds_toArray, List.set_cons_zero, List.set_cons_succ, List.getElem_toArray, List.getElem_cons_zero, List.getElem_cons_succ]
      refine list_val (.bool false) (by kernel_rfl) (by have h := unhide i1; go_simp) ?_
      simp only [Act.put, List.setIfInBounds_toArray, List.set_cons_zero, List.set_cons_succ, List.getElem_toArray, List.getElem_cons_zero, List.getElem_cons_succ]
      refine list_val (.bool false) (by kernel_rfl) (by kernel_rfl) ?_
      simp only [Act.put, List.setIfInBounds_toArray, List.set_cons_zero, List.set_cons_succ, List.getElem_toArray, List.getElem_cons_zero, List.getElem_cons_succ]
      refine wpList_step fun K hK => ?_
      rw [if_neg (ne_true_of_eq_false (by kernel_rfl))]
      refine hK _ _ ?_
      clear hK K
      simp only [Act.put, List.setIfInBounds_toArray, List.set_cons_zero, List.set_cons_succ, List.getElem_toArray, List.getElem_cons_zero, List.getElem_cons_succ]
      refine wpList_step fun K hK => ?_
      rw [if_neg (ne_true_of_eq_false (by kernel_rfl))]
      refine hK _ _ ?_
      clear hK K
      simp only [Act.put, List.setIfInBounds_toArray, List.set_cons_zero, List.set_cons_succ, List.getElem_toArray, List.getElem_cons_zero, List.getElem_cons_succ]
      refine wpList_step fun K hK => ?_
      rw [if_neg (ne_true_of_eq_false (by kernel_rfl))]
      refine hK _ _ ?_
      clear hK K
      simp only [Act.put, List.setIfInBounds_toArray, List.set_cons_zero, List.set_cons_succ, List.getElem_toArray, List.getElem_cons_zero, List.getElem_cons_succ]
      refine list_val (.bool false) (by kernel_rfl) (by kernel_rfl) ?_
      simp only [Act.put, List.setIfInBounds_toArray, List.set_cons_zero, List.set_cons_succ, List.getElem_toArray, List.getElem_cons_zero, List.getElem_cons_succ]
      (refine wpList_step fun K hK => ?_; replace hK := hide hK; go_simp; refine unhide hK _ _ ?_; clear hK K)
      refine wpList_nil ?_
      have hZ : Hid (T (.returned (.bool false)) wr) := by
        rw [unhide hT, show nmL L = false from by unfold nmL; rw [← unhide hm]; simp; omega]
        exact ⟨rfl, Gr.refl _⟩
      clear hE2
      go_wp2_with fail
      exact unhide hZ
theorem XD_dig {c : Int} (h : isD c = true) : ∃ k : Nat, k < 16 ∧ XD.getD k 0 = c ∧ dv c = (k : Int) ∧ ∀ j, j < k → XD.getD j 0 ≠ c := by
  have h := isD_cases h
  have hu : ∀ i j : Fin 16, i ≠ j → XD.getD i.val 0 ≠ XD.getD j.val 0 := by decide
  have hk : (dv c).toNat < 16 := by unfold dv; split <;> omega
  have e : XD.getD (dv c).toNat 0 = c := by
    rw [XD_at _ hk]
    have e1 : (((dv c).toNat : Nat) : Int) = dv c := Int.toNat_of_nonneg (by unfold dv; split <;> omega)
    rw [e1]
    exact hx_dv (isD_of h)
  refine ⟨(dv c).toNat, hk, e, (Int.toNat_of_nonneg (by unfold dv; split <;> omega)).symm, fun j hj => ?_⟩
  have := hu ⟨j, by omega⟩ ⟨(dv c).toNat, hk⟩ (fun h => by have := congrArg Fin.val h; simp at this; omega)
  rw [← e]
  exact this
theorem XD_not {c : Int} (h : isD c = false) (j : Nat) (hj : j < 16) : XD.getD j 0 ≠ c := by
  intro e
  rw [XD_at j hj] at e
  rw [← e, hx_isD _ (by omega) (by omega)] at h
  cases h
/-- what digit answers -/
def dgI (c : Int) : Int := if isD c = true then dv c else -1
set_option maxHeartbeats 4000000 in
theorem edigit_ok (c : Int) (w : World) : Calls Tryd.prog 30 #[.int .u8 c] w ((fun r w_ => r = .returned (.int .i64 (dgI c)) ∧ w_ = w)) := by
  obtain ⟨T, hT⟩ : ∃ T : Ending → World → Prop, T = (fun r w_ => r = .returned (.int .i64 (dgI c)) ∧ w_ = w) := ⟨_, rfl⟩
  rw [← hT]
  replace hT := hide hT
  go_enter Tryd.func30, Tryd.ntmps30
  go_wp2_with fail
  go_loopw [3] (fun i wr => ∃ (n : Nat), n ≤ 16 ∧ i = .int .i64 (n : Int) ∧ Hid (∀ k, k < n → XD.getD k 0 ≠ c) ∧ wr = w) (fun i _ => 16 - (intOf i).toNat)
  case atStart => exact ⟨0, by omega, rfl, fun k hk => absurd hk (by omega), rfl⟩
  case round =>
  obtain ⟨n, hn, rfl, hE, rfl⟩ := hrel
  by_cases hlt : n < 16
  · have jI : (n : Int) < 16 := by omega
    obtain ⟨x, hx⟩ : ∃ c, c = XD.getD n 0 := ⟨_, rfl⟩
    replace hx := hide hx
    go_upto_region 4 with fail
    by_cases hxc : x = c
    · have hxh := hide hxc
      clear hxc
      refine wp_region_lit ?_
      refine list_val (.int .i64 (n : Int)) (by kernel_rfl) (by kernel_rfl) ?_
      simp only [Act.put, List.setIfInBounds_toArray, List.set_cons_zero, List.set_cons_succ, List.getElem_toArray, List.getElem_cons_zero, List.getElem_cons_succ]
      refine list_val (.int .u8 x) (by kernel_rfl) (by rw [unhide hx]; exact exec_six _ (.const (.string ⟨#[48, 49, 50, 51, 52, 53, 54, 55, 56, 57, 97, 98, 99, 100, 101, 102]⟩)) (.tmp 8) rfl XD XD_isB .i64 n rfl (by kernel_rfl) hlt) ?_
      simp only [Act.put, List.setIfInBounds_toArray, List.set_cons_zero, List.set_cons_succ, List.getElem_toArray, List.getElem_cons_zero, List.getElem_cons_succ]
      refine list_val (.int .u8 c) (by kernel_rfl) (by kernel_rfl) ?_
      simp only [Act.put, List.setIfInBounds_toArray, List.set_cons_zero, List.set_cons_succ, List.getElem_toArray, List.getElem_cons_zero, List.getElem_cons_succ]
      refine list_val (.bool true) (by kernel_rfl) (by have h := unhide hxh; go_simp) ?_
      simp only [Act.put, List.setIfInBounds_toArray, List.set_cons_zero, List.set_cons_succ, List.getElem_toArray, List.getElem_cons_zero, List.getElem_cons_succ]
      refine wpList_nil ?_
      have hZ : Hid (T (.returned (.int .i64 (n : Int))) wr) := by
        rw [unhide hT]
        refine ⟨?_, rfl⟩
        have hd : isD c = true := by
          cases h : isD c with
          | true => rfl
          | false => exact absurd ((unhide hx).symm.trans (unhide hxh)) (XD_not h n hlt)
        obtain ⟨k, k1, k2, k3, k4⟩ := XD_dig hd
        have : k = n := by
          rcases Nat.lt_trichotomy k n with h | h | h
          · exact absurd k2 (unhide hE k h)
          · exact h
          · exact absurd ((unhide hx).symm.trans (unhide hxh)) (k4 n h)
        unfold dgI
        rw [if_pos hd, k3, this]
      clear hE hx
      go_wp2_with fail
      exact unhide hZ
    · have hxh := hide hxc
      clear hxc
      refine wp_region_lit ?_
      refine list_val (.int .i64 (n : Int)) (by kernel_rfl) (by kernel_rfl) ?_
      simp only [Act.put, List.setIfInBounds_toArray, List.set_cons_zero, List.set_cons_succ, List.getElem_toArray, List.getElem_cons_zero, List.getElem_cons_succ]
      refine list_val (.int .u8 x) (by kernel_rfl) (by rw [unhide hx]; exact exec_six _ (.const (.string ⟨#[48, 49, 50, 51, 52, 53, 54, 55, 56, 57, 97, 98, 99, 100, 101, 102]⟩)) (.tmp 8) rfl XD XD_isB .i64 n rfl (by kernel_rfl) hlt) ?_
      simp only [Act.put, List.setIfInBounds_toArray, List.set_cons_zero, List.set_cons_succ, List.getElem_toArray, List.getElem_cons_zero, List.getElem_cons_succ]
      refine list_val (.int .u8 c) (by kernel_rfl) (by kernel_rfl) ?_
      simp only [Act.put, List.setIfInBounds_toArray, List.set_cons_zero, List.set_cons_succ, List.getElem_toArray, List.getElem_cons_zero, List.getElem_cons_succ]
      refine list_val (.bool false) (by kernel_rfl) (by have h := unhide hxh; go_simp) ?_
      simp only [Act.put, List.setIfInBounds_toArray, List.set_cons_zero, List.set_cons_succ, List.getElem_toArray, List.getElem_cons_zero, List.getElem_cons_succ]
      refine wpList_nil ?_
      have hE2 : Hid (∀ k, k < n + 1 → XD.getD k 0 ≠ c) := hide (fun k hk => by
        by_cases e : k = n
        · rw [e, ← unhide hx]; exact unhide hxh
        · exact unhide hE k (by omega))
      clear hE hx hxh
      go_wp2_with fail
      go_roundw
      case rel => exact ⟨n + 1, by omega, by simp, hE2, trivial⟩
      case measure => simp [intOf]; omega
  · have e : n = 16 := by omega
    subst e
    have hZ : Hid (T (.returned (.int .i64 (-1))) wr) := by
      rw [unhide hT]
      refine ⟨?_, rfl⟩
      unfold dgI
      cases h : isD c with
      | false => rfl
      | true =>
        obtain ⟨k, k1, k2, _⟩ := XD_dig h
        exact absurd k2 (unhide hE k k1)
    clear hE hlt
    go_wp2_with fail
    exact unhide hZ
end Go.Proofs.YtpmgmpihmpifgaaDoor
