/-
  However bytes are cut, their hash is the same: the walk.
-/
import Derived.Test.YtnjgcenanpkelaaDoorShaWakes
namespace Go.Proofs.YtnjgcenanpkelaaDoor
open Go.RowKit
set_option maxRecDepth 100000
set_option linter.unusedSimpArgs false

theorem Sl.cell {w : World} {a : Option Addr} {B : List Int} (h : Sl w a B) {j : Nat} (hj : j < B.length) : ∃ p o, a = some ⟨p, o, none⟩ ∧ w.cell? ⟨p, o + j, none⟩ = some (.int .u8 (B.getD j 0)) := by
  rcases h with h | ⟨p, o, h1, h2⟩
  · rw [h] at hj; simp at hj
  · exact ⟨p, o, h1, h2 j hj⟩
/-- a piece of bytes behind a slice -/
theorem Sl.piece {w : World} {a : Option Addr} {B : List Int} (h : Sl w a B) (k n : Nat) (cap : Nat) (hk : k + n ≤ B.length) (hc : B.length ≤ cap) : Sl w (if cap = k then a else Option.map (fun x => x.add k) a) ((B.drop k).take n) := by
  rcases h with h | ⟨p, o, h1, h2⟩
  · left; rw [h]; simp
  · split
    · left
      have : n = 0 := by omega
      subst this
      rfl
    · right
      exact ⟨p, o + k, by rw [h1]; simp [Addr.add_mid], (h2.drop k).take n⟩
set_option maxHeartbeats 2000000 in
theorem whole_ok (B C : List Int) (hb : IsB B) (hcb : IsB C) (a ac : Option Addr) (n cap nc capc : Nat) (hn : B.length = n) (hnc : C.length = nc) (hcap : n ≤ cap) (hcap2 : cap < 4611686018427387904) (hbig : n ≤ 140737488351232) (hbigc : nc ≤ 140737488351232) (w : World) (hF : Fst w) (hA : Sl w a B) (hAc : Sl w ac C) :
    Calls Tryd.prog 8 #[.slice a n cap, .slice ac nc capc] w (Woke w) := by
  obtain ⟨T, hT⟩ : ∃ T, T = Woke w := ⟨_, rfl⟩
  rw [← hT]
  replace hT := hide hT
  replace hF := hide hF
  replace hA := hide hA
  replace hAc := hide hAc
  replace hb := hide hb
  replace hcb := hide hcb
  replace hn := hide hn
  replace hnc := hide hnc
  go_enter Tryd.func8, Tryd.ntmps8
  go_upto_region 3 with (go_at_call 9; refine (wakes_ok _ (unhide hF)).mono ?_; rintro e u1 ⟨rfl, hg1⟩)
  refine wp_region_lit ?_
  refine list_call 14 #[] (by kernel_rfl) (by kernel_rfl) ((new_ok _ ((unhide hF).gr hg1)).mono ?_)
  rintro r u2 ⟨g, rfl, hg0, hH, hg⟩
  refine ⟨_, rfl, ?_⟩
  simp only [Act.put, List.setIfInBounds_toArray, List.set_cons_zero, List.set_cons_succ, List.getElem_toArray, List.getElem_cons_zero, List.getElem_cons_succ]
  have hgw : w.heap.size ≤ g := Nat.le_trans hg1.size hg0
  have hG := hide (hg1.trans hg)
  replace hH : Hid (H g (B.take 0) u2) := hH
  clear hg hg1 hg0
  iterate 1 (refine wpList_step fun K hK => ?_; replace hK := hide hK; go_simp; refine unhide hK _ _ ?_; clear hK K)
  refine wpList_nil ?_
  go_wp2_with fail
  go_loopw [6, 7] (fun x y wr => ∃ k j : Nat, x = .int .i64 k ∧ y = .int .i64 j ∧ k ≤ n ∧ j ≤ nc + 1 ∧ (k < n → j ≤ nc) ∧ Hid (H g (B.take k) wr) ∧ Hid (Gr w wr)) (fun _ y _ => nc + 2 - (intOf y).toNat)
  case atStart => exact ⟨0, 0, rfl, rfl, by omega, by omega, by omega, hH, hG⟩
  case round =>
  clear hH hG
  obtain ⟨k, j, rfl, rfl, hk, hj, hkj, hH, hG⟩ := hrel
  have hnI : (n : Int) ≤ 140737488351232 := by omega
  by_cases hl : k < n
  · have hjc := hkj hl
    have kI : (k : Int) < (n : Int) := by omega
    have e1 : IntKind.i64.wrap ((n : Int) - (k : Int)) = (n : Int) - (k : Int) := by rw [IntKind.wrap_i64]; omega
    have e9 : IntKind.i64.wrap ((nc : Int) + 1) = (nc : Int) + 1 := by rw [IntKind.wrap_i64]; omega
    have e10 : ¬ (nc : Int) + 1 < (j : Int) := by omega
    have e11 : IntKind.i64.wrap ((j : Int) + 1) = (j : Int) + 1 := by rw [IntKind.wrap_i64]; omega
    by_cases hlc : j < nc
    · have jI : (j : Int) < (nc : Int) := by omega
      obtain ⟨pc, oc, hac, cj⟩ := ((unhide hAc).gr (unhide hG)).cell (j := j) (by rw [unhide hnc]; exact hlc)
      subst hac
      have hxb := (unhide hcb).at_ j
      generalize C.getD j 0 = x at *
      obtain ⟨x', rfl⟩ := Int.eq_ofNat_of_zero_le hxb.1
      obtain ⟨m, hm⟩ : ∃ m, m = min (n - k) x' := ⟨_, rfl⟩
      have e2 : (if (x' : Int) < (n : Int) - (k : Int) then (x' : Int) else (n : Int) - (k : Int)) = (m : Int) := by split <;> omega
      have e5 : IntKind.i64.wrap (m : Int) = (m : Int) := by rw [IntKind.wrap_i64]; omega
      obtain ⟨q, hq⟩ : ∃ q, q = k + m := ⟨_, rfl⟩
      have e3 : (k : Int) + (m : Int) = (q : Int) := by omega
      have e4 : IntKind.i64.wrap (q : Int) = (q : Int) := by rw [IntKind.wrap_i64]; omega
      have e6 : (q : Int) ≤ (cap : Int) := by omega
      have e7 : (k : Int) ≤ (q : Int) := by omega
      have e8 : q ≤ cap := by omega
      have e12 : k ≤ q := by omega
      have hq5 : q ≤ n := by omega
      have hq6 : q < n → j < nc := by omega
      replace hq := hide hq
      replace hm := hide hm
      go_upto_region 11 with fail
      refine wp_region_lit ?_
      iterate 7 (refine wpList_step fun K hK => ?_; replace hK := hide hK; go_simp; refine unhide hK _ _ ?_; clear hK K)
      have hWl : ((B.drop k).take m).length = q - k := by rw [List.length_take, List.length_drop, unhide hn]; have := unhide hq; omega
      refine list_call 15 #[.pointer (some ⟨g, 0, none⟩), .slice (if cap = k then a else Option.map (fun x => x.add k) a) (q - k) (cap - k)] (by kernel_rfl) (by kernel_rfl) ((write_ok g (B.take k) ((B.drop k).take m) (isB_take (isB_drop (unhide hb) _) _) (by rw [hWl, List.length_take]; omega) _ (q - k) (cap - k) hWl (by omega) (by omega) _ (unhide hH) (((unhide hA).piece k m cap (by rw [unhide hn]; have := unhide hq; omega) (by rw [unhide hn]; exact hcap)).far (unhide hG) hgw)).mono ?_)
      rintro r v1 ⟨rfl, hH2, hbt⟩
      refine ⟨_, rfl, ?_⟩
      simp only [Act.put, List.setIfInBounds_toArray, List.set_cons_zero, List.set_cons_succ, List.getElem_toArray, List.getElem_cons_zero, List.getElem_cons_succ]
      refine wpList_nil ?_
      have hG2 := hide (hbt.gr (unhide hG) hgw)
      have hH3 : Hid (H g (B.take q) v1) := by
        have e : B.take k ++ (B.drop k).take m = B.take q := by
          rw [unhide hq, List.take_add]
        rw [e] at hH2
        exact hH2
      clear hH hG hbt hH2 hWl
      go_wp2_with fail

      go_roundw
      case rel => exact ⟨q, j + 1, rfl, by go_num, hq5, by omega, by omega, hH3, hG2⟩
      case measure => simp [intOf]; omega
    · have jI : ¬ (j : Int) < (nc : Int) := by omega
      obtain ⟨m, hm⟩ : ∃ m, m = n - k := ⟨_, rfl⟩
      have e2 : (n : Int) - (k : Int) = (m : Int) := by omega
      have e5 : IntKind.i64.wrap (m : Int) = (m : Int) := by rw [IntKind.wrap_i64]; omega
      obtain ⟨q, hq⟩ : ∃ q, q = k + m := ⟨_, rfl⟩
      have e3 : (k : Int) + (m : Int) = (q : Int) := by omega
      have e4 : IntKind.i64.wrap (q : Int) = (q : Int) := by rw [IntKind.wrap_i64]; omega
      have e6 : (q : Int) ≤ (cap : Int) := by omega
      have e7 : (k : Int) ≤ (q : Int) := by omega
      have e8 : q ≤ cap := by omega
      have e12 : k ≤ q := by omega
      have hq5 : q ≤ n := by omega
      have hq6 : q < n → j < nc := by omega
      replace hq := hide hq
      replace hm := hide hm
      go_upto_region 11 with fail
      refine wp_region_lit ?_
      iterate 7 (refine wpList_step fun K hK => ?_; replace hK := hide hK; go_simp; refine unhide hK _ _ ?_; clear hK K)
      have hWl : ((B.drop k).take m).length = q - k := by rw [List.length_take, List.length_drop, unhide hn]; have := unhide hq; omega
      refine list_call 15 #[.pointer (some ⟨g, 0, none⟩), .slice (if cap = k then a else Option.map (fun x => x.add k) a) (q - k) (cap - k)] (by kernel_rfl) (by kernel_rfl) ((write_ok g (B.take k) ((B.drop k).take m) (isB_take (isB_drop (unhide hb) _) _) (by rw [hWl, List.length_take]; omega) _ (q - k) (cap - k) hWl (by omega) (by omega) _ (unhide hH) (((unhide hA).piece k m cap (by rw [unhide hn]; have := unhide hq; omega) (by rw [unhide hn]; exact hcap)).far (unhide hG) hgw)).mono ?_)
      rintro r v1 ⟨rfl, hH2, hbt⟩
      refine ⟨_, rfl, ?_⟩
      simp only [Act.put, List.setIfInBounds_toArray, List.set_cons_zero, List.set_cons_succ, List.getElem_toArray, List.getElem_cons_zero, List.getElem_cons_succ]
      refine wpList_nil ?_
      have hG2 := hide (hbt.gr (unhide hG) hgw)
      have hH3 : Hid (H g (B.take q) v1) := by
        have e : B.take k ++ (B.drop k).take m = B.take q := by
          rw [unhide hq, List.take_add]
        rw [e] at hH2
        exact hH2
      clear hH hG hbt hH2 hWl
      go_wp2_with fail

      go_roundw
      case rel => exact ⟨q, j + 1, rfl, by go_num, hq5, by omega, by omega, hH3, hG2⟩
      case measure => simp [intOf]; omega
  · have hkn : k = n := by omega
    subst hkn
    have hH2 : Hid (H g B wr) := by
      have := unhide hH
      rw [← unhide hn, List.take_length] at this
      exact this
    have hFr := hide ((unhide hF).gr (unhide hG))
    have hAr := hide ((unhide hA).gr (unhide hG))
    clear hH
    have hkk : (sumL B).length = 32 := sumL_len B
    obtain ⟨kk, hkk0⟩ : ∃ kk, kk = sumL B := ⟨_, rfl⟩
    rw [← hkk0] at hkk
    replace hkk0 := hide hkk0
    have hBn : B.length = k := unhide hn
    replace hBn := hide hBn
    go_upto_region 15 with fail
    refine wp_region_lit ?_
    iterate 1 (refine wpList_step fun K hK => ?_; replace hK := hide hK; go_simp; refine unhide hK _ _ ?_; clear hK K)
    refine list_call 17 #[.pointer (some ⟨g, 0, none⟩)] (by kernel_rfl) (by kernel_rfl) ((hsum_ok g B (by rw [unhide hn]; omega) _ (unhide hH2)).mono ?_)
    rintro r v1 ⟨rfl, hg⟩
    refine ⟨_, rfl, ?_⟩
    simp only [Act.put, List.setIfInBounds_toArray, List.set_cons_zero, List.set_cons_succ, List.getElem_toArray, List.getElem_cons_zero, List.getElem_cons_succ]
    rw [← unhide hkk0]
    replace hH2 := hide ((unhide hH2).gr hg)
    replace hFr := hide ((unhide hFr).gr hg)
    replace hAr := hide ((unhide hAr).gr hg)
    replace hG := hide ((unhide hG).trans hg)
    clear hg
    iterate 1 (refine wpList_step fun K hK => ?_; replace hK := hide hK; go_simp; refine unhide hK _ _ ?_; clear hK K)
    refine list_call 11 #[.slice a k cap] (by kernel_rfl) (by kernel_rfl) ((sum_ok B (unhide hb) k (unhide hn) (by omega) a cap hcap hcap2 _ (unhide hFr) (unhide hAr)).mono ?_)
    rintro r v2 ⟨rfl, hg⟩
    refine ⟨_, rfl, ?_⟩
    simp only [Act.put, List.setIfInBounds_toArray, List.set_cons_zero, List.set_cons_succ, List.getElem_toArray, List.getElem_cons_zero, List.getElem_cons_succ]
    rw [← unhide hkk0]
    replace hH2 := hide ((unhide hH2).gr hg)
    replace hG := hide ((unhide hG).trans hg)
    clear hg
    have hke := key_refl kk hkk
    iterate 3 (refine wpList_step fun K hK => ?_; replace hK := hide hK; go_simp; refine unhide hK _ _ ?_; clear hK K)
    refine list_call 16 #[.pointer (some ⟨g, 0, none⟩)] (by kernel_rfl) (by kernel_rfl) ((len_ok g B _ (unhide hH2)).mono ?_)
    rintro r v3 ⟨rfl, rfl⟩
    refine ⟨_, rfl, ?_⟩
    simp only [Act.put, List.setIfInBounds_toArray, List.set_cons_zero, List.set_cons_succ, List.getElem_toArray, List.getElem_cons_zero, List.getElem_cons_succ]
    rw [unhide hBn]
    iterate 5 (refine wpList_step fun K hK => ?_; replace hK := hide hK; go_simp; refine unhide hK _ _ ?_; clear hK K)
    refine wpList_nil ?_
    go_wp2_with fail
    rw [unhide hT]
    exact ⟨rfl, unhide hG⟩
end Go.Proofs.YtnjgcenanpkelaaDoor
