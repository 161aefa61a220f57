/-
  Bytes and what fills them up are whole blocks: the walk.
-/
import Derived.Test.YtnjgcenanpkelabDoorShaWakes
namespace Go.Proofs.YtnjgcenanpkelabDoor
open Go.RowKit
set_option maxRecDepth 100000
set_option linter.unusedSimpArgs false

theorem pad_neg (N : Int) (hN : N < 0) (w : World) : Calls Tryd.prog 5 #[.int .i64 N] w (fun r w' => r = .returned (.slice none 0 0) ∧ w' = w) := by
  go_enter Tryd.func5, Tryd.ntmps5
  go_wp2_with fail
  refine bodyPost_ret (v := .slice none 0 0) ?_ rfl ⟨rfl, rfl⟩
  simp [results, Tryd.results5, go_sem]
set_option maxHeartbeats 2000000 in
theorem fills_ok (N : Int) (hN : -9223372036854775808 ≤ N ∧ N < 9223372036854775808) (B : List Int) (hb : IsB B) (a : Option Addr) (n cap : Nat) (hn : B.length = n) (hbig : n ≤ 140737488351232) (w : World) (hF : Fst w) :
    Calls Tryd.prog 3 #[.int .i64 N, .slice a n cap] w (Woke w) := by
  obtain ⟨T, hT⟩ : ∃ T, T = Woke w := ⟨_, rfl⟩
  rw [← hT]
  replace hT := hide hT
  replace hF := hide hF
  replace hb := hide hb
  replace hn := hide hn
  obtain ⟨M, hM⟩ : ∃ M : Nat, (M : Int) = (if N < 0 then -N - 1 else N) := by
    split
    · exact ⟨(-N - 1).toNat, by omega⟩
    · exact ⟨N.toNat, by omega⟩
  obtain ⟨m, hm⟩ : ∃ m, m = M % 1073741824 := ⟨_, rfl⟩
  have hm0 : m < 1073741824 := by omega
  have hy : IntKind.i64.wrap (IntKind.i64.wrap (-N) - 1) = -N - 1 := by rw [IntKind.wrap_i64, IntKind.wrap_i64]; omega
  have hmx : (if N < -N - 1 then -N - 1 else N) = (M : Int) := by split <;> split at hM <;> omega
  have hmr : Int.tmod (M : Int) 1073741824 = (m : Int) := by rw [Int.tmod_eq_emod_of_nonneg (by omega)]; omega
  have hmw : IntKind.i64.wrap (m : Int) = (m : Int) := by rw [IntKind.wrap_i64]; omega
  replace hm := hide hm
  replace hM := hide hM
  go_enter Tryd.func3, Tryd.ntmps3
  go_upto_region 3 with (go_at_call 4; refine (wakes_ok _ (unhide hF)).mono ?_; rintro e u1 ⟨rfl, hg1⟩)
  refine wp_region_lit ?_
  iterate 6 (refine wpList_step fun K hK => ?_; replace hK := hide hK; go_simp; refine unhide hK _ _ ?_; clear hK K)
  refine list_call 5 #[.int .i64 m] (by kernel_rfl) (by kernel_rfl) ((pad_ok m (by omega) _).mono ?_)
  rintro r v1 ⟨g1, rfl, hgo, hP, hg⟩
  refine ⟨_, rfl, ?_⟩
  simp only [Act.put, List.setIfInBounds_toArray, List.set_cons_zero, List.set_cons_succ, List.getElem_toArray, List.getElem_cons_zero, List.getElem_cons_succ]
  have hG := hide (hg1.trans hg)
  clear hg hg1 hgo
  have c0 : v1.cell? ⟨g1, 0, none⟩ = some (.int .u8 128) := kc_cell hP 0 (by rw [padL_len]; omega)
  have hw1 := padL_whole m
  rw [padL_len] at hw1
  have hz1 : nz m < 64 := by unfold nz; omega
  replace hP := hide hP
  generalize hzz : nz m = zm at *
  clear hzz
  have g1' : ¬ (zm : Int) + 9 < 9 := by omega
  have g2 : ¬ 72 < (zm : Int) + 9 := by omega
  have g5 : (0 : Int) < (zm : Int) + 9 := by omega
  have g6 : 0 < zm + 9 := by omega
  have g3 : IntKind.i64.wrap ((m : Int) + ((zm : Int) + 9)) = (m : Int) + ((zm : Int) + 9) := by rw [IntKind.wrap_i64]; omega
  have g4 : Int.tmod ((m : Int) + ((zm : Int) + 9)) 64 = 0 := by rw [Int.tmod_eq_emod_of_nonneg (by omega)]; omega
  iterate 1 (refine wpList_step fun K hK => ?_; replace hK := hide hK; go_simp; refine unhide hK _ _ ?_; clear hK K)
  refine wpList_nil ?_
  by_cases hneg : N < 0
  · have e5 : (-N - 1) % 1073741824 = (m : Int) := by have h1 := unhide hM; have h2 := unhide hm; rw [if_pos hneg] at h1; omega
    have e6 : Int.tmod (-N - 1) 1073741824 = (m : Int) := by rw [Int.tmod_eq_emod_of_nonneg (by omega)]; exact e5
    have e7 : N < -N - 1 := by omega
    go_upto_region 4 with fail
    refine wp_region_lit ?_
    iterate 4 (refine wpList_step fun K hK => ?_; replace hK := hide hK; go_simp; refine unhide hK _ _ ?_; clear hK K)
    refine list_call 5 #[.int .i64 N] (by kernel_rfl) (by kernel_rfl) ((pad_neg N hneg _).mono ?_)
    rintro r v2 ⟨rfl, rfl⟩
    refine ⟨_, rfl, ?_⟩
    simp only [Act.put, List.setIfInBounds_toArray, List.set_cons_zero, List.set_cons_succ, List.getElem_toArray, List.getElem_cons_zero, List.getElem_cons_succ]
    iterate 3 (refine wpList_step fun K hK => ?_; replace hK := hide hK; go_simp; refine unhide hK _ _ ?_; clear hK K)
    refine wpList_nil ?_
    go_upto_region 6 with fail
    refine wp_region_lit ?_
    iterate 27 (refine wpList_step fun K hK => ?_; replace hK := hide hK; go_simp; refine unhide hK _ _ ?_; clear hK K)
    refine wpList_nil ?_
    go_upto_region 8 with fail
    refine wp_region_lit ?_
    iterate 4 (refine wpList_step fun K hK => ?_; replace hK := hide hK; go_simp; refine unhide hK _ _ ?_; clear hK K)
    refine list_call 5 #[.int .i64 n] (by kernel_rfl) (by kernel_rfl) ((pad_ok n (by omega) _).mono ?_)
    rintro r v3 ⟨g3, rfl, hg3, hP3, hg⟩
    refine ⟨_, rfl, ?_⟩
    simp only [Act.put, List.setIfInBounds_toArray, List.set_cons_zero, List.set_cons_succ, List.getElem_toArray, List.getElem_cons_zero, List.getElem_cons_succ]
    replace hG := hide ((unhide hG).trans hg)
    clear hg hP3 hP
    have hw2 := padL_whole n
    rw [padL_len] at hw2
    have hzn : nz n < 64 := by unfold nz; omega
    generalize nz n = zn at *
    have f1 : IntKind.i64.wrap ((n : Int) + ((zn : Int) + 9)) = (n : Int) + ((zn : Int) + 9) := by rw [IntKind.wrap_i64]; omega
    have f2 : Int.tmod ((n : Int) + ((zn : Int) + 9)) 64 = 0 := by rw [Int.tmod_eq_emod_of_nonneg (by omega)]; omega
    iterate 5 (refine wpList_step fun K hK => ?_; replace hK := hide hK; go_simp; refine unhide hK _ _ ?_; clear hK K)
    refine wpList_nil ?_
    go_wp2_with fail
    rw [unhide hT]
    exact ⟨rfl, unhide hG⟩

  · have e5 : N % 1073741824 = (m : Int) := by have h1 := unhide hM; have h2 := unhide hm; rw [if_neg hneg] at h1; omega
    have e6 : Int.tmod N 1073741824 = (m : Int) := by rw [Int.tmod_eq_emod_of_nonneg (by omega)]; exact e5
    have e7 : ¬ N < -N - 1 := by omega
    go_upto_region 4 with fail
    refine wp_region_lit ?_
    iterate 8 (refine wpList_step fun K hK => ?_; replace hK := hide hK; go_simp; refine unhide hK _ _ ?_; clear hK K)
    refine wpList_nil ?_
    go_upto_region 6 with fail
    refine wp_region_lit ?_
    iterate 27 (refine wpList_step fun K hK => ?_; replace hK := hide hK; go_simp; refine unhide hK _ _ ?_; clear hK K)
    refine wpList_nil ?_
    go_upto_region 8 with fail
    refine wp_region_lit ?_
    iterate 4 (refine wpList_step fun K hK => ?_; replace hK := hide hK; go_simp; refine unhide hK _ _ ?_; clear hK K)
    refine list_call 5 #[.int .i64 n] (by kernel_rfl) (by kernel_rfl) ((pad_ok n (by omega) _).mono ?_)
    rintro r v3 ⟨g3, rfl, hg3, hP3, hg⟩
    refine ⟨_, rfl, ?_⟩
    simp only [Act.put, List.setIfInBounds_toArray, List.set_cons_zero, List.set_cons_succ, List.getElem_toArray, List.getElem_cons_zero, List.getElem_cons_succ]
    replace hG := hide ((unhide hG).trans hg)
    clear hg hP3 hP
    have hw2 := padL_whole n
    rw [padL_len] at hw2
    have hzn : nz n < 64 := by unfold nz; omega
    generalize nz n = zn at *
    have f1 : IntKind.i64.wrap ((n : Int) + ((zn : Int) + 9)) = (n : Int) + ((zn : Int) + 9) := by rw [IntKind.wrap_i64]; omega
    have f2 : Int.tmod ((n : Int) + ((zn : Int) + 9)) 64 = 0 := by rw [Int.tmod_eq_emod_of_nonneg (by omega)]; omega
    iterate 5 (refine wpList_step fun K hK => ?_; replace hK := hide hK; go_simp; refine unhide hK _ _ ?_; clear hK K)
    refine wpList_nil ?_
    go_wp2_with fail
    rw [unhide hT]
    exact ⟨rfl, unhide hG⟩

end Go.Proofs.YtnjgcenanpkelabDoor
