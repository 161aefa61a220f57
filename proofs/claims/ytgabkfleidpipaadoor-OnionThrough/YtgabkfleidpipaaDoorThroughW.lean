/-
  Of layer 15: what the proof leans on.
-/
import Derived.Test.YtgabkfleidpipaaDoorXK9
namespace Go.Proofs.YtgabkfleidpipaaDoor
open Go.RowKit
set_option maxRecDepth 100000
set_option linter.unusedSimpArgs false
set_option linter.unusedVariables false
theorem shL_pub (O S : List (List Int)) (j : Nat) (h1 : j < O.length) (h2 : j < S.length) : (shL O (S.map pubL)).getD j [] = agL (S.getD j []) (pubL (O.getD j [])) := by
  rw [shL_get O (S.map pubL) j h1 (by rw [List.length_map]; exact h2), agL_comm]
  congr 1
  rw [List.getD_eq_getElem?_getD, List.getElem?_map, List.getElem?_eq_getElem h2, List.getD_eq_getElem?_getD, List.getElem?_eq_getElem h2]
  rfl
theorem getD_take (S : List (List Int)) (N j : Nat) (h : j < N) : (S.take N).getD j [] = S.getD j [] := by
  rw [List.getD_eq_getElem?_getD, List.getElem?_take, if_pos h, List.getD_eq_getElem?_getD]
set_option maxHeartbeats 4000000 in
theorem through_ok (r1 : Int) (a1 : Option Addr) (n1 c1 : Nat) (b1 : Option Addr) (m1 d1 : Nat) (p1 : Option Addr) (i1 e1 : Nat) (q1 : Option Addr) (k1 l1 : Nat) (S1 O1 : List (List Int)) (hr1 : 0 ≤ r1) (P1 Q1 : List Int) (w : World) (hF : Fst w) (lk1 : Kw w a1 n1 c1 S1) (lo1 : Kw w b1 m1 d1 O1) (lp1 : Lb w p1 i1 e1 P1) (lq1 : Lb w q1 k1 l1 Q1) : Calls Tryd.prog 3 #[.agg (roadv r1 a1 n1 c1 b1 m1 d1 p1 i1 e1 q1 k1 l1)] w (Woke w) := by
  obtain ⟨T, hT⟩ : ∃ T, T = Woke w := ⟨_, rfl⟩
  rw [← hT]
  replace hT := hide hT
  obtain ⟨N1, hN1⟩ : ∃ N, N = min (min n1 m1) 3 := ⟨_, rfl⟩
  have hN3 : N1 ≤ 3 := by omega
  have hNn : N1 ≤ n1 := by omega
  have hPl := lp1.len
  have hPb := lp1.isB
  have hQl := lq1.len
  have hQb := lq1.isB
  have hx1 := lp1.cap
  have hx2 := lp1.max
  have hSl : N1 ≤ S1.length := by rw [lk1.len]; exact hNn
  have hOl : (O1.take N1).length = N1 := by rw [List.length_take, lo1.len]; omega
  have hSl2 : (S1.take N1).length = N1 := by rw [List.length_take]; omega
  have hlow : ∀ i_, i_ < N1 → NLow ((O1.take N1).getD i_ []) (((S1.take N1).map pubL).getD i_ []) := by
    intro i_ hi_
    have h1 := nlow_all (S1.take N1) (O1.take N1) N1 i_ hi_ (by rw [hSl2]; exact Nat.le_refl _)
    rwa [List.take_of_length_le (l := (S1.take N1).map pubL) (by rw [List.length_map, hSl2]; exact Nat.le_refl _)] at h1
  obtain ⟨SS, hSS⟩ : ∃ S, S = shL (O1.take N1) ((S1.take N1).map pubL) := ⟨_, rfl⟩
  have hSSl : SS.length = N1 := by rw [hSS, shL_len _ _ (by rw [List.length_map, hSl2, hOl]), List.length_map, hSl2]
  have hSSj : ∀ j, j < N1 → SS.getD j [] = agL (S1.getD j []) (pubL ((O1.take N1).getD j [])) := by
    intro j hj
    rw [hSS, shL_pub _ _ j (by omega) (by omega), getD_take S1 N1 j hj]
  obtain ⟨OO, hOO⟩ : ∃ S, S = O1.take N1 := ⟨_, rfl⟩
  rw [← hOO] at hOl hSSj
  have hLen : ∀ j, j ≤ N1 → (onL r1 P1 (SS.drop j) (OO.drop j)).length = i1 + 48 * (N1 - j) := by
    intro j hj
    rw [onL_len _ _ _ _ (by rw [List.length_drop, List.length_drop, hSSl, hOl]), List.length_drop, hSSl, hPl]
  have hDrop : ∀ j, j < N1 → onL r1 P1 (SS.drop j) (OO.drop j) = pubL (OO.getD j []) ++ seO r1 (SS.getD j []) tO (onL r1 P1 (SS.drop (j + 1)) (OO.drop (j + 1))) := fun j hj => onL_drop r1 P1 SS OO j (by omega) (by omega)
  have hEnd : onL r1 P1 (SS.drop N1) (OO.drop N1) = P1 := onL_end r1 P1 SS OO N1 (by omega)
  have hIsB : ∀ j, IsB (onL r1 P1 (SS.drop j) (OO.drop j)) := fun j => onL_isB r1 P1 hPb _ _
  have hWd : ∀ j, j < N1 → wrL r1 Q1 (SS.drop j) = seO r1 (SS.getD j []) tB (wrL r1 Q1 (SS.drop (j + 1))) := fun j hj => wrL_drop r1 Q1 SS j (by omega)
  have hWe : wrL r1 Q1 (SS.drop N1) = Q1 := by rw [List.drop_of_length_le (by omega)]; rfl
  have hWl : ∀ j, j ≤ N1 → (wrL r1 Q1 (SS.drop j)).length = k1 + 16 * (N1 - j) := by
    intro j hj
    rw [wrL_len, List.length_drop, hSSl, hQl]
  have hWb : ∀ j, IsB (wrL r1 Q1 (SS.drop j)) := fun j => wrL_isB r1 Q1 hQb _
  obtain ⟨LL, hLL⟩ : ∃ L, L = i1 + 48 * N1 := ⟨_, rfl⟩
  obtain ⟨MM, hMM⟩ : ∃ L, L = k1 + 16 * N1 := ⟨_, rfl⟩
  obtain ⟨SR, hSR⟩ : ∃ S, S = roadv r1 a1 n1 c1 b1 m1 d1 p1 i1 e1 q1 k1 l1 := ⟨_, rfl⟩
  rw [← hSR]
  replace hSR := hide hSR
  replace hN1 := hide hN1
  replace lk1 := hide lk1
  replace lo1 := hide lo1
  replace lp1 := hide lp1
  replace lq1 := hide lq1
  replace hF := hide hF
  replace hSl := hide hSl
  replace hSl2 := hide hSl2
  replace hPl := hide hPl
  replace hPb := hide hPb
  replace hQl := hide hQl
  replace hQb := hide hQb
  replace hx1 := hide hx1
  replace hx2 := hide hx2
  replace hlow := hide hlow
  replace hSS := hide hSS
  replace hSSl := hide hSSl
  replace hSSj := hide hSSj
  replace hOO := hide hOO
  replace hOl := hide hOl
  replace hLen := hide hLen
  replace hDrop := hide hDrop
  replace hEnd := hide hEnd
  replace hIsB := hide hIsB
  replace hWd := hide hWd
  replace hWe := hide hWe
  replace hWl := hide hWl
  replace hWb := hide hWb
  replace hLL := hide hLL
  replace hMM := hide hMM
  go_enter Tryd.func3, Tryd.ntmps3
  go_upto_region 1 with fail
  have hB := (Bl.nil w).new SR 26
  simp only [List.nil_append] at hB
  generalize World.alloc _ _ = u at *
  rw [unhide hSR] at hB
  replace hB : Bl w [⟨w.heap.size, roadv r1 a1 n1 c1 b1 m1 d1 p1 i1 e1 q1 k1 l1, 26⟩] u := hB
  refine wp_region_lit ?_
  refine list_call 6 #[] (by kernel_rfl) (by kernel_rfl) ((wakes15_ok u ((unhide hF).gr hB.gr)).mono ?_)
  rintro r_ u1 ⟨rfl, hg⟩
  replace hB := hB.more hg
  clear hg
  refine ⟨_, rfl, ?_⟩
  simp only [nrm]
  refine list_val (.bool false) (by kernel_rfl) (by kernel_rfl) ?_
  simp only [nrm]
  refine wpList_nil ?_
  replace hB := hide hB
  go_upto_region 3 with fail
  replace hB := unhide hB
  by_cases hbig : 1000 < i1
  · skip
    have hbI : (1000 : Int) < (i1 : Int) := by omega
    have hZ : Hid (T (.returned (.bool true)) u1) := by
      rw [unhide hT]
      exact ⟨rfl, hB.gr⟩
    refine wp_region_lit ?_
    refine list_val (.pointer (some ⟨w.heap.size, 3, none⟩)) (by kernel_rfl) (by kernel_rfl) ?_
    simp only [nrm]
    refine list_val (.slice p1 i1 e1) (by kernel_rfl) (exec_bs _ (.tmp 18) rfl (w.heap.size) 3 (by kernel_rfl) p1 i1 e1 (cell_of (hB.get 0 (x := ⟨w.heap.size, roadv r1 a1 n1 c1 b1 m1 d1 p1 i1 e1 q1 k1 l1, 26⟩) rfl) (i := 3) rfl)) ?_
    simp only [nrm]
    refine list_val (.int .i64 (i1 : Int)) (by kernel_rfl) (by kernel_rfl) ?_
    simp only [nrm]
    refine list_val (.bool true) (by kernel_rfl) (by go_simp) ?_
    simp only [nrm]
    refine list_val (.bool true) (by kernel_rfl) (by kernel_rfl) ?_
    simp only [nrm]
    refine wpList_step fun K hK => ?_
    rw [if_neg (ne_true_of_eq_false (by kernel_rfl))]
    refine hK _ _ ?_
    clear hK K
    simp only [nrm]
    refine wpList_step fun K hK => ?_
    rw [if_neg (ne_true_of_eq_false (by kernel_rfl))]
    refine hK _ _ ?_
    clear hK K
    simp only [nrm]
    refine wpList_step fun K hK => ?_
    rw [if_neg (ne_true_of_eq_false (by kernel_rfl))]
    refine hK _ _ ?_
    clear hK K
    simp only [nrm]
    refine wpList_step fun K hK => ?_
    rw [if_neg (ne_true_of_eq_false (by kernel_rfl))]
    refine hK _ _ ?_
    clear hK K
    simp only [nrm]
    refine list_val (.bool true) (by kernel_rfl) (by kernel_rfl) ?_
    simp only [nrm]
    refine wpList_nil ?_
    go_wp2_with fail
    exact unhide hZ
  · skip
    have hbI : ¬ (1000 : Int) < (i1 : Int) := by omega
    by_cases hbig2 : 1000 < k1
    · skip
      have hbJ : (1000 : Int) < (k1 : Int) := by omega
      have hZ : Hid (T (.returned (.bool true)) u1) := by
        rw [unhide hT]
        exact ⟨rfl, hB.gr⟩
      refine wp_region_lit ?_
      refine list_val (.pointer (some ⟨w.heap.size, 3, none⟩)) (by kernel_rfl) (by kernel_rfl) ?_
      simp only [nrm]
      refine list_val (.slice p1 i1 e1) (by kernel_rfl) (exec_bs _ (.tmp 18) rfl (w.heap.size) 3 (by kernel_rfl) p1 i1 e1 (cell_of (hB.get 0 (x := ⟨w.heap.size, roadv r1 a1 n1 c1 b1 m1 d1 p1 i1 e1 q1 k1 l1, 26⟩) rfl) (i := 3) rfl)) ?_
      simp only [nrm]
      refine list_val (.int .i64 (i1 : Int)) (by kernel_rfl) (by kernel_rfl) ?_
      simp only [nrm]
      refine list_val (.bool false) (by kernel_rfl) (by go_simp) ?_
      simp only [nrm]
      refine list_val (.bool false) (by kernel_rfl) (by kernel_rfl) ?_
      simp only [nrm]
      refine list_val (.pointer (some ⟨w.heap.size, 4, none⟩)) (by kernel_rfl) (by kernel_rfl) ?_
      simp only [nrm]
      refine list_val (.slice q1 k1 l1) (by kernel_rfl) (exec_bs _ (.tmp 23) rfl (w.heap.size) 4 (by kernel_rfl) q1 k1 l1 (cell_of (hB.get 0 (x := ⟨w.heap.size, roadv r1 a1 n1 c1 b1 m1 d1 p1 i1 e1 q1 k1 l1, 26⟩) rfl) (i := 4) rfl)) ?_
      simp only [nrm]
      refine list_val (.int .i64 (k1 : Int)) (by kernel_rfl) (by kernel_rfl) ?_
      simp only [nrm]
      refine list_val (.bool true) (by kernel_rfl) (by go_simp) ?_
      simp only [nrm]
      refine list_val (.bool true) (by kernel_rfl) (by kernel_rfl) ?_
      simp only [nrm]
      refine wpList_nil ?_
      go_wp2_with fail
      exact unhide hZ
    · skip
      have hbJ : ¬ (1000 : Int) < (k1 : Int) := by omega
      refine wp_region_lit ?_
      refine list_val (.pointer (some ⟨w.heap.size, 3, none⟩)) (by kernel_rfl) (by kernel_rfl) ?_
      simp only [nrm]
      refine list_val (.slice p1 i1 e1) (by kernel_rfl) (exec_bs _ (.tmp 18) rfl (w.heap.size) 3 (by kernel_rfl) p1 i1 e1 (cell_of (hB.get 0 (x := ⟨w.heap.size, roadv r1 a1 n1 c1 b1 m1 d1 p1 i1 e1 q1 k1 l1, 26⟩) rfl) (i := 3) rfl)) ?_
      simp only [nrm]
      refine list_val (.int .i64 (i1 : Int)) (by kernel_rfl) (by kernel_rfl) ?_
      simp only [nrm]
      refine list_val (.bool false) (by kernel_rfl) (by go_simp) ?_
      simp only [nrm]
      refine list_val (.bool false) (by kernel_rfl) (by kernel_rfl) ?_
      simp only [nrm]
      refine list_val (.pointer (some ⟨w.heap.size, 4, none⟩)) (by kernel_rfl) (by kernel_rfl) ?_
      simp only [nrm]
      refine list_val (.slice q1 k1 l1) (by kernel_rfl) (exec_bs _ (.tmp 23) rfl (w.heap.size) 4 (by kernel_rfl) q1 k1 l1 (cell_of (hB.get 0 (x := ⟨w.heap.size, roadv r1 a1 n1 c1 b1 m1 d1 p1 i1 e1 q1 k1 l1, 26⟩) rfl) (i := 4) rfl)) ?_
      simp only [nrm]
      refine list_val (.int .i64 (k1 : Int)) (by kernel_rfl) (by kernel_rfl) ?_
      simp only [nrm]
      refine list_val (.bool false) (by kernel_rfl) (by go_simp) ?_
      simp only [nrm]
      refine list_val (.bool false) (by kernel_rfl) (by kernel_rfl) ?_
      simp only [nrm]
      refine wpList_nil ?_
      clear hbI hbJ
      replace hB := hide hB
      go_upto_region 5 with fail
      replace hB := unhide hB
      refine wp_region_lit ?_
      refine list_val (.agg (roadv r1 a1 n1 c1 b1 m1 d1 p1 i1 e1 q1 k1 l1)) (by kernel_rfl) (exec_arr _ 26 (.tmp 1) rfl (w.heap.size) (by kernel_rfl) (roadv r1 a1 n1 c1 b1 m1 d1 p1 i1 e1 q1 k1 l1) 26 _ (hB.get 0 (x := ⟨w.heap.size, roadv r1 a1 n1 c1 b1 m1 d1 p1 i1 e1 q1 k1 l1, 26⟩) rfl) Tryd.underlying26 rfl (by rw [Tryd.infoRoad]; rfl)) ?_
      simp only [nrm]
      refine list_call 7 #[.agg (roadv r1 a1 n1 c1 b1 m1 d1 p1 i1 e1 q1 k1 l1)] (by kernel_rfl) (by kernel_rfl) ((rhops_ok r1 a1 n1 c1 b1 m1 d1 p1 i1 e1 q1 k1 l1 S1 O1 N1 (unhide hN1) u1 ((unhide lk1).gr hB.gr) ((unhide lo1).gr hB.gr)).mono ?_)
      rintro r_ u2 ⟨ka1, kc1, oa1, oc1, rfl, hk1, ho1, hg⟩
      replace hB := hB.more hg
      clear hg
      replace hk1 := hide hk1
      replace ho1 := hide ho1
      refine ⟨_, rfl, ?_⟩
      simp only [nrm]
      refine list_val (.tuple #[.slice ka1 N1 kc1, .slice oa1 N1 oc1]) (by kernel_rfl) (by kernel_rfl) ?_
      simp only [nrm]
      refine list_val (.slice ka1 N1 kc1) (by kernel_rfl) (by kernel_rfl) ?_
      simp only [nrm]
      refine list_val (.slice oa1 N1 oc1) (by kernel_rfl) (by kernel_rfl) ?_
      simp only [nrm]
      (refine wpList_step fun K hK => ?_; replace hK := hide hK; go_simp; refine unhide hK _ _ ?_; clear hK K)
      (refine wpList_step fun K hK => ?_; replace hK := hide hK; go_simp; refine unhide hK _ _ ?_; clear hK K)
      refine wpList_nil ?_
      replace hB := hide hB
      go_upto_region 6 with fail
      replace hB := unhide hB
      refine wp_region_lit ?_
      refine list_val (.pointer (some ⟨w.heap.size, 0, none⟩)) (by kernel_rfl) (by kernel_rfl) ?_
      simp only [nrm]
      refine list_val (.int .u64 r1) (by kernel_rfl) (exec_u64 _ (.tmp 34) rfl (w.heap.size) 0 (by kernel_rfl) r1 (cell_of (hB.get 0 (x := ⟨w.heap.size, roadv r1 a1 n1 c1 b1 m1 d1 p1 i1 e1 q1 k1 l1, 26⟩) rfl) (i := 0) rfl)) ?_
      simp only [nrm]
      refine list_val (.slice ka1 N1 kc1) (by kernel_rfl) (by kernel_rfl) ?_
      simp only [nrm]
      refine list_val (.slice oa1 N1 oc1) (by kernel_rfl) (by kernel_rfl) ?_
      simp only [nrm]
      refine list_val (.pointer (some ⟨w.heap.size, 3, none⟩)) (by kernel_rfl) (by kernel_rfl) ?_
      simp only [nrm]
      refine list_val (.slice p1 i1 e1) (by kernel_rfl) (exec_bs _ (.tmp 38) rfl (w.heap.size) 3 (by kernel_rfl) p1 i1 e1 (cell_of (hB.get 0 (x := ⟨w.heap.size, roadv r1 a1 n1 c1 b1 m1 d1 p1 i1 e1 q1 k1 l1, 26⟩) rfl) (i := 3) rfl)) ?_
      simp only [nrm]
      refine list_call 8 #[.int .u64 r1, .slice ka1 N1 kc1, .slice oa1 N1 oc1, .slice p1 i1 e1] (by kernel_rfl) (by kernel_rfl) ((nbuild_ok r1 hr1 ((S1.take N1).map pubL) (O1.take N1) P1 ka1 oa1 p1 N1 kc1 oc1 i1 e1 hN3 (by omega) u2 ((unhide hF).gr hB.gr) (unhide hk1) (unhide ho1) ((unhide lp1).gr hB.gr) (unhide hlow)).mono ?_)
      rintro r_ u3 ⟨v5, sa, sc, rfl, hO5, hS5, hg⟩
      rw [← unhide hSS] at hO5 hS5
      rw [← unhide hOO] at hO5
      have hI5 := unhide hIsB 0
      have hL5 := unhide hLen 0 (Nat.zero_le _)
      rw [List.drop_zero, List.drop_zero] at hI5 hL5
      obtain ⟨a5, c5, rfl, l5⟩ := hO5.lb hI5
      rw [hL5, Nat.sub_zero, ← unhide hLL] at l5 ⊢
      replace hB := hB.more hg
      clear hg hO5 hI5 hL5 hk1 ho1
      replace hS5 := hide hS5
      have hI0 : Hid ((∃ a c, (.slice a5 LL c5 : Value) = .slice a (onL r1 P1 (SS.drop 0) (OO.drop 0)).length c ∧ Lb u3 a (onL r1 P1 (SS.drop 0) (OO.drop 0)).length c (onL r1 P1 (SS.drop 0) (OO.drop 0))) ∧ Gr u3 u3) := by
        have hL5 := unhide hLen 0 (Nat.zero_le _)
        rw [Nat.sub_zero, ← unhide hLL] at hL5
        refine ⟨⟨a5, c5, by rw [hL5], ?_⟩, Gr.refl _⟩
        rw [hL5]
        exact l5
      clear l5
      refine ⟨_, rfl, ?_⟩
      simp only [nrm]
      refine list_val (.tuple #[.slice a5 LL c5, .slice sa N1 sc, .int .i64 0]) (by kernel_rfl) (by kernel_rfl) ?_
      simp only [nrm]
      refine list_val (.slice a5 LL c5) (by kernel_rfl) (by kernel_rfl) ?_
      simp only [nrm]
      refine list_val (.slice sa N1 sc) (by kernel_rfl) (by kernel_rfl) ?_
      simp only [nrm]
      refine list_val (.int .i64 0) (by kernel_rfl) (by kernel_rfl) ?_
      simp only [nrm]
      (refine wpList_step fun K hK => ?_; replace hK := hide hK; go_simp; refine unhide hK _ _ ?_; clear hK K)
      (refine wpList_step fun K hK => ?_; replace hK := hide hK; go_simp; refine unhide hK _ _ ?_; clear hK K)
      (refine wpList_step fun K hK => ?_; replace hK := hide hK; go_simp; refine unhide hK _ _ ?_; clear hK K)
      refine wpList_nil ?_
      have h48 : IntKind.i64.wrap (48 * (N1 : Int)) = 48 * (N1 : Int) := by rw [IntKind.wrap_i64]; omega
      have hadd : IntKind.i64.wrap ((i1 : Int) + 48 * (N1 : Int)) = (LL : Int) := by have := unhide hLL; rw [IntKind.wrap_i64]; omega
      replace hB := hide hB
      go_upto_region 7 with fail
      replace hB := unhide hB
      refine wp_region_lit ?_
      refine list_val (.int .i64 0) (by kernel_rfl) (by kernel_rfl) ?_
      simp only [nrm]
      refine list_val (.bool false) (by kernel_rfl) (by kernel_rfl) ?_
      simp only [nrm]
      refine list_val (.bool false) (by kernel_rfl) (by kernel_rfl) ?_
      simp only [nrm]
      refine list_val (.slice a5 LL c5) (by kernel_rfl) (by kernel_rfl) ?_
      simp only [nrm]
      refine list_val (.int .i64 (LL : Int)) (by kernel_rfl) (by kernel_rfl) ?_
      simp only [nrm]
      refine list_val (.pointer (some ⟨w.heap.size, 3, none⟩)) (by kernel_rfl) (by kernel_rfl) ?_
      simp only [nrm]
      refine list_val (.slice p1 i1 e1) (by kernel_rfl) (exec_bs _ (.tmp 49) rfl (w.heap.size) 3 (by kernel_rfl) p1 i1 e1 (cell_of (hB.get 0 (x := ⟨w.heap.size, roadv r1 a1 n1 c1 b1 m1 d1 p1 i1 e1 q1 k1 l1, 26⟩) rfl) (i := 3) rfl)) ?_
      simp only [nrm]
      refine list_val (.int .i64 (i1 : Int)) (by kernel_rfl) (by kernel_rfl) ?_
      simp only [nrm]
      refine list_val (.slice ka1 N1 kc1) (by kernel_rfl) (by kernel_rfl) ?_
      simp only [nrm]
      refine list_val (.int .i64 (N1 : Int)) (by kernel_rfl) (by kernel_rfl) ?_
      simp only [nrm]
      refine list_val (.int .i64 (48 * (N1 : Int))) (by kernel_rfl) (by go_simp) ?_
      simp only [nrm]
      refine list_val (.int .i64 (LL : Int)) (by kernel_rfl) (by go_simp) ?_
      simp only [nrm]
      refine list_val (.bool false) (by kernel_rfl) (by go_simp) ?_
      simp only [nrm]
      refine list_val (.bool false) (by kernel_rfl) (by kernel_rfl) ?_
      simp only [nrm]
      refine list_val (.bool false) (by kernel_rfl) (by kernel_rfl) ?_
      simp only [nrm]
      refine list_val (.slice sa N1 sc) (by kernel_rfl) (by kernel_rfl) ?_
      simp only [nrm]
      refine list_val (.int .i64 (N1 : Int)) (by kernel_rfl) (by kernel_rfl) ?_
      simp only [nrm]
      refine list_val (.slice ka1 N1 kc1) (by kernel_rfl) (by kernel_rfl) ?_
      simp only [nrm]
      refine list_val (.int .i64 (N1 : Int)) (by kernel_rfl) (by kernel_rfl) ?_
      simp only [nrm]
      refine list_val (.bool false) (by kernel_rfl) (by go_simp) ?_
      simp only [nrm]
      refine list_val (.bool false) (by kernel_rfl) (by kernel_rfl) ?_
      simp only [nrm]
      refine wpList_nil ?_
      clear h48 hadd
      replace hB := hide hB
      go_upto_region 9 with fail
      replace hB := unhide hB
      refine wp_region_lit ?_
      refine list_val (.slice ka1 N1 kc1) (by kernel_rfl) (by kernel_rfl) ?_
      simp only [nrm]
      refine list_val (.int .i64 (N1 : Int)) (by kernel_rfl) (by kernel_rfl) ?_
      simp only [nrm]
      refine list_val (.int .i64 0) (by kernel_rfl) (by kernel_rfl) ?_
      simp only [nrm]
      refine wpList_nil ?_
      replace hB := hide hB
      go_wp2_with fail
      go_loopw [5, 67] (fun v i wr => ∃ (j : Nat) (v' : Value), j ≤ N1 ∧ v' = v ∧ i = .int .i64 (j : Int) ∧ Hid ((∃ a c, v' = .slice a (onL r1 P1 (SS.drop j) (OO.drop j)).length c ∧ Lb wr a (onL r1 P1 (SS.drop j) (OO.drop j)).length c (onL r1 P1 (SS.drop j) (OO.drop j))) ∧ Gr u3 wr)) (fun _ i _ => N1 - (intOf i).toNat)
      case atStart => exact ⟨0, _, by omega, rfl, rfl, hI0⟩
      case round =>
      clear hI0
      obtain ⟨j, v', hj, rfl, rfl, hA⟩ := hrel
      obtain ⟨⟨av, cv, rfl, lv⟩, hG⟩ := unhide hA
      clear hA
      by_cases hlt : j < N1
      · skip
        have jI : (j : Int) < (N1 : Int) := by omega
        have hjn : j < n1 := by omega
        obtain ⟨hkl, hkb⟩ := (unhide lk1).key j hjn
        obtain ⟨p0, q0, ea, hrg⟩ := (unhide lk1).row j hjn
        obtain ⟨ps, qs, es, hrs⟩ := ((unhide hS5).gr hG).row j hlt
        have hsj := unhide hSSj j hlt
        have hdr := unhide hDrop j hlt
        have hln := unhide hLen j hj
        rw [hsj] at hrs hdr
        obtain ⟨SJ, hSJ⟩ : ∃ K, K = S1.getD j [] := ⟨_, rfl⟩
        obtain ⟨OJ, hOJ⟩ : ∃ K, K = OO.getD j [] := ⟨_, rfl⟩
        obtain ⟨PP, hPP⟩ : ∃ K, K = onL r1 P1 (SS.drop (j + 1)) (OO.drop (j + 1)) := ⟨_, rfl⟩
        have hPPb : IsB PP := by rw [hPP]; exact unhide hIsB _
        have hPPl : PP.length = i1 + 48 * (N1 - (j + 1)) := by rw [hPP]; exact unhide hLen _ hlt
        rw [← hSJ] at hkl hkb hrg hrs hdr
        rw [← hOJ] at hrs hdr
        rw [← hPP] at hdr
        rw [hln] at lv ⊢
        rw [hdr] at lv
        obtain ⟨n5, hn5⟩ : ∃ n, n = i1 + 48 * (N1 - j) := ⟨_, rfl⟩
        rw [← hn5] at lv ⊢
        obtain ⟨A, hA⟩ : ∃ A, A = agL SJ (pubL OJ) := ⟨_, rfl⟩
        have hAl : A.length = 32 := by rw [hA]; exact (agL_isK _ _).1
        rw [← hA] at hrs
        have hn5b : n5 ≤ 20000 := by omega
        clear hsj hdr hln hSJ hOJ hn5
        replace hB := (unhide hB).more hG
        replace hkb := hide hkb; replace hrg := hide hrg; replace hrs := hide hrs; replace ea := hide ea; replace es := hide es; replace lv := hide lv; replace hPP := hide hPP; replace hPPb := hide hPPb; replace hA := hide hA; replace hPPl := hide hPPl; replace hG := hide hG; replace hB := hide hB
        go_upto_region 12 with fail
        replace hB := unhide hB
        refine any_start (S := fun (v : World) => Bl w [⟨w.heap.size, roadv r1 a1 n1 c1 b1 m1 d1 p1 i1 e1 q1 k1 l1, 26⟩] v) (by kernel_rfl) ?_
        have hdw := hide ((Gr.refl wr).drew)
        replace hB := hB.drew
        generalize World.drew _ = x0 at *
        have hBw : Hid (Bl w [⟨w.heap.size, roadv r1 a1 n1 c1 b1 m1 d1 p1 i1 e1 q1 k1 l1, 26⟩] x0) := hB
        clear hB
        have hGx := Gr.refl x0
        simp only [List.size_toArray, List.length_cons, List.length_nil, Array.replicate, List.replicate]
        refine any_take (i := 0) (v := (.pointer (some ⟨w.heap.size, 0, none⟩))) #[false, false, false, false, false, false, false, false, false, false, false, false, false, false, false, false, false] rfl (by kernel_rfl) (by kernel_rfl) (by kernel_rfl) (by kernel_rfl) (fun _ _ _ h => h) (.inl ⟨by kernel_rfl, fun x_ hu => by kernel_rfl⟩) ((unhide hBw).more hGx) ?_
        simp only [nrm]
        refine any_take (i := 1) (v := (.int .u64 r1)) #[true, false, false, false, false, false, false, false, false, false, false, false, false, false, false, false, false] rfl (by kernel_rfl) (by kernel_rfl) (by kernel_rfl) (by kernel_rfl) (fun _ _ _ h => h) (.inl ⟨by kernel_rfl, fun x_ hu => exec_u64 _ (.tmp 71) rfl (w.heap.size) 0 (by kernel_rfl) r1 (cell_of (hu.get 0 (x := ⟨w.heap.size, roadv r1 a1 n1 c1 b1 m1 d1 p1 i1 e1 q1 k1 l1, 26⟩) rfl) (i := 0) rfl)⟩) ((unhide hBw).more hGx) ?_
        simp only [nrm]
        refine any_take (i := 2) (v := (.pointer (some ⟨w.heap.size, 1, none⟩))) #[true, true, false, false, false, false, false, false, false, false, false, false, false, false, false, false, false] rfl (by kernel_rfl) (by kernel_rfl) (by kernel_rfl) (by kernel_rfl) (fun _ _ _ h => h) (.inl ⟨by kernel_rfl, fun x_ hu => by kernel_rfl⟩) ((unhide hBw).more hGx) ?_
        simp only [nrm]
        refine any_take (i := 3) (v := (.slice a1 n1 c1)) #[true, true, true, false, false, false, false, false, false, false, false, false, false, false, false, false, false] rfl (by kernel_rfl) (by kernel_rfl) (by kernel_rfl) (by kernel_rfl) (fun _ _ _ h => h) (.inl ⟨by kernel_rfl, fun x_ hu => exec_ks _ (.tmp 73) rfl (w.heap.size) 1 (by kernel_rfl) a1 n1 c1 (cell_of (hu.get 0 (x := ⟨w.heap.size, roadv r1 a1 n1 c1 b1 m1 d1 p1 i1 e1 q1 k1 l1, 26⟩) rfl) (i := 1) rfl)⟩) ((unhide hBw).more hGx) ?_
        simp only [nrm]
        refine any_take (i := 4) (v := (.int .i64 (j : Int))) #[true, true, true, true, false, false, false, false, false, false, false, false, false, false, false, false, false] rfl (by kernel_rfl) (by kernel_rfl) (by kernel_rfl) (by kernel_rfl) (fun _ _ _ h => h) (.inl ⟨by kernel_rfl, fun x_ hu => by kernel_rfl⟩) ((unhide hBw).more hGx) ?_
        simp only [nrm]
        refine any_take (i := 5) (v := (.pointer (some ⟨p0, q0 + 32 * j, none⟩))) #[true, true, true, true, true, false, false, false, false, false, false, false, false, false, false, false, false] rfl (by kernel_rfl) (by kernel_rfl) (by kernel_rfl) (by kernel_rfl) (fun _ _ _ h => h) (.inl ⟨by kernel_rfl, fun x_ hu => exec_iks _ (.tmp 74) (.tmp 75) rfl p0 q0 n1 c1 j (by rw [← unhide ea]; kernel_rfl) (by kernel_rfl) hjn⟩) ((unhide hBw).more hGx) ?_
        simp only [nrm]
        refine any_take (i := 6) (v := (.agg (kc SJ))) #[true, true, true, true, true, true, false, false, false, false, false, false, false, false, false, false, false] rfl (by kernel_rfl) (by kernel_rfl) (by kernel_rfl) (by kernel_rfl) (fun _ _ _ h => h) (.inl ⟨by kernel_rfl, fun x_ hu => exec_kr _ (.tmp 76) rfl p0 (q0 + 32 * j) (by kernel_rfl) SJ hkl (rg_gr (unhide hrg) hu.gr)⟩) ((unhide hBw).more hGx) ?_
        simp only [nrm]
        refine any_take (i := 7) (v := (.slice av n5 cv)) #[true, true, true, true, true, true, true, false, false, false, false, false, false, false, false, false, false] rfl (by kernel_rfl) (by kernel_rfl) (by kernel_rfl) (by kernel_rfl) (fun _ _ _ h => h) (.inl ⟨by kernel_rfl, fun x_ hu => by kernel_rfl⟩) ((unhide hBw).more hGx) ?_
        simp only [nrm]
        refine float_first (fun q u => NKe x0.heap.size u q) 10 (fun b_ => #[true, true, true, true, true, true, true, true, false, false, false, false, false, b_, false, false, false]) 13 8 false rfl rfl (fun _ g_ => (unhide hBw).more (hGx.trans g_)) (by kernel_rfl) (fun b_ => by cases b_ <;> rfl) ?_ ?_
        all_goals simp only [fw1, Act.put, List.setIfInBounds_toArray, List.set_cons_zero, List.set_cons_succ, List.getElem_toArray, List.getElem_cons_zero, List.getElem_cons_succ]
        · intro q_ x_ hgx K hQ
          refine wpOp_step (o := _) rfl (fun K' hK' => ?_)
          replace hK' := hide hK'
          replace hQ := hide hQ
          refine step_val (.pointer (some ⟨x_.heap.size, 0, none⟩)) (x_.alloc (.cells (kc ZK) 34 (0, 0))) (by kernel_rfl) (by kernel_rfl) ?_
          exact unhide hK' _ _ (unhide hQ _ _ ((Gr.refl _).alloc _) (⟨_, rfl, Nat.le_trans hGx.size hgx.size, blk_new _ _⟩))
        intro b1_8 q1_8 x1_8 hg hTq hall
        replace hGx := hGx.trans hg
        first | replace hb3 := hide (hg.blk (unhide hb3)) | skip
        clear hall
        refine wpOp_step (o := _) rfl (fun K_ hQ => ?_)
        replace hQ := hide hQ
        refine step_callw (by kernel_rfl) 9 #[.int .u64 r1, .agg (kc SJ), .slice av n5 cv] (by kernel_rfl) ((npeel_yes r1 hr1 SJ ⟨hkl, unhide hkb⟩ (pubL OJ) (pubL_isK _) (nlow_pub _ _) PP (unhide hPPb) av n5 cv hn5b _ ((unhide hF).gr ((unhide hBw).more hGx).gr) ((unhide lv).gr ((unhide hdw).trans hGx))).mono ?_)
        rintro r x1 ⟨g3, rfl, hg3, hb3, hg⟩
        refine ⟨_, rfl, ?_⟩
        replace hTq := fun e => NKe.gr (hTq e) hg
        have hz3 := Nat.le_trans hGx.size hg3
        replace hGx := hGx.trans hg
        rw [← unhide hA]
        replace hb3 := hide hb3
        clear hg hg3
        refine unhide hQ _ _ ⟨((unhide hBw).more hGx), ?_⟩
        clear hQ K_
        simp only [nrm]
        refine any_take (i := 9) (v := (.tuple #[.slice (some ⟨g3, 0, none⟩) PP.length PP.length, .agg (kc A), .int .i64 0])) #[true, true, true, true, true, true, true, true, true, false, false, false, false, false, false, false, false] rfl (by kernel_rfl) (by kernel_rfl) (by kernel_rfl) (by kernel_rfl) (fun _ _ _ h => h) (.inl ⟨by kernel_rfl, fun x_ hu => by kernel_rfl⟩) ((unhide hBw).more hGx) ?_
        simp only [nrm]
        refine any_take (i := 10) (v := (.slice (some ⟨g3, 0, none⟩) PP.length PP.length)) #[true, true, true, true, true, true, true, true, true, true, false, false, false, false, false, false, false] rfl (by kernel_rfl) (by kernel_rfl) (by kernel_rfl) (by kernel_rfl) (fun _ _ _ h => h) (.inl ⟨by kernel_rfl, fun x_ hu => by kernel_rfl⟩) ((unhide hBw).more hGx) ?_
        simp only [nrm]
        refine any_take (i := 11) (v := (.agg (kc A))) #[true, true, true, true, true, true, true, true, true, true, true, false, false, false, false, false, false] rfl (by kernel_rfl) (by kernel_rfl) (by kernel_rfl) (by kernel_rfl) (fun _ _ _ h => h) (.inl ⟨by kernel_rfl, fun x_ hu => by kernel_rfl⟩) ((unhide hBw).more hGx) ?_
        simp only [nrm]
        refine any_take (i := 12) (v := (.int .i64 0)) #[true, true, true, true, true, true, true, true, true, true, true, true, false, false, false, false, false] rfl (by kernel_rfl) (by kernel_rfl) (by kernel_rfl) (by kernel_rfl) (fun _ _ _ h => h) (.inl ⟨by kernel_rfl, fun x_ hu => by kernel_rfl⟩) ((unhide hBw).more hGx) ?_
        simp only [nrm]
        refine float_again (fun q u => NKe x0.heap.size u q) 10 (fun b_ => #[true, true, true, true, true, true, true, true, true, true, true, true, true, b_, false, false, false]) 13 14 true (b := b1_8) (q := q1_8) rfl rfl hTq (fun _ g_ => (unhide hBw).more (hGx.trans g_)) (by kernel_rfl) (fun b_ => by cases b_ <;> rfl) ?_ ?_
        all_goals simp only [fw1, Act.put, List.setIfInBounds_toArray, List.set_cons_zero, List.set_cons_succ, List.getElem_toArray, List.getElem_cons_zero, List.getElem_cons_succ]
        · intro q_ x_ hgx K hQ
          refine wpOp_step (o := _) rfl (fun K' hK' => ?_)
          replace hK' := hide hK'
          replace hQ := hide hQ
          refine step_val (.pointer (some ⟨x_.heap.size, 0, none⟩)) (x_.alloc (.cells (kc ZK) 34 (0, 0))) (by kernel_rfl) (by kernel_rfl) ?_
          exact unhide hK' _ _ (unhide hQ _ _ ((Gr.refl _).alloc _) (⟨_, rfl, Nat.le_trans hGx.size hgx.size, blk_new _ _⟩))
        clear hTq
        intro b1_14 q1_14 x1_14 hg hTq hall
        replace hGx := hGx.trans hg
        first | replace hb3 := hide (hg.blk (unhide hb3)) | skip
        obtain rfl : b1_14 = true := hall (by trivial)
        replace hTq := hTq rfl
        clear hall
        obtain ⟨gx, rfl, hgx1, hgb⟩ := hTq
        refine wpOp_step (o := _) rfl (fun K_ hQ => ?_)
        replace hQ := hide hQ
        go_simp
        refine unhide hQ _ _ ⟨((unhide hBw).more hGx), ?_⟩
        clear hQ K_
        refine any_one (i := 15) (by kernel_rfl) rfl (fun K_ hQ => ?_)
        refine step_storew 34 (.tmp 10) (.tmp 81) gx (kc A) 34 (kc ZK) (by kernel_rfl) rfl (by kernel_rfl) (by kernel_rfl) hgb (by rw [Tryd.infoKey, kc_size, hAl]) (by rw [kc_size, kc_size, hAl]; rfl) (kc_one _) ?_
        have hD := ((Bl.nil x0).more hGx).add ⟨gx, kc ZK, 34⟩ hgb hgx1 (fun y hy => by cases hy)
        rw [List.nil_append] at hD
        replace hD := hD.add ⟨g3, kc PP, 5⟩ (unhide hb3) hz3 (fun y hy => by
          rw [List.mem_singleton.1 hy]
          exact blk_ne hgb (unhide hb3) (show (34 : TypeId) ≠ 5 by decide))
        replace hD := hD.set 0 (x := ⟨gx, kc ZK, 34⟩) rfl (kc A)
        simp only [List.cons_append, List.nil_append, List.set_cons_zero, List.set_cons_succ] at hD
        clear hgb hb3 hGx
        generalize World.setRow _ _ _ = y1 at *
        refine hQ.out _ _ ((unhide hBw).more hD.gr) (fun _ => ?_)
        clear hQ K_
        simp only [nrm]
        refine any_one (i := 16) (by kernel_rfl) rfl (fun K_ hQ => ?_)
        replace hQ := hide hQ
        go_simp
        refine (unhide hQ).out _ _ ((unhide hBw).more hD.gr) (fun _ => ?_)
        clear hQ K_
        refine any_done (by kernel_rfl) ?_
        have hqx := hide (hD.get 0 (x := ⟨gx, kc A, 34⟩) rfl)
        have hq3 := hide (hD.get 1 (x := ⟨g3, kc PP, 5⟩) rfl)
        replace hrs := hide (rg_gr (unhide hrs) ((unhide hdw).trans hD.gr))
        replace hG := hide ((unhide hG).trans ((unhide hdw).trans hD.gr))
        clear hD hBw lv hrg hdw hz3 hgx1
        dsimp only at hqx hq3
        go_upto_region 13 with fail
        refine any_start (S := fun (v : World) => Gr y1 v) (by kernel_rfl) ?_
        have hI : Gr y1 (World.drew y1) := (Gr.refl _).drew
        replace hG := hide ((unhide hG).trans hI)
        replace hq3 := hide (hI.blk (unhide hq3))
        generalize World.drew _ = y2 at *
        simp only [List.size_toArray, List.length_cons, List.length_nil, Array.replicate, List.replicate]
        refine any_take (i := 0) (v := (.int .i64 0)) #[false, false, false, false, false, false, false, false, false, false] rfl (by kernel_rfl) (by kernel_rfl) (by kernel_rfl) (by kernel_rfl) (fun _ _ _ h => h) (.inl ⟨by kernel_rfl, fun x_ hu => by kernel_rfl⟩) hI ?_
        simp only [nrm]
        refine any_take (i := 1) (v := (.bool false)) #[true, false, false, false, false, false, false, false, false, false] rfl (by kernel_rfl) (by kernel_rfl) (by kernel_rfl) (by kernel_rfl) (fun _ _ _ h => h) (.inl ⟨by kernel_rfl, fun x_ hu => by kernel_rfl⟩) hI ?_
        simp only [nrm]
        refine any_take (i := 2) (v := (.bool false)) #[true, true, false, false, false, false, false, false, false, false] rfl (by kernel_rfl) (by kernel_rfl) (by kernel_rfl) (by kernel_rfl) (fun _ _ _ h => h) (.inl ⟨by kernel_rfl, fun x_ hu => by kernel_rfl⟩) hI ?_
        simp only [nrm]
        refine any_take (i := 3) (v := (.agg (kc A))) #[true, true, true, false, false, false, false, false, false, false] rfl (by kernel_rfl) (by kernel_rfl) (by kernel_rfl) (by kernel_rfl) (fun _ _ _ h => h) (.inl ⟨by kernel_rfl, fun x_ hu => exec_arr _ 34 (.tmp 10) rfl (gx) (by kernel_rfl) (kc A) 34 _ (hu.blk (unhide hqx)) Tryd.underlying34 rfl (by rw [Tryd.infoKey, kc_size, hAl])⟩) hI ?_
        simp only [nrm]
        refine any_take (i := 4) (v := (.slice sa N1 sc)) #[true, true, true, true, false, false, false, false, false, false] rfl (by kernel_rfl) (by kernel_rfl) (by kernel_rfl) (by kernel_rfl) (fun _ _ _ h => h) (.inl ⟨by kernel_rfl, fun x_ hu => by kernel_rfl⟩) hI ?_
        simp only [nrm]
        refine any_take (i := 5) (v := (.int .i64 (j : Int))) #[true, true, true, true, true, false, false, false, false, false] rfl (by kernel_rfl) (by kernel_rfl) (by kernel_rfl) (by kernel_rfl) (fun _ _ _ h => h) (.inl ⟨by kernel_rfl, fun x_ hu => by kernel_rfl⟩) hI ?_
        simp only [nrm]
        refine any_take (i := 6) (v := (.pointer (some ⟨ps, qs + 32 * j, none⟩))) #[true, true, true, true, true, true, false, false, false, false] rfl (by kernel_rfl) (by kernel_rfl) (by kernel_rfl) (by kernel_rfl) (fun _ _ _ h => h) (.inl ⟨by kernel_rfl, fun x_ hu => exec_iks _ (.tmp 87) (.tmp 88) rfl ps qs N1 sc j (by rw [← unhide es]; kernel_rfl) (by kernel_rfl) hlt⟩) hI ?_
        simp only [nrm]
        refine any_take (i := 7) (v := (.agg (kc A))) #[true, true, true, true, true, true, true, false, false, false] rfl (by kernel_rfl) (by kernel_rfl) (by kernel_rfl) (by kernel_rfl) (fun _ _ _ h => h) (.inl ⟨by kernel_rfl, fun x_ hu => exec_kr _ (.tmp 89) rfl ps (qs + 32 * j) (by kernel_rfl) A hAl (rg_gr (unhide hrs) hu)⟩) hI ?_
        simp only [nrm]
        refine any_take (i := 8) (v := (.bool false)) #[true, true, true, true, true, true, true, true, false, false] rfl (by kernel_rfl) (by kernel_rfl) (by kernel_rfl) (by kernel_rfl) (fun _ _ _ h => h) (.inl ⟨by kernel_rfl, fun x_ hu => exec_neq_k _ (.tmp 86) (.tmp 90) rfl A A hAl hAl (by kernel_rfl) (by kernel_rfl) (by kernel_rfl) false (by simp)⟩) hI ?_
        simp only [nrm]
        refine any_take (i := 9) (v := (.bool false)) #[true, true, true, true, true, true, true, true, true, false] rfl (by kernel_rfl) (by kernel_rfl) (by kernel_rfl) (by kernel_rfl) (fun _ _ _ h => h) (.inl ⟨by kernel_rfl, fun x_ hu => by kernel_rfl⟩) hI ?_
        simp only [nrm]
        refine any_done (by kernel_rfl) ?_
        have hI2 : Hid ((∃ a c, (.slice (some ⟨g3, 0, none⟩) PP.length PP.length : Value) = .slice a (onL r1 P1 (SS.drop (j + 1)) (OO.drop (j + 1))).length c ∧ Lb y2 a (onL r1 P1 (SS.drop (j + 1)) (OO.drop (j + 1))).length c (onL r1 P1 (SS.drop (j + 1)) (OO.drop (j + 1)))) ∧ Gr u3 y2) := by
          refine ⟨⟨some ⟨g3, 0, none⟩, PP.length, by rw [← unhide hPP], ?_⟩, unhide hG⟩
          rw [← unhide hPP]
          exact kc_lb (unhide hq3) rfl (unhide hPPb) (by have := unhide hPPl; omega)
        clear hq3 hqx hrs hG hI hA hPPb hPPl
        have ej : IntKind.i64.wrap ((j : Int) + 1) = ((j + 1 : Nat) : Int) := by rw [IntKind.wrap_i64]; omega
        go_wp2_with fail
        go_roundw
        case rel => exact ⟨j + 1, _, by omega, rfl, by go_num, hI2⟩
        case measure => simp [intOf]; omega
      · skip
        obtain rfl : j = N1 := by omega
        have jI : ¬ (j : Int) < (j : Int) := by omega
        rw [unhide hEnd, unhide hPl] at lv ⊢
        replace hB := (unhide hB).more hG
        replace hS5 := hide ((unhide hS5).gr hG)
        clear hG
        replace lv := hide lv
        replace hB := hide hB
        go_upto_region 17 with fail
        replace hB := unhide hB
        refine wp_region_lit ?_
        refine list_valw (.slice (some ⟨wr.heap.size, 0, none⟩) 0 0) (wr.alloc (.cells #[] 5 (0, 0))) (by kernel_rfl) (by kernel_rfl) ?_
        have hO : Ob wr.heap.size (wr.alloc (.cells #[] 5 (0, 0))) (.slice (some ⟨wr.heap.size, 0, none⟩) 0 0) [] := ob_of (X := []) (blk_new wr (.cells #[] 5 (0, 0))) rfl (Nat.le_refl _) (by omega)
        have hg := (Gr.refl wr).alloc (.cells #[] 5 (0, 0))
        generalize World.alloc _ _ = z1 at *
        obtain ⟨gz, hgz⟩ : ∃ z, z = wr.heap.size := ⟨_, rfl⟩
        rw [← hgz] at hO ⊢
        simp only [nrm]
        refine list_val (.pointer (some ⟨w.heap.size, 4, none⟩)) (by kernel_rfl) (by kernel_rfl) ?_
        simp only [nrm]
        refine list_val (.slice q1 k1 l1) (by kernel_rfl) (exec_bs _ (.tmp 96) rfl (w.heap.size) 4 (by kernel_rfl) q1 k1 l1 (cell_of ((hB.more hg).get 0 (x := ⟨w.heap.size, roadv r1 a1 n1 c1 b1 m1 d1 p1 i1 e1 q1 k1 l1, 26⟩) rfl) (i := 4) rfl)) ?_
        simp only [nrm]
        refine app_bs (by kernel_rfl) (.tmp 95) (.tmp 97) rfl gz _ [] rfl hO q1 k1 l1 Q1 (by kernel_rfl) (unhide hQl) ((unhide lq1).gr (hB.gr.trans hg)).sl (by simp; omega) (by rw [hgz]; exact hg.size) ?_
        intro v12 z2 hO2 hgr
        replace hg := hO.grown (by rw [hgz]; exact Nat.le_refl _) hg hgr
        rw [List.nil_append] at hO2
        have hI0 : Hid (Ob gz z2 v12 (wrL r1 Q1 (SS.drop j)) ∧ Gr z2 z2) := by
          rw [unhide hWe]
          exact ⟨hO2, Gr.refl _⟩
        replace hB := hB.more hg
        replace hS5 := hide ((unhide hS5).gr hg)
        replace lv := hide ((unhide lv).gr hg)
        have hgz9 : Hid (gz ≤ z2.heap.size) := by rw [hgz]; exact hg.size
        clear hgr hO hg hO2 hgz
        simp only [nrm]
        (refine wpList_step fun K hK => ?_; replace hK := hide hK; go_simp; refine unhide hK _ _ ?_; clear hK K)
        refine wpList_nil ?_
        have hsub : IntKind.i64.wrap ((j : Int) - 1) = (j : Int) - 1 := by rw [IntKind.wrap_i64]; omega
        replace hB := hide hB
        go_upto_region 18 with fail
        replace hB := unhide hB
        refine wp_region_lit ?_
        refine list_val (.slice ka1 j kc1) (by kernel_rfl) (by kernel_rfl) ?_
        simp only [nrm]
        refine list_val (.int .i64 (j : Int)) (by kernel_rfl) (by kernel_rfl) ?_
        simp only [nrm]
        refine list_val (.int .i64 ((j : Int) - 1)) (by kernel_rfl) (by go_simp) ?_
        simp only [nrm]
        (refine wpList_step fun K hK => ?_; replace hK := hide hK; go_simp; refine unhide hK _ _ ?_; clear hK K)
        refine wpList_nil ?_
        clear hsub
        replace hB := hide hB
        go_wp2_with fail
        go_loopw [12, 13] (fun v h wr => ∃ (i : Nat) (v' : Value) (hi : Int), i ≤ j ∧ v' = v ∧ h = .int .i64 hi ∧ Hid (hi + 1 = (i : Int)) ∧ Hid (Ob gz wr v' (wrL r1 Q1 (SS.drop i)) ∧ Gr z2 wr)) (fun _ h _ => (intOf h + 1).toNat)
        case atStart => exact ⟨j, _, _, Nat.le_refl _, rfl, rfl, by show (j : Int) - 1 + 1 = j; omega, hI0⟩
        case round =>
        clear hI0
        obtain ⟨i, v', hi, hij, rfl, rfl, hhi, hA⟩ := hrel
        obtain ⟨hO, hG⟩ := unhide hA
        clear hA
        rcases i with _ | i
        · skip
          have jI : ¬ (0 : Int) ≤ hi := by have := unhide hhi; omega
          clear hhi
          have hib := unhide hWb 0
          have hil := unhide hWl 0 (Nat.zero_le _)
          obtain ⟨av2, cv2, rfl, l2⟩ := hO.lb hib
          rw [hil, Nat.sub_zero, ← unhide hMM] at l2 ⊢
          rw [List.drop_zero] at l2
          replace hB := (unhide hB).more hG
          replace hS5 := hide ((unhide hS5).gr hG)
          replace lv := hide ((unhide lv).gr hG)
          clear hO hG hib hil
          replace l2 := hide l2
          have hMb : MM ≤ 20000 := by have := unhide hMM; omega
          replace hB := hide hB
          go_upto_region 22 with fail
          replace hB := unhide hB
          refine wp_region_lit ?_
          refine list_val (.pointer (some ⟨w.heap.size, 0, none⟩)) (by kernel_rfl) (by kernel_rfl) ?_
          simp only [nrm]
          refine list_val (.int .u64 r1) (by kernel_rfl) (exec_u64 _ (.tmp 115) rfl (w.heap.size) 0 (by kernel_rfl) r1 (cell_of (hB.get 0 (x := ⟨w.heap.size, roadv r1 a1 n1 c1 b1 m1 d1 p1 i1 e1 q1 k1 l1, 26⟩) rfl) (i := 0) rfl)) ?_
          simp only [nrm]
          refine list_val (.slice sa j sc) (by kernel_rfl) (by kernel_rfl) ?_
          simp only [nrm]
          refine list_val (.slice av2 MM cv2) (by kernel_rfl) (by kernel_rfl) ?_
          simp only [nrm]
          refine list_call 11 #[.int .u64 r1, .slice sa j sc, .slice av2 MM cv2] (by kernel_rfl) (by kernel_rfl) ((unwrap_yes r1 hr1 SS Q1 (unhide hQb) sa av2 j sc MM cv2 hMb wr ((unhide hF).gr hB.gr) (unhide hS5) (unhide l2)).mono ?_)
          rintro r_ y1 ⟨v14, rfl, hO14, hg⟩
          obtain ⟨a14, c14, rfl, l14⟩ := hO14.lb (unhide hQb)
          rw [unhide hQl] at l14 ⊢
          replace hB := hB.more hg
          replace lv := hide ((unhide lv).gr hg)
          clear hg hO14 l2
          replace l14 := hide l14
          refine ⟨_, rfl, ?_⟩
          simp only [nrm]
          refine list_val (.tuple #[.slice a14 k1 c14, .int .i64 0]) (by kernel_rfl) (by kernel_rfl) ?_
          simp only [nrm]
          refine list_val (.slice a14 k1 c14) (by kernel_rfl) (by kernel_rfl) ?_
          simp only [nrm]
          refine list_val (.int .i64 0) (by kernel_rfl) (by kernel_rfl) ?_
          simp only [nrm]
          (refine wpList_step fun K hK => ?_; replace hK := hide hK; go_simp; refine unhide hK _ _ ?_; clear hK K)
          (refine wpList_step fun K hK => ?_; replace hK := hide hK; go_simp; refine unhide hK _ _ ?_; clear hK K)
          refine wpList_nil ?_
          have h16 : IntKind.i64.wrap (16 * (j : Int)) = 16 * (j : Int) := by rw [IntKind.wrap_i64]; omega
          have hadd : IntKind.i64.wrap ((k1 : Int) + 16 * (j : Int)) = (MM : Int) := by have := unhide hMM; rw [IntKind.wrap_i64]; omega
          have hZ : Hid (T (.returned (.bool true)) y1) := by
            rw [unhide hT]
            exact ⟨rfl, hB.gr⟩
          replace hB := hide hB
          go_upto_region 23 with fail
          replace hB := unhide hB
          refine wp_region_lit ?_
          refine list_val (.slice av i1 cv) (by kernel_rfl) (by kernel_rfl) ?_
          simp only [nrm]
          refine list_val (.pointer (some ⟨w.heap.size, 3, none⟩)) (by kernel_rfl) (by kernel_rfl) ?_
          simp only [nrm]
          refine list_val (.slice p1 i1 e1) (by kernel_rfl) (exec_bs _ (.tmp 123) rfl (w.heap.size) 3 (by kernel_rfl) p1 i1 e1 (cell_of (hB.get 0 (x := ⟨w.heap.size, roadv r1 a1 n1 c1 b1 m1 d1 p1 i1 e1 q1 k1 l1, 26⟩) rfl) (i := 3) rfl)) ?_
          simp only [nrm]
          refine list_call 12 #[.slice av i1 cv, .slice p1 i1 e1] (by kernel_rfl) (by kernel_rfl) ((oequal_ok P1 P1 av p1 i1 cv e1 (by omega) y1 (unhide lv) ((unhide lp1).gr hB.gr)).mono ?_)
          rintro r_ wq ⟨rfl, hwq⟩
          rw [hwq, decide_eq_true rfl]
          clear hwq
          refine ⟨_, rfl, ?_⟩
          simp only [nrm]
          refine list_val (.bool true) (by kernel_rfl) (by kernel_rfl) ?_
          simp only [nrm]
          refine list_val (.int .i64 0) (by kernel_rfl) (by kernel_rfl) ?_
          simp only [nrm]
          refine list_val (.bool true) (by kernel_rfl) (by kernel_rfl) ?_
          simp only [nrm]
          refine list_val (.bool true) (by kernel_rfl) (by kernel_rfl) ?_
          simp only [nrm]
          refine list_val (.bool true) (by kernel_rfl) (by kernel_rfl) ?_
          simp only [nrm]
          refine list_val (.slice a14 k1 c14) (by kernel_rfl) (by kernel_rfl) ?_
          simp only [nrm]
          refine list_val (.pointer (some ⟨w.heap.size, 4, none⟩)) (by kernel_rfl) (by kernel_rfl) ?_
          simp only [nrm]
          refine list_val (.slice q1 k1 l1) (by kernel_rfl) (exec_bs _ (.tmp 132) rfl (w.heap.size) 4 (by kernel_rfl) q1 k1 l1 (cell_of (hB.get 0 (x := ⟨w.heap.size, roadv r1 a1 n1 c1 b1 m1 d1 p1 i1 e1 q1 k1 l1, 26⟩) rfl) (i := 4) rfl)) ?_
          simp only [nrm]
          refine list_call 12 #[.slice a14 k1 c14, .slice q1 k1 l1] (by kernel_rfl) (by kernel_rfl) ((oequal_ok Q1 Q1 a14 q1 k1 c14 l1 (by omega) y1 (unhide l14) ((unhide lq1).gr hB.gr)).mono ?_)
          rintro r_ wq ⟨rfl, hwq⟩
          rw [hwq, decide_eq_true rfl]
          clear hwq
          refine ⟨_, rfl, ?_⟩
          simp only [nrm]
          refine list_val (.bool true) (by kernel_rfl) (by kernel_rfl) ?_
          simp only [nrm]
          refine list_val (.bool true) (by kernel_rfl) (by kernel_rfl) ?_
          simp only [nrm]
          refine list_val (.slice av2 MM cv2) (by kernel_rfl) (by kernel_rfl) ?_
          simp only [nrm]
          refine list_val (.int .i64 (MM : Int)) (by kernel_rfl) (by kernel_rfl) ?_
          simp only [nrm]
          refine list_val (.pointer (some ⟨w.heap.size, 4, none⟩)) (by kernel_rfl) (by kernel_rfl) ?_
          simp only [nrm]
          refine list_val (.slice q1 k1 l1) (by kernel_rfl) (exec_bs _ (.tmp 139) rfl (w.heap.size) 4 (by kernel_rfl) q1 k1 l1 (cell_of (hB.get 0 (x := ⟨w.heap.size, roadv r1 a1 n1 c1 b1 m1 d1 p1 i1 e1 q1 k1 l1, 26⟩) rfl) (i := 4) rfl)) ?_
          simp only [nrm]
          refine list_val (.int .i64 (k1 : Int)) (by kernel_rfl) (by kernel_rfl) ?_
          simp only [nrm]
          refine list_val (.slice ka1 j kc1) (by kernel_rfl) (by kernel_rfl) ?_
          simp only [nrm]
          refine list_val (.int .i64 (j : Int)) (by kernel_rfl) (by kernel_rfl) ?_
          simp only [nrm]
          refine list_val (.int .i64 (16 * (j : Int))) (by kernel_rfl) (by go_simp) ?_
          simp only [nrm]
          refine list_val (.int .i64 (MM : Int)) (by kernel_rfl) (by go_simp) ?_
          simp only [nrm]
          refine list_val (.bool true) (by kernel_rfl) (by go_simp) ?_
          simp only [nrm]
          refine list_val (.bool true) (by kernel_rfl) (by kernel_rfl) ?_
          simp only [nrm]
          (refine wpList_step fun K hK => ?_; replace hK := hide hK; go_simp; refine unhide hK _ _ ?_; clear hK K)
          refine wpList_nil ?_
          go_wp2_with fail
          exact unhide hZ
        · skip
          have hlt : i < j := by omega
          obtain rfl : hi = (i : Int) := by have := unhide hhi; omega
          clear hhi
          have jI : (0 : Int) ≤ (i : Int) := by omega
          have hib := unhide hWb (i + 1)
          have hil := unhide hWl (i + 1) hlt
          have hwd := unhide hWd i hlt
          obtain ⟨hkl, hkb⟩ := (unhide hS5).key i hlt
          obtain ⟨ps, qs, es, hrs⟩ := (unhide hS5).row i hlt
          obtain ⟨KI, hKI⟩ : ∃ K, K = SS.getD i [] := ⟨_, rfl⟩
          obtain ⟨PI, hPI⟩ : ∃ K, K = wrL r1 Q1 (SS.drop (i + 1)) := ⟨_, rfl⟩
          rw [← hKI] at hkl hkb hrs hwd
          rw [← hPI] at hO hib hil hwd
          clear hKI hPI
          obtain ⟨av2, cv2, rfl, l2⟩ := hO.lb hib
          obtain ⟨n2, hn2⟩ : ∃ n, n = PI.length := ⟨_, rfl⟩
          rw [← hn2] at l2 ⊢
          have hn2b : n2 ≤ 20000 := by omega
          replace hB := hide ((unhide hB).more hG)
          clear hO hib hil hn2
          replace hkb := hide hkb; replace hrs := hide hrs; replace es := hide es; replace l2 := hide l2; replace hwd := hide hwd; replace hG := hide hG
          go_upto_region 21 with fail
          replace hB := unhide hB
          refine any_start (S := fun (v : World) => Bl w [⟨w.heap.size, roadv r1 a1 n1 c1 b1 m1 d1 p1 i1 e1 q1 k1 l1, 26⟩] v ∧ Gr z2 v) (by kernel_rfl) ?_
          have hdr := (Gr.refl wr).drew
          replace hB := hB.drew
          replace hG := hide ((unhide hG).trans hdr)
          replace l2 := hide ((unhide l2).gr hdr)
          clear hdr
          generalize World.drew _ = x0 at *
          replace hB : Bl w [⟨w.heap.size, roadv r1 a1 n1 c1 b1 m1 d1 p1 i1 e1 q1 k1 l1, 26⟩] x0 := hB
          have hI := unhide hG
          simp only [List.size_toArray, List.length_cons, List.length_nil, Array.replicate, List.replicate]
          refine any_take (i := 0) (v := (.pointer (some ⟨w.heap.size, 0, none⟩))) #[false, false, false, false, false, false, false, false, false] rfl (by kernel_rfl) (by kernel_rfl) (by kernel_rfl) (by kernel_rfl) (fun _ _ _ h => h) (.inl ⟨by kernel_rfl, fun x_ hu => by kernel_rfl⟩) ⟨hB, hI⟩ ?_
          simp only [nrm]
          refine any_take (i := 1) (v := (.int .u64 r1)) #[true, false, false, false, false, false, false, false, false] rfl (by kernel_rfl) (by kernel_rfl) (by kernel_rfl) (by kernel_rfl) (fun _ _ _ h => h) (.inl ⟨by kernel_rfl, fun x_ hu => exec_u64 _ (.tmp 106) rfl (w.heap.size) 0 (by kernel_rfl) r1 (cell_of (hu.1.get 0 (x := ⟨w.heap.size, roadv r1 a1 n1 c1 b1 m1 d1 p1 i1 e1 q1 k1 l1, 26⟩) rfl) (i := 0) rfl)⟩) ⟨hB, hI⟩ ?_
          simp only [nrm]
          refine any_take (i := 2) (v := (.slice sa j sc)) #[true, true, false, false, false, false, false, false, false] rfl (by kernel_rfl) (by kernel_rfl) (by kernel_rfl) (by kernel_rfl) (fun _ _ _ h => h) (.inl ⟨by kernel_rfl, fun x_ hu => by kernel_rfl⟩) ⟨hB, hI⟩ ?_
          simp only [nrm]
          refine any_take (i := 3) (v := (.int .i64 (i : Int))) #[true, true, true, false, false, false, false, false, false] rfl (by kernel_rfl) (by kernel_rfl) (by kernel_rfl) (by kernel_rfl) (fun _ _ _ h => h) (.inl ⟨by kernel_rfl, fun x_ hu => by kernel_rfl⟩) ⟨hB, hI⟩ ?_
          simp only [nrm]
          refine any_take (i := 4) (v := (.pointer (some ⟨ps, qs + 32 * i, none⟩))) #[true, true, true, true, false, false, false, false, false] rfl (by kernel_rfl) (by kernel_rfl) (by kernel_rfl) (by kernel_rfl) (fun _ _ _ h => h) (.inl ⟨by kernel_rfl, fun x_ hu => exec_iks _ (.tmp 108) (.tmp 109) rfl ps qs j sc i (by rw [← unhide es]; kernel_rfl) (by kernel_rfl) hlt⟩) ⟨hB, hI⟩ ?_
          simp only [nrm]
          refine any_take (i := 5) (v := (.agg (kc KI))) #[true, true, true, true, true, false, false, false, false] rfl (by kernel_rfl) (by kernel_rfl) (by kernel_rfl) (by kernel_rfl) (fun _ _ _ h => h) (.inl ⟨by kernel_rfl, fun x_ hu => exec_kr _ (.tmp 110) rfl ps (qs + 32 * i) (by kernel_rfl) KI hkl (rg_gr (unhide hrs) hu.2)⟩) ⟨hB, hI⟩ ?_
          simp only [nrm]
          refine any_take (i := 6) (v := (.slice av2 n2 cv2)) #[true, true, true, true, true, true, false, false, false] rfl (by kernel_rfl) (by kernel_rfl) (by kernel_rfl) (by kernel_rfl) (fun _ _ _ h => h) (.inl ⟨by kernel_rfl, fun x_ hu => by kernel_rfl⟩) ⟨hB, hI⟩ ?_
          simp only [nrm]
          refine any_one (i := 7) (by kernel_rfl) rfl (fun K_ hQ => ?_)
          refine step_callw (by kernel_rfl) 10 #[.int .u64 r1, .agg (kc KI), .slice av2 n2 cv2] (by kernel_rfl) ((wrap_ok r1 hr1 KI hkl (unhide hkb) PI av2 n2 cv2 hn2b x0 ((unhide hF).gr hB.gr) (unhide l2)).mono ?_)
          rintro r x1 ⟨v3, rfl, hO3, hg⟩
          refine ⟨_, rfl, ?_⟩
          have hI2 : Hid (Ob gz x1 v3 (wrL r1 Q1 (SS.drop i)) ∧ Gr z2 x1) := by
                      refine ⟨?_, (unhide hG).trans hg⟩
                      rw [unhide hwd]
                      exact hO3.up (Nat.le_trans (unhide hgz9) (unhide hG).size)
          replace hB := hB.more hg
          replace hI := hI.trans hg
          clear hg hO3
          refine hQ.out _ _ ⟨hB, hI⟩ (fun _ => ?_)
          clear hQ K_
          simp only [nrm]
          refine any_one (i := 8) (by kernel_rfl) rfl (fun K_ hQ => ?_)
          replace hQ := hide hQ
          go_simp
          refine (unhide hQ).out _ _ ⟨hB, hI⟩ (fun _ => ?_)
          clear hQ K_
          refine any_done (by kernel_rfl) ?_
          clear hI hB l2 hrs
          have ej : IntKind.i64.wrap ((i : Int) - 1) = (i : Int) - 1 := by rw [IntKind.wrap_i64]; omega
          go_wp2_with fail
          go_roundw
          case rel => exact ⟨i, _, (i : Int) - 1, by omega, rfl, by go_num, by show (i : Int) - 1 + 1 = i; omega, hI2⟩
          case measure => simp [intOf] <;> omega
end Go.Proofs.YtgabkfleidpipaaDoor
