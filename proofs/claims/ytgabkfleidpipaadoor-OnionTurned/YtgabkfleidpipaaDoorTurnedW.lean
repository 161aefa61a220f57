/-
  Of layer 15: what the proof leans on.
-/
import Derived.Test.YtgabkfleidpipaaDoorYK9
namespace Go.Proofs.YtgabkfleidpipaaDoor
open Go.RowKit
set_option maxRecDepth 100000
set_option linter.unusedSimpArgs false
set_option linter.unusedVariables false
theorem shL_pub9 (O S : List (List Int)) (j : Nat) (h1 : j < O.length) (h2 : j < S.length) : (shL O (S.map pubL)).getD j [] = agL (S.getD j []) (pubL (O.getD j [])) := by
  rw [shL_get O (S.map pubL) j h1 (by rw [List.length_map]; exact h2), agL_comm]
  congr 1
  rw [List.getD_eq_getElem?_getD, List.getElem?_map, List.getElem?_eq_getElem h2, List.getD_eq_getElem?_getD, List.getElem?_eq_getElem h2]
  rfl
theorem getD_take9 (S : List (List Int)) (N j : Nat) (h : j < N) : (S.take N).getD j [] = S.getD j [] := by
  rw [List.getD_eq_getElem?_getD, List.getElem?_take, if_pos h, List.getD_eq_getElem?_getD]
theorem list_off {P : Program} {ops : Array Oper} {Q : Exit → Act → World → Prop} {rest : List Oper} {o : Oper} {a : Act} {w : World} (hw : Region.wanted o (yielded ops a.tmps) = false) (h : wpList P ops Q rest (a.put o.dst undef) w) : wpList P ops Q (o :: rest) a w := by
  refine wpList_step fun K hK => ?_
  rw [if_neg (ne_true_of_eq_false hw)]
  exact hK _ _ h
theorem ZK_len : ZK.length = 32 := rfl
theorem seO_inj {r : Int} {K : List Int} {t : ByteArray} {P Q : List Int} (hP : IsB P) (hQ : IsB Q) (hl : P.length = Q.length) (h : seO r K t P = seO r K t Q) : P = Q := seal_inj _ _ _ hP hQ hl h
set_option maxHeartbeats 4000000 in
theorem turned_ok (r1 : Int) (a1 : Option Addr) (n1 c1 : Nat) (b1 : Option Addr) (m1 d1 : Nat) (p1 : Option Addr) (i1 e1 : Nat) (q1 : Option Addr) (k1 l1 : Nat) (S1 O1 : List (List Int)) (hr1 : 0 ≤ r1) (P1 : List Int) (z : Int) (hz : -9223372036854775808 ≤ z ∧ z ≤ 9223372036854775807) (y : Int) (hy : 0 ≤ y ∧ y < 256) (w : World) (hF : Fst w) (lk1 : Kw w a1 n1 c1 S1) (lo1 : Kw w b1 m1 d1 O1) (lp1 : Lb w p1 i1 e1 P1) : Calls Tryd.prog 4 #[.agg (roadv r1 a1 n1 c1 b1 m1 d1 p1 i1 e1 q1 k1 l1), .int .i64 z, .int .u8 y] w (Woke w) := by
  obtain ⟨T, hT⟩ : ∃ T, T = Woke w := ⟨_, rfl⟩
  rw [← hT]
  replace hT := hide hT
  obtain ⟨N1, hN1⟩ : ∃ N, N = min (min n1 m1) 3 := ⟨_, rfl⟩
  have hN3 : N1 ≤ 3 := by omega
  have hNn : N1 ≤ n1 := by omega
  have hPl := lp1.len
  have hPb := lp1.isB
  have hx1 := lp1.cap
  have hx2 := lp1.max
  have hSl : N1 ≤ S1.length := by rw [lk1.len]; exact hNn
  have hOl : (O1.take N1).length = N1 := by rw [List.length_take, lo1.len]; omega
  have hSl2 : (S1.take N1).length = N1 := by rw [List.length_take]; omega
  have hlow : ∀ i_, i_ < N1 → NLow ((O1.take N1).getD i_ []) (((S1.take N1).map pubL).getD i_ []) := by
    intro i_ hi_
    have h1 := nlow_all (S1.take N1) (O1.take N1) N1 i_ hi_ (by rw [hSl2]; exact Nat.le_refl _)
    rwa [List.take_of_length_le (l := (S1.take N1).map pubL) (by rw [List.length_map, hSl2]; exact Nat.le_refl _)] at h1
  obtain ⟨SS, hSS⟩ : ∃ S, S = shL (O1.take N1) ((S1.take N1).map pubL) := ⟨_, rfl⟩
  have hSSl : SS.length = N1 := by rw [hSS, shL_len _ _ (by rw [List.length_map, hSl2, hOl]), List.length_map, hSl2]
  have hSSj : ∀ j, j < N1 → SS.getD j [] = agL (S1.getD j []) (pubL ((O1.take N1).getD j [])) := by
    intro j hj
    rw [hSS, shL_pub9 _ _ j (by omega) (by omega), getD_take9 S1 N1 j hj]
  obtain ⟨OO, hOO⟩ : ∃ S, S = O1.take N1 := ⟨_, rfl⟩
  rw [← hOO] at hOl hSSj
  have hLen : (onL r1 P1 SS OO).length = i1 + 48 * N1 := by
    rw [onL_len _ _ _ _ (by rw [hSSl, hOl]), hSSl, hPl]
  have hDrop : 0 < N1 → onL r1 P1 SS OO = pubL (OO.getD 0 []) ++ seO r1 (SS.getD 0 []) tO (onL r1 P1 (SS.drop 1) (OO.drop 1)) := fun h0 => onL_drop r1 P1 SS OO 0 (by omega) (by omega)
  have hIsB : IsB (onL r1 P1 SS OO) := onL_isB r1 P1 hPb _ _
  have hIsB1 : IsB (onL r1 P1 (SS.drop 1) (OO.drop 1)) := onL_isB r1 P1 hPb _ _
  obtain ⟨LL, hLL⟩ : ∃ L, L = i1 + 48 * N1 := ⟨_, rfl⟩
  obtain ⟨zn, hzn⟩ : ∃ n : Nat, (n : Int) = max z 0 := ⟨(max z 0).toNat, by omega⟩
  obtain ⟨SR, hSR⟩ : ∃ S, S = roadv r1 a1 n1 c1 b1 m1 d1 p1 i1 e1 q1 k1 l1 := ⟨_, rfl⟩
  rw [← hSR]
  replace hSR := hide hSR
  replace hN1 := hide hN1
  replace lk1 := hide lk1
  replace lo1 := hide lo1
  replace lp1 := hide lp1
  replace hF := hide hF
  replace hSl := hide hSl
  replace hSl2 := hide hSl2
  replace hPl := hide hPl
  replace hPb := hide hPb
  replace hx1 := hide hx1
  replace hx2 := hide hx2
  replace hlow := hide hlow
  replace hSS := hide hSS
  replace hSSl := hide hSSl
  replace hSSj := hide hSSj
  replace hOO := hide hOO
  replace hOl := hide hOl
  replace hLen := hide hLen
  replace hDrop := hide hDrop
  replace hIsB := hide hIsB
  replace hIsB1 := hide hIsB1
  replace hLL := hide hLL
  replace hzn := hide hzn
  replace hz := hide hz
  replace hy := hide hy
  go_enter Tryd.func4, Tryd.ntmps4
  go_upto_region 1 with fail
  have hB := (Bl.nil w).new SR 26
  simp only [List.nil_append] at hB
  generalize World.alloc _ _ = u at *
  rw [unhide hSR] at hB
  replace hB : Bl w [⟨w.heap.size, roadv r1 a1 n1 c1 b1 m1 d1 p1 i1 e1 q1 k1 l1, 26⟩] u := hB
  refine wp_region_lit ?_
  refine list_call 6 #[] (by kernel_rfl) (by kernel_rfl) ((wakes15_ok u ((unhide hF).gr hB.gr)).mono ?_)
  rintro r_ u1 ⟨rfl, hg⟩
  replace hB := hB.more hg
  clear hg
  refine ⟨_, rfl, ?_⟩
  simp only [nrm]
  refine list_val (.bool false) (by kernel_rfl) (by kernel_rfl) ?_
  simp only [nrm]
  refine wpList_nil ?_
  replace hB := hide hB
  go_upto_region 3 with fail
  replace hB := unhide hB
  by_cases hbig : 1000 < i1
  · skip
    have hbI : (1000 : Int) < (i1 : Int) := by omega
    have hZ : Hid (T (.returned (.bool true)) u1) := by
      rw [unhide hT]
      exact ⟨rfl, hB.gr⟩
    refine wp_region_lit ?_
    refine list_val (.pointer (some ⟨w.heap.size, 3, none⟩)) (by kernel_rfl) (by kernel_rfl) ?_
    simp only [nrm]
    refine list_val (.slice p1 i1 e1) (by kernel_rfl) (exec_bs _ (.tmp 21) rfl (w.heap.size) 3 (by kernel_rfl) p1 i1 e1 (cell_of (hB.get 0 (x := ⟨w.heap.size, roadv r1 a1 n1 c1 b1 m1 d1 p1 i1 e1 q1 k1 l1, 26⟩) rfl) (i := 3) rfl)) ?_
    simp only [nrm]
    refine list_val (.int .i64 (i1 : Int)) (by kernel_rfl) (by kernel_rfl) ?_
    simp only [nrm]
    refine list_val (.bool true) (by kernel_rfl) (by go_simp) ?_
    simp only [nrm]
    refine wpList_nil ?_
    go_wp2_with fail
    exact unhide hZ
  · skip
    have hbI : ¬ (1000 : Int) < (i1 : Int) := by omega
    refine wp_region_lit ?_
    refine list_val (.pointer (some ⟨w.heap.size, 3, none⟩)) (by kernel_rfl) (by kernel_rfl) ?_
    simp only [nrm]
    refine list_val (.slice p1 i1 e1) (by kernel_rfl) (exec_bs _ (.tmp 21) rfl (w.heap.size) 3 (by kernel_rfl) p1 i1 e1 (cell_of (hB.get 0 (x := ⟨w.heap.size, roadv r1 a1 n1 c1 b1 m1 d1 p1 i1 e1 q1 k1 l1, 26⟩) rfl) (i := 3) rfl)) ?_
    simp only [nrm]
    refine list_val (.int .i64 (i1 : Int)) (by kernel_rfl) (by kernel_rfl) ?_
    simp only [nrm]
    refine list_val (.bool false) (by kernel_rfl) (by go_simp) ?_
    simp only [nrm]
    refine wpList_nil ?_
    clear hbI
    replace hB := hide hB
    go_upto_region 5 with fail
    replace hB := unhide hB
    refine wp_region_lit ?_
    refine list_val (.agg (roadv r1 a1 n1 c1 b1 m1 d1 p1 i1 e1 q1 k1 l1)) (by kernel_rfl) (exec_arr _ 26 (.tmp 3) rfl (w.heap.size) (by kernel_rfl) (roadv r1 a1 n1 c1 b1 m1 d1 p1 i1 e1 q1 k1 l1) 26 _ (hB.get 0 (x := ⟨w.heap.size, roadv r1 a1 n1 c1 b1 m1 d1 p1 i1 e1 q1 k1 l1, 26⟩) rfl) Tryd.underlying26 rfl (by rw [Tryd.infoRoad]; rfl)) ?_
    simp only [nrm]
    refine list_call 7 #[.agg (roadv r1 a1 n1 c1 b1 m1 d1 p1 i1 e1 q1 k1 l1)] (by kernel_rfl) (by kernel_rfl) ((rhops_ok r1 a1 n1 c1 b1 m1 d1 p1 i1 e1 q1 k1 l1 S1 O1 N1 (unhide hN1) u1 ((unhide lk1).gr hB.gr) ((unhide lo1).gr hB.gr)).mono ?_)
    rintro r_ u2 ⟨ka1, kc1, oa1, oc1, rfl, hk1, ho1, hg⟩
    replace hB := hB.more hg
    clear hg
    replace hk1 := hide hk1
    replace ho1 := hide ho1
    refine ⟨_, rfl, ?_⟩
    simp only [nrm]
    refine list_val (.tuple #[.slice ka1 N1 kc1, .slice oa1 N1 oc1]) (by kernel_rfl) (by kernel_rfl) ?_
    simp only [nrm]
    refine list_val (.slice ka1 N1 kc1) (by kernel_rfl) (by kernel_rfl) ?_
    simp only [nrm]
    refine list_val (.slice oa1 N1 oc1) (by kernel_rfl) (by kernel_rfl) ?_
    simp only [nrm]
    (refine wpList_step fun K hK => ?_; replace hK := hide hK; go_simp; refine unhide hK _ _ ?_; clear hK K)
    (refine wpList_step fun K hK => ?_; replace hK := hide hK; go_simp; refine unhide hK _ _ ?_; clear hK K)
    refine wpList_nil ?_
    replace hB := hide hB
    go_upto_region 6 with fail
    replace hB := unhide hB
    by_cases hN0 : N1 = 0
    · skip
      have h0I : (N1 : Int) = 0 := by omega
      have hZ : Hid (T (.returned (.bool true)) u2) := by
        rw [unhide hT]
        exact ⟨rfl, hB.gr⟩
      refine wp_region_lit ?_
      refine list_val (.slice ka1 N1 kc1) (by kernel_rfl) (by kernel_rfl) ?_
      simp only [nrm]
      refine list_val (.int .i64 (N1 : Int)) (by kernel_rfl) (by kernel_rfl) ?_
      simp only [nrm]
      refine list_val (.bool true) (by kernel_rfl) (by go_simp) ?_
      simp only [nrm]
      refine list_val (.bool true) (by kernel_rfl) (by kernel_rfl) ?_
      simp only [nrm]
      refine list_off (by kernel_rfl) ?_
      simp only [nrm]
      refine list_off (by kernel_rfl) ?_
      simp only [nrm]
      refine list_val (.bool true) (by kernel_rfl) (by kernel_rfl) ?_
      simp only [nrm]
      refine wpList_nil ?_
      go_wp2_with fail
      exact unhide hZ
    · skip
      have h0I : ¬ (N1 : Int) = 0 := by omega
      by_cases hy0 : y = 0
      · skip
        have hZ : Hid (T (.returned (.bool true)) u2) := by
          rw [unhide hT]
          exact ⟨rfl, hB.gr⟩
        refine wp_region_lit ?_
        refine list_val (.slice ka1 N1 kc1) (by kernel_rfl) (by kernel_rfl) ?_
        simp only [nrm]
        refine list_val (.int .i64 (N1 : Int)) (by kernel_rfl) (by kernel_rfl) ?_
        simp only [nrm]
        refine list_val (.bool false) (by kernel_rfl) (by go_simp) ?_
        simp only [nrm]
        refine list_val (.bool false) (by kernel_rfl) (by kernel_rfl) ?_
        simp only [nrm]
        refine list_val (.int .u8 y) (by kernel_rfl) (by kernel_rfl) ?_
        simp only [nrm]
        refine list_val (.bool true) (by kernel_rfl) (by go_simp) ?_
        simp only [nrm]
        refine list_val (.bool true) (by kernel_rfl) (by kernel_rfl) ?_
        simp only [nrm]
        refine wpList_nil ?_
        go_wp2_with fail
        exact unhide hZ
      · skip
        refine wp_region_lit ?_
        refine list_val (.slice ka1 N1 kc1) (by kernel_rfl) (by kernel_rfl) ?_
        simp only [nrm]
        refine list_val (.int .i64 (N1 : Int)) (by kernel_rfl) (by kernel_rfl) ?_
        simp only [nrm]
        refine list_val (.bool false) (by kernel_rfl) (by go_simp) ?_
        simp only [nrm]
        refine list_val (.bool false) (by kernel_rfl) (by kernel_rfl) ?_
        simp only [nrm]
        refine list_val (.int .u8 y) (by kernel_rfl) (by kernel_rfl) ?_
        simp only [nrm]
        refine list_val (.bool false) (by kernel_rfl) (by go_simp) ?_
        simp only [nrm]
        refine list_val (.bool false) (by kernel_rfl) (by kernel_rfl) ?_
        simp only [nrm]
        refine wpList_nil ?_
        clear h0I
        replace hB := hide hB
        go_upto_region 8 with fail
        replace hB := unhide hB
        refine wp_region_lit ?_
        refine list_val (.pointer (some ⟨w.heap.size, 0, none⟩)) (by kernel_rfl) (by kernel_rfl) ?_
        simp only [nrm]
        refine list_val (.int .u64 r1) (by kernel_rfl) (exec_u64 _ (.tmp 38) rfl (w.heap.size) 0 (by kernel_rfl) r1 (cell_of (hB.get 0 (x := ⟨w.heap.size, roadv r1 a1 n1 c1 b1 m1 d1 p1 i1 e1 q1 k1 l1, 26⟩) rfl) (i := 0) rfl)) ?_
        simp only [nrm]
        refine list_val (.slice ka1 N1 kc1) (by kernel_rfl) (by kernel_rfl) ?_
        simp only [nrm]
        refine list_val (.slice oa1 N1 oc1) (by kernel_rfl) (by kernel_rfl) ?_
        simp only [nrm]
        refine list_val (.pointer (some ⟨w.heap.size, 3, none⟩)) (by kernel_rfl) (by kernel_rfl) ?_
        simp only [nrm]
        refine list_val (.slice p1 i1 e1) (by kernel_rfl) (exec_bs _ (.tmp 42) rfl (w.heap.size) 3 (by kernel_rfl) p1 i1 e1 (cell_of (hB.get 0 (x := ⟨w.heap.size, roadv r1 a1 n1 c1 b1 m1 d1 p1 i1 e1 q1 k1 l1, 26⟩) rfl) (i := 3) rfl)) ?_
        simp only [nrm]
        have hgb2 : w.heap.size < u2.heap.size := lt_of_block (hB.get 0 (x := ⟨w.heap.size, roadv r1 a1 n1 c1 b1 m1 d1 p1 i1 e1 q1 k1 l1, 26⟩) rfl)
        refine list_call 8 #[.int .u64 r1, .slice ka1 N1 kc1, .slice oa1 N1 oc1, .slice p1 i1 e1] (by kernel_rfl) (by kernel_rfl) ((nbuild_ok r1 hr1 ((S1.take N1).map pubL) (O1.take N1) P1 ka1 oa1 p1 N1 kc1 oc1 i1 e1 hN3 (by omega) u2 ((unhide hF).gr hB.gr) (unhide hk1) (unhide ho1) ((unhide lp1).gr hB.gr) (unhide hlow)).mono ?_)
        rintro r_ u3 ⟨v5, sa, sc, rfl, hO5, hS5, hg⟩
        rw [← unhide hSS, ← unhide hOO] at hO5
        rcases hO5.2 with ⟨_, h5⟩ | ⟨gb, cap, cur, rfl, hgb, hcur, hle, hmax, hsz, htk⟩
        · rw [unhide hLen] at h5
          omega
        rw [Nat.mul_one] at htk
        rw [unhide hLen, ← unhide hLL] at htk hle ⊢
        have hlt3 : gb < u3.heap.size := lt_of_block hcur
        replace hB := hB.more hg
        clear hg hO5 hS5 hk1 ho1 hsz
        have hdr := unhide hDrop (by omega)
        have hsj := unhide hSSj 0 (by omega)
        obtain ⟨hkl, hkb⟩ := (unhide lk1).key 0 (by omega)
        obtain ⟨p0, q0, ea, hrg⟩ := (unhide lk1).row 0 (by omega)
        rw [hsj] at hdr
        obtain ⟨SJ, hSJ⟩ : ∃ K, K = S1.getD 0 [] := ⟨_, rfl⟩
        obtain ⟨UU, hUU⟩ : ∃ K, K = pubL (OO.getD 0 []) := ⟨_, rfl⟩
        obtain ⟨PP, hPP⟩ : ∃ K, K = onL r1 P1 (SS.drop 1) (OO.drop 1) := ⟨_, rfl⟩
        have hPPb : IsB PP := by rw [hPP]; exact unhide hIsB1
        have hUk : IsK UU := by rw [hUU]; exact pubL_isK _
        rw [← hSJ] at hkl hkb hrg hdr
        rw [← hUU, ← hPP] at hdr
        have hnl : NLow SJ UU := by rw [hUU]; exact nlow_pub _ _
        obtain ⟨A, hA⟩ : ∃ A, A = agL SJ UU := ⟨_, rfl⟩
        have hAl : A.length = 32 := by rw [hA]; exact (agL_isK _ _).1
        have hLl := unhide hLen
        have hLb := unhide hIsB
        rw [hdr] at htk hLl hLb
        rw [← unhide hLL] at hLl
        obtain ⟨CC, hCC⟩ : ∃ C, C = seO r1 (agL SJ UU) tO PP := ⟨_, rfl⟩
        rw [← hCC] at htk hLl hLb
        have hCl : CC.length = PP.length + 16 := by rw [hCC]; exact seO_len _ _ _ _
        have hCb : IsB CC := by rw [hCC]; exact seO_isB _ _ _ _
        have hLs : LL = 48 + PP.length := by rw [← hLl, List.length_append, hUk.1, hCl]; omega
        have hLk : LL ≤ 20000 := by have := unhide hLL; omega
        have hcm : cap < 9223372036854775808 := by unfold maxLen at hmax; omega
        have lv := lb_cur hcur htk hLl hLb hle hcm
        clear hdr hsj hSJ hUU hPP hmax
        replace hkb := hide hkb; replace hrg := hide hrg; replace ea := hide ea; replace lv := hide lv; replace hPPb := hide hPPb; replace hUk := hide hUk; replace hnl := hide hnl; replace hA := hide hA; replace hCC := hide hCC; replace hCl := hide hCl; replace hCb := hide hCb; replace hLl := hide hLl; replace hLb := hide hLb; replace htk := hide htk; replace hcur := hide hcur; replace hLs := hide hLs; replace hgb := hide hgb; replace hgb2 := hide hgb2; replace hlt3 := hide hlt3; replace hcm := hide hcm; replace hle := hide hle
        refine ⟨_, rfl, ?_⟩
        simp only [nrm]
        refine list_val (.tuple #[.slice (some ⟨gb, 0, none⟩) LL cap, .slice sa N1 sc, .int .i64 0]) (by kernel_rfl) (by kernel_rfl) ?_
        simp only [nrm]
        refine list_val (.slice (some ⟨gb, 0, none⟩) LL cap) (by kernel_rfl) (by kernel_rfl) ?_
        simp only [nrm]
        refine list_val (.slice sa N1 sc) (by kernel_rfl) (by kernel_rfl) ?_
        simp only [nrm]
        refine list_val (.int .i64 0) (by kernel_rfl) (by kernel_rfl) ?_
        simp only [nrm]
        (refine wpList_step fun K hK => ?_; replace hK := hide hK; go_simp; refine unhide hK _ _ ?_; clear hK K)
        (refine wpList_step fun K hK => ?_; replace hK := hide hK; go_simp; refine unhide hK _ _ ?_; clear hK K)
        (refine wpList_step fun K hK => ?_; replace hK := hide hK; go_simp; refine unhide hK _ _ ?_; clear hK K)
        refine wpList_nil ?_
        replace hB := hide hB
        go_upto_region 9 with fail
        replace hB := unhide hB
        refine wp_region_lit ?_
        refine list_val (.int .i64 0) (by kernel_rfl) (by kernel_rfl) ?_
        simp only [nrm]
        refine list_val (.bool false) (by kernel_rfl) (by kernel_rfl) ?_
        simp only [nrm]
        refine wpList_nil ?_
        replace hB := hide hB
        go_upto_region 11 with fail
        replace hB := unhide hB
        refine any_start (S := fun (v : World) => Bl w [⟨w.heap.size, roadv r1 a1 n1 c1 b1 m1 d1 p1 i1 e1 q1 k1 l1, 26⟩] v) (by kernel_rfl) ?_
        have hdw := hide ((Gr.refl u3).drew)
        replace hB := hB.drew
        generalize World.drew _ = x0 at *
        have hBw : Hid (Bl w [⟨w.heap.size, roadv r1 a1 n1 c1 b1 m1 d1 p1 i1 e1 q1 k1 l1, 26⟩] x0) := hB
        clear hB
        have hGx := Gr.refl x0
        simp only [List.size_toArray, List.length_cons, List.length_nil, Array.replicate, List.replicate]
        refine any_take (i := 0) (v := (.pointer (some ⟨w.heap.size, 0, none⟩))) #[false, false, false, false, false, false, false, false, false, false, false, false, false, false, false, false] rfl (by kernel_rfl) (by kernel_rfl) (by kernel_rfl) (by kernel_rfl) (fun _ _ _ h => h) (.inl ⟨by kernel_rfl, fun x_ hu => by kernel_rfl⟩) ((unhide hBw).more hGx) ?_
        simp only [nrm]
        refine any_take (i := 1) (v := (.int .u64 r1)) #[true, false, false, false, false, false, false, false, false, false, false, false, false, false, false, false] rfl (by kernel_rfl) (by kernel_rfl) (by kernel_rfl) (by kernel_rfl) (fun _ _ _ h => h) (.inl ⟨by kernel_rfl, fun x_ hu => exec_u64 _ (.tmp 51) rfl (w.heap.size) 0 (by kernel_rfl) r1 (cell_of (hu.get 0 (x := ⟨w.heap.size, roadv r1 a1 n1 c1 b1 m1 d1 p1 i1 e1 q1 k1 l1, 26⟩) rfl) (i := 0) rfl)⟩) ((unhide hBw).more hGx) ?_
        simp only [nrm]
        refine any_take (i := 2) (v := (.pointer (some ⟨w.heap.size, 1, none⟩))) #[true, true, false, false, false, false, false, false, false, false, false, false, false, false, false, false] rfl (by kernel_rfl) (by kernel_rfl) (by kernel_rfl) (by kernel_rfl) (fun _ _ _ h => h) (.inl ⟨by kernel_rfl, fun x_ hu => by kernel_rfl⟩) ((unhide hBw).more hGx) ?_
        simp only [nrm]
        refine any_take (i := 3) (v := (.slice a1 n1 c1)) #[true, true, true, false, false, false, false, false, false, false, false, false, false, false, false, false] rfl (by kernel_rfl) (by kernel_rfl) (by kernel_rfl) (by kernel_rfl) (fun _ _ _ h => h) (.inl ⟨by kernel_rfl, fun x_ hu => exec_ks _ (.tmp 53) rfl (w.heap.size) 1 (by kernel_rfl) a1 n1 c1 (cell_of (hu.get 0 (x := ⟨w.heap.size, roadv r1 a1 n1 c1 b1 m1 d1 p1 i1 e1 q1 k1 l1, 26⟩) rfl) (i := 1) rfl)⟩) ((unhide hBw).more hGx) ?_
        simp only [nrm]
        refine any_take (i := 4) (v := (.pointer (some ⟨p0, q0 + 32 * 0, none⟩))) #[true, true, true, true, false, false, false, false, false, false, false, false, false, false, false, false] rfl (by kernel_rfl) (by kernel_rfl) (by kernel_rfl) (by kernel_rfl) (fun _ _ _ h => h) (.inl ⟨by kernel_rfl, fun x_ hu => exec_iks _ (.tmp 54) (.const (.int .i64 0)) rfl p0 q0 n1 c1 0 (by rw [← unhide ea]; kernel_rfl) (by kernel_rfl) (by omega)⟩) ((unhide hBw).more hGx) ?_
        simp only [nrm]
        refine any_take (i := 5) (v := (.agg (kc SJ))) #[true, true, true, true, true, false, false, false, false, false, false, false, false, false, false, false] rfl (by kernel_rfl) (by kernel_rfl) (by kernel_rfl) (by kernel_rfl) (fun _ _ _ h => h) (.inl ⟨by kernel_rfl, fun x_ hu => exec_kr _ (.tmp 55) rfl p0 (q0 + 32 * 0) (by kernel_rfl) SJ hkl (rg_gr (unhide hrg) hu.gr)⟩) ((unhide hBw).more hGx) ?_
        simp only [nrm]
        refine any_take (i := 6) (v := (.slice (some ⟨gb, 0, none⟩) LL cap)) #[true, true, true, true, true, true, false, false, false, false, false, false, false, false, false, false] rfl (by kernel_rfl) (by kernel_rfl) (by kernel_rfl) (by kernel_rfl) (fun _ _ _ h => h) (.inl ⟨by kernel_rfl, fun x_ hu => by kernel_rfl⟩) ((unhide hBw).more hGx) ?_
        simp only [nrm]
        refine float_first (fun q u => NKe x0.heap.size u q) 13 (fun b_ => #[true, true, true, true, true, true, true, false, false, false, false, false, b_, false, false, false]) 12 7 false rfl rfl (fun _ g_ => (unhide hBw).more (hGx.trans g_)) (by kernel_rfl) (fun b_ => by cases b_ <;> rfl) ?_ ?_
        all_goals simp only [fw1, Act.put, List.setIfInBounds_toArray, List.set_cons_zero, List.set_cons_succ, List.getElem_toArray, List.getElem_cons_zero, List.getElem_cons_succ]
        · intro q_ x_ hgx K hQ
          refine wpOp_step (o := _) rfl (fun K' hK' => ?_)
          replace hK' := hide hK'
          replace hQ := hide hQ
          refine step_val (.pointer (some ⟨x_.heap.size, 0, none⟩)) (x_.alloc (.cells (kc ZK) 34 (0, 0))) (by kernel_rfl) (by kernel_rfl) ?_
          exact unhide hK' _ _ (unhide hQ _ _ ((Gr.refl _).alloc _) (⟨_, rfl, Nat.le_trans hGx.size hgx.size, blk_new _ _⟩))
        intro b1_7 q1_7 x1_7 hg hTq hall
        replace hGx := hGx.trans hg
        first | replace hb3 := hide (hg.blk (unhide hb3)) | skip
        clear hall
        refine wpOp_step (o := _) rfl (fun K_ hQ => ?_)
        replace hQ := hide hQ
        refine step_callw (by kernel_rfl) 9 #[.int .u64 r1, .agg (kc SJ), .slice (some ⟨gb, 0, none⟩) LL cap] (by kernel_rfl) ((npeel_yes r1 hr1 SJ ⟨hkl, unhide hkb⟩ UU (unhide hUk) (unhide hnl) PP (unhide hPPb) (some ⟨gb, 0, none⟩) LL cap hLk _ ((unhide hF).gr ((unhide hBw).more hGx).gr) (by have := (unhide lv).gr ((unhide hdw).trans hGx); rwa [unhide hCC] at this)).mono ?_)
        rintro r x1 ⟨g3, rfl, hg3, hb3, hg⟩
        refine ⟨_, rfl, ?_⟩
        replace hTq := fun e => NKe.gr (hTq e) hg
        have hz3 := Nat.le_trans hGx.size hg3
        replace hGx := hGx.trans hg
        rw [← unhide hA]
        replace hb3 := hide hb3
        clear hg hg3
        refine unhide hQ _ _ ⟨((unhide hBw).more hGx), ?_⟩
        clear hQ K_
        simp only [nrm]
        refine any_take (i := 8) (v := (.tuple #[.slice (some ⟨g3, 0, none⟩) PP.length PP.length, .agg (kc A), .int .i64 0])) #[true, true, true, true, true, true, true, true, false, false, false, false, false, false, false, false] rfl (by kernel_rfl) (by kernel_rfl) (by kernel_rfl) (by kernel_rfl) (fun _ _ _ h => h) (.inl ⟨by kernel_rfl, fun x_ hu => by kernel_rfl⟩) ((unhide hBw).more hGx) ?_
        simp only [nrm]
        refine any_take (i := 9) (v := (.slice (some ⟨g3, 0, none⟩) PP.length PP.length)) #[true, true, true, true, true, true, true, true, true, false, false, false, false, false, false, false] rfl (by kernel_rfl) (by kernel_rfl) (by kernel_rfl) (by kernel_rfl) (fun _ _ _ h => h) (.inl ⟨by kernel_rfl, fun x_ hu => by kernel_rfl⟩) ((unhide hBw).more hGx) ?_
        simp only [nrm]
        refine any_take (i := 10) (v := (.agg (kc A))) #[true, true, true, true, true, true, true, true, true, true, false, false, false, false, false, false] rfl (by kernel_rfl) (by kernel_rfl) (by kernel_rfl) (by kernel_rfl) (fun _ _ _ h => h) (.inl ⟨by kernel_rfl, fun x_ hu => by kernel_rfl⟩) ((unhide hBw).more hGx) ?_
        simp only [nrm]
        refine any_take (i := 11) (v := (.int .i64 0)) #[true, true, true, true, true, true, true, true, true, true, true, false, false, false, false, false] rfl (by kernel_rfl) (by kernel_rfl) (by kernel_rfl) (by kernel_rfl) (fun _ _ _ h => h) (.inl ⟨by kernel_rfl, fun x_ hu => by kernel_rfl⟩) ((unhide hBw).more hGx) ?_
        simp only [nrm]
        refine float_again (fun q u => NKe x0.heap.size u q) 13 (fun b_ => #[true, true, true, true, true, true, true, true, true, true, true, true, b_, false, false, false]) 12 13 true (b := b1_7) (q := q1_7) rfl rfl hTq (fun _ g_ => (unhide hBw).more (hGx.trans g_)) (by kernel_rfl) (fun b_ => by cases b_ <;> rfl) ?_ ?_
        all_goals simp only [fw1, Act.put, List.setIfInBounds_toArray, List.set_cons_zero, List.set_cons_succ, List.getElem_toArray, List.getElem_cons_zero, List.getElem_cons_succ]
        · intro q_ x_ hgx K hQ
          refine wpOp_step (o := _) rfl (fun K' hK' => ?_)
          replace hK' := hide hK'
          replace hQ := hide hQ
          refine step_val (.pointer (some ⟨x_.heap.size, 0, none⟩)) (x_.alloc (.cells (kc ZK) 34 (0, 0))) (by kernel_rfl) (by kernel_rfl) ?_
          exact unhide hK' _ _ (unhide hQ _ _ ((Gr.refl _).alloc _) (⟨_, rfl, Nat.le_trans hGx.size hgx.size, blk_new _ _⟩))
        clear hTq
        intro b1_13 q1_13 x1_13 hg hTq hall
        replace hGx := hGx.trans hg
        first | replace hb3 := hide (hg.blk (unhide hb3)) | skip
        obtain rfl : b1_13 = true := hall (by trivial)
        replace hTq := hTq rfl
        clear hall
        obtain ⟨gx, rfl, hgx1, hgb⟩ := hTq
        refine wpOp_step (o := _) rfl (fun K_ hQ => ?_)
        replace hQ := hide hQ
        go_simp
        refine unhide hQ _ _ ⟨((unhide hBw).more hGx), ?_⟩
        clear hQ K_
        refine any_one (i := 14) (by kernel_rfl) rfl (fun K_ hQ => ?_)
        refine step_storew 34 (.tmp 13) (.tmp 60) gx (kc A) 34 (kc ZK) (by kernel_rfl) rfl (by kernel_rfl) (by kernel_rfl) hgb (by rw [Tryd.infoKey, kc_size, hAl]) (by rw [kc_size, kc_size, hAl]; rfl) (kc_one _) ?_
        have hD := ((Bl.nil x0).more hGx).add ⟨gx, kc ZK, 34⟩ hgb hgx1 (fun y hy => by cases hy)
        rw [List.nil_append] at hD
        replace hD := hD.add ⟨g3, kc PP, 5⟩ (unhide hb3) hz3 (fun y hy => by
          rw [List.mem_singleton.1 hy]
          exact blk_ne hgb (unhide hb3) (show (34 : TypeId) ≠ 5 by decide))
        replace hD := hD.set 0 (x := ⟨gx, kc ZK, 34⟩) rfl (kc A)
        simp only [List.cons_append, List.nil_append, List.set_cons_zero, List.set_cons_succ] at hD
        clear hgb hb3 hGx
        generalize World.setRow _ _ _ = y1 at *
        refine hQ.out _ _ ((unhide hBw).more hD.gr) (fun _ => ?_)
        clear hQ K_
        simp only [nrm]
        refine any_one (i := 15) (by kernel_rfl) rfl (fun K_ hQ => ?_)
        replace hQ := hide hQ
        go_simp
        refine (unhide hQ).out _ _ ((unhide hBw).more hD.gr) (fun _ => ?_)
        clear hQ K_
        refine any_done (by kernel_rfl) ?_
        have hx0 : u3.heap.size ≤ x0.heap.size := (unhide hdw).size
        have hE := (unhide hBw).more hD.gr
        have hq3 := hD.get 1 (x := ⟨g3, kc PP, 5⟩) rfl
        have hqx := hD.get 0 (x := ⟨gx, kc A, 34⟩) rfl
        replace hE := hE.add ⟨gb, cur, 5⟩ (((unhide hdw).trans hD.gr).blk (unhide hcur)) (show w.heap.size ≤ gb by have h1 := unhide hgb; have h2 := unhide hgb2; omega) (fun t ht => by rw [List.mem_singleton.1 ht]; show w.heap.size ≠ gb; have h1 := unhide hgb; have h2 := unhide hgb2; omega)
        simp only [List.cons_append, List.nil_append] at hE
        replace hE := hE.add ⟨g3, kc PP, 5⟩ hq3 (show w.heap.size ≤ g3 by have h1 := unhide hgb; have h2 := unhide hgb2; have h4 := unhide hlt3; omega) (fun t ht => by
          have h1 := unhide hgb; have h2 := unhide hgb2; have h4 := unhide hlt3
          simp only [List.mem_cons, List.not_mem_nil, or_false] at ht
          rcases ht with rfl | rfl <;> dsimp only <;> omega)
        simp only [List.cons_append, List.nil_append] at hE
        replace hE := hE.add ⟨gx, kc A, 34⟩ hqx (show w.heap.size ≤ gx by have h1 := unhide hgb; have h2 := unhide hgb2; have h4 := unhide hlt3; omega) (fun t ht => by
          have h1 := unhide hgb; have h2 := unhide hgb2; have h4 := unhide hlt3
          simp only [List.mem_cons, List.not_mem_nil, or_false] at ht
          rcases ht with rfl | rfl | rfl
          · dsimp only; omega
          · dsimp only; omega
          · exact (blk_ne hqx hq3 (show (34 : TypeId) ≠ 5 by decide)).symm)
        simp only [List.cons_append, List.nil_append] at hE
        replace hE : Bl w [⟨w.heap.size, roadv r1 a1 n1 c1 b1 m1 d1 p1 i1 e1 q1 k1 l1, 26⟩, ⟨gb, cur, 5⟩, ⟨g3, kc PP, 5⟩, ⟨gx, kc A, 34⟩] y1 := hE
        replace lv := hide ((unhide lv).gr ((unhide hdw).trans hD.gr))
        clear hq3 hqx hD hBw hdw hcur hz3 hgx1 hx0
        have hLp : 0 < LL := by have := unhide hLs; omega
        obtain ⟨k, hk⟩ : ∃ k, k = zn % LL := ⟨_, rfl⟩
        have hkL : k < LL := by rw [hk]; exact Nat.mod_lt _ hLp
        replace hk := hide hk
        replace hE := hide hE
        go_upto_region 12 with fail
        refine wp_region_lit ?_
        refine list_val (.int .i64 z) (by kernel_rfl) (by kernel_rfl) ?_
        simp only [nrm]
        refine list_val (.int .i64 (zn : Int)) (by kernel_rfl) (exec_max0 _ (.tmp 62) rfl z zn (by kernel_rfl) (unhide hzn)) ?_
        simp only [nrm]
        refine list_val (.slice (some ⟨gb, 0, none⟩) LL cap) (by kernel_rfl) (by kernel_rfl) ?_
        simp only [nrm]
        refine list_val (.int .i64 (LL : Int)) (by kernel_rfl) (by kernel_rfl) ?_
        simp only [nrm]
        refine list_val (.int .i64 (k : Int)) (by kernel_rfl) (by rw [unhide hk]; exact exec_rem _ (.tmp 63) (.tmp 65) rfl zn LL (by kernel_rfl) (by kernel_rfl) hLp (by omega)) ?_
        simp only [nrm]
        (refine wpList_step fun K hK => ?_; replace hK := hide hK; go_simp; refine unhide hK _ _ ?_; clear hK K)
        refine wpList_nil ?_
        go_upto_region 13 with fail
        replace hE := unhide hE
        have hcell : y1.cell? ⟨gb, 0 + k, none⟩ = some (.int .u8 ((UU ++ CC).getD k 0)) := by
          rcases (unhide lv).sl with h | ⟨p9, q9, h8, h9⟩
          · have h7 := unhide hLl
            rw [h] at h7
            simp at h7
            omega
          · injection h8 with h8
            injection h8 with e1 e2
            subst e1 e2
            exact h9 k (by rw [unhide hLl]; exact hkL)
        obtain ⟨XO, hXO⟩ : ∃ x, x = (UU ++ CC).getD k 0 := ⟨_, rfl⟩
        rw [← hXO] at hcell
        obtain ⟨XB, hXB⟩ : ∃ x, x = xb XO y := ⟨_, rfl⟩
        have hXr : 0 ≤ XB ∧ XB < 256 := by rw [hXB]; exact xb_rng _ _
        replace hXO := hide hXO; replace hXB := hide hXB; replace hcell := hide hcell; replace hXr := hide hXr
        refine wp_region_lit ?_
        refine list_val (.slice (some ⟨gb, 0, none⟩) LL cap) (by kernel_rfl) (by kernel_rfl) ?_
        simp only [nrm]
        refine list_val (.int .i64 (k : Int)) (by kernel_rfl) (by kernel_rfl) ?_
        simp only [nrm]
        refine list_val (.pointer (some ⟨gb, 0 + k, none⟩)) (by kernel_rfl) (exec_at _ (.tmp 67) (.tmp 68) rfl gb 0 LL cap k (by kernel_rfl) (by kernel_rfl) hkL) ?_
        simp only [nrm]
        refine list_val (.int .u8 XO) (by kernel_rfl) (exec_u8 _ (.tmp 69) rfl gb (0 + k) (by kernel_rfl) XO (unhide hcell)) ?_
        simp only [nrm]
        refine list_val (.int .u8 y) (by kernel_rfl) (by kernel_rfl) ?_
        simp only [nrm]
        refine list_val (.int .u8 XB) (by kernel_rfl) (by rw [unhide hXB]; kernel_rfl) ?_
        simp only [nrm]
        refine list_val (.pointer (some ⟨gb, 0 + k, none⟩)) (by kernel_rfl) (exec_at _ (.tmp 67) (.tmp 68) rfl gb 0 LL cap k (by kernel_rfl) (by kernel_rfl) hkL) ?_
        simp only [nrm]
        refine wpList_step fun K_ hQ => ?_
        rw [if_pos (by kernel_rfl)]
        refine store_u8 (.tmp 73) (.tmp 72) rfl gb (0 + k) (by kernel_rfl) XB (by kernel_rfl) _ (unhide hcell) (froz_of (hE.get 1 (x := ⟨gb, cur, 5⟩) rfl)) ?_
        have hE2 := hE.cell 1 (x := ⟨gb, cur, 5⟩) rfl (0 + k) (.int .u8 XB)
        simp only [List.set_cons_zero, List.set_cons_succ] at hE2
        clear hE hcell
        generalize World.setCell _ _ _ = y2 at *
        have hE : Bl w [⟨w.heap.size, roadv r1 a1 n1 c1 b1 m1 d1 p1 i1 e1 q1 k1 l1, 26⟩, ⟨gb, (cur.setIfInBounds (0 + k) (.int .u8 XB)), 5⟩, ⟨g3, kc PP, 5⟩, ⟨gx, kc A, 34⟩] y2 := hE2
        clear hE2
        refine hQ _ _ ?_
        clear hQ K_
        simp only [nrm]
        refine wpList_nil ?_
        have hB : Bl w [⟨w.heap.size, roadv r1 a1 n1 c1 b1 m1 d1 p1 i1 e1 q1 k1 l1, 26⟩] y2 := Bl.left (M := [⟨gb, (cur.setIfInBounds (0 + k) (.int .u8 XB)), 5⟩, ⟨g3, kc PP, 5⟩, ⟨gx, kc A, 34⟩]) hE
        have hlv : Lb y2 (some ⟨gb, 0, none⟩) LL cap ((UU ++ CC).set k XB) := lb_cur (hE.get 1 (x := ⟨gb, (cur.setIfInBounds (0 + k) (.int .u8 XB)), 5⟩) rfl) (cur_set (unhide htk) (unhide hLl) hkL XB) (by rw [List.length_set]; exact unhide hLl) (isB_set (unhide hLb) k XB (unhide hXr)) (unhide hle) (unhide hcm)
        rw [set_app UU CC k XB (unhide hUk).1] at hlv
        obtain ⟨U2, hU2⟩ : ∃ U, U = (if k < 32 then UU.set k XB else UU) := ⟨_, rfl⟩
        obtain ⟨C2, hC2⟩ : ∃ U, U = (if k < 32 then CC else CC.set (k - 32) XB) := ⟨_, rfl⟩
        rw [← hU2, ← hC2] at hlv
        have hU2k : IsK U2 := by
          rw [hU2]
          split
          · exact ⟨by rw [List.length_set]; exact (unhide hUk).1, isB_set (unhide hUk).2 k XB (unhide hXr)⟩
          · exact unhide hUk
        have hC2l : C2.length = PP.length + 16 := by
          rw [hC2]
          split
          · exact unhide hCl
          · rw [List.length_set]; exact unhide hCl
        have hE3 := hide (hE.get 2 (x := ⟨g3, kc PP, 5⟩) rfl)
        have hEx := hide (hE.get 3 (x := ⟨gx, kc A, 34⟩) rfl)
        dsimp only at hE3 hEx
        clear hE lv htk hLl hLb
        have hyes : k = 31 → y = 128 → U2 = UU.set 31 (xb (UU.getD 31 0) 128) ∧ C2 = CC := by
          intro h1 h2
          subst h1
          have h3 : (UU ++ CC).getD 31 0 = UU.getD 31 0 := by
            have := (unhide hUk).1
            rw [List.getD_eq_getElem?_getD, List.getElem?_append_left (by omega), ← List.getD_eq_getElem?_getD]
          rw [hU2, hC2, if_pos (by omega), if_pos (by omega), unhide hXB, unhide hXO, h3, h2]
          exact ⟨rfl, rfl⟩
        have htop : k = 31 → y = 128 → agL SJ U2 = A ∧ NLow SJ U2 ∧ C2 = seO r1 (agL SJ U2) tO PP := by
          intro h1 h2
          obtain ⟨h3, h4⟩ := hyes h1 h2
          have h5 : 0 ≤ UU.getD 31 0 ∧ UU.getD 31 0 < 256 := by
            have h6 := (unhide hUk).1
            refine (unhide hUk).2 _ ?_
            rw [List.getD_eq_getElem?_getD, List.getElem?_eq_getElem (by omega)]
            exact List.getElem_mem _
          have h7 := agL_top SJ UU (xb (UU.getD 31 0) 128) (unhide hUk) (xb_rng _ _) (xb_top _ h5)
          rw [h3, h7.1, h4]
          exact ⟨(unhide hA).symm, h7.2 (unhide hnl), unhide hCC⟩
        have hfar : 32 ≤ k → U2 = UU ∧ C2 ≠ CC := by
          intro h1
          have h6 := (unhide hUk).1
          have h7 : (UU ++ CC).getD k 0 = CC.getD (k - 32) 0 := by
            rw [List.getD_eq_getElem?_getD, List.getElem?_append_right (by omega), h6, ← List.getD_eq_getElem?_getD]
          refine ⟨by rw [hU2, if_neg (by omega)], ?_⟩
          rw [hC2, if_neg (by omega), unhide hXB, unhide hXO, h7]
          exact set_ne (unhide hCb) (by have h8 := unhide hCl; have h9 := unhide hLs; omega) (unhide hy) hy0
        clear hyes hXO hXB hXr hC2 hU2
        replace hlv := hide hlv; replace hU2k := hide hU2k; replace hC2l := hide hC2l; replace htop := hide htop; replace hfar := hide hfar
        replace hB := hide hB
        by_cases hop : ∃ P2, IsB P2 ∧ NLow SJ U2 ∧ C2 = seO r1 (agL SJ U2) tO P2
        · skip
          obtain ⟨P2, hP2b, hnl2, hop2⟩ := hop
          rw [hop2] at hlv
          obtain ⟨A2, hA2⟩ : ∃ A, A = agL SJ U2 := ⟨_, rfl⟩
          have hA2l : A2.length = 32 := by rw [hA2]; exact (agL_isK _ _).1
          have hP2l : P2.length = PP.length := by
            have h1 := unhide hC2l
            rw [hop2, seO_len] at h1
            omega
          replace hP2b := hide hP2b; replace hnl2 := hide hnl2; replace hop2 := hide hop2; replace hA2 := hide hA2; replace hP2l := hide hP2l
          go_upto_region 14 with fail
          replace hB := unhide hB
          refine any_start (S := fun (v : World) => Bl w [⟨w.heap.size, roadv r1 a1 n1 c1 b1 m1 d1 p1 i1 e1 q1 k1 l1, 26⟩] v) (by kernel_rfl) ?_
          have hdw := hide ((Gr.refl y2).drew)
          replace hB := hB.drew
          generalize World.drew _ = x2 at *
          have hBw : Hid (Bl w [⟨w.heap.size, roadv r1 a1 n1 c1 b1 m1 d1 p1 i1 e1 q1 k1 l1, 26⟩] x2) := hB
          clear hB
          have hGx := Gr.refl x2
          simp only [List.size_toArray, List.length_cons, List.length_nil, Array.replicate, List.replicate]
          refine any_take (i := 0) (v := (.pointer (some ⟨w.heap.size, 0, none⟩))) #[false, false, false, false, false, false, false, false, false, false, false, false, false, false, false, false] rfl (by kernel_rfl) (by kernel_rfl) (by kernel_rfl) (by kernel_rfl) (fun _ _ _ h => h) (.inl ⟨by kernel_rfl, fun x_ hu => by kernel_rfl⟩) ((unhide hBw).more hGx) ?_
          simp only [nrm]
          refine any_take (i := 1) (v := (.int .u64 r1)) #[true, false, false, false, false, false, false, false, false, false, false, false, false, false, false, false] rfl (by kernel_rfl) (by kernel_rfl) (by kernel_rfl) (by kernel_rfl) (fun _ _ _ h => h) (.inl ⟨by kernel_rfl, fun x_ hu => exec_u64 _ (.tmp 75) rfl (w.heap.size) 0 (by kernel_rfl) r1 (cell_of (hu.get 0 (x := ⟨w.heap.size, roadv r1 a1 n1 c1 b1 m1 d1 p1 i1 e1 q1 k1 l1, 26⟩) rfl) (i := 0) rfl)⟩) ((unhide hBw).more hGx) ?_
          simp only [nrm]
          refine any_take (i := 2) (v := (.pointer (some ⟨w.heap.size, 1, none⟩))) #[true, true, false, false, false, false, false, false, false, false, false, false, false, false, false, false] rfl (by kernel_rfl) (by kernel_rfl) (by kernel_rfl) (by kernel_rfl) (fun _ _ _ h => h) (.inl ⟨by kernel_rfl, fun x_ hu => by kernel_rfl⟩) ((unhide hBw).more hGx) ?_
          simp only [nrm]
          refine any_take (i := 3) (v := (.slice a1 n1 c1)) #[true, true, true, false, false, false, false, false, false, false, false, false, false, false, false, false] rfl (by kernel_rfl) (by kernel_rfl) (by kernel_rfl) (by kernel_rfl) (fun _ _ _ h => h) (.inl ⟨by kernel_rfl, fun x_ hu => exec_ks _ (.tmp 77) rfl (w.heap.size) 1 (by kernel_rfl) a1 n1 c1 (cell_of (hu.get 0 (x := ⟨w.heap.size, roadv r1 a1 n1 c1 b1 m1 d1 p1 i1 e1 q1 k1 l1, 26⟩) rfl) (i := 1) rfl)⟩) ((unhide hBw).more hGx) ?_
          simp only [nrm]
          refine any_take (i := 4) (v := (.pointer (some ⟨p0, q0 + 32 * 0, none⟩))) #[true, true, true, true, false, false, false, false, false, false, false, false, false, false, false, false] rfl (by kernel_rfl) (by kernel_rfl) (by kernel_rfl) (by kernel_rfl) (fun _ _ _ h => h) (.inl ⟨by kernel_rfl, fun x_ hu => exec_iks _ (.tmp 78) (.const (.int .i64 0)) rfl p0 q0 n1 c1 0 (by rw [← unhide ea]; kernel_rfl) (by kernel_rfl) (by omega)⟩) ((unhide hBw).more hGx) ?_
          simp only [nrm]
          refine any_take (i := 5) (v := (.agg (kc SJ))) #[true, true, true, true, true, false, false, false, false, false, false, false, false, false, false, false] rfl (by kernel_rfl) (by kernel_rfl) (by kernel_rfl) (by kernel_rfl) (fun _ _ _ h => h) (.inl ⟨by kernel_rfl, fun x_ hu => exec_kr _ (.tmp 79) rfl p0 (q0 + 32 * 0) (by kernel_rfl) SJ hkl (rg_gr (unhide hrg) hu.gr)⟩) ((unhide hBw).more hGx) ?_
          simp only [nrm]
          refine any_take (i := 6) (v := (.slice (some ⟨gb, 0, none⟩) LL cap)) #[true, true, true, true, true, true, false, false, false, false, false, false, false, false, false, false] rfl (by kernel_rfl) (by kernel_rfl) (by kernel_rfl) (by kernel_rfl) (fun _ _ _ h => h) (.inl ⟨by kernel_rfl, fun x_ hu => by kernel_rfl⟩) ((unhide hBw).more hGx) ?_
          simp only [nrm]
          refine float_first (fun q u => NKe x2.heap.size u q) 17 (fun b_ => #[true, true, true, true, true, true, true, false, false, false, false, false, b_, false, false, false]) 12 7 false rfl rfl (fun _ g_ => (unhide hBw).more (hGx.trans g_)) (by kernel_rfl) (fun b_ => by cases b_ <;> rfl) ?_ ?_
          all_goals simp only [fw1, Act.put, List.setIfInBounds_toArray, List.set_cons_zero, List.set_cons_succ, List.getElem_toArray, List.getElem_cons_zero, List.getElem_cons_succ]
          · intro q_ x_ hgx K hQ
            refine wpOp_step (o := _) rfl (fun K' hK' => ?_)
            replace hK' := hide hK'
            replace hQ := hide hQ
            refine step_val (.pointer (some ⟨x_.heap.size, 0, none⟩)) (x_.alloc (.cells (kc ZK) 34 (0, 0))) (by kernel_rfl) (by kernel_rfl) ?_
            exact unhide hK' _ _ (unhide hQ _ _ ((Gr.refl _).alloc _) (⟨_, rfl, Nat.le_trans hGx.size hgx.size, blk_new _ _⟩))
          intro b1_7 q1_7 x1_7 hg hTq hall
          replace hGx := hGx.trans hg
          first | replace hb3 := hide (hg.blk (unhide hb3)) | skip
          clear hall
          refine wpOp_step (o := _) rfl (fun K_ hQ => ?_)
          replace hQ := hide hQ
          refine step_callw (by kernel_rfl) 9 #[.int .u64 r1, .agg (kc SJ), .slice (some ⟨gb, 0, none⟩) LL cap] (by kernel_rfl) ((npeel_yes r1 hr1 SJ ⟨hkl, unhide hkb⟩ U2 (unhide hU2k) (unhide hnl2) P2 (unhide hP2b) (some ⟨gb, 0, none⟩) LL cap hLk _ ((unhide hF).gr ((unhide hBw).more hGx).gr) ((unhide hlv).gr ((unhide hdw).trans hGx))).mono ?_)
          rintro r x3 ⟨g4, rfl, hg3, hb3, hg⟩
          refine ⟨_, rfl, ?_⟩
          replace hTq := fun e => NKe.gr (hTq e) hg
          have hz3 := Nat.le_trans hGx.size hg3
          replace hGx := hGx.trans hg
          rw [← unhide hA2]
          replace hb3 := hide hb3
          clear hg hg3
          refine unhide hQ _ _ ⟨((unhide hBw).more hGx), ?_⟩
          clear hQ K_
          simp only [nrm]
          refine any_take (i := 8) (v := (.tuple #[.slice (some ⟨g4, 0, none⟩) P2.length P2.length, .agg (kc A2), .int .i64 0])) #[true, true, true, true, true, true, true, true, false, false, false, false, false, false, false, false] rfl (by kernel_rfl) (by kernel_rfl) (by kernel_rfl) (by kernel_rfl) (fun _ _ _ h => h) (.inl ⟨by kernel_rfl, fun x_ hu => by kernel_rfl⟩) ((unhide hBw).more hGx) ?_
          simp only [nrm]
          refine any_take (i := 9) (v := (.slice (some ⟨g4, 0, none⟩) P2.length P2.length)) #[true, true, true, true, true, true, true, true, true, false, false, false, false, false, false, false] rfl (by kernel_rfl) (by kernel_rfl) (by kernel_rfl) (by kernel_rfl) (fun _ _ _ h => h) (.inl ⟨by kernel_rfl, fun x_ hu => by kernel_rfl⟩) ((unhide hBw).more hGx) ?_
          simp only [nrm]
          refine any_take (i := 10) (v := (.agg (kc A2))) #[true, true, true, true, true, true, true, true, true, true, false, false, false, false, false, false] rfl (by kernel_rfl) (by kernel_rfl) (by kernel_rfl) (by kernel_rfl) (fun _ _ _ h => h) (.inl ⟨by kernel_rfl, fun x_ hu => by kernel_rfl⟩) ((unhide hBw).more hGx) ?_
          simp only [nrm]
          refine any_take (i := 11) (v := (.int .i64 0)) #[true, true, true, true, true, true, true, true, true, true, true, false, false, false, false, false] rfl (by kernel_rfl) (by kernel_rfl) (by kernel_rfl) (by kernel_rfl) (fun _ _ _ h => h) (.inl ⟨by kernel_rfl, fun x_ hu => by kernel_rfl⟩) ((unhide hBw).more hGx) ?_
          simp only [nrm]
          refine float_again (fun q u => NKe x2.heap.size u q) 17 (fun b_ => #[true, true, true, true, true, true, true, true, true, true, true, true, b_, false, false, false]) 12 13 true (b := b1_7) (q := q1_7) rfl rfl hTq (fun _ g_ => (unhide hBw).more (hGx.trans g_)) (by kernel_rfl) (fun b_ => by cases b_ <;> rfl) ?_ ?_
          all_goals simp only [fw1, Act.put, List.setIfInBounds_toArray, List.set_cons_zero, List.set_cons_succ, List.getElem_toArray, List.getElem_cons_zero, List.getElem_cons_succ]
          · intro q_ x_ hgx K hQ
            refine wpOp_step (o := _) rfl (fun K' hK' => ?_)
            replace hK' := hide hK'
            replace hQ := hide hQ
            refine step_val (.pointer (some ⟨x_.heap.size, 0, none⟩)) (x_.alloc (.cells (kc ZK) 34 (0, 0))) (by kernel_rfl) (by kernel_rfl) ?_
            exact unhide hK' _ _ (unhide hQ _ _ ((Gr.refl _).alloc _) (⟨_, rfl, Nat.le_trans hGx.size hgx.size, blk_new _ _⟩))
          clear hTq
          intro b1_13 q1_13 x1_13 hg hTq hall
          replace hGx := hGx.trans hg
          first | replace hb3 := hide (hg.blk (unhide hb3)) | skip
          obtain rfl : b1_13 = true := hall (by trivial)
          replace hTq := hTq rfl
          clear hall
          obtain ⟨gy, rfl, hgx1, hgb⟩ := hTq
          refine wpOp_step (o := _) rfl (fun K_ hQ => ?_)
          replace hQ := hide hQ
          go_simp
          refine unhide hQ _ _ ⟨((unhide hBw).more hGx), ?_⟩
          clear hQ K_
          refine any_one (i := 14) (by kernel_rfl) rfl (fun K_ hQ => ?_)
          refine step_storew 34 (.tmp 17) (.tmp 84) gy (kc A2) 34 (kc ZK) (by kernel_rfl) rfl (by kernel_rfl) (by kernel_rfl) hgb (by rw [Tryd.infoKey, kc_size, hA2l]) (by rw [kc_size, kc_size, hA2l]; rfl) (kc_one _) ?_
          have hD := ((Bl.nil x2).more hGx).add ⟨gy, kc ZK, 34⟩ hgb hgx1 (fun y hy => by cases hy)
          rw [List.nil_append] at hD
          replace hD := hD.add ⟨g4, kc P2, 5⟩ (unhide hb3) hz3 (fun y hy => by
            rw [List.mem_singleton.1 hy]
            exact blk_ne hgb (unhide hb3) (show (34 : TypeId) ≠ 5 by decide))
          replace hD := hD.set 0 (x := ⟨gy, kc ZK, 34⟩) rfl (kc A2)
          simp only [List.cons_append, List.nil_append, List.set_cons_zero, List.set_cons_succ] at hD
          clear hgb hb3 hGx
          generalize World.setRow _ _ _ = y3 at *
          refine hQ.out _ _ ((unhide hBw).more hD.gr) (fun _ => ?_)
          clear hQ K_
          simp only [nrm]
          refine any_one (i := 15) (by kernel_rfl) rfl (fun K_ hQ => ?_)
          replace hQ := hide hQ
          go_simp
          refine (unhide hQ).out _ _ ((unhide hBw).more hD.gr) (fun _ => ?_)
          clear hQ K_
          refine any_done (by kernel_rfl) ?_
          have hq4 := hD.get 1 (x := ⟨g4, kc P2, 5⟩) rfl
          have hqy := hide (hD.get 0 (x := ⟨gy, kc A2, 34⟩) rfl)
          replace hE3 := ((unhide hdw).trans hD.gr).blk (unhide hE3)
          replace hEx := hide (((unhide hdw).trans hD.gr).blk (unhide hEx))
          have hB := (unhide hBw).more hD.gr
          have hPPs : PP.length < 9223372036854775808 := by have := unhide hLs; omega
          have l4 := kc_lb hq4 (unhide hP2l) (unhide hP2b) hPPs
          have l3 := kc_lb hE3 rfl (unhide hPPb) hPPs
          have hPPn : PP.length ≤ 281474976710656 := by have := unhide hLs; omega
          rw [unhide hP2l]
          dsimp only at hqy
          clear hq4 hE3 hD hBw hdw hz3 hgx1
          replace l4 := hide l4; replace l3 := hide l3
          obtain ⟨np, hnp⟩ : ∃ n, n = PP.length := ⟨_, rfl⟩
          rw [← hnp] at l3 l4 hPPn ⊢
          replace hnp := hide hnp
          have hZ : Hid (T (.returned (.bool true)) y3) := by
            rw [unhide hT]
            exact ⟨rfl, hB.gr⟩
          clear hB
          go_upto_region 15 with fail
          refine wp_region_lit ?_
          refine list_val (.int .i64 0) (by kernel_rfl) (by kernel_rfl) ?_
          simp only [nrm]
          refine list_val (.bool false) (by kernel_rfl) (by kernel_rfl) ?_
          simp only [nrm]
          refine wpList_nil ?_
          go_upto_region 17 with fail
          by_cases hk32 : 32 ≤ k
          · skip
            have hkI : Hid ((32 : Int) ≤ (k : Int)) := by show (32 : Int) ≤ (k : Int); omega
            replace hk32 := hide hk32
            have hne : decide (P2 = PP) = false := by
              have h1 := unhide hfar (unhide hk32)
              refine decide_eq_false (fun e => h1.2 ?_)
              rw [unhide hop2, h1.1, e, unhide hCC]
            replace hne := hide hne
            refine wp_region_lit ?_
            refine list_val (.int .i64 0) (by kernel_rfl) (by kernel_rfl) ?_
            simp only [nrm]
            refine list_val (.bool true) (by kernel_rfl) (by kernel_rfl) ?_
            simp only [nrm]
            refine list_val (.bool true) (by kernel_rfl) (by kernel_rfl) ?_
            simp only [nrm]
            refine list_val (.int .i64 (k : Int)) (by kernel_rfl) (by kernel_rfl) ?_
            simp only [nrm]
            refine list_val (.bool true) (by kernel_rfl) (by have h9_ := unhide hkI; go_simp) ?_
            simp only [nrm]
            refine list_val (.bool true) (by kernel_rfl) (by kernel_rfl) ?_
            simp only [nrm]
            refine wpList_nil ?_
            go_upto_region 18 with fail
            refine wp_region_lit ?_
            refine list_val (.slice (some ⟨g4, 0, none⟩) np np) (by kernel_rfl) (by kernel_rfl) ?_
            simp only [nrm]
            refine list_val (.slice (some ⟨g3, 0, none⟩) np np) (by kernel_rfl) (by kernel_rfl) ?_
            simp only [nrm]
            refine list_call 12 #[.slice (some ⟨g4, 0, none⟩) np np, .slice (some ⟨g3, 0, none⟩) np np] (by kernel_rfl) (by kernel_rfl) ((oequal_ok P2 PP (some ⟨g4, 0, none⟩) (some ⟨g3, 0, none⟩) np np np hPPn y3 (unhide l4) (unhide l3)).mono ?_)
            rintro r_ wq ⟨rfl, hwq⟩
            rw [hwq, unhide hne]
            clear hwq
            refine ⟨_, rfl, ?_⟩
            simp only [nrm]
            refine list_val (.bool true) (by kernel_rfl) (by kernel_rfl) ?_
            simp only [nrm]
            refine list_val (.bool true) (by kernel_rfl) (by kernel_rfl) ?_
            simp only [nrm]
            refine list_off (by kernel_rfl) ?_
            simp only [nrm]
            refine list_off (by kernel_rfl) ?_
            simp only [nrm]
            refine list_off (by kernel_rfl) ?_
            simp only [nrm]
            refine list_val (.bool true) (by kernel_rfl) (by kernel_rfl) ?_
            simp only [nrm]
            (refine wpList_step fun K hK => ?_; replace hK := hide hK; go_simp; refine unhide hK _ _ ?_; clear hK K)
            refine wpList_nil ?_
            go_wp2_with fail
            exact unhide hZ
          · skip
            have hkI : Hid (¬ (32 : Int) ≤ (k : Int)) := by show ¬ (32 : Int) ≤ (k : Int); omega
            replace hk32 := hide hk32
            refine wp_region_lit ?_
            refine list_val (.int .i64 0) (by kernel_rfl) (by kernel_rfl) ?_
            simp only [nrm]
            refine list_val (.bool true) (by kernel_rfl) (by kernel_rfl) ?_
            simp only [nrm]
            refine list_val (.bool true) (by kernel_rfl) (by kernel_rfl) ?_
            simp only [nrm]
            refine list_val (.int .i64 (k : Int)) (by kernel_rfl) (by kernel_rfl) ?_
            simp only [nrm]
            refine list_val (.bool false) (by kernel_rfl) (by have h9_ := unhide hkI; go_simp) ?_
            simp only [nrm]
            refine list_val (.bool false) (by kernel_rfl) (by kernel_rfl) ?_
            simp only [nrm]
            refine wpList_nil ?_
            go_upto_region 19 with fail
            by_cases hk31 : k = 31
            · skip
              have hk31I : Hid ((k : Int) = 31) := by show (k : Int) = 31; omega
              replace hk31 := hide hk31
              by_cases hy128 : y = 128
              all_goals replace hy128 := hide hy128
              · skip
                refine wp_region_lit ?_
                refine list_val (.int .i64 (k : Int)) (by kernel_rfl) (by kernel_rfl) ?_
                simp only [nrm]
                refine list_val (.bool true) (by kernel_rfl) (by have h9_ := unhide hk31I; go_simp) ?_
                simp only [nrm]
                refine list_val (.bool true) (by kernel_rfl) (by kernel_rfl) ?_
                simp only [nrm]
                refine list_val (.int .u8 y) (by kernel_rfl) (by kernel_rfl) ?_
                simp only [nrm]
                refine list_val (.bool true) (by kernel_rfl) (by have h9_ := unhide hy128; go_simp) ?_
                simp only [nrm]
                refine list_val (.bool true) (by kernel_rfl) (by kernel_rfl) ?_
                simp only [nrm]
                refine wpList_nil ?_
                have h9 := unhide htop (unhide hk31) (unhide hy128)
                have h8 : P2 = PP := by
                  have h7 := h9.2.2
                  rw [unhide hop2] at h7
                  exact seO_inj (unhide hP2b) (unhide hPPb) (unhide hP2l) h7
                have h6 : decide (P2 = PP) = true := decide_eq_true h8
                have h5 : A2 = A := by rw [unhide hA2]; exact h9.1
                clear h9 h8
                replace h5 := hide h5; replace h6 := hide h6
                go_upto_region 20 with fail
                refine wp_region_lit ?_
                refine list_val (.int .i64 0) (by kernel_rfl) (by kernel_rfl) ?_
                simp only [nrm]
                refine list_val (.bool true) (by kernel_rfl) (by kernel_rfl) ?_
                simp only [nrm]
                refine list_val (.bool true) (by kernel_rfl) (by kernel_rfl) ?_
                simp only [nrm]
                refine list_val (.slice (some ⟨g4, 0, none⟩) np np) (by kernel_rfl) (by kernel_rfl) ?_
                simp only [nrm]
                refine list_val (.slice (some ⟨g3, 0, none⟩) np np) (by kernel_rfl) (by kernel_rfl) ?_
                simp only [nrm]
                refine list_call 12 #[.slice (some ⟨g4, 0, none⟩) np np, .slice (some ⟨g3, 0, none⟩) np np] (by kernel_rfl) (by kernel_rfl) ((oequal_ok P2 PP (some ⟨g4, 0, none⟩) (some ⟨g3, 0, none⟩) np np np hPPn y3 (unhide l4) (unhide l3)).mono ?_)
                rintro r_ wq ⟨rfl, hwq⟩
                rw [hwq, unhide h6]
                clear hwq
                refine ⟨_, rfl, ?_⟩
                simp only [nrm]
                refine list_val (.bool true) (by kernel_rfl) (by kernel_rfl) ?_
                simp only [nrm]
                refine list_val (.bool true) (by kernel_rfl) (by kernel_rfl) ?_
                simp only [nrm]
                refine list_val (.agg (kc A2)) (by kernel_rfl) (exec_arr _ 34 (.tmp 17) rfl (gy) (by kernel_rfl) (kc A2) 34 _ (unhide hqy) Tryd.underlying34 rfl (by rw [Tryd.infoKey, kc_size, hA2l])) ?_
                simp only [nrm]
                refine list_val (.agg (kc A)) (by kernel_rfl) (exec_arr _ 34 (.tmp 13) rfl (gx) (by kernel_rfl) (kc A) 34 _ (unhide hEx) Tryd.underlying34 rfl (by rw [Tryd.infoKey, kc_size, hAl])) ?_
                simp only [nrm]
                refine list_val (.bool true) (by kernel_rfl) (exec_eq_k _ (.tmp 117) (.tmp 118) rfl A2 A hA2l hAl (by kernel_rfl) (by kernel_rfl) (by kernel_rfl) true (decide_eq_true (unhide h5))) ?_
                simp only [nrm]
                refine list_val (.bool true) (by kernel_rfl) (by kernel_rfl) ?_
                simp only [nrm]
                (refine wpList_step fun K hK => ?_; replace hK := hide hK; go_simp; refine unhide hK _ _ ?_; clear hK K)
                refine wpList_nil ?_
                go_wp2_with fail
                exact unhide hZ
              · skip
                refine wp_region_lit ?_
                refine list_val (.int .i64 (k : Int)) (by kernel_rfl) (by kernel_rfl) ?_
                simp only [nrm]
                refine list_val (.bool true) (by kernel_rfl) (by have h9_ := unhide hk31I; go_simp) ?_
                simp only [nrm]
                refine list_val (.bool true) (by kernel_rfl) (by kernel_rfl) ?_
                simp only [nrm]
                refine list_val (.int .u8 y) (by kernel_rfl) (by kernel_rfl) ?_
                simp only [nrm]
                refine list_val (.bool false) (by kernel_rfl) (by have h9_ := unhide hy128; go_simp) ?_
                simp only [nrm]
                refine list_val (.bool false) (by kernel_rfl) (by kernel_rfl) ?_
                simp only [nrm]
                refine wpList_nil ?_
                go_wp2_with fail
                exact unhide hZ
            · skip
              have hk31I : Hid (¬ (k : Int) = 31) := by show ¬ (k : Int) = 31; omega
              replace hk31 := hide hk31
              refine wp_region_lit ?_
              refine list_val (.int .i64 (k : Int)) (by kernel_rfl) (by kernel_rfl) ?_
              simp only [nrm]
              refine list_val (.bool false) (by kernel_rfl) (by have h9_ := unhide hk31I; go_simp) ?_
              simp only [nrm]
              refine list_val (.bool false) (by kernel_rfl) (by kernel_rfl) ?_
              simp only [nrm]
              refine list_off (by kernel_rfl) ?_
              simp only [nrm]
              refine list_off (by kernel_rfl) ?_
              simp only [nrm]
              refine list_val (.bool false) (by kernel_rfl) (by kernel_rfl) ?_
              simp only [nrm]
              refine wpList_nil ?_
              go_wp2_with fail
              exact unhide hZ
        · skip
          replace hop := hide hop
          go_upto_region 14 with fail
          replace hB := unhide hB
          refine any_start (S := fun (v : World) => Bl w [⟨w.heap.size, roadv r1 a1 n1 c1 b1 m1 d1 p1 i1 e1 q1 k1 l1, 26⟩] v) (by kernel_rfl) ?_
          have hdw := hide ((Gr.refl y2).drew)
          replace hB := hB.drew
          generalize World.drew _ = x2 at *
          have hBw : Hid (Bl w [⟨w.heap.size, roadv r1 a1 n1 c1 b1 m1 d1 p1 i1 e1 q1 k1 l1, 26⟩] x2) := hB
          clear hB
          have hGx := Gr.refl x2
          simp only [List.size_toArray, List.length_cons, List.length_nil, Array.replicate, List.replicate]
          refine any_take (i := 0) (v := (.pointer (some ⟨w.heap.size, 0, none⟩))) #[false, false, false, false, false, false, false, false, false, false, false, false, false, false, false, false] rfl (by kernel_rfl) (by kernel_rfl) (by kernel_rfl) (by kernel_rfl) (fun _ _ _ h => h) (.inl ⟨by kernel_rfl, fun x_ hu => by kernel_rfl⟩) ((unhide hBw).more hGx) ?_
          simp only [nrm]
          refine any_take (i := 1) (v := (.int .u64 r1)) #[true, false, false, false, false, false, false, false, false, false, false, false, false, false, false, false] rfl (by kernel_rfl) (by kernel_rfl) (by kernel_rfl) (by kernel_rfl) (fun _ _ _ h => h) (.inl ⟨by kernel_rfl, fun x_ hu => exec_u64 _ (.tmp 75) rfl (w.heap.size) 0 (by kernel_rfl) r1 (cell_of (hu.get 0 (x := ⟨w.heap.size, roadv r1 a1 n1 c1 b1 m1 d1 p1 i1 e1 q1 k1 l1, 26⟩) rfl) (i := 0) rfl)⟩) ((unhide hBw).more hGx) ?_
          simp only [nrm]
          refine any_take (i := 2) (v := (.pointer (some ⟨w.heap.size, 1, none⟩))) #[true, true, false, false, false, false, false, false, false, false, false, false, false, false, false, false] rfl (by kernel_rfl) (by kernel_rfl) (by kernel_rfl) (by kernel_rfl) (fun _ _ _ h => h) (.inl ⟨by kernel_rfl, fun x_ hu => by kernel_rfl⟩) ((unhide hBw).more hGx) ?_
          simp only [nrm]
          refine any_take (i := 3) (v := (.slice a1 n1 c1)) #[true, true, true, false, false, false, false, false, false, false, false, false, false, false, false, false] rfl (by kernel_rfl) (by kernel_rfl) (by kernel_rfl) (by kernel_rfl) (fun _ _ _ h => h) (.inl ⟨by kernel_rfl, fun x_ hu => exec_ks _ (.tmp 77) rfl (w.heap.size) 1 (by kernel_rfl) a1 n1 c1 (cell_of (hu.get 0 (x := ⟨w.heap.size, roadv r1 a1 n1 c1 b1 m1 d1 p1 i1 e1 q1 k1 l1, 26⟩) rfl) (i := 1) rfl)⟩) ((unhide hBw).more hGx) ?_
          simp only [nrm]
          refine any_take (i := 4) (v := (.pointer (some ⟨p0, q0 + 32 * 0, none⟩))) #[true, true, true, true, false, false, false, false, false, false, false, false, false, false, false, false] rfl (by kernel_rfl) (by kernel_rfl) (by kernel_rfl) (by kernel_rfl) (fun _ _ _ h => h) (.inl ⟨by kernel_rfl, fun x_ hu => exec_iks _ (.tmp 78) (.const (.int .i64 0)) rfl p0 q0 n1 c1 0 (by rw [← unhide ea]; kernel_rfl) (by kernel_rfl) (by omega)⟩) ((unhide hBw).more hGx) ?_
          simp only [nrm]
          refine any_take (i := 5) (v := (.agg (kc SJ))) #[true, true, true, true, true, false, false, false, false, false, false, false, false, false, false, false] rfl (by kernel_rfl) (by kernel_rfl) (by kernel_rfl) (by kernel_rfl) (fun _ _ _ h => h) (.inl ⟨by kernel_rfl, fun x_ hu => exec_kr _ (.tmp 79) rfl p0 (q0 + 32 * 0) (by kernel_rfl) SJ hkl (rg_gr (unhide hrg) hu.gr)⟩) ((unhide hBw).more hGx) ?_
          simp only [nrm]
          refine any_take (i := 6) (v := (.slice (some ⟨gb, 0, none⟩) LL cap)) #[true, true, true, true, true, true, false, false, false, false, false, false, false, false, false, false] rfl (by kernel_rfl) (by kernel_rfl) (by kernel_rfl) (by kernel_rfl) (fun _ _ _ h => h) (.inl ⟨by kernel_rfl, fun x_ hu => by kernel_rfl⟩) ((unhide hBw).more hGx) ?_
          simp only [nrm]
          refine float_first (fun q u => NKe x2.heap.size u q) 17 (fun b_ => #[true, true, true, true, true, true, true, false, false, false, false, false, b_, false, false, false]) 12 7 false rfl rfl (fun _ g_ => (unhide hBw).more (hGx.trans g_)) (by kernel_rfl) (fun b_ => by cases b_ <;> rfl) ?_ ?_
          all_goals simp only [fw1, Act.put, List.setIfInBounds_toArray, List.set_cons_zero, List.set_cons_succ, List.getElem_toArray, List.getElem_cons_zero, List.getElem_cons_succ]
          · intro q_ x_ hgx K hQ
            refine wpOp_step (o := _) rfl (fun K' hK' => ?_)
            replace hK' := hide hK'
            replace hQ := hide hQ
            refine step_val (.pointer (some ⟨x_.heap.size, 0, none⟩)) (x_.alloc (.cells (kc ZK) 34 (0, 0))) (by kernel_rfl) (by kernel_rfl) ?_
            exact unhide hK' _ _ (unhide hQ _ _ ((Gr.refl _).alloc _) (⟨_, rfl, Nat.le_trans hGx.size hgx.size, blk_new _ _⟩))
          intro b1_7 q1_7 x1_7 hg hTq hall
          replace hGx := hGx.trans hg
          clear hall
          refine wpOp_step (o := _) rfl (fun K_ hQ => ?_)
          replace hQ := hide hQ
          refine step_callw (by kernel_rfl) 9 #[.int .u64 r1, .agg (kc SJ), .slice (some ⟨gb, 0, none⟩) LL cap] (by kernel_rfl) ((npeel_no r1 hr1 SJ ⟨hkl, unhide hkb⟩ U2 (unhide hU2k) C2 (by rw [unhide hC2l]; omega) (unhide hop) (some ⟨gb, 0, none⟩) LL cap hLk _ ((unhide hF).gr ((unhide hBw).more hGx).gr) ((unhide hlv).gr ((unhide hdw).trans hGx))).mono ?_)
          rintro r x3 ⟨ev, hev, rfl, hg⟩
          refine ⟨_, rfl, ?_⟩
          replace hTq := fun e => NKe.gr (hTq e) hg
          replace hGx := hGx.trans hg
          clear hg
          refine unhide hQ _ _ ⟨((unhide hBw).more hGx), ?_⟩
          clear hQ K_
          simp only [nrm]
          refine any_take (i := 8) (v := (.tuple #[.slice none 0 0, .agg (kc ZK), .int .i64 ev])) #[true, true, true, true, true, true, true, true, false, false, false, false, false, false, false, false] rfl (by kernel_rfl) (by kernel_rfl) (by kernel_rfl) (by kernel_rfl) (fun _ _ _ h => h) (.inl ⟨by kernel_rfl, fun x_ hu => by kernel_rfl⟩) ((unhide hBw).more hGx) ?_
          simp only [nrm]
          refine any_take (i := 9) (v := (.slice none 0 0)) #[true, true, true, true, true, true, true, true, true, false, false, false, false, false, false, false] rfl (by kernel_rfl) (by kernel_rfl) (by kernel_rfl) (by kernel_rfl) (fun _ _ _ h => h) (.inl ⟨by kernel_rfl, fun x_ hu => by kernel_rfl⟩) ((unhide hBw).more hGx) ?_
          simp only [nrm]
          refine any_take (i := 10) (v := (.agg (kc ZK))) #[true, true, true, true, true, true, true, true, true, true, false, false, false, false, false, false] rfl (by kernel_rfl) (by kernel_rfl) (by kernel_rfl) (by kernel_rfl) (fun _ _ _ h => h) (.inl ⟨by kernel_rfl, fun x_ hu => by kernel_rfl⟩) ((unhide hBw).more hGx) ?_
          simp only [nrm]
          refine any_take (i := 11) (v := (.int .i64 ev)) #[true, true, true, true, true, true, true, true, true, true, true, false, false, false, false, false] rfl (by kernel_rfl) (by kernel_rfl) (by kernel_rfl) (by kernel_rfl) (fun _ _ _ h => h) (.inl ⟨by kernel_rfl, fun x_ hu => by kernel_rfl⟩) ((unhide hBw).more hGx) ?_
          simp only [nrm]
          refine float_again (fun q u => NKe x2.heap.size u q) 17 (fun b_ => #[true, true, true, true, true, true, true, true, true, true, true, true, b_, false, false, false]) 12 13 true (b := b1_7) (q := q1_7) rfl rfl hTq (fun _ g_ => (unhide hBw).more (hGx.trans g_)) (by kernel_rfl) (fun b_ => by cases b_ <;> rfl) ?_ ?_
          all_goals simp only [fw1, Act.put, List.setIfInBounds_toArray, List.set_cons_zero, List.set_cons_succ, List.getElem_toArray, List.getElem_cons_zero, List.getElem_cons_succ]
          · intro q_ x_ hgx K hQ
            refine wpOp_step (o := _) rfl (fun K' hK' => ?_)
            replace hK' := hide hK'
            replace hQ := hide hQ
            refine step_val (.pointer (some ⟨x_.heap.size, 0, none⟩)) (x_.alloc (.cells (kc ZK) 34 (0, 0))) (by kernel_rfl) (by kernel_rfl) ?_
            exact unhide hK' _ _ (unhide hQ _ _ ((Gr.refl _).alloc _) (⟨_, rfl, Nat.le_trans hGx.size hgx.size, blk_new _ _⟩))
          clear hTq
          intro b1_13 q1_13 x1_13 hg hTq hall
          replace hGx := hGx.trans hg
          obtain rfl : b1_13 = true := hall (by trivial)
          replace hTq := hTq rfl
          clear hall
          obtain ⟨gy, rfl, hgx1, hgb⟩ := hTq
          refine wpOp_step (o := _) rfl (fun K_ hQ => ?_)
          replace hQ := hide hQ
          go_simp
          refine unhide hQ _ _ ⟨((unhide hBw).more hGx), ?_⟩
          clear hQ K_
          refine any_one (i := 14) (by kernel_rfl) rfl (fun K_ hQ => ?_)
          refine step_storew 34 (.tmp 17) (.tmp 84) gy (kc ZK) 34 (kc ZK) (by kernel_rfl) rfl (by kernel_rfl) (by kernel_rfl) hgb (by rw [Tryd.infoKey, kc_size, ZK_len]) rfl (kc_one _) ?_
          have hD := ((Bl.nil x2).more hGx).add ⟨gy, kc ZK, 34⟩ hgb hgx1 (fun y hy => by cases hy)
          rw [List.nil_append] at hD
          replace hD := hD.set 0 (x := ⟨gy, kc ZK, 34⟩) rfl (kc ZK)
          simp only [List.cons_append, List.nil_append, List.set_cons_zero, List.set_cons_succ] at hD
          clear hgb hGx
          generalize World.setRow _ _ _ = y3 at *
          refine hQ.out _ _ ((unhide hBw).more hD.gr) (fun _ => ?_)
          clear hQ K_
          simp only [nrm]
          refine any_one (i := 15) (by kernel_rfl) rfl (fun K_ hQ => ?_)
          replace hQ := hide hQ
          go_simp
          refine (unhide hQ).out _ _ ((unhide hBw).more hD.gr) (fun _ => ?_)
          clear hQ K_
          refine any_done (by kernel_rfl) ?_
          have hqy := hide (hD.get 0 (x := ⟨gy, kc ZK, 34⟩) rfl)
          have hB := (unhide hBw).more hD.gr
          dsimp only at hqy
          have hnot : ¬ (k = 31 ∧ y = 128) := by
            rintro ⟨h1, h2⟩
            have h9 := unhide htop h1 h2
            exact unhide hop ⟨PP, unhide hPPb, h9.2.1, h9.2.2⟩
          replace hnot := hide hnot
          replace hev := hide hev
          clear hD hBw hdw hgx1
          have hZ : Hid (T (.returned (.bool true)) y3) := by
            rw [unhide hT]
            exact ⟨rfl, hB.gr⟩
          clear hB
          go_upto_region 15 with fail
          refine wp_region_lit ?_
          refine list_val (.int .i64 0) (by kernel_rfl) (by kernel_rfl) ?_
          simp only [nrm]
          refine list_val (.bool false) (by kernel_rfl) (by kernel_rfl) ?_
          simp only [nrm]
          refine wpList_nil ?_
          go_upto_region 17 with fail
          refine wp_region_lit ?_
          refine list_val (.int .i64 ev) (by kernel_rfl) (by kernel_rfl) ?_
          simp only [nrm]
          refine list_val (.bool false) (by kernel_rfl) (by have h9_ := unhide hev; go_simp) ?_
          simp only [nrm]
          refine list_val (.bool false) (by kernel_rfl) (by kernel_rfl) ?_
          simp only [nrm]
          refine list_off (by kernel_rfl) ?_
          simp only [nrm]
          refine list_off (by kernel_rfl) ?_
          simp only [nrm]
          refine list_val (.bool false) (by kernel_rfl) (by kernel_rfl) ?_
          simp only [nrm]
          refine wpList_nil ?_
          go_upto_region 19 with fail
          by_cases hk31 : k = 31
          · skip
            have hk31I : Hid ((k : Int) = 31) := by show (k : Int) = 31; omega
            have hy128 : Hid (¬ y = 128) := fun h => unhide hnot ⟨hk31, h⟩
            replace hk31 := hide hk31
            refine wp_region_lit ?_
            refine list_val (.int .i64 (k : Int)) (by kernel_rfl) (by kernel_rfl) ?_
            simp only [nrm]
            refine list_val (.bool true) (by kernel_rfl) (by have h9_ := unhide hk31I; go_simp) ?_
            simp only [nrm]
            refine list_val (.bool true) (by kernel_rfl) (by kernel_rfl) ?_
            simp only [nrm]
            refine list_val (.int .u8 y) (by kernel_rfl) (by kernel_rfl) ?_
            simp only [nrm]
            refine list_val (.bool false) (by kernel_rfl) (by have h9_ := unhide hy128; go_simp) ?_
            simp only [nrm]
            refine list_val (.bool false) (by kernel_rfl) (by kernel_rfl) ?_
            simp only [nrm]
            refine wpList_nil ?_
            go_upto_region 21 with fail
            refine wp_region_lit ?_
            refine list_val (.int .i64 ev) (by kernel_rfl) (by kernel_rfl) ?_
            simp only [nrm]
            refine list_val (.bool false) (by kernel_rfl) (by have h9_ := unhide hev; go_simp) ?_
            simp only [nrm]
            refine list_val (.bool false) (by kernel_rfl) (by kernel_rfl) ?_
            simp only [nrm]
            refine list_val (.slice none 0 0) (by kernel_rfl) (by kernel_rfl) ?_
            simp only [nrm]
            refine list_val (.int .i64 0) (by kernel_rfl) (by kernel_rfl) ?_
            simp only [nrm]
            refine list_val (.bool true) (by kernel_rfl) (by kernel_rfl) ?_
            simp only [nrm]
            refine list_val (.bool true) (by kernel_rfl) (by kernel_rfl) ?_
            simp only [nrm]
            refine list_val (.agg (kc ZK)) (by kernel_rfl) (exec_arr _ 34 (.tmp 17) rfl (gy) (by kernel_rfl) (kc ZK) 34 _ (unhide hqy) Tryd.underlying34 rfl (by rw [Tryd.infoKey, kc_size, ZK_len])) ?_
            simp only [nrm]
            refine list_val (.agg (kc ZK)) (by kernel_rfl) (by kernel_rfl) ?_
            simp only [nrm]
            refine list_val (.bool true) (by kernel_rfl) (exec_eq_k _ (.tmp 128) (.tmp 129) rfl ZK ZK ZK_len ZK_len (by kernel_rfl) (by kernel_rfl) (by kernel_rfl) true (by simp)) ?_
            simp only [nrm]
            refine list_val (.bool true) (by kernel_rfl) (by kernel_rfl) ?_
            simp only [nrm]
            refine list_val (.bool true) (by kernel_rfl) (by kernel_rfl) ?_
            simp only [nrm]
            (refine wpList_step fun K hK => ?_; replace hK := hide hK; go_simp; refine unhide hK _ _ ?_; clear hK K)
            refine wpList_nil ?_
            go_wp2_with fail
            exact unhide hZ
          · skip
            have hk31I : Hid (¬ (k : Int) = 31) := by show ¬ (k : Int) = 31; omega
            replace hk31 := hide hk31
            refine wp_region_lit ?_
            refine list_val (.int .i64 (k : Int)) (by kernel_rfl) (by kernel_rfl) ?_
            simp only [nrm]
            refine list_val (.bool false) (by kernel_rfl) (by have h9_ := unhide hk31I; go_simp) ?_
            simp only [nrm]
            refine list_val (.bool false) (by kernel_rfl) (by kernel_rfl) ?_
            simp only [nrm]
            refine list_off (by kernel_rfl) ?_
            simp only [nrm]
            refine list_off (by kernel_rfl) ?_
            simp only [nrm]
            refine list_val (.bool false) (by kernel_rfl) (by kernel_rfl) ?_
            simp only [nrm]
            refine wpList_nil ?_
            go_upto_region 21 with fail
            refine wp_region_lit ?_
            refine list_val (.int .i64 ev) (by kernel_rfl) (by kernel_rfl) ?_
            simp only [nrm]
            refine list_val (.bool false) (by kernel_rfl) (by have h9_ := unhide hev; go_simp) ?_
            simp only [nrm]
            refine list_val (.bool false) (by kernel_rfl) (by kernel_rfl) ?_
            simp only [nrm]
            refine list_val (.slice none 0 0) (by kernel_rfl) (by kernel_rfl) ?_
            simp only [nrm]
            refine list_val (.int .i64 0) (by kernel_rfl) (by kernel_rfl) ?_
            simp only [nrm]
            refine list_val (.bool true) (by kernel_rfl) (by kernel_rfl) ?_
            simp only [nrm]
            refine list_val (.bool true) (by kernel_rfl) (by kernel_rfl) ?_
            simp only [nrm]
            refine list_val (.agg (kc ZK)) (by kernel_rfl) (exec_arr _ 34 (.tmp 17) rfl (gy) (by kernel_rfl) (kc ZK) 34 _ (unhide hqy) Tryd.underlying34 rfl (by rw [Tryd.infoKey, kc_size, ZK_len])) ?_
            simp only [nrm]
            refine list_val (.agg (kc ZK)) (by kernel_rfl) (by kernel_rfl) ?_
            simp only [nrm]
            refine list_val (.bool true) (by kernel_rfl) (exec_eq_k _ (.tmp 128) (.tmp 129) rfl ZK ZK ZK_len ZK_len (by kernel_rfl) (by kernel_rfl) (by kernel_rfl) true (by simp)) ?_
            simp only [nrm]
            refine list_val (.bool true) (by kernel_rfl) (by kernel_rfl) ?_
            simp only [nrm]
            refine list_val (.bool true) (by kernel_rfl) (by kernel_rfl) ?_
            simp only [nrm]
            (refine wpList_step fun K hK => ?_; replace hK := hide hK; go_simp; refine unhide hK _ _ ?_; clear hK K)
            refine wpList_nil ?_
            go_wp2_with fail
            exact unhide hZ
end Go.Proofs.YtgabkfleidpipaaDoor
