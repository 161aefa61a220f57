/-
  The reference: a row modulo 2^130 - 5.
-/
import Derived.Test.YtdekjbdkpchbjaaPolyF
import Derived.Deep.LoopGhost
namespace Go.Proofs.Ytdekjbdkpchbjaa
open Go.RowKit
set_option maxRecDepth 100000
set_option linter.unusedSimpArgs false
set_option linter.unusedVariables false
def P5 : Nat := 2 ^ 130 - 5
theorem li_one (w : World) (x : Nat) : Li (w.alloc (.cells #[.int .i64 (x : Int)] 3 (0, 0))) (some ⟨w.heap.size, 0, none⟩) 1 1 [x] := by
  refine ⟨rfl, .inr ⟨_, 0, rfl, fun j hj => ?_⟩, Nat.le_refl _, by omega⟩
  have hj0 : j = 0 := by simpa using hj
  subst hj0
  exact cell_of (blk_new _ _) rfl
theorem five_allB : AllB [5] := fun x hx => by
  have h : x = 5 := by simpa using hx
  omega
theorem Q130_eq : Q130 = 1361129467683753853853498429727072845824 := by decide
theorem P5_eq : P5 = 1361129467683753853853498429727072845819 := by decide
theorem rest_mod (VL VU X : Nat) (h : (VL + Q130 * VU) % P5 = X) : (VL + VU * 5) % P5 = X := by
  rw [← h, Q130_eq, P5_eq]
  omega
theorem rest_end (VL X : Nat) (hl : VL < Q130) (h : VL % P5 = X) : (VL + 5 < Q130 → VL = X) ∧ (Q130 ≤ VL + 5 → (VL + 5) % Q130 = X) := by
  rw [← h]
  rw [Q130_eq] at *
  rw [P5_eq]
  omega
def RestP (A L : List Nat) : Prop := AllB L ∧ V L = V A % P5 ∧ L.length = 17
set_option maxHeartbeats 8000000 in
theorem rrest_ok (A : List Nat) (hA : AllB A) (a : Option Addr) (n ca : Nat) (hbn0 : n ≤ 1000) (w : World) (la : Li w a n ca A) : Calls Try.prog 51 #[.slice a n ca] w (Ri (RestP A) w) := by
  obtain ⟨T, hT⟩ : ∃ T, T = Ri (RestP A) w := ⟨_, rfl⟩
  rw [← hT]
  unfold Ri at hT
  replace hT := hide hT
  have hn := hide la.len
  have hbn : n ≤ 100000 := by omega
  replace la := hide la
  replace hA := hide hA
  have hG := Gr.refl w
  go_enter Try.func51, Try.ntmps51
  replace hG := hide hG
  go_upto_region 1 with fail
  replace hG := unhide hG
  refine wp_region_lit ?_
  refine list_val (.slice a n ca) (by kernel_rfl) (by kernel_rfl) ?_
  simp only [Act.put, List.setIfInBounds_toArray, List.set_cons_zero, List.set_cons_succ, List.getElem_toArray, List.getElem_cons_zero, List.getElem_cons_succ]
  refine list_call 62 #[.slice a n ca] (by kernel_rfl) (by kernel_rfl) ((rhigh_ok A (unhide hA) a n ca hbn _ (unhide la)).mono ?_)
  rintro r w1 ⟨vu, vl, U, L, rfl, obU, obL, bU, bL, vU, vL, lU, lL, hg⟩
  refine ⟨_, rfl, ?_⟩
  replace obU := obU.up hG.size
  replace obL := obL.up hG.size
  replace hG := hG.trans hg
  clear hg
  simp only [Act.put, List.setIfInBounds_toArray, List.set_cons_zero, List.set_cons_succ, List.getElem_toArray, List.getElem_cons_zero, List.getElem_cons_succ]
  refine list_val (.tuple #[vu, vl]) (by kernel_rfl) (by kernel_rfl) ?_
  simp only [Act.put, List.setIfInBounds_toArray, List.set_cons_zero, List.set_cons_succ, List.getElem_toArray, List.getElem_cons_zero, List.getElem_cons_succ]
  refine list_val vu (by kernel_rfl) (by kernel_rfl) ?_
  simp only [Act.put, List.setIfInBounds_toArray, List.set_cons_zero, List.set_cons_succ, List.getElem_toArray, List.getElem_cons_zero, List.getElem_cons_succ]
  refine list_val vl (by kernel_rfl) (by kernel_rfl) ?_
  simp only [Act.put, List.setIfInBounds_toArray, List.set_cons_zero, List.set_cons_succ, List.getElem_toArray, List.getElem_cons_zero, List.getElem_cons_succ]
  (refine wpList_step fun K hK => ?_; replace hK := hide hK; go_simp; refine unhide hK _ _ ?_; clear hK K)
  (refine wpList_step fun K hK => ?_; replace hK := hide hK; go_simp; refine unhide hK _ _ ?_; clear hK K)
  refine wpList_nil ?_
  have hmod : Hid ((V L + Q130 * V U) % P5 = V A % P5) := by rw [vU, vL, Nat.add_comm, Nat.div_add_mod]; exact rfl
  have hvl : Hid (V L < Q130) := by rw [vL]; exact Nat.mod_lt _ (by rw [Q130_eq]; omega)
  have hUl : Hid (U.length ≤ 1000) := by rw [lU, unhide hn]; exact (show n - 16 ≤ 1000 by omega)
  clear vU vL lU
  replace hG := hide hG
  replace obU := hide obU
  replace obL := hide obL
  replace bU := hide bU
  replace bL := hide bL
  replace lL := hide lL
  go_wp2_with fail
  go_loopg [0, 3, 4] (V L + Q130 * V U) (fun gk _ o3 o4 wr => ∃ vu vl : Value, ∃ U L : List Nat, vu = o3 ∧ vl = o4 ∧ Hid (V L + Q130 * V U = gk) ∧ Hid (gk % P5 = V A % P5) ∧ Hid (V L < Q130) ∧ Hid (U.length ≤ 1000) ∧ Hid (L.length = 17) ∧ Hid (AllB U) ∧ Hid (AllB L) ∧ Hid (Oi w.heap.size wr vu U) ∧ Hid (Oi w.heap.size wr vl L) ∧ Hid (Gr w wr))
  case atStart => exact ⟨vu, vl, U, L, rfl, rfl, rfl, hmod, hvl, hUl, lL, bU, bL, obU, obL, hG⟩
  case round =>
  clear hG obU obL bU bL lL hmod hvl hUl
  obtain ⟨vu, vl, U, L, rfl, rfl, hgk, hmod, hvl, hUl, lL, bU, bL, obU, obL, hG⟩ := hrel
  obtain ⟨a3, c3, rfl, li3⟩ := (unhide obU).li
  obtain ⟨a4, c4, rfl, li4⟩ := (unhide obL).li
  obtain ⟨nu, hnu⟩ : ∃ x, x = U.length := ⟨_, rfl⟩
  obtain ⟨nl, hnl⟩ : ∃ x, x = L.length := ⟨_, rfl⟩
  rw [← hnu] at li3
  rw [← hnl] at li4
  replace li3 := hide li3
  replace li4 := hide li4
  have hnu2 : nu ≤ 1000 := by rw [hnu]; exact unhide hUl
  have hnl2 : nl = 17 := by rw [hnl]; exact unhide lL
  rw [← hnu, ← hnl]
  replace hnu := hide hnu
  replace hnl := hide hnl
  replace hnl2 := hide hnl2
  go_upto_region 2 with fail
  replace hG := unhide hG
  by_cases hz : V U = 0
  · refine wp_region_lit ?_
    refine list_val (.slice a3 nu c3) (by kernel_rfl) (by kernel_rfl) ?_
    simp only [Act.put, List.setIfInBounds_toArray, List.set_cons_zero, List.set_cons_succ, List.getElem_toArray, List.getElem_cons_zero, List.getElem_cons_succ]
    refine list_call 63 #[.slice a3 nu c3] (by kernel_rfl) (by kernel_rfl) ((rsome_no U hz a3 nu c3 _ (unhide li3) (by omega)).mono ?_)
    rintro r wq ⟨rfl, rfl⟩
    refine ⟨_, rfl, ?_⟩
    simp only [Act.put, List.setIfInBounds_toArray, List.set_cons_zero, List.set_cons_succ, List.getElem_toArray, List.getElem_cons_zero, List.getElem_cons_succ]
    refine wpList_nil ?_
    replace hG := hide hG
    go_upto_region 5 with fail
    replace hG := unhide hG
    replace li4 := unhide li4
    replace obL := unhide obL
    refine wp_region_lit ?_
    refine list_val (.slice a4 nl c4) (by kernel_rfl) (by kernel_rfl) ?_
    simp only [Act.put, List.setIfInBounds_toArray, List.set_cons_zero, List.set_cons_succ, List.getElem_toArray, List.getElem_cons_zero, List.getElem_cons_succ]
    refine list_valw (.slice (some ⟨wq.heap.size, 0, none⟩) 1 1) (wq.alloc (.cells #[.int .i64 ((5 : Nat) : Int)] 3 (0, 0))) (by kernel_rfl) (by kernel_rfl) ?_
    simp only [Act.put, List.setIfInBounds_toArray, List.set_cons_zero, List.set_cons_succ, List.getElem_toArray, List.getElem_cons_zero, List.getElem_cons_succ]
    have l5 := li_one wq 5
    have hgx := (Gr.refl wq).alloc (.cells #[.int .i64 ((5 : Nat) : Int)] 3 (0, 0))
    replace hG := hG.trans hgx
    replace li4 := li4.gr hgx
    replace obL := obL.gr hgx
    clear hgx
    generalize World.alloc _ _ = w2 at *
    generalize wq.heap.size = g5 at *
    refine list_call 53 #[.slice a4 nl c4, .slice (some ⟨g5, 0, none⟩) 1 1] (by kernel_rfl) (by kernel_rfl) ((rplus_ok L [5] (unhide bL) five_allB a4 _ nl 1 c4 1 (by have := unhide hnl2; omega) (by omega) _ li4 l5).mono ?_)
    rintro r w3 ⟨vs, S, rfl, obS, pS, hg⟩
    refine ⟨_, rfl, ?_⟩
    obtain ⟨as_, cs, rfl, liS⟩ := obS.li
    obtain ⟨ns, hns⟩ : ∃ x, x = S.length := ⟨_, rfl⟩
    rw [← hns] at liS ⊢
    replace hns := hide hns
    replace hG := hG.trans hg
    replace li4 := li4.gr hg
    replace obL := obL.gr hg
    clear hg
    clear l5
    have hSb := pS.1
    have hSv : V S = V L + 5 := by rw [pS.2.1]; rfl
    have hSl := pS.2.2
    have hns2 : ns ≤ 100 := by rw [unhide hns]; have := unhide hnl2; have := unhide hnl; simp at hSl; omega
    skip
    simp only [Act.put, List.setIfInBounds_toArray, List.set_cons_zero, List.set_cons_succ, List.getElem_toArray, List.getElem_cons_zero, List.getElem_cons_succ]
    refine list_call 62 #[.slice as_ ns cs] (by kernel_rfl) (by kernel_rfl) ((rhigh_ok S hSb as_ ns cs (by omega) _ liS).mono ?_)
    rintro r w4 ⟨vm, vs2, M, S2, rfl, obM, obS2, bM, bS2, vM, vS2, lM, lS2, hg⟩
    refine ⟨_, rfl, ?_⟩
    replace obM := obM.up hG.size
    replace obS2 := obS2.up hG.size
    replace hG := hG.trans hg
    replace obL := obL.gr hg
    clear hg
    simp only [Act.put, List.setIfInBounds_toArray, List.set_cons_zero, List.set_cons_succ, List.getElem_toArray, List.getElem_cons_zero, List.getElem_cons_succ]
    refine list_val (.tuple #[vm, vs2]) (by kernel_rfl) (by kernel_rfl) ?_
    simp only [Act.put, List.setIfInBounds_toArray, List.set_cons_zero, List.set_cons_succ, List.getElem_toArray, List.getElem_cons_zero, List.getElem_cons_succ]
    refine list_val vm (by kernel_rfl) (by kernel_rfl) ?_
    simp only [Act.put, List.setIfInBounds_toArray, List.set_cons_zero, List.set_cons_succ, List.getElem_toArray, List.getElem_cons_zero, List.getElem_cons_succ]
    refine list_val vs2 (by kernel_rfl) (by kernel_rfl) ?_
    simp only [Act.put, List.setIfInBounds_toArray, List.set_cons_zero, List.set_cons_succ, List.getElem_toArray, List.getElem_cons_zero, List.getElem_cons_succ]
    (refine wpList_step fun K hK => ?_; replace hK := hide hK; go_simp; refine unhide hK _ _ ?_; clear hK K)
    (refine wpList_step fun K hK => ?_; replace hK := hide hK; go_simp; refine unhide hK _ _ ?_; clear hK K)
    refine wpList_nil ?_
    obtain ⟨a5, c5, rfl, li5⟩ := obM.li
    obtain ⟨nm, hnm⟩ : ∃ x, x = M.length := ⟨_, rfl⟩
    rw [← hnm] at li5 ⊢
    have hnm2 : nm ≤ 100 := by rw [hnm, lM, ← unhide hns]; omega
    have hend := rest_end (V L) (V A % P5) (unhide hvl) (by have h := unhide hmod; rw [← unhide hgk, hz, Nat.mul_zero, Nat.add_zero] at h; exact h)
    rw [hSv] at vM vS2
    clear hns hnm
    replace hG := hide hG
    go_upto_region 6 with fail
    replace hG := unhide hG
    by_cases hmz : V M = 0
    · refine wp_region_lit ?_
      refine list_val (.slice a5 nm c5) (by kernel_rfl) (by kernel_rfl) ?_
      simp only [Act.put, List.setIfInBounds_toArray, List.set_cons_zero, List.set_cons_succ, List.getElem_toArray, List.getElem_cons_zero, List.getElem_cons_succ]
      refine list_call 63 #[.slice a5 nm c5] (by kernel_rfl) (by kernel_rfl) ((rsome_no M hmz a5 nm c5 _ li5 (by omega)).mono ?_)
      rintro r wq2 ⟨rfl, rfl⟩
      refine ⟨_, rfl, ?_⟩
      simp only [Act.put, List.setIfInBounds_toArray, List.set_cons_zero, List.set_cons_succ, List.getElem_toArray, List.getElem_cons_zero, List.getElem_cons_succ]
      refine wpList_nil ?_
      have hP : Hid (∃ v' L', Ending.returned (.slice a4 nl c4) = .returned v' ∧ Oi w.heap.size wq2 v' L' ∧ RestP A L' ∧ Gr w wq2) := by
        refine ⟨_, L, rfl, by rw [unhide hnl]; exact obL, ⟨unhide bL, hend.1 ?_, unhide lL⟩, hG⟩
        rw [vM] at hmz
        rcases Nat.lt_or_ge (V L + 5) Q130 with h | h
        · exact h
        · have h2 := Nat.div_pos h (by rw [Q130_eq]; omega)
          omega
      clear hG obL obS obM obS2 li4 li5 liS hend vM vS2
      go_wp2_with fail
      rw [unhide hT]
      exact unhide hP
    · refine wp_region_lit ?_
      refine list_val (.slice a5 nm c5) (by kernel_rfl) (by kernel_rfl) ?_
      simp only [Act.put, List.setIfInBounds_toArray, List.set_cons_zero, List.set_cons_succ, List.getElem_toArray, List.getElem_cons_zero, List.getElem_cons_succ]
      refine list_call 63 #[.slice a5 nm c5] (by kernel_rfl) (by kernel_rfl) ((rsome_yes M hmz a5 nm c5 _ li5 (by omega)).mono ?_)
      rintro r wq2 ⟨rfl, rfl⟩
      refine ⟨_, rfl, ?_⟩
      simp only [Act.put, List.setIfInBounds_toArray, List.set_cons_zero, List.set_cons_succ, List.getElem_toArray, List.getElem_cons_zero, List.getElem_cons_succ]
      refine wpList_nil ?_
      have hP : Hid (∃ v' L', Ending.returned vs2 = .returned v' ∧ Oi w.heap.size wq2 v' L' ∧ RestP A L' ∧ Gr w wq2) := by
        refine ⟨_, S2, rfl, obS2, ⟨bS2, ?_, lS2⟩, hG⟩
        rw [vS2]
        refine hend.2 ?_
        rw [vM] at hmz
        rcases Nat.lt_or_ge (V L + 5) Q130 with h | h
        · exact absurd (Nat.div_eq_of_lt h) hmz
        · exact h
      clear hG obL obS obM obS2 li4 li5 liS hend vM vS2
      go_wp2_with fail
      rw [unhide hT]
      exact unhide hP
  · refine wp_region_lit ?_
    refine list_val (.slice a3 nu c3) (by kernel_rfl) (by kernel_rfl) ?_
    simp only [Act.put, List.setIfInBounds_toArray, List.set_cons_zero, List.set_cons_succ, List.getElem_toArray, List.getElem_cons_zero, List.getElem_cons_succ]
    refine list_call 63 #[.slice a3 nu c3] (by kernel_rfl) (by kernel_rfl) ((rsome_yes U hz a3 nu c3 _ (unhide li3) (by omega)).mono ?_)
    rintro r wq ⟨rfl, rfl⟩
    refine ⟨_, rfl, ?_⟩
    simp only [Act.put, List.setIfInBounds_toArray, List.set_cons_zero, List.set_cons_succ, List.getElem_toArray, List.getElem_cons_zero, List.getElem_cons_succ]
    refine wpList_nil ?_
    replace hG := hide hG
    go_upto_region 3 with fail
    replace hG := unhide hG
    replace li4 := unhide li4
    replace li3 := unhide li3
    refine wp_region_lit ?_
    refine list_val (.slice a4 nl c4) (by kernel_rfl) (by kernel_rfl) ?_
    simp only [Act.put, List.setIfInBounds_toArray, List.set_cons_zero, List.set_cons_succ, List.getElem_toArray, List.getElem_cons_zero, List.getElem_cons_succ]
    refine list_val (.slice a3 nu c3) (by kernel_rfl) (by kernel_rfl) ?_
    simp only [Act.put, List.setIfInBounds_toArray, List.set_cons_zero, List.set_cons_succ, List.getElem_toArray, List.getElem_cons_zero, List.getElem_cons_succ]
    refine list_valw (.slice (some ⟨wq.heap.size, 0, none⟩) 1 1) (wq.alloc (.cells #[.int .i64 ((5 : Nat) : Int)] 3 (0, 0))) (by kernel_rfl) (by kernel_rfl) ?_
    simp only [Act.put, List.setIfInBounds_toArray, List.set_cons_zero, List.set_cons_succ, List.getElem_toArray, List.getElem_cons_zero, List.getElem_cons_succ]
    have l5 := li_one wq 5
    have hgx := (Gr.refl wq).alloc (.cells #[.int .i64 ((5 : Nat) : Int)] 3 (0, 0))
    replace hG := hG.trans hgx
    replace li4 := li4.gr hgx
    replace li3 := li3.gr hgx
    clear hgx
    generalize World.alloc _ _ = w2 at *
    generalize wq.heap.size = g5 at *
    refine list_call 52 #[.slice a3 nu c3, .slice (some ⟨g5, 0, none⟩) 1 1] (by kernel_rfl) (by kernel_rfl) ((rtimes_ok U [5] (unhide bU) five_allB a3 _ nu 1 c3 1 (by omega) (by omega) _ li3 l5).mono ?_)
    rintro r w3 ⟨vt, Q, rfl, obQ, pQ, hg⟩
    refine ⟨_, rfl, ?_⟩
    obtain ⟨aq, cq, rfl, liQ⟩ := obQ.li
    obtain ⟨nq, hnq⟩ : ∃ x, x = Q.length := ⟨_, rfl⟩
    rw [← hnq] at liQ ⊢
    replace hnq := hide hnq
    replace hG := hG.trans hg
    replace li4 := li4.gr hg
    clear hg
    clear l5 li3
    have hQl : nq ≤ 1002 := by rw [unhide hnq, pQ.2.2, ← unhide hnu]; simp; omega
    have hQv : V Q = V U * 5 := by rw [pQ.2.1]; rfl
    simp only [Act.put, List.setIfInBounds_toArray, List.set_cons_zero, List.set_cons_succ, List.getElem_toArray, List.getElem_cons_zero, List.getElem_cons_succ]
    refine list_call 53 #[.slice a4 nl c4, .slice aq nq cq] (by kernel_rfl) (by kernel_rfl) ((rplus_ok L Q (unhide bL) pQ.1 a4 aq nl nq c4 cq (by have := unhide hnl2; omega) (by omega) _ li4 liQ).mono ?_)
    rintro r w4 ⟨vp, W, rfl, obW, pW, hg⟩
    refine ⟨_, rfl, ?_⟩
    obtain ⟨aw, cw, rfl, liW⟩ := obW.li
    obtain ⟨nw, hnw⟩ : ∃ x, x = W.length := ⟨_, rfl⟩
    rw [← hnw] at liW ⊢
    replace hnw := hide hnw
    replace hG := hG.trans hg
    replace liQ := liQ.gr hg
    clear hg
    clear li4 liQ obQ
    have hWl : nw ≤ 1003 := by have h := pW.2.2; rw [← unhide hnw, ← unhide hnq, ← unhide hnl] at h; have := unhide hnl2; omega
    have hWv := pW.2.1
    rw [hQv] at hWv
    simp only [Act.put, List.setIfInBounds_toArray, List.set_cons_zero, List.set_cons_succ, List.getElem_toArray, List.getElem_cons_zero, List.getElem_cons_succ]
    (refine wpList_step fun K hK => ?_; replace hK := hide hK; go_simp; refine unhide hK _ _ ?_; clear hK K)
    refine wpList_nil ?_
    replace hG := hide hG
    replace obW := hide obW
    go_upto_region 4 with fail
    replace hG := unhide hG
    replace obW := unhide obW
    refine wp_region_lit ?_
    refine list_val (.slice aw nw cw) (by kernel_rfl) (by kernel_rfl) ?_
    simp only [Act.put, List.setIfInBounds_toArray, List.set_cons_zero, List.set_cons_succ, List.getElem_toArray, List.getElem_cons_zero, List.getElem_cons_succ]
    refine list_call 62 #[.slice aw nw cw] (by kernel_rfl) (by kernel_rfl) ((rhigh_ok W pW.1 aw nw cw (by omega) _ liW).mono ?_)
    rintro r w5 ⟨vu2, vl2, U2, L2, rfl, obU2, obL2, bU2, bL2, vU2, vL2, lU2, lL2, hg⟩
    refine ⟨_, rfl, ?_⟩
    replace obU2 := obU2.up hG.size
    replace obL2 := obL2.up hG.size
    replace hG := hG.trans hg
    clear hg
    simp only [Act.put, List.setIfInBounds_toArray, List.set_cons_zero, List.set_cons_succ, List.getElem_toArray, List.getElem_cons_zero, List.getElem_cons_succ]
    refine list_val (.tuple #[vu2, vl2]) (by kernel_rfl) (by kernel_rfl) ?_
    simp only [Act.put, List.setIfInBounds_toArray, List.set_cons_zero, List.set_cons_succ, List.getElem_toArray, List.getElem_cons_zero, List.getElem_cons_succ]
    refine list_val vu2 (by kernel_rfl) (by kernel_rfl) ?_
    simp only [Act.put, List.setIfInBounds_toArray, List.set_cons_zero, List.set_cons_succ, List.getElem_toArray, List.getElem_cons_zero, List.getElem_cons_succ]
    refine list_val vl2 (by kernel_rfl) (by kernel_rfl) ?_
    simp only [Act.put, List.setIfInBounds_toArray, List.set_cons_zero, List.set_cons_succ, List.getElem_toArray, List.getElem_cons_zero, List.getElem_cons_succ]
    (refine wpList_step fun K hK => ?_; replace hK := hide hK; go_simp; refine unhide hK _ _ ?_; clear hK K)
    (refine wpList_step fun K hK => ?_; replace hK := hide hK; go_simp; refine unhide hK _ _ ?_; clear hK K)
    refine wpList_nil ?_
    have hsum : V L2 + Q130 * V U2 = V W := by rw [vU2, vL2, Nat.add_comm, Nat.div_add_mod]
    have hmod2 : Hid ((V L2 + Q130 * V U2) % P5 = V A % P5) := by
      rw [hsum, hWv, Nat.mul_comm (V U), ← Nat.mul_comm (V U)]
      exact rest_mod (V L) (V U) _ (by rw [unhide hgk]; exact unhide hmod)
    have hlt : V L2 + Q130 * V U2 < gk := by
      rw [hsum, hWv, ← unhide hgk, Q130_eq]
      omega
    have hvl2 : Hid (V L2 < Q130) := by rw [vL2]; exact Nat.mod_lt _ (by rw [Q130_eq]; omega)
    have hUl2 : Hid (U2.length ≤ 1000) := by rw [lU2, ← unhide hnw]; exact (show nw - 16 ≤ 1000 by omega)
    clear vU2 vL2 lU2 hsum hWv hQv pQ pW liW obW hnw hnq hmod hgk
    replace hG := hide hG
    replace obU2 := hide obU2
    replace obL2 := hide obL2
    replace bU2 := hide bU2
    replace bL2 := hide bL2
    replace lL2 := hide lL2
    go_wp2_with fail
    go_roundg (V L2 + Q130 * V U2)
    case rel => exact ⟨vu2, vl2, U2, L2, rfl, rfl, rfl, hmod2, hvl2, hUl2, lL2, bU2, bL2, obU2, obL2, hG⟩
    case measure => exact hlt
end Go.Proofs.Ytdekjbdkpchbjaa
