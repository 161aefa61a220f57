/-
  Bytes that are drawn in parts are those that are drawn at once: the walk.
-/
import Derived.Test.YtdfcdklnngfhkaaDoorDcD
namespace Go.Proofs.YtdfcdklnngfhkaaDoor
open Go.RowKit
set_option maxRecDepth 100000
set_option linter.unusedSimpArgs false
set_option linter.unusedVariables false
theorem Ob.bt {b g : Nat} {w v : World} {x : Value} {L : List Int} (h : Ob b w x L) (k : Bt g w v) (hg : x.ownBlock ≠ some g) : Ob b v x L := by
  obtain ⟨h1, h2 | ⟨p, cap, cur, h2, h3, h4, h5⟩⟩ := h
  · exact ⟨h1, .inl h2⟩
  · refine ⟨h1, .inr ⟨p, cap, cur, h2, h3, k.blk h4 ?_, h5⟩⟩
    rintro rfl
    apply hg
    rw [h2]
    rfl
set_option maxHeartbeats 4000000 in
theorem parts_ok (B : List Int) (a : Option Addr) (len cap : Nat) (n0 k0 : Int) (hn0 : -9223372036854775808 ≤ n0 ∧ n0 < 9223372036854775808) (hk0 : -9223372036854775808 ≤ k0 ∧ k0 < 9223372036854775808) (w : World) (hF : Fst w) (lb : Lb w a len cap B) : Calls Tryd.prog 6 #[.slice a len cap, .int .i64 n0, .int .i64 k0] w (Woke w) := by
  obtain ⟨T, hT⟩ : ∃ T, T = Woke w := ⟨_, rfl⟩
  rw [← hT]
  replace hT := hide hT
  replace lb := hide lb
  go_enter Tryd.func6, Tryd.ntmps6
  go_upto_region 1 with fail
  refine wp_region_lit ?_
  refine list_call 9 #[] (by kernel_rfl) (by kernel_rfl) ((wakes_ok _ hF).mono ?_)
  rintro r v ⟨rfl, hG⟩
  refine ⟨_, rfl, ?_⟩
  simp only [Act.put, List.setIfInBounds_toArray, List.set_cons_zero, List.set_cons_succ, List.getElem_toArray, List.getElem_cons_zero, List.getElem_cons_succ]
  refine list_val (.bool false) (by kernel_rfl) (by kernel_rfl) ?_
  simp only [Act.put, List.setIfInBounds_toArray, List.set_cons_zero, List.set_cons_succ, List.getElem_toArray, List.getElem_cons_zero, List.getElem_cons_succ]
  refine wpList_nil ?_
  replace hG := hide hG
  by_cases hlen : 4096 < len
  · have lI : (4096 : Int) < (len : Int) := by omega
    go_wp2_with fail
    rw [unhide hT]
    exact ⟨rfl, unhide hG⟩
  have lI : ¬ (4096 : Int) < (len : Int) := by omega
  obtain ⟨e, he⟩ : ∃ e : Nat, (e : Int) = if n0 < 0 then 0 else n0 := ⟨(if n0 < 0 then 0 else n0).toNat, by split <;> omega⟩
  obtain ⟨n, hn⟩ : ∃ n, n = e % 1000 := ⟨_, rfl⟩
  have e1 : Int.tmod (e : Int) 1000 = (n : Int) := by rw [Int.tmod_eq_emod_of_nonneg (by omega)]; omega
  obtain ⟨f, hf⟩ : ∃ f : Nat, (f : Int) = if k0 < 0 then 0 else k0 := ⟨(if k0 < 0 then 0 else k0).toNat, by split <;> omega⟩
  obtain ⟨k, hk⟩ : ∃ k, k = f % (n + 1) := ⟨_, rfl⟩
  have hkn : k ≤ n := by have := Nat.mod_lt f (show 0 < n + 1 by omega); omega
  obtain ⟨n1, hn1⟩ : ∃ x, x = n + 1 := ⟨_, rfl⟩
  have f1 : (n : Int) + 1 = (n1 : Int) := by omega
  have f2 : IntKind.i64.wrap (n1 : Int) = (n1 : Int) := by rw [IntKind.wrap_i64]; omega
  have f3 : ¬ n1 = 0 := by omega
  have f4 : Int.tmod (f : Int) (n1 : Int) = (k : Int) := by rw [Int.tmod_eq_emod_of_nonneg (by omega), hk, hn1]; rfl
  obtain ⟨m, hm⟩ : ∃ x, x = n - k := ⟨_, rfl⟩
  have g1 : (n : Int) - (k : Int) = (m : Int) := by omega
  have g2 : IntKind.i64.wrap (m : Int) = (m : Int) := by rw [IntKind.wrap_i64]; omega
  have hn3 : n ≤ 1000 := by omega
  replace hn := hide hn; replace hk := hide hk; replace hn1 := hide hn1; replace hm := hide hm; replace he := hide he; replace hf := hide hf
  go_upto_region 5 with fail
  refine wp_region_lit ?_
  refine list_val (.int .i64 n0) (by kernel_rfl) (by kernel_rfl) ?_
  simp only [Act.put, List.setIfInBounds_toArray, List.set_cons_zero, List.set_cons_succ, List.getElem_toArray, List.getElem_cons_zero, List.getElem_cons_succ]
  refine list_val (.int .i64 e) (by kernel_rfl) (by rw [unhide he]; go_simp) ?_
  simp only [Act.put, List.setIfInBounds_toArray, List.set_cons_zero, List.set_cons_succ, List.getElem_toArray, List.getElem_cons_zero, List.getElem_cons_succ]
  refine list_val (.int .i64 n) (by kernel_rfl) (by go_simp) ?_
  simp only [Act.put, List.setIfInBounds_toArray, List.set_cons_zero, List.set_cons_succ, List.getElem_toArray, List.getElem_cons_zero, List.getElem_cons_succ]
  (refine wpList_step fun K hK => ?_; replace hK := hide hK; go_simp; refine unhide hK _ _ ?_; clear hK K)
  refine wpList_nil ?_
  go_upto_region 6 with fail
  refine wp_region_lit ?_
  refine list_val (.int .i64 k0) (by kernel_rfl) (by kernel_rfl) ?_
  simp only [Act.put, List.setIfInBounds_toArray, List.set_cons_zero, List.set_cons_succ, List.getElem_toArray, List.getElem_cons_zero, List.getElem_cons_succ]
  refine list_val (.int .i64 f) (by kernel_rfl) (by rw [unhide hf]; go_simp) ?_
  simp only [Act.put, List.setIfInBounds_toArray, List.set_cons_zero, List.set_cons_succ, List.getElem_toArray, List.getElem_cons_zero, List.getElem_cons_succ]
  refine list_val (.int .i64 n) (by kernel_rfl) (by kernel_rfl) ?_
  simp only [Act.put, List.setIfInBounds_toArray, List.set_cons_zero, List.set_cons_succ, List.getElem_toArray, List.getElem_cons_zero, List.getElem_cons_succ]
  refine list_val (.int .i64 n1) (by kernel_rfl) (by go_simp) ?_
  simp only [Act.put, List.setIfInBounds_toArray, List.set_cons_zero, List.set_cons_succ, List.getElem_toArray, List.getElem_cons_zero, List.getElem_cons_succ]
  refine list_val (.int .i64 k) (by kernel_rfl) (by go_simp) ?_
  simp only [Act.put, List.setIfInBounds_toArray, List.set_cons_zero, List.set_cons_succ, List.getElem_toArray, List.getElem_cons_zero, List.getElem_cons_succ]
  (refine wpList_step fun K hK => ?_; replace hK := hide hK; go_simp; refine unhide hK _ _ ?_; clear hK K)
  refine wpList_nil ?_
  clear e1 f1 f2 f3 f4
  go_upto_region 7 with fail
  refine wp_region_lit ?_
  refine list_val (.slice a len cap) (by kernel_rfl) (by kernel_rfl) ?_
  simp only [Act.put, List.setIfInBounds_toArray, List.set_cons_zero, List.set_cons_succ, List.getElem_toArray, List.getElem_cons_zero, List.getElem_cons_succ]
  refine list_call 10 #[.slice a len cap] (by kernel_rfl) (by kernel_rfl) ((dnew_ok B a len cap (by omega) _ (hF.gr (unhide hG)) ((unhide lb).gr (unhide hG))).mono ?_)
  rintro r v1 ⟨ga, rfl, hga, hda, hg1⟩
  refine ⟨_, rfl, ?_⟩
  have hG1 := (unhide hG).trans hg1
  have hga2 := Nat.le_trans (unhide hG).size hga
  clear hga
  simp only [Act.put, List.setIfInBounds_toArray, List.set_cons_zero, List.set_cons_succ, List.getElem_toArray, List.getElem_cons_zero, List.getElem_cons_succ]
  refine list_val (.slice a len cap) (by kernel_rfl) (by kernel_rfl) ?_
  simp only [Act.put, List.setIfInBounds_toArray, List.set_cons_zero, List.set_cons_succ, List.getElem_toArray, List.getElem_cons_zero, List.getElem_cons_succ]
  refine list_call 10 #[.slice a len cap] (by kernel_rfl) (by kernel_rfl) ((dnew_ok B a len cap (by omega) _ (hF.gr hG1) ((unhide lb).gr hG1)).mono ?_)
  rintro r v2 ⟨gb, rfl, hgb, hdb, hg2⟩
  refine ⟨_, rfl, ?_⟩
  have hne : ga ≠ gb := by have := hda.lt; omega
  have hgb2 := Nat.le_trans hG1.size hgb
  replace hda := hda.gr hg2
  replace hG1 := hG1.trans hg2
  clear hgb hg1 hg2
  have hYl := sumL_len B
  have hYb := sumL_isB B
  generalize sumL B = Y at *
  simp only [Act.put, List.setIfInBounds_toArray, List.set_cons_zero, List.set_cons_succ, List.getElem_toArray, List.getElem_cons_zero, List.getElem_cons_succ]
  (refine wpList_step fun K hK => ?_; replace hK := hide hK; go_simp; refine unhide hK _ _ ?_; clear hK K)
  (refine wpList_step fun K hK => ?_; replace hK := hide hK; go_simp; refine unhide hK _ _ ?_; clear hK K)
  refine wpList_nil ?_
  replace hda := hide hda; replace hdb := hide hdb; replace hG1 := hide hG1; replace hYb := hide hYb
  clear hG
  go_upto_region 8 with fail
  refine wp_region_lit ?_
  refine list_val (.pointer (some ⟨ga, 0, none⟩)) (by kernel_rfl) (by kernel_rfl) ?_
  simp only [Act.put, List.setIfInBounds_toArray, List.set_cons_zero, List.set_cons_succ, List.getElem_toArray, List.getElem_cons_zero, List.getElem_cons_succ]
  refine list_val (.int .i64 n) (by kernel_rfl) (by kernel_rfl) ?_
  simp only [Act.put, List.setIfInBounds_toArray, List.set_cons_zero, List.set_cons_succ, List.getElem_toArray, List.getElem_cons_zero, List.getElem_cons_succ]
  refine list_call 12 #[.pointer (some ⟨ga, 0, none⟩), .int .i64 n] (by kernel_rfl) (by kernel_rfl) ((dbytes_ok Y hYl (unhide hYb) 0 n (by omega) (by omega) ga _ (unhide hda)).mono ?_)
  rintro r v3 ⟨gx, ox, M, rfl, hgx, hM, hat, -, hda2, hbt⟩
  refine ⟨_, rfl, ?_⟩
  have hdb2 := (unhide hdb).bt hbt (Ne.symm hne)
  have hG2 := hbt.gr (unhide hG1) hga2
  have lw : Lb v3 (some ⟨gx, ox, none⟩) n n (nxl Y 0 n) := ⟨nxl_len _ _ _, nxl_isB _ _ _, .inr ⟨gx, ox, rfl, hat⟩, Nat.le_refl _, by omega⟩
  have hgxa : gx ≠ ga := by have := (unhide hda).lt; omega
  have hgxb : gx ≠ gb := by have := (unhide hdb).lt; omega
  have hgxlt := lt_of_block hM
  clear hda hdb hG1 hbt hat hM hgx
  simp only [Act.put, List.setIfInBounds_toArray, List.set_cons_zero, List.set_cons_succ, List.getElem_toArray, List.getElem_cons_zero, List.getElem_cons_succ]
  refine list_val (.tuple #[.slice (some ⟨gx, ox, none⟩) n n, .int .i64 0]) (by kernel_rfl) (by kernel_rfl) ?_
  simp only [Act.put, List.setIfInBounds_toArray, List.set_cons_zero, List.set_cons_succ, List.getElem_toArray, List.getElem_cons_zero, List.getElem_cons_succ]
  refine list_val (.slice (some ⟨gx, ox, none⟩) n n) (by kernel_rfl) (by kernel_rfl) ?_
  simp only [Act.put, List.setIfInBounds_toArray, List.set_cons_zero, List.set_cons_succ, List.getElem_toArray, List.getElem_cons_zero, List.getElem_cons_succ]
  refine list_val (.int .i64 0) (by kernel_rfl) (by kernel_rfl) ?_
  simp only [Act.put, List.setIfInBounds_toArray, List.set_cons_zero, List.set_cons_succ, List.getElem_toArray, List.getElem_cons_zero, List.getElem_cons_succ]
  (refine wpList_step fun K hK => ?_; replace hK := hide hK; go_simp; refine unhide hK _ _ ?_; clear hK K)
  (refine wpList_step fun K hK => ?_; replace hK := hide hK; go_simp; refine unhide hK _ _ ?_; clear hK K)
  refine wpList_nil ?_
  replace hda2 := hide hda2; replace hdb2 := hide hdb2; replace hG2 := hide hG2; replace lw := hide lw
  go_upto_region 9 with fail
  refine wp_region_lit ?_
  refine list_val (.pointer (some ⟨gb, 0, none⟩)) (by kernel_rfl) (by kernel_rfl) ?_
  simp only [Act.put, List.setIfInBounds_toArray, List.set_cons_zero, List.set_cons_succ, List.getElem_toArray, List.getElem_cons_zero, List.getElem_cons_succ]
  refine list_val (.int .i64 k) (by kernel_rfl) (by kernel_rfl) ?_
  simp only [Act.put, List.setIfInBounds_toArray, List.set_cons_zero, List.set_cons_succ, List.getElem_toArray, List.getElem_cons_zero, List.getElem_cons_succ]
  refine list_call 12 #[.pointer (some ⟨gb, 0, none⟩), .int .i64 k] (by kernel_rfl) (by kernel_rfl) ((dbytes_ok Y hYl (unhide hYb) 0 k (by omega) (by omega) gb _ (unhide hdb2)).mono ?_)
  rintro r v4 ⟨g1, o1, M1, rfl, hg1, hM1, -, hz, hdb3, hbt⟩
  refine ⟨_, rfl, ?_⟩
  obtain ⟨rfl, rfl⟩ := hz rfl
  have hda3 := (unhide hda2).bt hbt hne
  have hlt3 := (unhide hdb2).lt
  have hlt4 := (unhide hda2).lt
  have hG3 := hbt.gr (unhide hG2) hgb2
  have lw2 : Lb v4 (some ⟨gx, ox, none⟩) n n (nxl Y 0 n) := by
    have hl := unhide lw
    refine ⟨hl.len, hl.isB, ?_, hl.cap, hl.max⟩
    rcases hl.sl with h | ⟨p, q, h1, h2⟩
    · exact .inl h
    · refine .inr ⟨p, q, h1, h2.bt hbt ?_⟩
      cases h1
      exact hgxb
  have hgx1 : gx ≠ g1 := by omega
  have hg1a : g1 ≠ ga := by omega
  have hg1b : g1 ≠ gb := by omega
  have ho1 : Ob w.heap.size v4 (.slice (some ⟨g1, 0, none⟩) k k) (nxl Y 0 k) := ob_of hM1 (nxl_len _ _ _) (Nat.le_trans (unhide hG2).size hg1) (by omega)
  clear hda2 hdb2 hG2 hbt lw hz hM1 hlt3 hlt4
  simp only [Act.put, List.setIfInBounds_toArray, List.set_cons_zero, List.set_cons_succ, List.getElem_toArray, List.getElem_cons_zero, List.getElem_cons_succ]
  refine list_val (.tuple #[.slice (some ⟨g1, 0, none⟩) k k, .int .i64 0]) (by kernel_rfl) (by kernel_rfl) ?_
  simp only [Act.put, List.setIfInBounds_toArray, List.set_cons_zero, List.set_cons_succ, List.getElem_toArray, List.getElem_cons_zero, List.getElem_cons_succ]
  refine list_val (.slice (some ⟨g1, 0, none⟩) k k) (by kernel_rfl) (by kernel_rfl) ?_
  simp only [Act.put, List.setIfInBounds_toArray, List.set_cons_zero, List.set_cons_succ, List.getElem_toArray, List.getElem_cons_zero, List.getElem_cons_succ]
  refine list_val (.int .i64 0) (by kernel_rfl) (by kernel_rfl) ?_
  simp only [Act.put, List.setIfInBounds_toArray, List.set_cons_zero, List.set_cons_succ, List.getElem_toArray, List.getElem_cons_zero, List.getElem_cons_succ]
  (refine wpList_step fun K hK => ?_; replace hK := hide hK; go_simp; refine unhide hK _ _ ?_; clear hK K)
  (refine wpList_step fun K hK => ?_; replace hK := hide hK; go_simp; refine unhide hK _ _ ?_; clear hK K)
  refine wpList_nil ?_
  rw [Nat.zero_add] at hdb3
  replace hda3 := hide hda3; replace hdb3 := hide hdb3; replace hG3 := hide hG3; replace lw2 := hide lw2; replace ho1 := hide ho1
  go_upto_region 10 with fail
  refine wp_region_lit ?_
  refine list_val (.pointer (some ⟨gb, 0, none⟩)) (by kernel_rfl) (by kernel_rfl) ?_
  simp only [Act.put, List.setIfInBounds_toArray, List.set_cons_zero, List.set_cons_succ, List.getElem_toArray, List.getElem_cons_zero, List.getElem_cons_succ]
  refine list_val (.int .i64 n) (by kernel_rfl) (by kernel_rfl) ?_
  simp only [Act.put, List.setIfInBounds_toArray, List.set_cons_zero, List.set_cons_succ, List.getElem_toArray, List.getElem_cons_zero, List.getElem_cons_succ]
  refine list_val (.int .i64 k) (by kernel_rfl) (by kernel_rfl) ?_
  simp only [Act.put, List.setIfInBounds_toArray, List.set_cons_zero, List.set_cons_succ, List.getElem_toArray, List.getElem_cons_zero, List.getElem_cons_succ]
  refine list_val (.int .i64 m) (by kernel_rfl) (by go_simp) ?_
  simp only [Act.put, List.setIfInBounds_toArray, List.set_cons_zero, List.set_cons_succ, List.getElem_toArray, List.getElem_cons_zero, List.getElem_cons_succ]
  refine list_call 12 #[.pointer (some ⟨gb, 0, none⟩), .int .i64 m] (by kernel_rfl) (by kernel_rfl) ((dbytes_ok Y hYl (unhide hYb) k m (by omega) (by omega) gb _ (unhide hdb3)).mono ?_)
  rintro r v5 ⟨g2, o2, M2, rfl, hg2, -, hat2, -, hdb4, hbt⟩
  refine ⟨_, rfl, ?_⟩
  have hda4 := (unhide hda3).bt hbt hne
  have hG4 := hbt.gr (unhide hG3) hgb2
  have lw3 : Lb v5 (some ⟨gx, ox, none⟩) n n (nxl Y 0 n) := by
    have hl := unhide lw2
    refine ⟨hl.len, hl.isB, ?_, hl.cap, hl.max⟩
    rcases hl.sl with h | ⟨p, q, h1, h2⟩
    · exact .inl h
    · refine .inr ⟨p, q, h1, h2.bt hbt ?_⟩
      cases h1
      exact hgxb
  have ho2 : Ob w.heap.size v5 (.slice (some ⟨g1, 0, none⟩) k k) (nxl Y 0 k) := (unhide ho1).bt hbt (by simp [Value.ownBlock]; omega)
  clear hda3 hdb3 hG3 hbt lw2 ho1
  simp only [Act.put, List.setIfInBounds_toArray, List.set_cons_zero, List.set_cons_succ, List.getElem_toArray, List.getElem_cons_zero, List.getElem_cons_succ]
  refine list_val (.tuple #[.slice (some ⟨g2, o2, none⟩) m m, .int .i64 0]) (by kernel_rfl) (by kernel_rfl) ?_
  simp only [Act.put, List.setIfInBounds_toArray, List.set_cons_zero, List.set_cons_succ, List.getElem_toArray, List.getElem_cons_zero, List.getElem_cons_succ]
  refine list_val (.slice (some ⟨g2, o2, none⟩) m m) (by kernel_rfl) (by kernel_rfl) ?_
  simp only [Act.put, List.setIfInBounds_toArray, List.set_cons_zero, List.set_cons_succ, List.getElem_toArray, List.getElem_cons_zero, List.getElem_cons_succ]
  refine list_val (.int .i64 0) (by kernel_rfl) (by kernel_rfl) ?_
  simp only [Act.put, List.setIfInBounds_toArray, List.set_cons_zero, List.set_cons_succ, List.getElem_toArray, List.getElem_cons_zero, List.getElem_cons_succ]
  (refine wpList_step fun K hK => ?_; replace hK := hide hK; go_simp; refine unhide hK _ _ ?_; clear hK K)
  (refine wpList_step fun K hK => ?_; replace hK := hide hK; go_simp; refine unhide hK _ _ ?_; clear hK K)
  refine wpList_nil ?_
  have hat3 : Sl v5 (some ⟨g2, o2, none⟩) (nxl Y k m) := .inr ⟨g2, o2, rfl, hat2⟩
  have hnm : Hid (nxl Y 0 k ++ nxl Y k m = nxl Y 0 n) := by
    have h := nxl_append Y 0 k m
    rw [Nat.zero_add, show k + m = n from by have := unhide hm; omega] at h
    exact h.symm
  have hmn : Hid (k + m = n) := by show k + m = n; have := unhide hm; omega
  rw [show k + m = n from unhide hmn] at hdb4
  rw [Nat.zero_add] at hda4
  clear hat2
  replace hda4 := hide hda4; replace hdb4 := hide hdb4; replace hG4 := hide hG4; replace lw3 := hide lw3; replace ho2 := hide ho2; replace hat3 := hide hat3
  go_upto_region 11 with fail
  refine wp_region_lit ?_
  refine list_val (.int .i64 0) (by kernel_rfl) (by kernel_rfl) ?_
  simp only [Act.put, List.setIfInBounds_toArray, List.set_cons_zero, List.set_cons_succ, List.getElem_toArray, List.getElem_cons_zero, List.getElem_cons_succ]
  refine list_val (.bool true) (by kernel_rfl) (by kernel_rfl) ?_
  simp only [Act.put, List.setIfInBounds_toArray, List.set_cons_zero, List.set_cons_succ, List.getElem_toArray, List.getElem_cons_zero, List.getElem_cons_succ]
  refine list_val (.bool true) (by kernel_rfl) (by kernel_rfl) ?_
  simp only [Act.put, List.setIfInBounds_toArray, List.set_cons_zero, List.set_cons_succ, List.getElem_toArray, List.getElem_cons_zero, List.getElem_cons_succ]
  refine list_val (.int .i64 0) (by kernel_rfl) (by kernel_rfl) ?_
  simp only [Act.put, List.setIfInBounds_toArray, List.set_cons_zero, List.set_cons_succ, List.getElem_toArray, List.getElem_cons_zero, List.getElem_cons_succ]
  refine list_val (.bool true) (by kernel_rfl) (by kernel_rfl) ?_
  simp only [Act.put, List.setIfInBounds_toArray, List.set_cons_zero, List.set_cons_succ, List.getElem_toArray, List.getElem_cons_zero, List.getElem_cons_succ]
  refine list_val (.bool true) (by kernel_rfl) (by kernel_rfl) ?_
  simp only [Act.put, List.setIfInBounds_toArray, List.set_cons_zero, List.set_cons_succ, List.getElem_toArray, List.getElem_cons_zero, List.getElem_cons_succ]
  refine list_val (.bool true) (by kernel_rfl) (by kernel_rfl) ?_
  simp only [Act.put, List.setIfInBounds_toArray, List.set_cons_zero, List.set_cons_succ, List.getElem_toArray, List.getElem_cons_zero, List.getElem_cons_succ]
  refine list_val (.int .i64 0) (by kernel_rfl) (by kernel_rfl) ?_
  simp only [Act.put, List.setIfInBounds_toArray, List.set_cons_zero, List.set_cons_succ, List.getElem_toArray, List.getElem_cons_zero, List.getElem_cons_succ]
  refine list_val (.bool true) (by kernel_rfl) (by kernel_rfl) ?_
  simp only [Act.put, List.setIfInBounds_toArray, List.set_cons_zero, List.set_cons_succ, List.getElem_toArray, List.getElem_cons_zero, List.getElem_cons_succ]
  refine list_val (.bool true) (by kernel_rfl) (by kernel_rfl) ?_
  simp only [Act.put, List.setIfInBounds_toArray, List.set_cons_zero, List.set_cons_succ, List.getElem_toArray, List.getElem_cons_zero, List.getElem_cons_succ]
  refine list_val (.bool true) (by kernel_rfl) (by kernel_rfl) ?_
  simp only [Act.put, List.setIfInBounds_toArray, List.set_cons_zero, List.set_cons_succ, List.getElem_toArray, List.getElem_cons_zero, List.getElem_cons_succ]
  refine list_val (.slice (some ⟨gx, ox, none⟩) n n) (by kernel_rfl) (by kernel_rfl) ?_
  simp only [Act.put, List.setIfInBounds_toArray, List.set_cons_zero, List.set_cons_succ, List.getElem_toArray, List.getElem_cons_zero, List.getElem_cons_succ]
  refine list_val (.slice (some ⟨g1, 0, none⟩) k k) (by kernel_rfl) (by kernel_rfl) ?_
  simp only [Act.put, List.setIfInBounds_toArray, List.set_cons_zero, List.set_cons_succ, List.getElem_toArray, List.getElem_cons_zero, List.getElem_cons_succ]
  refine list_val (.slice (some ⟨g2, o2, none⟩) m m) (by kernel_rfl) (by kernel_rfl) ?_
  simp only [Act.put, List.setIfInBounds_toArray, List.set_cons_zero, List.set_cons_succ, List.getElem_toArray, List.getElem_cons_zero, List.getElem_cons_succ]
  refine app_bs (by kernel_rfl) (.tmp 65) (.tmp 66) rfl w.heap.size _ (nxl Y 0 k) rfl (unhide ho2) (some ⟨g2, o2, none⟩) m m (nxl Y k m) rfl (nxl_len _ _ _) (unhide hat3) (by rw [nxl_len]; omega) (unhide hG4).size ?_
  intro v6_ v6 ob6 hgr
  have hG5 := Ob.grown (unhide ho2) (Nat.le_refl _) (unhide hG4) hgr
  have hgr2 : v5.grownBy v6 (some g1) := hgr
  have hown : ∀ i, i ≠ g1 → i < v5.heap.size → v6.heap[i]? = v5.heap[i]? := fun i hi hl => hgr2.block i hl (fun e => hi (Option.some.inj e))
  clear hgr2
  have hda5 : De ga Y n v6 := (hown ga (Ne.symm hg1a) (unhide hda4).lt).trans (unhide hda4)
  have hdb5 : De gb Y n v6 := (hown gb (Ne.symm hg1b) (unhide hdb4).lt).trans (unhide hdb4)
  have lw4 : Lb v6 (some ⟨gx, ox, none⟩) n n (nxl Y 0 n) := by
    have hl := unhide lw3
    refine ⟨hl.len, hl.isB, ?_, hl.cap, hl.max⟩
    rcases hl.sl with h | ⟨p, q, h1, h2⟩
    · exact .inl h
    · cases h1
      refine .inr ⟨gx, ox, rfl, fun j hj => ?_⟩
      rw [cell_heap (hown gx hgx1 (lt_of_cell (h2 j hj)))]
      exact h2 j hj
  rw [show nxl Y 0 k ++ nxl Y k m = nxl Y 0 n from unhide hnm] at ob6
  obtain ⟨a6, c6, rfl, l6⟩ := ob6.lb (nxl_isB _ _ _)
  rw [nxl_len] at l6 ⊢
  clear hown hgr ob6 lw3 hda4 hdb4 hG4 ho2 hat3
  simp only [Act.put, List.setIfInBounds_toArray, List.set_cons_zero, List.set_cons_succ, List.getElem_toArray, List.getElem_cons_zero, List.getElem_cons_succ]
  refine list_call 24 #[.slice (some ⟨gx, ox, none⟩) n n, .slice a6 n c6] (by kernel_rfl) (by kernel_rfl) ((oequal_ok (nxl Y 0 n) (nxl Y 0 n) _ _ n n c6 (by omega) _ lw4 l6).mono ?_)
  rintro r v7 ⟨rfl, rfl⟩
  refine ⟨_, rfl, ?_⟩
  rw [show decide (nxl Y 0 n = nxl Y 0 n) = true from decide_eq_true rfl]
  simp only [Act.put, List.setIfInBounds_toArray, List.set_cons_zero, List.set_cons_succ, List.getElem_toArray, List.getElem_cons_zero, List.getElem_cons_succ]
  refine list_val (.bool true) (by kernel_rfl) (by kernel_rfl) ?_
  simp only [Act.put, List.setIfInBounds_toArray, List.set_cons_zero, List.set_cons_succ, List.getElem_toArray, List.getElem_cons_zero, List.getElem_cons_succ]
  refine list_val (.bool true) (by kernel_rfl) (by kernel_rfl) ?_
  simp only [Act.put, List.setIfInBounds_toArray, List.set_cons_zero, List.set_cons_succ, List.getElem_toArray, List.getElem_cons_zero, List.getElem_cons_succ]
  refine list_val (.pointer (some ⟨ga, 0, none⟩)) (by kernel_rfl) (by kernel_rfl) ?_
  simp only [Act.put, List.setIfInBounds_toArray, List.set_cons_zero, List.set_cons_succ, List.getElem_toArray, List.getElem_cons_zero, List.getElem_cons_succ]
  refine list_call 21 #[.pointer (some ⟨ga, 0, none⟩)] (by kernel_rfl) (by kernel_rfl) ((dtaken_ok ga Y n _ hda5).mono ?_)
  rintro r v8 ⟨rfl, rfl⟩
  refine ⟨_, rfl, ?_⟩
  simp only [Act.put, List.setIfInBounds_toArray, List.set_cons_zero, List.set_cons_succ, List.getElem_toArray, List.getElem_cons_zero, List.getElem_cons_succ]
  refine list_val (.int .i64 n) (by kernel_rfl) (by kernel_rfl) ?_
  simp only [Act.put, List.setIfInBounds_toArray, List.set_cons_zero, List.set_cons_succ, List.getElem_toArray, List.getElem_cons_zero, List.getElem_cons_succ]
  refine list_val (.bool true) (by kernel_rfl) (by go_simp) ?_
  simp only [Act.put, List.setIfInBounds_toArray, List.set_cons_zero, List.set_cons_succ, List.getElem_toArray, List.getElem_cons_zero, List.getElem_cons_succ]
  refine list_val (.bool true) (by kernel_rfl) (by kernel_rfl) ?_
  simp only [Act.put, List.setIfInBounds_toArray, List.set_cons_zero, List.set_cons_succ, List.getElem_toArray, List.getElem_cons_zero, List.getElem_cons_succ]
  refine list_val (.bool true) (by kernel_rfl) (by kernel_rfl) ?_
  simp only [Act.put, List.setIfInBounds_toArray, List.set_cons_zero, List.set_cons_succ, List.getElem_toArray, List.getElem_cons_zero, List.getElem_cons_succ]
  refine list_val (.pointer (some ⟨gb, 0, none⟩)) (by kernel_rfl) (by kernel_rfl) ?_
  simp only [Act.put, List.setIfInBounds_toArray, List.set_cons_zero, List.set_cons_succ, List.getElem_toArray, List.getElem_cons_zero, List.getElem_cons_succ]
  refine list_call 21 #[.pointer (some ⟨gb, 0, none⟩)] (by kernel_rfl) (by kernel_rfl) ((dtaken_ok gb Y n _ hdb5).mono ?_)
  rintro r v9 ⟨rfl, rfl⟩
  refine ⟨_, rfl, ?_⟩
  simp only [Act.put, List.setIfInBounds_toArray, List.set_cons_zero, List.set_cons_succ, List.getElem_toArray, List.getElem_cons_zero, List.getElem_cons_succ]
  refine list_val (.int .i64 n) (by kernel_rfl) (by kernel_rfl) ?_
  simp only [Act.put, List.setIfInBounds_toArray, List.set_cons_zero, List.set_cons_succ, List.getElem_toArray, List.getElem_cons_zero, List.getElem_cons_succ]
  refine list_val (.bool true) (by kernel_rfl) (by go_simp) ?_
  simp only [Act.put, List.setIfInBounds_toArray, List.set_cons_zero, List.set_cons_succ, List.getElem_toArray, List.getElem_cons_zero, List.getElem_cons_succ]
  refine list_val (.bool true) (by kernel_rfl) (by kernel_rfl) ?_
  simp only [Act.put, List.setIfInBounds_toArray, List.set_cons_zero, List.set_cons_succ, List.getElem_toArray, List.getElem_cons_zero, List.getElem_cons_succ]
  (refine wpList_step fun K hK => ?_; replace hK := hide hK; go_simp; refine unhide hK _ _ ?_; clear hK K)
  refine wpList_nil ?_
  have hP : Hid (Gr w _) := hG5
  clear hG5 hda5 hdb5 lw4 l6
  go_wp2_with fail
  rw [unhide hT]
  exact ⟨rfl, unhide hP⟩
end Go.Proofs.YtdfcdklnngfhkaaDoor
