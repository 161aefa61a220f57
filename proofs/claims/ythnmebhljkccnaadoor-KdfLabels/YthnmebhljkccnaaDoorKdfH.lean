/-
  Small functions of the reference and of the laws: bytes behind bytes, the same bytes, parts joined, how many there are, parts copied.
-/
import Derived.Test.YthnmebhljkccnaaDoorKdfG
namespace Go.Proofs.YthnmebhljkccnaaDoor
open Go.RowKit
set_option maxRecDepth 100000
set_option linter.unusedSimpArgs false
set_option linter.unusedVariables false

theorem Lb.cellAt {w : World} {a : Option Addr} {n c : Nat} {B : List Int} (h : Lb w a n c B) {k : Nat} (hk : k < n) : ∃ p o, a = some ⟨p, o, none⟩ ∧ w.cell? ⟨p, o + k, none⟩ = some (.int .u8 (B.getD k 0)) := by
  have hl := h.len
  rcases h.sl with h1 | ⟨p, o, h1, h2⟩
  · rw [h1] at hl; simp at hl; omega
  · exact ⟨p, o, h1, h2 k (by omega)⟩
theorem take_next (B : List Int) (k : Nat) (h : k < B.length) : B.take (k + 1) = B.take k ++ [B.getD k 0] := by
  rw [List.take_add_one, List.getElem?_eq_getElem h]
  simp [h]
set_option maxHeartbeats 2000000 in
theorem both_ok (A B : List Int) (a b : Option Addr) (n c m d : Nat) (hb : n + m ≤ 140737488355328) (w : World) (hA : Lb w a n c A) (hB : Lb w b m d B) : Calls Tryd.prog 26 #[.slice a n c, .slice b m d] w (Infd (A ++ B) w) := by
  obtain ⟨T, hT⟩ : ∃ T, T = Infd (A ++ B) w := ⟨_, rfl⟩
  rw [← hT]
  have la := hide hA.len
  have lb := hide hB.len
  replace hT := hide hT
  replace hA := hide hA
  replace hB := hide hB
  have w1 : IntKind.i64.wrap ((n : Int) + (m : Int)) = (n : Int) + (m : Int) := by rw [IntKind.wrap_i64]; omega
  have w2 : (0 : Int) ≤ (n : Int) + (m : Int) := by omega
  go_enter Tryd.func26, Tryd.ntmps26
  go_upto_region 1 with fail
  refine wp_region_lit ?_
  iterate 5 (refine wpList_step fun K hK => ?_; replace hK := hide hK; go_simp; refine unhide hK _ _ ?_; clear hK K)
  refine wpList_make_room w rfl (.const (.int .i64 0)) (.tmp 12) rfl 0 ((n : Int) + (m : Int)) 0 (n + m) (by kernel_rfl) (by kernel_rfl) (by omega) (by omega) (by omega) (by omega) ?_
  have hO : Ob w.heap.size (w.alloc (.cells (kc (List.replicate (n + m) 0)) 5 (0, 0))) (.slice (some ⟨w.heap.size, 0, none⟩) 0 (n + m)) (A.take 0) :=
    ⟨rfl, .inr ⟨w.heap.size, n + m, _, rfl, Nat.le_refl _, blk_new _ _, by simp, by unfold maxLen; omega, by rw [kc_size]; simp, by simp⟩⟩
  have hG := (Gr.refl w).alloc (.cells (kc (List.replicate (n + m) 0)) 5 (0, 0))
  generalize World.alloc _ _ = u at *
  simp only [Act.put, List.setIfInBounds_toArray, List.set_cons_zero, List.set_cons_succ, List.getElem_toArray, List.getElem_cons_zero, List.getElem_cons_succ]
  replace hO := hide hO
  replace hG := hide hG
  iterate 1 (refine wpList_step fun K hK => ?_; replace hK := hide hK; go_simp; refine unhide hK _ _ ?_; clear hK K)
  refine wpList_nil ?_
  go_wp2_with fail
  go_loopw [6, 5] (fun i x wr => ∃ (k : Nat) (a5 : Option Addr) (c5 : Nat), k ≤ n ∧ i = .int .i64 k ∧ x = .slice a5 k c5 ∧ Hid (Ob w.heap.size wr (.slice a5 k c5) (A.take k)) ∧ Hid (Gr w wr)) (fun i _ _ => n - (intOf i).toNat)
  case atStart => exact ⟨0, _, n + m, by omega, rfl, rfl, hO, hG⟩
  case round =>
  clear hO hG
  obtain ⟨k, a5, c5, hk, rfl, rfl, hO, hG⟩ := hrel
  by_cases hl : k < n
  · have kI : (k : Int) < (n : Int) := by omega
    have kJ : 0 ≤ (k : Int) ∧ (k : Int) < (n : Int) := by omega
    have kw : IntKind.i64.wrap ((k : Int) + 1) = (k : Int) + 1 := by rw [IntKind.wrap_i64]; omega
    obtain ⟨p, o, rfl, cc⟩ := ((unhide hA).gr (unhide hG)).cellAt hl
    have hnx := hide (take_next A k (by rw [unhide la]; exact hl))
    have htl : Hid ((A.take k).length = k) := by rw [List.length_take, unhide la]; exact Nat.min_eq_left (by omega)
    generalize A.getD k 0 = x at *
    go_upto_region 5 with fail
    refine wp_region_lit ?_
    iterate 6 (refine wpList_step fun K hK => ?_; replace hK := hide hK; go_simp; refine unhide hK _ _ ?_; clear hK K)
    have hO2 := (unhide hO).gr ((Gr.refl wr).alloc (.cells #[.int .u8 x] 5))
    refine app_bs (by kernel_rfl) (.tmp 20) (.tmp 25) rfl w.heap.size (.slice a5 k c5) (A.take k) (by kernel_rfl) hO2 (some ⟨wr.heap.size, 0, none⟩) 1 1 [x] (by kernel_rfl) rfl (.inr ⟨_, 0, rfl, kc_at (l := [x]) (blk_new _ _)⟩) (by rw [unhide htl]; omega) (by have := (unhide hG).size; simp only [size_alloc]; omega) ?_
    intro v' w2 hO3 hgb
    have hG4 := hO2.grown (Nat.le_refl _) ((unhide hG).alloc _) hgb
    rw [← unhide hnx] at hO3
    obtain ⟨a6, c6, hv', _, _, _⟩ := hO3.slice
    have hl2 : (A.take (k + 1)).length = k + 1 := by rw [List.length_take, unhide la]; omega
    rw [hl2] at hv'
    subst hv'
    clear hO hG hO2 hgb hl2 htl hnx
    replace hO3 := hide hO3
    replace hG4 := hide hG4
    simp only [Act.put, List.setIfInBounds_toArray, List.set_cons_zero, List.set_cons_succ, List.getElem_toArray, List.getElem_cons_zero, List.getElem_cons_succ]
    iterate 1 (refine wpList_step fun K hK => ?_; replace hK := hide hK; go_simp; refine unhide hK _ _ ?_; clear hK K)
    refine wpList_nil ?_
    go_wp2_with fail
    exact ⟨⟨k + 1, a6, c6, by omega, by congr 1, rfl, hO3, hG4⟩, by show n - ((k : Int) + 1).toNat < n - (k : Int).toNat; omega⟩
  · have e : k = n := by omega
    subst e
    have hO2 : Hid (Ob w.heap.size wr (.slice a5 (k + 0) c5) (A ++ B.take 0)) := by
      have h := unhide hO
      rw [List.take_of_length_le (by rw [unhide la]; omega)] at h
      rw [List.take_zero, List.append_nil]
      exact h
    clear hO hl
    go_wp2_with fail
    go_loopw [7, 5] (fun i x wr => ∃ (j : Nat) (a5 : Option Addr) (c5 : Nat), j ≤ m ∧ i = .int .i64 j ∧ x = .slice a5 (k + j) c5 ∧ Hid (Ob w.heap.size wr (.slice a5 (k + j) c5) (A ++ B.take j)) ∧ Hid (Gr w wr)) (fun i _ _ => m - (intOf i).toNat)
    case atStart => exact ⟨0, a5, c5, by omega, rfl, rfl, hO2, hG⟩
    case round =>
    clear hO2 hG
    obtain ⟨j, a5, c5, hj, rfl, rfl, hO, hG⟩ := hrel
    by_cases hl : j < m
    · have kI : (j : Int) < (m : Int) := by omega
      have kJ : 0 ≤ (j : Int) ∧ (j : Int) < (m : Int) := by omega
      have kw : IntKind.i64.wrap ((j : Int) + 1) = (j : Int) + 1 := by rw [IntKind.wrap_i64]; omega
      obtain ⟨p, o, rfl, cc⟩ := ((unhide hB).gr (unhide hG)).cellAt hl
      have hnx := hide (take_next B j (by rw [unhide lb]; exact hl))
      have htl : Hid ((A ++ B.take j).length = k + j) := by rw [List.length_append, List.length_take, unhide la, unhide lb, Nat.min_eq_left (by omega)]; exact rfl
      generalize B.getD j 0 = x at *
      go_upto_region 9 with fail
      refine wp_region_lit ?_
      iterate 6 (refine wpList_step fun K hK => ?_; replace hK := hide hK; go_simp; refine unhide hK _ _ ?_; clear hK K)
      have hO2 := (unhide hO).gr ((Gr.refl wr).alloc (.cells #[.int .u8 x] 5))
      refine app_bs (by kernel_rfl) (.tmp 33) (.tmp 38) rfl w.heap.size (.slice a5 (k + j) c5) (A ++ B.take j) (by kernel_rfl) hO2 (some ⟨wr.heap.size, 0, none⟩) 1 1 [x] (by kernel_rfl) rfl (.inr ⟨_, 0, rfl, kc_at (l := [x]) (blk_new _ _)⟩) (by rw [unhide htl]; omega) (by have := (unhide hG).size; simp only [size_alloc]; omega) ?_
      intro v' w2 hO3 hgb
      have hG4 := hO2.grown (Nat.le_refl _) ((unhide hG).alloc _) hgb
      rw [List.append_assoc, ← unhide hnx] at hO3
      obtain ⟨a6, c6, hv', _, _, _⟩ := hO3.slice
      have hl2 : (A ++ B.take (j + 1)).length = k + (j + 1) := by rw [List.length_append, List.length_take, unhide la, unhide lb]; omega
      rw [hl2] at hv'
      subst hv'
      clear hO hG hO2 hgb hl2 htl hnx
      replace hO3 := hide hO3
      replace hG4 := hide hG4
      simp only [Act.put, List.setIfInBounds_toArray, List.set_cons_zero, List.set_cons_succ, List.getElem_toArray, List.getElem_cons_zero, List.getElem_cons_succ]
      iterate 1 (refine wpList_step fun K hK => ?_; replace hK := hide hK; go_simp; refine unhide hK _ _ ?_; clear hK K)
      refine wpList_nil ?_
      go_wp2_with fail
      exact ⟨⟨j + 1, a6, c6, by omega, by congr 1, rfl, hO3, hG4⟩, by show m - ((j : Int) + 1).toNat < m - (j : Int).toNat; omega⟩
    · have e : j = m := by omega
      subst e
      have hP : Hid (Infd (A ++ B) w (.returned (.slice a5 (k + j) c5)) wr) := by
        have h := unhide hO
        rw [List.take_of_length_le (by rw [unhide lb]; omega)] at h
        exact ⟨_, rfl, h, unhide hG⟩
      clear hO hG hl
      go_wp2_with fail
      rw [unhide hT]
      exact unhide hP
set_option maxHeartbeats 1000000 in
theorem same_ok (B : List Int) (a b : Option Addr) (n c d : Nat) (w : World) (ha : Lb w a n c B) (hb : Lb w b n d B) (hn : n < 4611686018427387904) : Calls Tryd.prog 17 #[.slice a n c, .slice b n d] w (fun r w' => r = .returned (.bool true) ∧ Gr w w') := by
  replace ha := hide ha
  replace hb := hide hb
  go_enter Tryd.func17, Tryd.ntmps17
  go_wp2_with fail
  go_loopw [5] (fun i wr => ∃ k : Nat, k ≤ n ∧ i = .int .i64 k ∧ Hid (Gr w wr)) (fun i _ => n - (intOf i).toNat)
  case atStart => exact ⟨0, by omega, rfl, Gr.refl w⟩
  case round =>
  obtain ⟨k, hk, rfl, hG⟩ := hrel
  by_cases hl : k < n
  · have kI : (k : Int) < (n : Int) := by omega
    have kJ : 0 ≤ (k : Int) ∧ (k : Int) < (n : Int) := by omega
    have kw : IntKind.i64.wrap ((k : Int) + 1) = (k : Int) + 1 := by rw [IntKind.wrap_i64]; omega
    obtain ⟨p, o, rfl, h1⟩ := ((unhide ha).gr (unhide hG)).cellAt hl
    obtain ⟨p2, o2, rfl, h2⟩ := ((unhide hb).gr (unhide hG)).cellAt hl
    generalize B.getD k 0 = x at *
    go_wp2_with fail
    go_quiet (fail)
    replace hG := hide ((unhide hG).drewN nq)
    clear h1 h2
    generalize World.drewN _ _ = v at *
    go_wp2_with fail
    go_roundw
    case rel => exact ⟨k + 1, by omega, by go_num, hG⟩
    case measure => simp [intOf]; omega
  · have e : k = n := by omega
    subst e
    go_wp2_with fail
    refine bodyPost_ret (v := .bool true) ?_ rfl ⟨rfl, unhide hG⟩
    simp [results, Tryd.results17, go_sem]
/-- how long the first k parts are, as far as it matters -/
def mn (ps : List (List Int)) (k : Nat) : Nat := min (ps.take k).flatten.length 1048576
theorem mn_next (ps : List (List Int)) (k : Nat) (h : k < ps.length) : mn ps (k + 1) = min (mn ps k + (ps.getD k []).length) 1048576 := by
  unfold mn
  rw [flat_next ps k h, List.length_append]
  omega
def Smalld (ps : List (List Int)) (w : World) (r : Ending) (w' : World) : Prop := ∃ b : Bool, r = .returned (.bool b) ∧ (b = true → ps.flatten.length ≤ 4096 ∧ ps.length ≤ 100) ∧ (ps.flatten.length ≤ 4096 → ps.length ≤ 100 → b = true) ∧ w' = w
set_option maxHeartbeats 2000000 in
theorem small_ok (ps : List (List Int)) (a : Option Addr) (m cap : Nat) (hm : ps.length = m) (hmb : m ≤ 140737488351232) (hps : ∀ p ∈ ps, p.length ≤ 140737488351232) (w : World) (hP : Pr w a ps) : Calls Tryd.prog 10 #[.slice a m cap] w (Smalld ps w) := by
  obtain ⟨T, hT⟩ : ∃ T, T = Smalld ps w := ⟨_, rfl⟩
  rw [← hT]
  replace hT := hide hT
  replace hP := hide hP
  replace hps := hide hps
  replace hm := hide hm
  go_enter Tryd.func10, Tryd.ntmps10
  go_wp2_with fail
  go_loopw [3, 8] (fun x i wr => ∃ (k s : Nat), k ≤ m ∧ i = .int .i64 k ∧ x = .int .i64 s ∧ Hid (s = mn ps k) ∧ wr = w) (fun _ i _ => m - (intOf i).toNat)
  case atStart => exact ⟨0, 0, by omega, rfl, rfl, rfl, rfl⟩
  case round =>
  obtain ⟨k, s, hk, rfl, rfl, hs, rfl⟩ := hrel
  have hsb : s ≤ 1048576 := by rw [unhide hs]; unfold mn; omega
  by_cases hl : k < m
  · have kI : (k : Int) < (m : Int) := by omega
    have kw : IntKind.i64.wrap ((k : Int) + 1) = (k : Int) + 1 := by rw [IntKind.wrap_i64]; omega
    obtain ⟨p, o, rfl, hq⟩ : ∃ p o, a = some ⟨p, o, none⟩ ∧ Pq wr p o ps := by
      rcases (unhide hP) with h | ⟨p, o, h1, h2⟩
      · have := unhide hm; rw [h] at this; simp at this; omega
      · exact ⟨p, o, h1, h2⟩
    obtain ⟨aP, nP, cP, cc, hPl, _, _, _, _⟩ := hq k (by rw [unhide hm]; exact hl)
    have hnx := mn_next ps k (by rw [unhide hm]; exact hl)
    have hpm := (unhide hps) (ps.getD k []) (by rw [List.getD_eq_getElem?_getD, List.getElem?_eq_getElem (by rw [unhide hm]; exact hl)]; exact List.getElem_mem _)
    rw [hPl] at hpm hnx
    rw [← unhide hs] at hnx
    obtain ⟨s2, hs2⟩ : ∃ s2, s2 = mn ps (k + 1) := ⟨_, rfl⟩
    rw [← hs2] at hnx
    clear hq hPl
    have e1 : IntKind.i64.wrap ((s : Int) + (nP : Int)) = (s : Int) + (nP : Int) := by rw [IntKind.wrap_i64]; omega
    have e2 : (if 1048576 < (s : Int) + (nP : Int) then 1048576 else (s : Int) + (nP : Int)) = (s2 : Int) := by split <;> omega
    replace hnx := hide hnx
    replace hs2 := hide hs2
    go_wp2_with fail
    go_roundw
    case rel => exact ⟨k + 1, s2, by omega, by go_num, rfl, hs2, by simp⟩
    case measure => simp [intOf]; omega
  · have e : k = m := by omega
    subst e
    have hs3 : s = min ps.flatten.length 1048576 := by rw [unhide hs]; unfold mn; rw [List.take_of_length_le (by rw [unhide hm]; omega)]
    have hmm := unhide hm
    by_cases h1 : s ≤ 4096
    · have h1' : (s : Int) ≤ 4096 := by omega
      by_cases h2 : k ≤ 100
      · have h2' : (k : Int) ≤ 100 := by omega
        have hP : Hid (Smalld ps wr (.returned (.bool true)) wr) := ⟨true, rfl, (fun _ => by omega), (fun _ _ => rfl), rfl⟩
        clear hs3 hmm
        go_wp2_with fail
        rw [unhide hT]
        exact unhide hP
      · have h2' : ¬ (k : Int) ≤ 100 := by omega
        have hP : Hid (Smalld ps wr (.returned (.bool false)) wr) := ⟨false, rfl, (fun h => by cases h), (fun _ _ => by omega), rfl⟩
        clear hs3 hmm
        go_wp2_with fail
        rw [unhide hT]
        exact unhide hP
    · have h1' : ¬ (s : Int) ≤ 4096 := by omega
      have hP : Hid (Smalld ps wr (.returned (.bool false)) wr) := ⟨false, rfl, (fun h => by cases h), (fun _ _ => by omega), rfl⟩
      clear hs3 hmm
      go_wp2_with fail
      rw [unhide hT]
      exact unhide hP
theorem Pr.isB' {w : World} {a : Option Addr} {ps : List (List Int)} (h : Pr w a ps) (k : Nat) : IsB (ps.take k).flatten := by
  intro x hx
  obtain ⟨q, hq, hx⟩ := List.mem_flatten.1 hx
  exact h.isB q (List.mem_of_mem_take hq) x hx
set_option maxHeartbeats 2000000 in
theorem join_ok (ps : List (List Int)) (ap : Option Addr) (m cp : Nat) (hm : ps.length = m) (hmb : m ≤ 1000) (hbig : ps.flatten.length ≤ 100000) (w : World) (hP : Pr w ap ps) : Calls Tryd.prog 11 #[.slice ap m cp] w (Infd ps.flatten w) := by
  obtain ⟨T, hT⟩ : ∃ T, T = Infd ps.flatten w := ⟨_, rfl⟩
  rw [← hT]
  have hPb := hide hP.isB'
  replace hT := hide hT
  replace hP := hide hP
  replace hm := hide hm
  replace hbig := hide hbig
  have hO : Hid (Ob w.heap.size w (.slice none 0 0) (ps.take 0).flatten) := ⟨rfl, .inl ⟨rfl, rfl⟩⟩
  go_enter Tryd.func11, Tryd.ntmps11
  go_wp2_with fail
  go_loopw [3, 4] (fun x i wr => ∃ (k n : Nat) (a : Option Addr) (c : Nat), k ≤ m ∧ i = .int .i64 k ∧ x = .slice a n c ∧ Hid (n = (ps.take k).flatten.length) ∧ Hid (Ob w.heap.size wr (.slice a n c) (ps.take k).flatten) ∧ Hid (Gr w wr)) (fun _ i _ => m - (intOf i).toNat)
  case atStart => exact ⟨0, 0, none, 0, by omega, rfl, rfl, rfl, hO, Gr.refl w⟩
  case round =>
  clear hO
  obtain ⟨k, n, a, c, hk, rfl, rfl, hn, hO, hG⟩ := hrel
  by_cases hl : k < m
  · have kI : (k : Int) < (m : Int) := by omega
    have kJ : 0 ≤ (k : Int) ∧ (k : Int) < (m : Int) := by omega
    obtain ⟨p, o, rfl, hq⟩ : ∃ p o, ap = some ⟨p, o, none⟩ ∧ Pq w p o ps := by
      rcases (unhide hP) with h | ⟨p, o, h1, h2⟩
      · have := unhide hm; rw [h] at this; simp at this; omega
      · exact ⟨p, o, h1, h2⟩
    obtain ⟨aP, nP, cP, cc, hPl, hPb2, hPs, hPc, hPm⟩ := hq k (by rw [unhide hm]; exact hl)
    replace cc := (unhide hG).cell cc
    clear hq
    have hnx := hide (flat_next ps k (by rw [unhide hm]; exact hl))
    have hle := flat_le ps (k + 1)
    have hb4 := unhide hbig
    rw [unhide hnx, List.length_append] at hle
    generalize ps.getD k [] = P at *
    have lP : Hid (Lb w aP nP cP P) := ⟨hPl, hPb2, hPs, hPc, hPm⟩
    have hsum : n + nP ≤ 100000 := by rw [unhide hn, ← hPl]; omega
    obtain ⟨a2, c2, hv2, l2⟩ := (unhide hO).lb ((unhide hPb) k)
    have e2 : a = a2 ∧ c = c2 := by have := (Value.slice.injEq _ _ _ _ _ _).mp hv2; exact ⟨this.1, this.2.2⟩
    obtain ⟨rfl, rfl⟩ := e2
    rw [← unhide hn] at l2
    clear hv2 hPl hPb2 hPs hPc hPm hle hb4
    replace l2 := hide l2
    replace hsum := hide hsum
    go_upto_region 5 with fail
    refine wp_region_lit ?_
    iterate 5 (refine wpList_step fun K hK => ?_; replace hK := hide hK; go_simp; refine unhide hK _ _ ?_; clear hK K)
    refine list_call 26 #[.slice a n c, .slice aP nP cP] (by kernel_rfl) (by kernel_rfl) ((both_ok (ps.take k).flatten P a aP n c nP cP (by have := unhide hsum; omega) _ (unhide l2) ((unhide lP).gr (unhide hG))).mono ?_)
    rintro r v1 ⟨x1, rfl, hO1, hg⟩
    refine ⟨_, rfl, ?_⟩
    have hO2 := hO1.up (unhide hG).size
    replace hG := hide ((unhide hG).trans hg)
    rw [← unhide hnx] at hO2
    obtain ⟨a5, c5, rfl, _, _, _⟩ := hO2.slice
    obtain ⟨n5, hn5⟩ : ∃ n5, n5 = (ps.take (k + 1)).flatten.length := ⟨_, rfl⟩
    rw [← hn5] at hO2
    rw [← hn5]
    replace hn5 := hide hn5
    clear hO1 hg hO
    replace hO2 := hide hO2
    simp only [Act.put, List.setIfInBounds_toArray, List.set_cons_zero, List.set_cons_succ, List.getElem_toArray, List.getElem_cons_zero, List.getElem_cons_succ]
    iterate 1 (refine wpList_step fun K hK => ?_; replace hK := hide hK; go_simp; refine unhide hK _ _ ?_; clear hK K)
    refine wpList_nil ?_
    go_wp2_with fail
    go_roundw
    case rel => exact ⟨k + 1, n5, a5, c5, by omega, by go_num, rfl, hn5, hO2, hG⟩
    case measure => simp [intOf]; omega
  · have e : k = m := by omega
    subst e
    have hPd : Hid (Infd ps.flatten w (.returned (.slice a n c)) wr) := by
      have h := unhide hO
      rw [List.take_of_length_le (by rw [unhide hm]; omega)] at h
      exact ⟨_, rfl, h, unhide hG⟩
    clear hO hG hn
    go_wp2_with fail
    rw [unhide hT]
    exact unhide hPd
end Go.Proofs.YthnmebhljkccnaaDoor
