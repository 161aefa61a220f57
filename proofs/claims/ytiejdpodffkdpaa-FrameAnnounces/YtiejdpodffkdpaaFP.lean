/-
  Layer 14: the reference's bytes and numbers.
-/
import Derived.Test.YtiejdpodffkdpaaFO
namespace Go.Proofs.Ytiejdpodffkdpaa
open Go.RowKit
set_option maxRecDepth 100000
set_option linter.unusedSimpArgs false
set_option linter.unusedVariables false
theorem exec_shr8 {a : Act} {o : Oper} (w : World) (x y : Operand) (ho : o.op = .binOp .shr 22 x y 3) (X : Int) (j : Nat) (hj : j < 8) (hx : a.eval x = .int .u64 X) (hy : a.eval y = .int .i64 ((8 * j : Nat) : Int)) : (execOp a.eval o).run Try.prog w = .ok (.value (.int .u64 (X / 256 ^ j))) w := by
  unfold execOp
  simp only [ho, hx, hy]
  obtain rfl | rfl | rfl | rfl | rfl | rfl | rfl | rfl : j = 0 ∨ j = 1 ∨ j = 2 ∨ j = 3 ∨ j = 4 ∨ j = 5 ∨ j = 6 ∨ j = 7 := by omega
  all_goals go_simp
theorem u64_or_nat (A B : Nat) (hA : A < 18446744073709551616) (hB : B < 18446744073709551616) : bits .or .u64 (A : Int) (B : Int) = ((A ||| B : Nat) : Int) := by
  have := bits_or_u64_nat A B hA hB
  simpa using this
theorem or_low (X y : Int) (h0 : 0 ≤ X) (h1 : X < 72057594037927936) (hy0 : 0 ≤ y) (hy1 : y < 256) : bits .or .u64 (IntKind.u64.wrap (X * 256)) y = y + 256 * X := by
  obtain ⟨A, rfl⟩ := Int.eq_ofNat_of_zero_le h0
  obtain ⟨B, rfl⟩ := Int.eq_ofNat_of_zero_le hy0
  have e : IntKind.u64.wrap ((A : Int) * 256) = ((A * 256 : Nat) : Int) := by rw [IntKind.wrap_u64]; omega
  rw [e, u64_or_nat _ _ (by omega) (by omega)]
  have h := Nat.shiftLeft_add_eq_or_of_lt (i := 8) (b := B) (by omega) A
  rw [Nat.shiftLeft_eq] at h
  have h2 : A * 256 ||| B = A * 256 + B := by simpa using h.symm
  rw [h2]
  omega
theorem pow256_le (m : Nat) (h : m ≤ 7) : (256 : Int) ^ m ≤ 72057594037927936 := by
  obtain rfl | rfl | rfl | rfl | rfl | rfl | rfl | rfl : m = 0 ∨ m = 1 ∨ m = 2 ∨ m = 3 ∨ m = 4 ∨ m = 5 ∨ m = 6 ∨ m = 7 := by omega
  all_goals decide
theorem lowN_cons (x : Int) (l : List Int) : lowN (x :: l) = x + 256 * lowN l := rfl
theorem drop_getD (l : List Int) (k : Nat) (h : k < l.length) : l.drop k = l.getD k 0 :: l.drop (k + 1) := by
  rw [List.drop_eq_getElem_cons h]
  simp [List.getD, h]
set_option maxHeartbeats 4000000 in
theorem qlow_ok (x : Int) (hx : 0 ≤ x) (n : Nat) (hn : n ≤ 8) (w : World) : Calls Try.prog 20 #[.int .u64 x, .int .i64 (n : Int)] w (Infd (lowL x n) w) := by
  obtain ⟨T, hT⟩ : ∃ T, T = Infd (lowL x n) w := ⟨_, rfl⟩
  rw [← hT]
  replace hT := hide hT
  have hI0 : Hid (Ob w.heap.size w (.slice none 0 0) (lowL x 0) ∧ Gr w w) := ⟨ob_none _ _, Gr.refl w⟩
  go_enter Try.func20, Try.ntmps20
  go_wp2_with fail
  go_loopw [5, 6] (fun v i wr => ∃ (j : Nat) (v' : Value), j ≤ n ∧ v' = v ∧ i = .int .i64 (j : Int) ∧ Hid (Ob w.heap.size wr v' (lowL x j) ∧ Gr w wr)) (fun _ i _ => n - (intOf i).toNat)
  case atStart => exact ⟨0, _, by omega, rfl, rfl, hI0⟩
  case round =>
  clear hI0
  obtain ⟨j, v', hj, rfl, rfl, hA⟩ := hrel
  obtain ⟨hO, hG⟩ := unhide hA
  clear hA
  by_cases hlt : j < n
  · skip
    have jI : (j : Int) < (n : Int) := by omega
    have hj8 : IntKind.i64.wrap (8 * (j : Int)) = ((8 * j : Nat) : Int) := by rw [IntKind.wrap_i64]; omega
    obtain ⟨y, hy⟩ : ∃ y, y = x / 256 ^ j := ⟨_, rfl⟩
    obtain ⟨z, hz⟩ : ∃ z, z = y % 256 := ⟨_, rfl⟩
    have hz8 : IntKind.u8.wrap y = z := by rw [IntKind.wrap_u8, hz]
    have hsn : Hid (lowL x (j + 1) = lowL x j ++ [z]) := by show lowL x (j + 1) = _; rw [lowL_snoc, ← hy, ← hz]
    have hzb : Hid (IsB [z]) := fun u hu => by rw [List.mem_singleton.1 hu]; omega
    replace hO := hide hO; replace hG := hide hG; replace hy := hide hy
    clear hz
    go_upto_region 5 with fail
    refine wp_region_lit ?_
    refine list_val v' (by kernel_rfl) (by kernel_rfl) ?_
    simp only [Act.put, List.setIfInBounds_toArray, List.set_cons_zero, List.set_cons_succ, List.getElem_toArray, List.getElem_cons_zero, List.getElem_cons_succ]
    refine list_val (.int .u64 x) (by kernel_rfl) (by kernel_rfl) ?_
    simp only [Act.put, List.setIfInBounds_toArray, List.set_cons_zero, List.set_cons_succ, List.getElem_toArray, List.getElem_cons_zero, List.getElem_cons_succ]
    refine list_val (.int .i64 (j : Int)) (by kernel_rfl) (by kernel_rfl) ?_
    simp only [Act.put, List.setIfInBounds_toArray, List.set_cons_zero, List.set_cons_succ, List.getElem_toArray, List.getElem_cons_zero, List.getElem_cons_succ]
    refine list_val (.int .i64 ((8 * j : Nat) : Int)) (by kernel_rfl) (by go_simp) ?_
    simp only [Act.put, List.setIfInBounds_toArray, List.set_cons_zero, List.set_cons_succ, List.getElem_toArray, List.getElem_cons_zero, List.getElem_cons_succ]
    refine list_val (.int .u64 y) (by kernel_rfl) (by rw [unhide hy]; exact exec_shr8 _ (.tmp 13) (.tmp 15) rfl x j (by omega) (by kernel_rfl) (by kernel_rfl)) ?_
    simp only [Act.put, List.setIfInBounds_toArray, List.set_cons_zero, List.set_cons_succ, List.getElem_toArray, List.getElem_cons_zero, List.getElem_cons_succ]
    refine list_val (.int .u8 z) (by kernel_rfl) (by go_simp) ?_
    simp only [Act.put, List.setIfInBounds_toArray, List.set_cons_zero, List.set_cons_succ, List.getElem_toArray, List.getElem_cons_zero, List.getElem_cons_succ]
    refine list_valw (.slice (some ⟨wr.heap.size, 0, none⟩) 1 1) (wr.alloc (.cells (kc [z]) 5 (0, 0))) (by kernel_rfl) (by kernel_rfl) ?_
    have hg := (Gr.refl wr).alloc (.cells (kc [z]) 5 (0, 0))
    have hlb := hide (kc_lb (n := 1) (blk_new wr (.cells (kc [z]) 5 (0, 0))) rfl (unhide hzb) (by decide))
    replace hO := hide ((unhide hO).gr hg)
    replace hG := hide ((unhide hG).trans hg)
    clear hg
    generalize World.alloc _ _ = y1 at *
    generalize wr.heap.size = h1 at *
    simp only [Act.put, List.setIfInBounds_toArray, List.set_cons_zero, List.set_cons_succ, List.getElem_toArray, List.getElem_cons_zero, List.getElem_cons_succ]
    refine app_bs (by kernel_rfl) (.tmp 12) (.tmp 18) rfl w.heap.size _ (lowL x j) rfl (unhide hO) (some ⟨h1, 0, none⟩) 1 1 [z] (by kernel_rfl) rfl (unhide hlb).sl (by rw [lowL_len]; omega) (unhide hG).size ?_
    intro v2 y2 hO3 hgr
    have hI2 : Hid (Ob w.heap.size y2 v2 (lowL x (j + 1)) ∧ Gr w y2) := by
      refine ⟨?_, (unhide hO).grown (Nat.le_refl _) (unhide hG) hgr⟩
      rw [unhide hsn]
      exact hO3
    clear hO3 hgr hlb
    simp only [Act.put, List.setIfInBounds_toArray, List.set_cons_zero, List.set_cons_succ, List.getElem_toArray, List.getElem_cons_zero, List.getElem_cons_succ]
    (refine wpList_step fun K hK => ?_; replace hK := hide hK; go_simp; refine unhide hK _ _ ?_; clear hK K)
    refine wpList_nil ?_
    have ej : IntKind.i64.wrap ((j : Int) + 1) = ((j + 1 : Nat) : Int) := by rw [IntKind.wrap_i64]; omega
    clear hj8 hz8 hy
    go_wp2_with fail
    go_roundw
    case rel => exact ⟨j + 1, _, by omega, rfl, by go_num, hI2⟩
    case measure => simp [intOf]; omega
  · skip
    obtain rfl : j = n := by omega
    have jI : ¬ (j : Int) < (j : Int) := by omega
    have hZ : Hid (Infd (lowL x j) w (.returned v') wr) := ⟨v', rfl, hO, hG⟩
    clear hO hG
    go_wp2_with fail
    rw [unhide hT]
    exact unhide hZ
set_option maxHeartbeats 4000000 in
theorem qnum_ok (l : List Int) (a : Option Addr) (n c : Nat) (hn : n ≤ 8) (w : World) (la : Lb w a n c l) : Calls Try.prog 28 #[.slice a n c] w (fun e w' => e = .returned (.int .u64 (lowN l)) ∧ w' = w) := by
  have hl := hide la.len
  have hnw : IntKind.i64.wrap ((n : Int) - 1) = (n : Int) - 1 := by rw [IntKind.wrap_i64]; omega
  have hI0 : Hid (lowN (l.drop n) = 0) := by show lowN (l.drop n) = 0; rw [List.drop_eq_nil_of_le (by rw [unhide hl]; exact Nat.le_refl _)]; rfl
  replace la := hide la
  go_enter Try.func28, Try.ntmps28
  go_wp2_with fail
  go_loopw [3, 4] (fun x i wr => ∃ (k : Nat) (X : Int), k ≤ n ∧ i = .int .i64 ((k : Int) - 1) ∧ x = .int .u64 X ∧ Hid (lowN (l.drop k) = X) ∧ wr = w) (fun _ i _ => (intOf i + 1).toNat)
  case atStart => exact ⟨n, 0, Nat.le_refl _, rfl, rfl, hI0, rfl⟩
  case round =>
  clear hI0
  obtain ⟨k, X, hk, rfl, rfl, hX, rfl⟩ := hrel
  by_cases hlt : 0 < k
  · obtain ⟨j, rfl⟩ : ∃ j, k = j + 1 := ⟨k - 1, by omega⟩
    obtain ⟨p, o, rfl, c0⟩ := (unhide la).cellAt (k := j) (by omega)
    have e1 : ((j + 1 : Nat) : Int) - 1 = (j : Int) := by omega
    rw [e1]
    have hb := (unhide la).isB.at_ j
    have hdr := drop_getD l j (by rw [unhide hl]; omega)
    have hX0 := lowN_bd (l.drop (j + 1)) (isB_drop (unhide la).isB _)
    rw [unhide hX, List.length_drop, unhide hl] at hX0
    have hX1 : X < 72057594037927936 := by
      refine Int.lt_of_lt_of_le hX0.2 ?_
      exact pow256_le _ (by omega)
    obtain ⟨y, hy⟩ : ∃ y, y = l.getD j 0 := ⟨_, rfl⟩
    rw [← hy] at c0 hb hdr
    have HS : Hid (lowN (l.drop j) = bits .or .u64 (IntKind.u64.wrap (X * 256)) y) := by
      show lowN (l.drop j) = _
      rw [or_low X y hX0.1 hX1 hb.1 hb.2, hdr, lowN_cons, unhide hX]
    obtain ⟨Z, hZ⟩ : ∃ Z, Z = bits .or .u64 (IntKind.u64.wrap (X * 256)) y := ⟨_, rfl⟩
    rw [← hZ] at HS
    have hjw : IntKind.i64.wrap ((j : Int) - 1) = (j : Int) - 1 := by rw [IntKind.wrap_i64]; omega
    have hyw : IntKind.u64.wrap y = y := by rw [IntKind.wrap_u64]; omega
    have hjn : (j : Int) < (n : Int) := by omega
    have hj0 : (0 : Int) ≤ (j : Int) := by omega
    clear hX hdr hX0 hX1 hy hb e1
    go_wp2_with fail
    go_roundw
    case rel => exact ⟨j, _, by omega, rfl, rfl, by first | (rw [← hZ]; exact HS) | (simpa [← hZ] using HS), trivial⟩
    case measure => simp only [intOf]; omega
  · obtain rfl : k = 0 := by omega
    have hX2 := unhide hX
    rw [List.drop_zero] at hX2
    have HU : Hid (lowN l = X) := hX2
    clear hX hX2
    go_wp2_with fail
    refine bodyPost_ret (v := .int .u64 X) (by simp [results, Try.results28, go_sem]) rfl ⟨?_, rfl⟩
    rw [unhide HU]
theorem allZ_at {l : List Int} (h : allZ l = true) (k : Nat) : l.getD k 0 = 0 := by
  unfold allZ at h
  rw [decide_eq_true_iff] at h
  rw [h]
  by_cases hk : k < l.length <;> simp [hk]
theorem allZ_of {l : List Int} (h : ∀ k, k < l.length → l.getD k 0 = 0) : allZ l = true := by
  unfold allZ
  rw [decide_eq_true_iff]
  apply List.ext_getElem (by simp)
  intro i h1 h2
  have := h i h1
  simp [List.getD, h1] at this
  simp [this]
set_option maxHeartbeats 1000000 in
theorem qzero_ok (l : List Int) (a : Option Addr) (n c : Nat) (hn : n ≤ 281474976710656) (w : World) (la : Lb w a n c l) :
    Calls Try.prog 29 #[.slice a n c] w (fun e w' => e = .returned (.bool (allZ l)) ∧ w' = w) := by
  have hl := hide la.len
  replace la := hide la
  have hI0 : Hid (∀ i, i < 0 → l.getD i 0 = 0) := fun i h => absurd h (Nat.not_lt_zero _)
  go_enter Try.func29, Try.ntmps29
  go_wp2_with fail
  go_loopw [7] (fun i wr => ∃ (k : Nat), k ≤ n ∧ i = .int .i64 k ∧ Hid (∀ i, i < k → l.getD i 0 = 0) ∧ wr = w) (fun i _ => n - (intOf i).toNat)
  case atStart => exact ⟨0, Nat.zero_le _, rfl, hI0, rfl⟩
  case round =>
  clear hI0
  obtain ⟨k, hk, rfl, hU, rfl⟩ := hrel
  by_cases hlt : k < n
  · obtain ⟨p, o, rfl, c0⟩ := (unhide la).cellAt hlt
    have kI : (k : Int) < (n : Int) := by omega
    obtain ⟨x, hx⟩ : ∃ x, x = l.getD k 0 := ⟨_, rfl⟩
    rw [← hx] at c0
    by_cases hx0 : x = 0
    · have HS : Hid (∀ i, i < k + 1 → l.getD i 0 = 0) := fun i hi => by
        by_cases h : i < k
        · exact unhide hU i h
        · obtain rfl : i = k := by omega
          rw [← hx, hx0]
      subst hx0
      clear hx hU
      go_wp2_with fail
      go_roundw
      case rel => exact ⟨k + 1, by omega, by go_num, HS, trivial⟩
      case measure => simp [intOf]; omega
    · have HU : Hid (allZ l = false) := by
        show allZ l = false
        cases h : allZ l
        · rfl
        · have := allZ_at h k
          rw [← hx] at this
          exact absurd this hx0
      clear hx hU
      go_wp2_with fail
      refine bodyPost_ret (v := .bool false) (by simp [results, Try.results29, go_sem]) rfl ⟨?_, rfl⟩
      rw [unhide HU]
  · have kI : ¬ (k : Int) < (n : Int) := by omega
    have HU : Hid (allZ l = true) := allZ_of (fun i hi => unhide hU i (by have := unhide hl; omega))
    clear hU
    go_wp2_with fail
    refine bodyPost_ret (v := .bool true) (by simp [results, Try.results29, go_sem]) rfl ⟨?_, rfl⟩
    rw [unhide HU]
theorem take_flatI (ks : List (List Int)) (j : Nat) (h : j < ks.length) : (ks.take (j + 1)).flatten = (ks.take j).flatten ++ ks.getD j [] := by
  rw [List.take_add_one, List.flatten_append]
  simp [h]
theorem flat_take_le (ks : List (List Int)) (j : Nat) : (ks.take j).flatten.length ≤ ks.flatten.length := by
  have h : ks.flatten = (ks.take j).flatten ++ (ks.drop j).flatten := by rw [← List.flatten_append, List.take_append_drop]
  rw [h, List.length_append]
  omega
set_option maxHeartbeats 4000000 in
theorem qboth_ok (A : List Int) (a : Option Addr) (n c : Nat) (ps : List (List Int)) (b : Option Addr) (m d : Nat) (w : World) (hA : Lb w a n c A) (hP : Lq w b m d ps) (hbig : A.length + ps.flatten.length ≤ 100000) : Calls Try.prog 19 #[.slice a n c, .slice b m d] w (Infd (A ++ ps.flatten) w) := by
  obtain ⟨T, hT⟩ : ∃ T, T = Infd (A ++ ps.flatten) w := ⟨_, rfl⟩
  rw [← hT]
  have hm : ps.length = m := hP.len
  have hm9 : m ≤ 4611686018427387904 ∨ 4611686018427387904 < m := by omega
  replace hT := hide hT; replace hA := hide hA; replace hP := hide hP; replace hm := hide hm
  go_enter Try.func19, Try.ntmps19
  go_upto_region 1 with fail
  refine wp_region_lit ?_
  refine list_valw (.slice (some ⟨w.heap.size, 0, none⟩) 0 0) (w.alloc (.cells #[] 5 (0, 0))) (by kernel_rfl) (by kernel_rfl) ?_
  have hO : Ob w.heap.size (w.alloc (.cells #[] 5 (0, 0))) (.slice (some ⟨w.heap.size, 0, none⟩) 0 0) [] := blk_bytes [] (Nat.le_refl _) (Nat.zero_le _)
  have hG := (Gr.refl w).alloc (.cells #[] 5 (0, 0))
  generalize World.alloc _ _ = u at *
  simp only [Act.put, List.setIfInBounds_toArray, List.set_cons_zero, List.set_cons_succ, List.getElem_toArray, List.getElem_cons_zero, List.getElem_cons_succ]
  refine list_val (.slice a n c) (by kernel_rfl) (by kernel_rfl) ?_
  simp only [Act.put, List.setIfInBounds_toArray, List.set_cons_zero, List.set_cons_succ, List.getElem_toArray, List.getElem_cons_zero, List.getElem_cons_succ]
  refine app_bs (by kernel_rfl) (.tmp 8) (.tmp 9) rfl w.heap.size _ [] rfl hO a n c A rfl (unhide hA).len ((unhide hA).gr hG).sl (by have := (unhide hA).len; simp only [List.length_nil, Nat.zero_add]; omega) hG.size ?_
  intro v9 u9 hO9 hgr
  rw [List.nil_append] at hO9
  have hI0 : Hid (Ob w.heap.size u9 v9 (A ++ (ps.take 0).flatten) ∧ Gr w u9) := ⟨by rw [List.take_zero, List.flatten_nil, List.append_nil]; exact hO9, hO.grown (Nat.le_refl _) hG hgr⟩
  clear hO9 hgr hO hG
  simp only [Act.put, List.setIfInBounds_toArray, List.set_cons_zero, List.set_cons_succ, List.getElem_toArray, List.getElem_cons_zero, List.getElem_cons_succ]
  (refine wpList_step fun K hK => ?_; replace hK := hide hK; go_simp; refine unhide hK _ _ ?_; clear hK K)
  refine wpList_nil ?_
  go_wp2_with fail
  go_loopw [5, 13] (fun v i wr => ∃ (j : Nat) (v' : Value), j ≤ m ∧ v' = v ∧ i = .int .i64 (j : Int) ∧ Hid (Ob w.heap.size wr v' (A ++ (ps.take j).flatten) ∧ Gr w wr)) (fun _ i _ => m - (intOf i).toNat)
  case atStart => exact ⟨0, _, by omega, rfl, rfl, hI0⟩
  case round =>
  clear hI0
  obtain ⟨j, v', hj, rfl, rfl, hJ⟩ := hrel
  obtain ⟨hO, hG⟩ := unhide hJ
  clear hJ
  by_cases hlt : j < m
  · skip
    have jI : (j : Int) < (m : Int) := by omega
    obtain ⟨p, q, ai, ni, ci, rfl, hcl, hlb, _⟩ := ((unhide hP).gr hG).at_ j hlt
    have hfl := take_flatI ps j (by rw [unhide hm]; exact hlt)
    have hle : (A ++ (ps.take j).flatten).length + ni ≤ 180000000000000 := by
      have h1 := flat_take_le ps (j + 1)
      rw [hfl, List.length_append, hlb.len] at h1
      rw [List.length_append]
      omega
    obtain ⟨M, hM⟩ : ∃ M, M = ps.getD j [] := ⟨_, rfl⟩
    rw [← hM] at hlb hfl
    clear hM
    replace hO := hide hO; replace hG := hide hG; replace hcl := hide hcl; replace hlb := hide hlb; replace hfl := hide hfl
    go_upto_region 4 with fail
    refine wp_region_lit ?_
    refine list_val (.pointer (some ⟨p, q + j, none⟩)) (by kernel_rfl) (exec_ils _ (.tmp 11) (.tmp 13) rfl p q m d j (by kernel_rfl) (by kernel_rfl) hlt) ?_
    simp only [Act.put, List.setIfInBounds_toArray, List.set_cons_zero, List.set_cons_succ, List.getElem_toArray, List.getElem_cons_zero, List.getElem_cons_succ]
    refine list_val (.slice ai ni ci) (by kernel_rfl) (exec_sby _ (.tmp 15) rfl p (q + j) (by kernel_rfl) ai ni ci (unhide hcl)) ?_
    simp only [Act.put, List.setIfInBounds_toArray, List.set_cons_zero, List.set_cons_succ, List.getElem_toArray, List.getElem_cons_zero, List.getElem_cons_succ]
    (refine wpList_step fun K hK => ?_; replace hK := hide hK; go_simp; refine unhide hK _ _ ?_; clear hK K)
    refine wpList_nil ?_
    go_upto_region 5 with fail
    refine wp_region_lit ?_
    refine list_val v' (by kernel_rfl) (by kernel_rfl) ?_
    simp only [Act.put, List.setIfInBounds_toArray, List.set_cons_zero, List.set_cons_succ, List.getElem_toArray, List.getElem_cons_zero, List.getElem_cons_succ]
    refine list_val (.slice ai ni ci) (by kernel_rfl) (by kernel_rfl) ?_
    simp only [Act.put, List.setIfInBounds_toArray, List.set_cons_zero, List.set_cons_succ, List.getElem_toArray, List.getElem_cons_zero, List.getElem_cons_succ]
    refine app_bs (by kernel_rfl) (.tmp 17) (.tmp 18) rfl w.heap.size _ (A ++ (ps.take j).flatten) rfl (unhide hO) ai ni ci M (by kernel_rfl) (unhide hlb).len (unhide hlb).sl hle (unhide hG).size ?_
    intro v2 y2 hO3 hgr
    have hI2 : Hid (Ob w.heap.size y2 v2 (A ++ (ps.take (j + 1)).flatten) ∧ Gr w y2) := by
      refine ⟨?_, (unhide hO).grown (Nat.le_refl _) (unhide hG) hgr⟩
      rw [unhide hfl, ← List.append_assoc]
      exact hO3
    clear hO3 hgr
    simp only [Act.put, List.setIfInBounds_toArray, List.set_cons_zero, List.set_cons_succ, List.getElem_toArray, List.getElem_cons_zero, List.getElem_cons_succ]
    (refine wpList_step fun K hK => ?_; replace hK := hide hK; go_simp; refine unhide hK _ _ ?_; clear hK K)
    refine wpList_nil ?_
    have ej : IntKind.i64.wrap ((j : Int) + 1) = ((j + 1 : Nat) : Int) := by have := (unhide hP).max; have := (unhide hP).cap; rw [IntKind.wrap_i64]; omega
    go_wp2_with fail
    go_roundw
    case rel => exact ⟨j + 1, _, by omega, rfl, by go_num, hI2⟩
    case measure => simp [intOf]; omega
  · skip
    obtain rfl : j = m := by omega
    have jI : ¬ (j : Int) < (j : Int) := by omega
    rw [List.take_of_length_le (by rw [unhide hm]; exact Nat.le_refl _)] at hO
    have hZ : Hid (Infd (A ++ ps.flatten) w (.returned v') wr) := ⟨v', rfl, hO, hG⟩
    clear hO hG
    go_wp2_with fail
    rw [unhide hT]
    exact unhide hZ
end Go.Proofs.Ytiejdpodffkdpaa
