/-
  What Clamp answers.
-/
import Derived.Test.YtdekjbdkpchbjabPlE
namespace Go.Proofs.Ytdekjbdkpchbjab
open Go.RowKit
set_option maxRecDepth 100000
set_option linter.unusedSimpArgs false
set_option linter.unusedVariables false
theorem ac8 (a b : Nat) (ha : a < 256) (hb : b < 256) : bits .and .u8 (a : Int) (b : Int) = ((a &&& b : Nat) : Int) := by
  have hx : a &&& b < 2 ^ 8 := Nat.and_lt_two_pow a (by omega)
  have h1 : (BitVec.ofInt 8 (a : Int)).toNat = a := by
    rw [BitVec.ofInt_natCast, BitVec.toNat_ofNat]; exact Nat.mod_eq_of_lt (by omega)
  have h2 : (BitVec.ofInt 8 (b : Int)).toNat = b := by
    rw [BitVec.ofInt_natCast, BitVec.toNat_ofNat]; exact Nat.mod_eq_of_lt (by omega)
  show IntKind.u8.wrap ((BitVec.ofInt 8 (a : Int) &&& BitVec.ofInt 8 (b : Int)).toNat : Int) = _
  rw [BitVec.toNat_and, h1, h2, IntKind.wrap_u8]
  omega
theorem and15 (x : Int) (h : 0 ≤ x ∧ x < 256) : bits .and .u8 x 15 = x % 16 := by
  obtain ⟨n, rfl⟩ := Int.eq_ofNat_of_zero_le h.1
  have h1 := ac8 n 15 (by omega) (by omega)
  have e : n &&& 15 = n % 16 := Nat.and_two_pow_sub_one_eq_mod n 4
  rw [e] at h1
  simpa using h1
theorem and252_all : ∀ n : Fin 256, n.val &&& 252 = n.val / 4 * 4 := by decide +kernel
theorem and252 (x : Int) (h : 0 ≤ x ∧ x < 256) : bits .and .u8 x 252 = x / 4 * 4 := by
  obtain ⟨n, rfl⟩ := Int.eq_ofNat_of_zero_le h.1
  have hn : n < 256 := by omega
  have h1 := ac8 n 252 hn (by omega)
  have e : n &&& 252 = n / 4 * 4 := and252_all ⟨n, hn⟩
  rw [e] at h1
  simpa using h1
/-- each fourth byte, less some bits -/
def am (M : List Int) (o : Nat) (k : Int) : Nat → List Int
  | 0 => M
  | j + 1 => (am M o k j).set (o + 4 * j) (bits .and .u8 ((am M o k j).getD (o + 4 * j) 0) k)
theorem am_len (M : List Int) (o : Nat) (k : Int) : ∀ j, (am M o k j).length = M.length
  | 0 => rfl
  | j + 1 => by rw [am, List.length_set, am_len M o k j]
theorem list16 : ∀ (M : List Int), M.length = 16 → ∃ m0 m1 m2 m3 m4 m5 m6 m7 m8 m9 m10 m11 m12 m13 m14 m15, M = [m0, m1, m2, m3, m4, m5, m6, m7, m8, m9, m10, m11, m12, m13, m14, m15]
  | [m0, m1, m2, m3, m4, m5, m6, m7, m8, m9, m10, m11, m12, m13, m14, m15], _ => ⟨_, _, _, _, _, _, _, _, _, _, _, _, _, _, _, _, rfl⟩
theorem am_cl (K : List Int) (hK : K.length = 32) (hb : IsB K) : am (am (K.take 16) 3 15 4) 4 252 3 = clL K := by
  obtain ⟨m0, m1, m2, m3, m4, m5, m6, m7, m8, m9, m10, m11, m12, m13, m14, m15, hM⟩ := list16 (K.take 16) (by rw [List.length_take, hK]; rfl)
  have hB : IsB [m0, m1, m2, m3, m4, m5, m6, m7, m8, m9, m10, m11, m12, m13, m14, m15] := by rw [← hM]; exact hb.take 16
  have e : K = [m0, m1, m2, m3, m4, m5, m6, m7, m8, m9, m10, m11, m12, m13, m14, m15] ++ K.drop 16 := by rw [← hM, List.take_append_drop]
  rw [hM, e]
  generalize K.drop 16 = R
  have e1 : am (am [m0, m1, m2, m3, m4, m5, m6, m7, m8, m9, m10, m11, m12, m13, m14, m15] 3 15 4) 4 252 3 = [m0, m1, m2, bits .and .u8 m3 15, bits .and .u8 m4 252, m5, m6, bits .and .u8 m7 15, bits .and .u8 m8 252, m9, m10, bits .and .u8 m11 15, bits .and .u8 m12 252, m13, m14, bits .and .u8 m15 15] := rfl
  have e2 : clL ([m0, m1, m2, m3, m4, m5, m6, m7, m8, m9, m10, m11, m12, m13, m14, m15] ++ R) = [m0, m1, m2, m3 % 16, m4 / 4 * 4, m5, m6, m7 % 16, m8 / 4 * 4, m9, m10, m11 % 16, m12 / 4 * 4, m13, m14, m15 % 16] := rfl
  rw [e1, e2, and15 m3 (hB _ (by simp)), and15 m7 (hB _ (by simp)), and15 m11 (hB _ (by simp)), and15 m15 (hB _ (by simp)), and252 m4 (hB _ (by simp)), and252 m8 (hB _ (by simp)), and252 m12 (hB _ (by simp))]
set_option maxHeartbeats 4000000 in
theorem clamp_ok (K : List Int) (hK : K.length = 32) (hKb : IsB K) (w : World) : Calls Try.prog 23 #[.agg (kc K)] w (Tg (clL K) w) := by
  obtain ⟨T, hT⟩ : ∃ T, T = Tg (clL K) w := ⟨_, rfl⟩
  rw [← hT]
  replace hT := hide hT
  obtain ⟨SK, hSK⟩ : ∃ S, S = kc K := ⟨_, rfl⟩
  rw [← hSK]
  replace hSK := hide hSK
  have hcl := hide (am_cl K hK hKb)
  replace hKb := hide hKb
  have hbl4 : (K.take 16).length = 16 := by rw [List.length_take, hK]; rfl
  have hbl5 : (am (K.take 16) 3 15 4).length = 16 := by rw [am_len, hbl4]
  go_enter Try.func23, Try.ntmps23
  go_upto_region 2 with fail
  have hB := (((Bl.nil w).new SK 23).new #[.int .u8 0, .int .u8 0, .int .u8 0, .int .u8 0, .int .u8 0, .int .u8 0, .int .u8 0, .int .u8 0, .int .u8 0, .int .u8 0, .int .u8 0, .int .u8 0, .int .u8 0, .int .u8 0, .int .u8 0, .int .u8 0] 40).new #[.int .u8 0, .int .u8 0, .int .u8 0, .int .u8 0, .int .u8 0, .int .u8 0, .int .u8 0, .int .u8 0, .int .u8 0, .int .u8 0, .int .u8 0, .int .u8 0, .int .u8 0, .int .u8 0, .int .u8 0, .int .u8 0] 40
  simp only [size_alloc, List.nil_append, List.cons_append] at hB
  generalize World.alloc _ _ = u at *
  rw [unhide hSK] at hB
  replace hB : Bl w [⟨w.heap.size, kc K, 23⟩, ⟨w.heap.size + 1, kc ZT, 40⟩, ⟨w.heap.size + 1 + 1, kc ZT, 40⟩] u := hB
  refine any_start (S := fun _ => True) (by kernel_rfl) ?_
  replace hB := hB.drew
  generalize World.drew _ = u0 at *
  simp only [List.size_toArray, List.length_cons, List.length_nil, Array.replicate, List.replicate]
  refine any_take (i := 0) (v := (.slice (some ⟨w.heap.size + 1 + 1, 0, none⟩) 16 16)) #[false, false, false] rfl (by kernel_rfl) (by kernel_rfl) (by kernel_rfl) (by kernel_rfl) (fun _ _ _ h => h) (.inl ⟨by kernel_rfl, fun x_ hu => by kernel_rfl⟩) trivial ?_
  simp only [Act.put, List.setIfInBounds_toArray, List.set_cons_zero, List.set_cons_succ, List.getElem_toArray, List.getElem_cons_zero, List.getElem_cons_succ]
  refine any_take (i := 1) (v := (.slice (some ⟨w.heap.size, 0, none⟩) 32 32)) #[true, false, false] rfl (by kernel_rfl) (by kernel_rfl) (by kernel_rfl) (by kernel_rfl) (fun _ _ _ h => h) (.inl ⟨by kernel_rfl, fun x_ hu => by kernel_rfl⟩) trivial ?_
  simp only [Act.put, List.setIfInBounds_toArray, List.set_cons_zero, List.set_cons_succ, List.getElem_toArray, List.getElem_cons_zero, List.getElem_cons_succ]
  refine any_one (i := 2) (by kernel_rfl) rfl (fun K_ hQ => ?_)
  rw [if_pos (by kernel_rfl)]
  refine copy_wp (.tmp 6) (.tmp 7) rfl (w.heap.size + 1 + 1) 0 16 16 (some ⟨w.heap.size, 0, none⟩) 32 32 (by kernel_rfl) (by kernel_rfl) (ZT.map (Value.int .u8)) 40 (hB.get 2 (x := ⟨w.heap.size + 1 + 1, kc ZT, 40⟩) rfl) (K.take 16) (by rw [hbl4]; rfl) (.inr ⟨w.heap.size, 0, rfl, (kc_at (hB.get 0 (x := ⟨w.heap.size, kc K, 23⟩) rfl)).take 16⟩) (by rw [hbl4]; decide) ?_
  have hcell := laid (S := K.take 16) (o := 0) (hB.get 2 (x := ⟨w.heap.size + 1 + 1, kc ZT, 40⟩) rfl) (by rw [hbl4]; decide)
  have eL : lay ZT 0 (K.take 16) = K.take 16 := by unfold lay; rw [List.take_zero, List.nil_append, List.drop_eq_nil_of_le (by rw [hbl4]; decide), List.append_nil]
  rw [eL] at hcell
  have hB2 := hB.but (setCells_bt ((K.take 16).map (Value.int .u8)) u0 (w.heap.size + 1 + 1) 0) 2 (x := ⟨w.heap.size + 1 + 1, kc ZT, 40⟩) rfl rfl hcell
  simp only [List.set_cons_zero, List.set_cons_succ] at hB2
  generalize World.setCells _ _ _ _ = u1 at *
  clear hcell hB eL
  refine hQ.out _ _ trivial (fun _ => ?_)
  clear hQ K_
  simp only [Act.put, List.setIfInBounds_toArray, List.set_cons_zero, List.set_cons_succ, List.getElem_toArray, List.getElem_cons_zero, List.getElem_cons_succ]
  refine any_done (by kernel_rfl) ?_
  rw [hbl4]
  replace hB2 := hide hB2
  go_wp2_with fail
  go_loopw [4] (fun i wr => ∃ j : Nat, j ≤ 4 ∧ i = .int .i64 ((3 + 4 * j : Nat) : Int) ∧ Hid (Bl w [⟨w.heap.size, kc K, 23⟩, ⟨w.heap.size + 1, kc ZT, 40⟩, ⟨w.heap.size + 1 + 1, kc (am (K.take 16) 3 15 j), 40⟩] wr)) (fun i _ => 20 - (intOf i).toNat)
  case atStart => exact ⟨0, by omega, rfl, hB2⟩
  case round =>
  clear hB2
  obtain ⟨j, hj, rfl, hB⟩ := hrel
  have hml := am_len (K.take 16) 3 15 j
  rw [hbl4] at hml
  by_cases hjl : j < 4
  · obtain ⟨q, hq⟩ : ∃ q, q = 3 + 4 * j := ⟨_, rfl⟩
    rw [← hq]
    have hq16 : q < 16 := by omega
    have qI : (q : Int) < 16 := by omega
    have c1 := kc_cell ((unhide hB).get 2 (x := ⟨w.heap.size + 1 + 1, kc (am (K.take 16) 3 15 j), 40⟩) rfl) q (by omega)
    have f1 := froz_of (i := q) ((unhide hB).get 2 (x := ⟨w.heap.size + 1 + 1, kc (am (K.take 16) 3 15 j), 40⟩) rfl)
    obtain ⟨z, hz⟩ : ∃ z, z = (am (K.take 16) 3 15 j).getD q 0 := ⟨_, rfl⟩
    rw [← hz] at c1
    have hB1 := (unhide hB).cell 2 (x := ⟨w.heap.size + 1 + 1, kc (am (K.take 16) 3 15 j), 40⟩) rfl q (.int .u8 (bits .and .u8 z 15))
    have hst : (am (K.take 16) 3 15 j).set q (bits .and .u8 z 15) = am (K.take 16) 3 15 (j + 1) := by rw [hz, hq]; rfl
    simp only [List.set_cons_zero, List.set_cons_succ, kc_set, hst] at hB1
    replace hB1 := hide hB1
    replace hq := hide hq
    replace hz := hide hz
    have i3 : IntKind.i64.wrap ((q : Int) + 4) = (q : Int) + 4 := by rw [IntKind.wrap_i64]; omega
    clear hst hml hB
    generalize am (K.take 16) 3 15 j = MM at *
    go_wp2_with fail
    go_roundw
    case rel => exact ⟨j + 1, by omega, by have := unhide hq; go_num, hB1⟩
    case measure => have := unhide hq; simp [intOf]; omega
  have hj2 : j = 4 := by omega
  subst hj2
  have qI : ¬ ((3 + 4 * 4 : Nat) : Int) < 16 := by omega
  clear hjl hj hml
  have hB2 := hB
  clear hB
  go_wp2_with fail
  go_loopw [5] (fun i wr => ∃ j : Nat, j ≤ 3 ∧ i = .int .i64 ((4 + 4 * j : Nat) : Int) ∧ Hid (Bl w [⟨w.heap.size, kc K, 23⟩, ⟨w.heap.size + 1, kc ZT, 40⟩, ⟨w.heap.size + 1 + 1, kc (am (am (K.take 16) 3 15 4) 4 252 j), 40⟩] wr)) (fun i _ => 20 - (intOf i).toNat)
  case atStart => exact ⟨0, by omega, rfl, hB2⟩
  case round =>
  clear hB2
  obtain ⟨j, hj, rfl, hB⟩ := hrel
  have hml := am_len (am (K.take 16) 3 15 4) 4 252 j
  rw [hbl5] at hml
  by_cases hjl : j < 3
  · obtain ⟨q, hq⟩ : ∃ q, q = 4 + 4 * j := ⟨_, rfl⟩
    rw [← hq]
    have hq16 : q < 16 := by omega
    have qI : (q : Int) < 16 := by omega
    have c1 := kc_cell ((unhide hB).get 2 (x := ⟨w.heap.size + 1 + 1, kc (am (am (K.take 16) 3 15 4) 4 252 j), 40⟩) rfl) q (by omega)
    have f1 := froz_of (i := q) ((unhide hB).get 2 (x := ⟨w.heap.size + 1 + 1, kc (am (am (K.take 16) 3 15 4) 4 252 j), 40⟩) rfl)
    obtain ⟨z, hz⟩ : ∃ z, z = (am (am (K.take 16) 3 15 4) 4 252 j).getD q 0 := ⟨_, rfl⟩
    rw [← hz] at c1
    have hB1 := (unhide hB).cell 2 (x := ⟨w.heap.size + 1 + 1, kc (am (am (K.take 16) 3 15 4) 4 252 j), 40⟩) rfl q (.int .u8 (bits .and .u8 z 252))
    have hst : (am (am (K.take 16) 3 15 4) 4 252 j).set q (bits .and .u8 z 252) = am (am (K.take 16) 3 15 4) 4 252 (j + 1) := by rw [hz, hq]; rfl
    simp only [List.set_cons_zero, List.set_cons_succ, kc_set, hst] at hB1
    replace hB1 := hide hB1
    replace hq := hide hq
    replace hz := hide hz
    have i3 : IntKind.i64.wrap ((q : Int) + 4) = (q : Int) + 4 := by rw [IntKind.wrap_i64]; omega
    clear hst hml hB
    generalize am (am (K.take 16) 3 15 4) 4 252 j = MM at *
    go_wp2_with fail
    go_roundw
    case rel => exact ⟨j + 1, by omega, by have := unhide hq; go_num, hB1⟩
    case measure => have := unhide hq; simp [intOf]; omega
  have hj2 : j = 3 := by omega
  subst hj2
  have qI : ¬ ((4 + 4 * 3 : Nat) : Int) < 16 := by omega
  clear hjl hj hml
  replace hB := unhide hB
  rw [unhide hcl] at hB
  have hDl : (clL K).length = 16 := clL_len _
  replace hB := hide hB
  clear hcl hbl4 hbl5
  go_upto_region 11 with fail
  replace hB := unhide hB
  refine wp_region_lit ?_
  refine list_val (.agg (kc (clL K))) (by kernel_rfl) (exec_arr _ 40 (.tmp 3) rfl (w.heap.size + 1 + 1) (by kernel_rfl) (kc (clL K)) 40 _ (hB.get 2 (x := ⟨w.heap.size + 1 + 1, kc (clL K), 40⟩) rfl) Try.underlying40 rfl (by rw [Try.infoT, kc_size, hDl])) ?_
  simp only [Act.put, List.setIfInBounds_toArray, List.set_cons_zero, List.set_cons_succ, List.getElem_toArray, List.getElem_cons_zero, List.getElem_cons_succ]
  refine list_store 40 (.tmp 2) (.tmp 27) (w.heap.size + 1) (kc (clL K)) 40 (kc ZT) (by kernel_rfl) rfl (by kernel_rfl) (by kernel_rfl) (hB.get 1 (x := ⟨w.heap.size + 1, kc ZT, 40⟩) rfl) (by rw [Try.infoT, kc_size, hDl]) ((show (kc ZT).size = 16 from rfl).trans ((kc_size _).trans hDl).symm) (kc_one _) ?_
  replace hB := hB.set 1 (x := ⟨w.heap.size + 1, kc ZT, 40⟩) rfl (kc (clL K))
  simp only [List.set_cons_zero, List.set_cons_succ] at hB
  generalize World.setRow _ _ _ = u8 at *
  simp only [Act.put, List.setIfInBounds_toArray, List.set_cons_zero, List.set_cons_succ, List.getElem_toArray, List.getElem_cons_zero, List.getElem_cons_succ]
  refine wpList_nil ?_
  replace hB := hide hB
  go_wp2_with fail
  replace hB := unhide hB
  rw [unhide hT]
  exact bodyPost_ret (v := .agg (kc (clL K))) (results_cell_row Try.results23 _ _ (w.heap.size + 1) 40 (kc (clL K)) (0, 0) _ rfl (hB.get 1 (x := ⟨w.heap.size + 1, kc (clL K), 40⟩) rfl) Try.underlying40 rfl (by rw [Try.infoT, kc_size, hDl])) rfl (⟨rfl, hB.gr⟩)
end Go.Proofs.Ytdekjbdkpchbjab
