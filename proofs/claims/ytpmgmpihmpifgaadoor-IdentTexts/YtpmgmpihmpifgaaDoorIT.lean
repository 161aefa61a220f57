/-
  The reference: bytes as digits, a key's fingerprint.
-/
import Derived.Test.YtpmgmpihmpifgaaDoorIS
namespace Go.Proofs.YtpmgmpihmpifgaaDoor
open Go.RowKit
set_option maxRecDepth 100000
set_option linter.unusedSimpArgs false
set_option linter.unusedVariables false
theorem XD_cut (i : Nat) (h : i < 16) : (XD.drop i).take (i + 1 - i) = [XD.getD i 0] := by
  have : ∀ k : Fin 16, (XD.drop k.val).take (k.val + 1 - k.val) = [XD.getD k.val 0] := by decide
  exact this ⟨i, h⟩
set_option maxHeartbeats 4000000 in
theorem edigits_ok (B : List Int) (n : Nat) (hn : n ≤ 1000) (a : Option Addr) (c : Nat) (w : World) (hA : Lb w a n c B) : Calls Tryd.prog 15 #[.slice a n c] w (Txd (txL B) w) := by
  obtain ⟨T, hT⟩ : ∃ T, T = Txd (txL B) w := ⟨_, rfl⟩
  rw [← hT]
  replace hT := hide hT
  have hBl := hA.len
  replace hA := hide hA
  replace hBl := hide hBl
  go_enter Tryd.func15, Tryd.ntmps15
  go_wp2_with fail
  go_loopw [3, 10] (fun v i wr => ∃ (j : Nat) (O : List Int), j ≤ n ∧ v = .string (strOfNums O) ∧ Hid (O = txL (B.take j)) ∧ i = .int .i64 (j : Int) ∧ wr = w) (fun _ i _ => n - (intOf i).toNat)
  case atStart => exact ⟨0, [], by omega, rfl, rfl, rfl, rfl⟩
  case round =>
  obtain ⟨j, O, hj, rfl, hO, rfl, rfl⟩ := hrel
  by_cases hlt : j < n
  · have jI : (j : Int) < (n : Int) := by omega
    obtain ⟨b, hb⟩ : ∃ b, b = B.getD j 0 := ⟨_, rfl⟩
    have hbb : 0 ≤ b ∧ b < 256 := by rw [hb]; exact (unhide hA).isB.at_ j
    obtain ⟨pa, oa, ea, hat⟩ : ∃ p o, a = some ⟨p, o, none⟩ ∧ At wr p o B := by
      rcases (unhide hA).sl with h | h
      · rw [h] at hBl
        have := unhide hBl
        simp at this
        omega
      · exact h
    have hcc := hat j (by rw [unhide hBl]; exact hlt)
    rw [← hb] at hcc
    obtain ⟨hi, hhi⟩ : ∃ n : Nat, n = (b / 16).toNat := ⟨_, rfl⟩
    obtain ⟨lo, hlo⟩ : ∃ n : Nat, n = (b % 16).toNat := ⟨_, rfl⟩
    have e1 : b / 16 = (hi : Int) := by omega
    have e2 : b % 16 = (lo : Int) := by omega
    have l1 : hi < 16 := by omega
    have l2 : lo < 16 := by omega
    have s1 : (b / 2 ^ 4 : Int) = (hi : Int) := by rw [← e1]; rfl
    have s2 := (and15 b hbb).trans e2
    have w1 : IntKind.u8.wrap ((hi : Int) + 1) = ((hi + 1 : Nat) : Int) := by rw [IntKind.wrap_u8]; omega
    have w2 : IntKind.u8.wrap ((lo : Int) + 1) = ((lo + 1 : Nat) : Int) := by rw [IntKind.wrap_u8]; omega
    have hO2 : Hid (O ++ [XD.getD hi 0] ++ [XD.getD lo 0] = txL (B.take (j + 1))) := hide (by
      rw [take_one B j (by rw [unhide hBl]; exact hlt), txL_app, ← unhide hO, ← hb, XD_at hi l1, XD_at lo l2, ← e1, ← e2, List.append_assoc]
      rfl)
    have hOl : O.length ≤ 2000 := by rw [unhide hO, txL_len, List.length_take]; omega
    subst ea
    clear hat hbb e1 e2 hhi hlo
    replace hcc := hide hcc; replace hb := hide hb; replace s1 := hide s1; replace s2 := hide s2; replace w1 := hide w1; replace w2 := hide w2
    go_upto_region 4 with fail
    refine wp_region_lit ?_
    refine list_val (.pointer (some ⟨pa, oa + j, none⟩)) (by kernel_rfl) (exec_at _ (.tmp 8) (.tmp 10) rfl pa oa n c j (by kernel_rfl) (by kernel_rfl) hlt) ?_
    simp only [Act.put, List.setIfInBounds_toArray, List.set_cons_zero, List.set_cons_succ, List.getElem_toArray, List.getElem_cons_zero, List.getElem_cons_succ]
    refine list_val (.int .u8 b) (by kernel_rfl) (exec_u8 _ (.tmp 12) rfl pa (oa + j) (by kernel_rfl) b (unhide hcc)) ?_
    simp only [Act.put, List.setIfInBounds_toArray, List.set_cons_zero, List.set_cons_succ, List.getElem_toArray, List.getElem_cons_zero, List.getElem_cons_succ]
    (refine wpList_step fun K hK => ?_; replace hK := hide hK; go_simp; refine unhide hK _ _ ?_; clear hK K)
    refine wpList_nil ?_
    go_upto_region 5 with fail
    refine wp_region_lit ?_
    refine list_val (.int .u8 b) (by kernel_rfl) (by kernel_rfl) ?_
    simp only [Act.put, List.setIfInBounds_toArray, List.set_cons_zero, List.set_cons_succ, List.getElem_toArray, List.getElem_cons_zero, List.getElem_cons_succ]
    refine list_val (.int .u8 (hi : Int)) (by kernel_rfl) (by have h := unhide s1; go_simp; exact h) ?_
    simp only [Act.put, List.setIfInBounds_toArray, List.set_cons_zero, List.set_cons_succ, List.getElem_toArray, List.getElem_cons_zero, List.getElem_cons_succ]
    refine list_val (.int .u8 b) (by kernel_rfl) (by kernel_rfl) ?_
    simp only [Act.put, List.setIfInBounds_toArray, List.set_cons_zero, List.set_cons_succ, List.getElem_toArray, List.getElem_cons_zero, List.getElem_cons_succ]
    refine list_val (.int .u8 (lo : Int)) (by kernel_rfl) (by have h := unhide s2; go_simp) ?_
    simp only [Act.put, List.setIfInBounds_toArray, List.set_cons_zero, List.set_cons_succ, List.getElem_toArray, List.getElem_cons_zero, List.getElem_cons_succ]
    refine list_val (.agg #[.int .u8 (hi : Int), .int .u8 (lo : Int)]) (by kernel_rfl) (by kernel_rfl) ?_
    simp only [Act.put, List.setIfInBounds_toArray, List.set_cons_zero, List.set_cons_succ, List.getElem_toArray, List.getElem_cons_zero, List.getElem_cons_succ]
    refine list_val (.int .i64 0) (by kernel_rfl) (by kernel_rfl) ?_
    simp only [Act.put, List.setIfInBounds_toArray, List.set_cons_zero, List.set_cons_succ, List.getElem_toArray, List.getElem_cons_zero, List.getElem_cons_succ]
    refine wpList_nil ?_
    go_wp2_with fail
    go_loopw [3, 19] (fun v i wr2 => ∃ (k : Nat) (P : List Int), k ≤ 2 ∧ v = .string (strOfNums P) ∧ Hid (P = O ++ [XD.getD hi 0, XD.getD lo 0].take k) ∧ i = .int .i64 (k : Int) ∧ wr2 = wr) (fun _ i _ => 2 - (intOf i).toNat)
    case atStart => exact ⟨0, O, by omega, rfl, hide (by simp), rfl, rfl⟩
    case round =>
    obtain ⟨k, P, hk, rfl, hP, rfl, rfl⟩ := hrel
    have hPl : P.length ≤ 3000 := by rw [unhide hP, List.length_append, List.length_take]; simp only [List.length_cons, List.length_nil]; omega
    have hk3 : k = 0 ∨ k = 1 ∨ k = 2 := by omega
    rcases hk3 with rfl | rfl | rfl
    · go_upto_region 7 with fail
      refine wp_region_lit ?_
      refine list_val (.int .u8 (hi : Int)) (by kernel_rfl) (by kernel_rfl) ?_
      simp only [Act.put, List.setIfInBounds_toArray, List.set_cons_zero, List.set_cons_succ, List.getElem_toArray, List.getElem_cons_zero, List.getElem_cons_succ]
      (refine wpList_step fun K hK => ?_; replace hK := hide hK; go_simp; refine unhide hK _ _ ?_; clear hK K)
      refine wpList_nil ?_
      go_upto_region 8 with fail
      refine wp_region_lit ?_
      refine list_val (.string (strOfNums P)) (by kernel_rfl) (by kernel_rfl) ?_
      simp only [Act.put, List.setIfInBounds_toArray, List.set_cons_zero, List.set_cons_succ, List.getElem_toArray, List.getElem_cons_zero, List.getElem_cons_succ]
      refine list_val (.int .u8 (hi : Int)) (by kernel_rfl) (by kernel_rfl) ?_
      simp only [Act.put, List.setIfInBounds_toArray, List.set_cons_zero, List.set_cons_succ, List.getElem_toArray, List.getElem_cons_zero, List.getElem_cons_succ]
      refine list_val (.int .u8 (hi : Int)) (by kernel_rfl) (by kernel_rfl) ?_
      simp only [Act.put, List.setIfInBounds_toArray, List.set_cons_zero, List.set_cons_succ, List.getElem_toArray, List.getElem_cons_zero, List.getElem_cons_succ]
      refine list_val (.int .u8 ((hi + 1 : Nat) : Int)) (by kernel_rfl) (by have h := unhide w1; go_simp) ?_
      simp only [Act.put, List.setIfInBounds_toArray, List.set_cons_zero, List.set_cons_succ, List.getElem_toArray, List.getElem_cons_zero, List.getElem_cons_succ]
      refine list_val (.string (strOfNums [XD.getD hi 0])) (by kernel_rfl) (by rw [← XD_cut hi l1]; exact exec_scut _ (.const (.string ⟨#[48, 49, 50, 51, 52, 53, 54, 55, 56, 57, 97, 98, 99, 100, 101, 102]⟩)) (.tmp 23) (.tmp 25) rfl XD .u8 .u8 hi (hi + 1) rfl (by kernel_rfl) (by kernel_rfl) (by omega) (by show hi + 1 ≤ 16; omega)) ?_
      simp only [Act.put, List.setIfInBounds_toArray, List.set_cons_zero, List.set_cons_succ, List.getElem_toArray, List.getElem_cons_zero, List.getElem_cons_succ]
      refine list_val (.string (strOfNums (P ++ [XD.getD hi 0]))) (by kernel_rfl) (exec_sadd _ (.tmp 22) (.tmp 26) rfl P [XD.getD hi 0] (by kernel_rfl) (by kernel_rfl) (by simp only [List.length_cons, List.length_nil]; omega)) ?_
      simp only [Act.put, List.setIfInBounds_toArray, List.set_cons_zero, List.set_cons_succ, List.getElem_toArray, List.getElem_cons_zero, List.getElem_cons_succ]
      (refine wpList_step fun K hK => ?_; replace hK := hide hK; go_simp; refine unhide hK _ _ ?_; clear hK K)
      refine wpList_nil ?_
      have hP2 : Hid (P ++ [XD.getD hi 0] = O ++ [XD.getD hi 0, XD.getD lo 0].take 1) := hide (by rw [unhide hP]; simp)
      clear hP
      go_wp2_with fail
      go_roundw
      case rel => exact ⟨1, _, by omega, rfl, hP2, by simp, trivial⟩
      case measure => simp [intOf]
    · go_upto_region 7 with fail
      refine wp_region_lit ?_
      refine list_val (.int .u8 (lo : Int)) (by kernel_rfl) (by kernel_rfl) ?_
      simp only [Act.put, List.setIfInBounds_toArray, List.set_cons_zero, List.set_cons_succ, List.getElem_toArray, List.getElem_cons_zero, List.getElem_cons_succ]
      (refine wpList_step fun K hK => ?_; replace hK := hide hK; go_simp; refine unhide hK _ _ ?_; clear hK K)
      refine wpList_nil ?_
      go_upto_region 8 with fail
      refine wp_region_lit ?_
      refine list_val (.string (strOfNums P)) (by kernel_rfl) (by kernel_rfl) ?_
      simp only [Act.put, List.setIfInBounds_toArray, List.set_cons_zero, List.set_cons_succ, List.getElem_toArray, List.getElem_cons_zero, List.getElem_cons_succ]
      refine list_val (.int .u8 (lo : Int)) (by kernel_rfl) (by kernel_rfl) ?_
      simp only [Act.put, List.setIfInBounds_toArray, List.set_cons_zero, List.set_cons_succ, List.getElem_toArray, List.getElem_cons_zero, List.getElem_cons_succ]
      refine list_val (.int .u8 (lo : Int)) (by kernel_rfl) (by kernel_rfl) ?_
      simp only [Act.put, List.setIfInBounds_toArray, List.set_cons_zero, List.set_cons_succ, List.getElem_toArray, List.getElem_cons_zero, List.getElem_cons_succ]
      refine list_val (.int .u8 ((lo + 1 : Nat) : Int)) (by kernel_rfl) (by have h := unhide w2; go_simp) ?_
      simp only [Act.put, List.setIfInBounds_toArray, List.set_cons_zero, List.set_cons_succ, List.getElem_toArray, List.getElem_cons_zero, List.getElem_cons_succ]
      refine list_val (.string (strOfNums [XD.getD lo 0])) (by kernel_rfl) (by rw [← XD_cut lo l2]; exact exec_scut _ (.const (.string ⟨#[48, 49, 50, 51, 52, 53, 54, 55, 56, 57, 97, 98, 99, 100, 101, 102]⟩)) (.tmp 23) (.tmp 25) rfl XD .u8 .u8 lo (lo + 1) rfl (by kernel_rfl) (by kernel_rfl) (by omega) (by show lo + 1 ≤ 16; omega)) ?_
      simp only [Act.put, List.setIfInBounds_toArray, List.set_cons_zero, List.set_cons_succ, List.getElem_toArray, List.getElem_cons_zero, List.getElem_cons_succ]
      refine list_val (.string (strOfNums (P ++ [XD.getD lo 0]))) (by kernel_rfl) (exec_sadd _ (.tmp 22) (.tmp 26) rfl P [XD.getD lo 0] (by kernel_rfl) (by kernel_rfl) (by simp only [List.length_cons, List.length_nil]; omega)) ?_
      simp only [Act.put, List.setIfInBounds_toArray, List.set_cons_zero, List.set_cons_succ, List.getElem_toArray, List.getElem_cons_zero, List.getElem_cons_succ]
      (refine wpList_step fun K hK => ?_; replace hK := hide hK; go_simp; refine unhide hK _ _ ?_; clear hK K)
      refine wpList_nil ?_
      have hP2 : Hid (P ++ [XD.getD lo 0] = O ++ [XD.getD hi 0, XD.getD lo 0].take 2) := hide (by rw [unhide hP]; simp)
      clear hP
      go_wp2_with fail
      go_roundw
      case rel => exact ⟨2, _, by omega, rfl, hP2, by simp, trivial⟩
      case measure => simp [intOf]
    · have hP2 : Hid (P = txL (B.take (j + 1))) := hide (by rw [unhide hP, ← unhide hO2]; simp)
      clear hP hO2
      go_wp2_with fail
      go_roundw
      case rel => exact ⟨j + 1, P, by omega, rfl, hP2, by simp, trivial⟩
      case measure => simp [intOf]; omega
  · have e : j = n := by omega
    have jI : ¬ (j : Int) < (n : Int) := by omega
    have hZ : Hid (T (.returned (.string (strOfNums O))) wr) := by
      rw [unhide hT]
      refine ⟨?_, Gr.refl _⟩
      rw [unhide hO, List.take_of_length_le (by rw [unhide hBl]; omega)]
    clear hO e hlt
    go_wp2_with fail
    exact unhide hZ
set_option maxHeartbeats 4000000 in
theorem efinger_ok (K : List Int) (hK : K.length = 32) (hKb : IsB K) (w : World) : Calls Tryd.prog 17 #[.agg (kc K)] w (Txd (fpL (sumL K) 8) w) := by
  obtain ⟨T, hT⟩ : ∃ T, T = Txd (fpL (sumL K) 8) w := ⟨_, rfl⟩
  rw [← hT]
  replace hT := hide hT
  replace hKb := hide hKb
  obtain ⟨KK, hKK⟩ : ∃ KK, KK = kc K := ⟨_, rfl⟩
  rw [← hKK]
  replace hKK := hide hKK
  go_enter Tryd.func17, Tryd.ntmps17
  go_upto_region 1 with fail
  have hB := (Bl.nil w).new KK 25
  simp only [List.nil_append] at hB
  generalize World.alloc _ _ = u at *
  rw [unhide hKK] at hB
  replace hB : Bl w [⟨w.heap.size, kc K, 25⟩] u := hB
  refine wp_region_lit ?_
  refine list_val (.slice (some ⟨w.heap.size, 0, none⟩) 32 32) (by kernel_rfl) (by kernel_rfl) ?_
  simp only [Act.put, List.setIfInBounds_toArray, List.set_cons_zero, List.set_cons_succ, List.getElem_toArray, List.getElem_cons_zero, List.getElem_cons_succ]
  refine list_call 33 #[.slice (some ⟨w.heap.size, 0, none⟩) 32 32] (by kernel_rfl) (by kernel_rfl) ((rsum_ok K (unhide hKb) 32 hK (by omega) (some ⟨w.heap.size, 0, none⟩) 32 u (.inr ⟨w.heap.size, 0, rfl, kc_at (hB.get 0 (x := ⟨w.heap.size, kc K, 25⟩) rfl)⟩)).mono ?_)
  rintro r_ u1 ⟨rfl, hg⟩
  replace hB := hB.more hg
  clear hg
  obtain ⟨D, hD⟩ : ∃ D, D = sumL K := ⟨_, rfl⟩
  have hDl : D.length = 32 := by rw [hD]; exact sumL_len K
  have hDb : IsB D := by rw [hD]; exact sumL_isB K
  rw [← hD] at hT ⊢
  clear hD
  replace hDb := hide hDb
  refine ⟨_, rfl, ?_⟩
  simp only [Act.put, List.setIfInBounds_toArray, List.set_cons_zero, List.set_cons_succ, List.getElem_toArray, List.getElem_cons_zero, List.getElem_cons_succ]
  refine list_valw (.pointer (some ⟨u1.heap.size, 0, none⟩)) (u1.alloc (.cells (kc Z32) 25 (0, 0))) (by kernel_rfl) (by kernel_rfl) ?_
  replace hB := hB.new (kc Z32) 25
  simp only [List.nil_append, List.cons_append] at hB
  generalize World.alloc _ _ = u2 at *
  generalize u1.heap.size = gs at *
  replace hB : Bl w [⟨w.heap.size, kc K, 25⟩, ⟨gs, kc Z32, 25⟩] u2 := hB
  simp only [Act.put, List.setIfInBounds_toArray, List.set_cons_zero, List.set_cons_succ, List.getElem_toArray, List.getElem_cons_zero, List.getElem_cons_succ]
  refine list_store 25 (.tmp 3) (.tmp 6) gs (kc D) 25 (kc Z32) (by kernel_rfl) rfl (by kernel_rfl) (by kernel_rfl) (hB.get 1 (x := ⟨gs, kc Z32, 25⟩) rfl) (by rw [Tryd.infoKey, kc_size, hDl]) (by rw [kc_size, kc_size, hDl]; rfl) (kc_one _) ?_
  replace hB := hB.set 1 (x := ⟨gs, kc Z32, 25⟩) rfl (kc D)
  simp only [List.set_cons_zero, List.set_cons_succ] at hB
  generalize World.setRow _ _ _ = u3 at *
  simp only [Act.put, List.setIfInBounds_toArray, List.set_cons_zero, List.set_cons_succ, List.getElem_toArray, List.getElem_cons_zero, List.getElem_cons_succ]
  refine wpList_nil ?_
  replace hB := hide hB
  go_upto_region 2 with fail
  replace hB := unhide hB
  refine wp_region_lit ?_
  refine list_val (.slice (some ⟨gs, 0, none⟩) 8 32) (by kernel_rfl) (by kernel_rfl) ?_
  simp only [Act.put, List.setIfInBounds_toArray, List.set_cons_zero, List.set_cons_succ, List.getElem_toArray, List.getElem_cons_zero, List.getElem_cons_succ]
  refine list_call 15 #[.slice (some ⟨gs, 0, none⟩) 8 32] (by kernel_rfl) (by kernel_rfl) ((edigits_ok (D.take 8) 8 (by omega) (some ⟨gs, 0, none⟩) 32 u3 ⟨by rw [List.length_take]; omega, fun x hx => unhide hDb x (List.mem_of_mem_take hx), .inr ⟨gs, 0, rfl, (kc_at (hB.get 1 (x := ⟨gs, kc D, 25⟩) rfl)).take 8⟩, by omega, by omega⟩).mono ?_)
  rintro r_ u4 ⟨rfl, hg⟩
  replace hB := hB.more hg
  clear hg
  have hfc := fpL_cut D (by omega)
  obtain ⟨DD, hDD⟩ : ∃ t, t = txL (D.take 8) := ⟨_, rfl⟩
  have hDDl : DD.length = 16 := by rw [hDD, txL_len, List.length_take]; omega
  rw [← hDD] at hfc ⊢
  rw [hfc] at hT
  clear hfc hDD
  refine ⟨_, rfl, ?_⟩
  simp only [Act.put, List.setIfInBounds_toArray, List.set_cons_zero, List.set_cons_succ, List.getElem_toArray, List.getElem_cons_zero, List.getElem_cons_succ]
  (refine wpList_step fun K hK => ?_; replace hK := hide hK; go_simp; refine unhide hK _ _ ?_; clear hK K)
  refine wpList_nil ?_
  have hG := hide hB.gr
  clear hB
  go_upto_region 3 with fail
  refine any_start (S := fun (_ : World) => True) (by kernel_rfl) ?_
  replace hG := hide ((unhide hG).drew)
  generalize World.drew _ = x0 at *
  simp only [List.size_toArray, List.length_cons, List.length_nil, Array.replicate, List.replicate]
  refine any_take (i := 0) (v := (.string (strOfNums DD))) #[false, false, false, false, false, false, false, false, false, false, false, false, false, false, false] rfl (by kernel_rfl) (by kernel_rfl) (by kernel_rfl) (by kernel_rfl) (fun _ _ _ h => h) (.inl ⟨by kernel_rfl, fun x_ hu => by kernel_rfl⟩) trivial ?_
  simp only [Act.put, List.setIfInBounds_toArray, List.set_cons_zero, List.set_cons_succ, List.getElem_toArray, List.getElem_cons_zero, List.getElem_cons_succ]
  refine any_take (i := 1) (v := (.string (strOfNums (DD.take 4)))) #[true, false, false, false, false, false, false, false, false, false, false, false, false, false, false] rfl (by kernel_rfl) (by kernel_rfl) (by kernel_rfl) (by kernel_rfl) (fun _ _ _ h => h) (.inl ⟨by kernel_rfl, fun x_ hu => exec_supto _ (.tmp 9) (.const (.int .i64 4)) rfl DD .i64 4 (by kernel_rfl) rfl (by omega)⟩) trivial ?_
  simp only [Act.put, List.setIfInBounds_toArray, List.set_cons_zero, List.set_cons_succ, List.getElem_toArray, List.getElem_cons_zero, List.getElem_cons_succ]
  refine any_take (i := 2) (v := (.string (strOfNums (DD.take 4 ++ [45])))) #[true, true, false, false, false, false, false, false, false, false, false, false, false, false, false] rfl (by kernel_rfl) (by kernel_rfl) (by kernel_rfl) (by kernel_rfl) (fun _ _ _ h => h) (.inl ⟨by kernel_rfl, fun x_ hu => exec_sadd _ (.tmp 10) (.const (.string ⟨#[45]⟩)) rfl (DD.take 4) ([45]) (by first | rfl | kernel_rfl) (by first | rfl | kernel_rfl) (by simp only [List.length_append, List.length_take, List.length_drop, List.length_cons, List.length_nil]; omega)⟩) trivial ?_
  simp only [Act.put, List.setIfInBounds_toArray, List.set_cons_zero, List.set_cons_succ, List.getElem_toArray, List.getElem_cons_zero, List.getElem_cons_succ]
  refine any_take (i := 3) (v := (.string (strOfNums DD))) #[true, true, true, false, false, false, false, false, false, false, false, false, false, false, false] rfl (by kernel_rfl) (by kernel_rfl) (by kernel_rfl) (by kernel_rfl) (fun _ _ _ h => h) (.inl ⟨by kernel_rfl, fun x_ hu => by kernel_rfl⟩) trivial ?_
  simp only [Act.put, List.setIfInBounds_toArray, List.set_cons_zero, List.set_cons_succ, List.getElem_toArray, List.getElem_cons_zero, List.getElem_cons_succ]
  refine any_take (i := 4) (v := (.string (strOfNums ((DD.drop 4).take 4)))) #[true, true, true, true, false, false, false, false, false, false, false, false, false, false, false] rfl (by kernel_rfl) (by kernel_rfl) (by kernel_rfl) (by kernel_rfl) (fun _ _ _ h => h) (.inl ⟨by kernel_rfl, fun x_ hu => exec_scut _ (.tmp 12) (.const (.int .i64 4)) (.const (.int .i64 8)) rfl DD .i64 .i64 4 8 (by kernel_rfl) rfl rfl (by omega) (by omega)⟩) trivial ?_
  simp only [Act.put, List.setIfInBounds_toArray, List.set_cons_zero, List.set_cons_succ, List.getElem_toArray, List.getElem_cons_zero, List.getElem_cons_succ]
  refine any_take (i := 5) (v := (.string (strOfNums (DD.take 4 ++ [45] ++ (DD.drop 4).take 4)))) #[true, true, true, true, true, false, false, false, false, false, false, false, false, false, false] rfl (by kernel_rfl) (by kernel_rfl) (by kernel_rfl) (by kernel_rfl) (fun _ _ _ h => h) (.inl ⟨by kernel_rfl, fun x_ hu => exec_sadd _ (.tmp 11) (.tmp 13) rfl (DD.take 4 ++ [45]) ((DD.drop 4).take 4) (by first | rfl | kernel_rfl) (by first | rfl | kernel_rfl) (by simp only [List.length_append, List.length_take, List.length_drop, List.length_cons, List.length_nil]; omega)⟩) trivial ?_
  simp only [Act.put, List.setIfInBounds_toArray, List.set_cons_zero, List.set_cons_succ, List.getElem_toArray, List.getElem_cons_zero, List.getElem_cons_succ]
  refine any_take (i := 6) (v := (.string (strOfNums (DD.take 4 ++ [45] ++ (DD.drop 4).take 4 ++ [45])))) #[true, true, true, true, true, true, false, false, false, false, false, false, false, false, false] rfl (by kernel_rfl) (by kernel_rfl) (by kernel_rfl) (by kernel_rfl) (fun _ _ _ h => h) (.inl ⟨by kernel_rfl, fun x_ hu => exec_sadd _ (.tmp 14) (.const (.string ⟨#[45]⟩)) rfl (DD.take 4 ++ [45] ++ (DD.drop 4).take 4) ([45]) (by first | rfl | kernel_rfl) (by first | rfl | kernel_rfl) (by simp only [List.length_append, List.length_take, List.length_drop, List.length_cons, List.length_nil]; omega)⟩) trivial ?_
  simp only [Act.put, List.setIfInBounds_toArray, List.set_cons_zero, List.set_cons_succ, List.getElem_toArray, List.getElem_cons_zero, List.getElem_cons_succ]
  refine any_take (i := 7) (v := (.string (strOfNums DD))) #[true, true, true, true, true, true, true, false, false, false, false, false, false, false, false] rfl (by kernel_rfl) (by kernel_rfl) (by kernel_rfl) (by kernel_rfl) (fun _ _ _ h => h) (.inl ⟨by kernel_rfl, fun x_ hu => by kernel_rfl⟩) trivial ?_
  simp only [Act.put, List.setIfInBounds_toArray, List.set_cons_zero, List.set_cons_succ, List.getElem_toArray, List.getElem_cons_zero, List.getElem_cons_succ]
  refine any_take (i := 8) (v := (.string (strOfNums ((DD.drop 8).take 4)))) #[true, true, true, true, true, true, true, true, false, false, false, false, false, false, false] rfl (by kernel_rfl) (by kernel_rfl) (by kernel_rfl) (by kernel_rfl) (fun _ _ _ h => h) (.inl ⟨by kernel_rfl, fun x_ hu => exec_scut _ (.tmp 16) (.const (.int .i64 8)) (.const (.int .i64 12)) rfl DD .i64 .i64 8 12 (by kernel_rfl) rfl rfl (by omega) (by omega)⟩) trivial ?_
  simp only [Act.put, List.setIfInBounds_toArray, List.set_cons_zero, List.set_cons_succ, List.getElem_toArray, List.getElem_cons_zero, List.getElem_cons_succ]
  refine any_take (i := 9) (v := (.string (strOfNums (DD.take 4 ++ [45] ++ (DD.drop 4).take 4 ++ [45] ++ (DD.drop 8).take 4)))) #[true, true, true, true, true, true, true, true, true, false, false, false, false, false, false] rfl (by kernel_rfl) (by kernel_rfl) (by kernel_rfl) (by kernel_rfl) (fun _ _ _ h => h) (.inl ⟨by kernel_rfl, fun x_ hu => exec_sadd _ (.tmp 15) (.tmp 17) rfl (DD.take 4 ++ [45] ++ (DD.drop 4).take 4 ++ [45]) ((DD.drop 8).take 4) (by first | rfl | kernel_rfl) (by first | rfl | kernel_rfl) (by simp only [List.length_append, List.length_take, List.length_drop, List.length_cons, List.length_nil]; omega)⟩) trivial ?_
  simp only [Act.put, List.setIfInBounds_toArray, List.set_cons_zero, List.set_cons_succ, List.getElem_toArray, List.getElem_cons_zero, List.getElem_cons_succ]
  refine any_take (i := 10) (v := (.string (strOfNums (DD.take 4 ++ [45] ++ (DD.drop 4).take 4 ++ [45] ++ (DD.drop 8).take 4 ++ [45])))) #[true, true, true, true, true, true, true, true, true, true, false, false, false, false, false] rfl (by kernel_rfl) (by kernel_rfl) (by kernel_rfl) (by kernel_rfl) (fun _ _ _ h => h) (.inl ⟨by kernel_rfl, fun x_ hu => exec_sadd _ (.tmp 18) (.const (.string ⟨#[45]⟩)) rfl (DD.take 4 ++ [45] ++ (DD.drop 4).take 4 ++ [45] ++ (DD.drop 8).take 4) ([45]) (by first | rfl | kernel_rfl) (by first | rfl | kernel_rfl) (by simp only [List.length_append, List.length_take, List.length_drop, List.length_cons, List.length_nil]; omega)⟩) trivial ?_
  simp only [Act.put, List.setIfInBounds_toArray, List.set_cons_zero, List.set_cons_succ, List.getElem_toArray, List.getElem_cons_zero, List.getElem_cons_succ]
  refine any_take (i := 11) (v := (.string (strOfNums DD))) #[true, true, true, true, true, true, true, true, true, true, true, false, false, false, false] rfl (by kernel_rfl) (by kernel_rfl) (by kernel_rfl) (by kernel_rfl) (fun _ _ _ h => h) (.inl ⟨by kernel_rfl, fun x_ hu => by kernel_rfl⟩) trivial ?_
  simp only [Act.put, List.setIfInBounds_toArray, List.set_cons_zero, List.set_cons_succ, List.getElem_toArray, List.getElem_cons_zero, List.getElem_cons_succ]
  refine any_take (i := 12) (v := (.string (strOfNums (DD.drop 12)))) #[true, true, true, true, true, true, true, true, true, true, true, true, false, false, false] rfl (by kernel_rfl) (by kernel_rfl) (by kernel_rfl) (by kernel_rfl) (fun _ _ _ h => h) (.inl ⟨by kernel_rfl, fun x_ hu => exec_sfrom _ (.tmp 20) (.const (.int .i64 12)) rfl DD .i64 12 (by kernel_rfl) rfl (by omega)⟩) trivial ?_
  simp only [Act.put, List.setIfInBounds_toArray, List.set_cons_zero, List.set_cons_succ, List.getElem_toArray, List.getElem_cons_zero, List.getElem_cons_succ]
  refine any_take (i := 13) (v := (.string (strOfNums (DD.take 4 ++ [45] ++ (DD.drop 4).take 4 ++ [45] ++ (DD.drop 8).take 4 ++ [45] ++ DD.drop 12)))) #[true, true, true, true, true, true, true, true, true, true, true, true, true, false, false] rfl (by kernel_rfl) (by kernel_rfl) (by kernel_rfl) (by kernel_rfl) (fun _ _ _ h => h) (.inl ⟨by kernel_rfl, fun x_ hu => exec_sadd _ (.tmp 19) (.tmp 21) rfl (DD.take 4 ++ [45] ++ (DD.drop 4).take 4 ++ [45] ++ (DD.drop 8).take 4 ++ [45]) (DD.drop 12) (by first | rfl | kernel_rfl) (by first | rfl | kernel_rfl) (by simp only [List.length_append, List.length_take, List.length_drop, List.length_cons, List.length_nil]; omega)⟩) trivial ?_
  simp only [Act.put, List.setIfInBounds_toArray, List.set_cons_zero, List.set_cons_succ, List.getElem_toArray, List.getElem_cons_zero, List.getElem_cons_succ]
  refine any_one (i := 14) (by kernel_rfl) rfl (fun K_ hQ => ?_)
  replace hQ := hide hQ
  go_simp
  refine (unhide hQ).out _ _ trivial (fun _ => ?_)
  clear hQ K_
  refine any_done (by kernel_rfl) ?_
  rw [show DD.take 4 ++ [45] ++ (DD.drop 4).take 4 ++ [45] ++ (DD.drop 8).take 4 ++ [45] ++ DD.drop 12 = DD.take 4 ++ 45 :: ((DD.drop 4).take 4 ++ 45 :: ((DD.drop 8).take 4 ++ 45 :: DD.drop 12)) from by simp] at hT
  obtain ⟨FL, hFL⟩ : ∃ t, t = DD.take 4 ++ 45 :: ((DD.drop 4).take 4 ++ 45 :: ((DD.drop 8).take 4 ++ 45 :: DD.drop 12)) := ⟨_, rfl⟩
  rw [← hFL] at hT ⊢
  clear hFL
  have hZ : Hid (T (.returned (.string (strOfNums FL))) x0) := by
    rw [unhide hT]
    exact ⟨rfl, unhide hG⟩
  go_wp2_with fail
  exact unhide hZ
end Go.Proofs.YtpmgmpihmpifgaaDoor
