/-
  The code hangs on the clamped multiplier alone: the walk.
-/
import Derived.Test.YtgjejgaendlkjaaAddendWalk
namespace Go.Proofs.Ytgjejgaendlkjaa
open Go.RowKit
set_option maxRecDepth 100000
set_option linter.unusedSimpArgs false
set_option linter.unusedVariables false
theorem u8_and_nat (a b : Nat) (ha : a < 256) (hb : b < 256) : bits .and .u8 (a : Int) (b : Int) = ((a &&& b : Nat) : Int) := by
  have hx : a &&& b < 2 ^ 8 := Nat.and_lt_two_pow _ (by omega)
  have h1 : (BitVec.ofInt 8 (a : Int)).toNat = a := by
    rw [BitVec.ofInt_natCast, BitVec.toNat_ofNat]; exact Nat.mod_eq_of_lt (by omega)
  have h2 : (BitVec.ofInt 8 (b : Int)).toNat = b := by
    rw [BitVec.ofInt_natCast, BitVec.toNat_ofNat]; exact Nat.mod_eq_of_lt (by omega)
  show IntKind.u8.wrap ((BitVec.ofInt 8 (a : Int) &&& BitVec.ofInt 8 (b : Int)).toNat : Int) = _
  rw [BitVec.toNat_and, h1, h2, IntKind.wrap_u8]
  omega
def tx (t k x : Int) : Int := bits .xor .u8 x (bits .and .u8 t k)
theorem tx_rng (t k x : Int) : 0 ≤ tx t k x ∧ tx t k x < 256 := xb_rng x (bits .and .u8 t k)
theorem tx_hi (t x : Int) (ht : 0 ≤ t ∧ t < 256) (hx : 0 ≤ x ∧ x < 256) : tx t 240 x % 16 = x % 16 := by
  obtain ⟨T, rfl⟩ := Int.eq_ofNat_of_zero_le ht.1
  obtain ⟨X, rfl⟩ := Int.eq_ofNat_of_zero_le hx.1
  have h1 : T &&& 240 < 2 ^ 8 := Nat.and_lt_two_pow _ (by omega)
  unfold tx
  rw [show (240 : Int) = ((240 : Nat) : Int) from rfl, u8_and_nat T 240 (by omega) (by omega), u8_xor_nat X (T &&& 240) (by omega) (by omega)]
  have h2 : (X ^^^ (T &&& 240)) % 2 ^ 4 = X % 2 ^ 4 := by
    rw [Nat.xor_mod_two_pow, Nat.and_mod_two_pow, show 240 % 2 ^ 4 = 0 from rfl, Nat.and_zero, Nat.xor_zero]
  omega
theorem tx_lo (t x : Int) (ht : 0 ≤ t ∧ t < 256) (hx : 0 ≤ x ∧ x < 256) : tx t 3 x / 4 * 4 = x / 4 * 4 := by
  obtain ⟨T, rfl⟩ := Int.eq_ofNat_of_zero_le ht.1
  obtain ⟨X, rfl⟩ := Int.eq_ofNat_of_zero_le hx.1
  have h1 : T &&& 3 < 2 ^ 8 := Nat.and_lt_two_pow _ (by omega)
  unfold tx
  rw [show (3 : Int) = ((3 : Nat) : Int) from rfl, u8_and_nat T 3 (by omega) (by omega), u8_xor_nat X (T &&& 3) (by omega) (by omega)]
  have h2 : (X ^^^ (T &&& 3)) / 2 ^ 2 = X / 2 ^ 2 := by
    rw [Nat.xor_div_two_pow, Nat.and_div_two_pow, show 3 / 2 ^ 2 = 0 from rfl, Nat.and_zero, Nat.xor_zero]
  omega
/-- bytes at places turned -/
def tw (K : List Int) (ps : List Nat) (t k : Int) : Nat → List Int
  | 0 => K
  | j + 1 => (tw K ps t k j).set (ps.getD j 0) (tx t k ((tw K ps t k j).getD (ps.getD j 0) 0))
theorem tw_len (K : List Int) (ps : List Nat) (t k : Int) : ∀ j, (tw K ps t k j).length = K.length
  | 0 => rfl
  | j + 1 => by rw [tw, List.length_set, tw_len K ps t k j]
theorem tw_isB (K : List Int) (ps : List Nat) (t k : Int) (h : IsB K) : ∀ j, IsB (tw K ps t k j)
  | 0 => h
  | j + 1 => fun x hx => by
    rw [tw] at hx
    rcases List.mem_or_eq_of_mem_set hx with h1 | h1
    · exact tw_isB K ps t k h j x h1
    · rw [h1]; exact tx_rng _ _ _
def pa : List Nat := [3, 7, 11, 15]
def pb : List Nat := [4, 8, 12]
theorem tw_pa (K : List Int) (hK : K.length = 32) (t : Int) (i : Nat) : (tw K pa t 240 4).getD i 0 = if i = 3 ∨ i = 7 ∨ i = 11 ∨ i = 15 then tx t 240 (K.getD i 0) else K.getD i 0 := by
  have e : tw K pa t 240 4 = (((K.set 3 (tx t 240 (K.getD 3 0))).set 7 (tx t 240 ((K.set 3 (tx t 240 (K.getD 3 0))).getD 7 0))).set 11 (tx t 240 (((K.set 3 (tx t 240 (K.getD 3 0))).set 7 (tx t 240 ((K.set 3 (tx t 240 (K.getD 3 0))).getD 7 0))).getD 11 0))).set 15 (tx t 240 ((((K.set 3 (tx t 240 (K.getD 3 0))).set 7 (tx t 240 ((K.set 3 (tx t 240 (K.getD 3 0))).getD 7 0))).set 11 (tx t 240 (((K.set 3 (tx t 240 (K.getD 3 0))).set 7 (tx t 240 ((K.set 3 (tx t 240 (K.getD 3 0))).getD 7 0))).getD 11 0))).getD 15 0)) := rfl
  rw [e]
  have hl : ∀ (l : List Int) (a : Nat) (x : Int), (l.set a x).length = l.length := fun l a x => List.length_set
  simp only [getD_set _ _ _ _ (show 15 < (((K.set 3 _).set 7 _).set 11 _).length by simp [hK]), getD_set _ _ _ _ (show 11 < ((K.set 3 _).set 7 _).length by simp [hK]), getD_set _ _ _ _ (show 7 < (K.set 3 _).length by simp [hK]), getD_set K 3 _ _ (by omega)]
  by_cases h15 : i = 15
  · subst h15; simp
  by_cases h11 : i = 11
  · subst h11; simp
  by_cases h7 : i = 7
  · subst h7; simp
  by_cases h3 : i = 3
  · subst h3; simp
  simp [h15, h11, h7, h3]
theorem tw_pb (K : List Int) (hK : K.length = 32) (t : Int) (i : Nat) : (tw K pb t 3 3).getD i 0 = if i = 4 ∨ i = 8 ∨ i = 12 then tx t 3 (K.getD i 0) else K.getD i 0 := by
  have e : tw K pb t 3 3 = ((K.set 4 (tx t 3 (K.getD 4 0))).set 8 (tx t 3 ((K.set 4 (tx t 3 (K.getD 4 0))).getD 8 0))).set 12 (tx t 3 (((K.set 4 (tx t 3 (K.getD 4 0))).set 8 (tx t 3 ((K.set 4 (tx t 3 (K.getD 4 0))).getD 8 0))).getD 12 0)) := rfl
  rw [e]
  simp only [getD_set _ _ _ _ (show 12 < ((K.set 4 _).set 8 _).length by simp [hK]), getD_set _ _ _ _ (show 8 < (K.set 4 _).length by simp [hK]), getD_set K 4 _ _ (by omega)]
  by_cases h12 : i = 12
  · subst h12; simp
  by_cases h8 : i = 8
  · subst h8; simp
  by_cases h4 : i = 4
  · subst h4; simp
  simp [h12, h8, h4]
/-- the other key -/
def ok2 (K : List Int) (t : Int) : List Int := tw (tw K pa t 240 4) pb t 3 3
theorem ok2_len (K : List Int) (hK : K.length = 32) (t : Int) : (ok2 K t).length = 32 := by unfold ok2; rw [tw_len, tw_len, hK]
theorem ok2_cl (K : List Int) (hK : K.length = 32) (hb : IsB K) (t : Int) (ht : 0 ≤ t ∧ t < 256) : clL (ok2 K t) = clL K := by
  refine list_ext (by rw [clL_len, clL_len]) fun i hi => ?_
  rw [clL_len] at hi
  unfold clL
  rw [List.getD_eq_getElem?_getD, List.getD_eq_getElem?_getD, List.getElem?_map, List.getElem?_map, List.getElem?_range hi]
  show cl i ((ok2 K t).getD i 0) = cl i (K.getD i 0)
  unfold ok2
  rw [tw_pb _ (by rw [tw_len, hK]) t i, tw_pa K hK t i]
  have hx := hb.at_ i
  generalize K.getD i 0 = x at *
  unfold cl
  by_cases h1 : i = 3 ∨ i = 7 ∨ i = 11 ∨ i = 15
  · rw [if_pos h1, if_pos h1, if_pos h1, if_neg (by omega)]
    exact tx_hi t x ht hx
  · rw [if_neg h1, if_neg h1, if_neg h1]
    by_cases h2 : i = 4 ∨ i = 8 ∨ i = 12
    · rw [if_pos h2, if_pos h2, if_pos h2]
      exact tx_lo t x ht hx
    · rw [if_neg h2, if_neg h2, if_neg h2]
theorem ok2_tail (K : List Int) (hK : K.length = 32) (t : Int) : (ok2 K t).drop 16 = K.drop 16 := by
  refine list_ext (by rw [List.length_drop, List.length_drop, ok2_len K hK, hK]) fun i hi => ?_
  rw [List.getD_eq_getElem?_getD, List.getD_eq_getElem?_getD, List.getElem?_drop, List.getElem?_drop, ← List.getD_eq_getElem?_getD, ← List.getD_eq_getElem?_getD]
  unfold ok2
  rw [tw_pb _ (by rw [tw_len, hK]) t, tw_pa K hK t, if_neg (by omega), if_neg (by omega)]
theorem ok2_mc (K B : List Int) (hK : K.length = 32) (hb : IsB K) (t : Int) (ht : 0 ≤ t ∧ t < 256) : mcL (ok2 K t) B = mcL K B := by
  unfold mcL mcN
  rw [ok2_cl K hK hb t ht, ok2_tail K hK t]
set_option maxHeartbeats 4000000 in
theorem clamped_big (K : List Int) (hK : K.length = 32) (hKb : IsB K) (B : List Int) (s : Option Addr) (n cap : Nat) (t : Int) (h : 16384 < n) (w : World) (lb : Lb w s n cap B) : Calls Try.prog 7 #[.agg (kc K), .slice s n cap, .int .u8 t] w (Woke w) := by
  obtain ⟨T, hT⟩ : ∃ T, T = Woke w := ⟨_, rfl⟩
  rw [← hT]
  replace hT := hide hT
  replace hKb := hide hKb
  have hn := hide lb.len
  replace lb := hide lb
  have hI : (16384 : Int) < (n : Int) := by omega
  obtain ⟨SK, hSK⟩ : ∃ S, S = kc K := ⟨_, rfl⟩
  rw [← hSK]
  replace hSK := hide hSK
  go_enter Try.func7, Try.ntmps7
  go_upto_region 1 with fail
  have hB := (Bl.nil w).new SK 23
  simp only [List.nil_append] at hB
  generalize World.alloc _ _ = u at *
  rw [unhide hSK] at hB
  replace hB : Bl w [⟨w.heap.size, kc K, 23⟩] u := hB
  refine wp_region_lit ?_
  refine list_call 9 #[] (by kernel_rfl) (by kernel_rfl) ((wakes_ok _).mono ?_)
  rintro r v ⟨rfl, hg⟩
  refine ⟨_, rfl, ?_⟩
  replace hB := hB.more hg
  clear hg
  simp only [Act.put, List.setIfInBounds_toArray, List.set_cons_zero, List.set_cons_succ, List.getElem_toArray, List.getElem_cons_zero, List.getElem_cons_succ]
  refine list_val (.bool false) (by kernel_rfl) (by kernel_rfl) ?_
  simp only [Act.put, List.setIfInBounds_toArray, List.set_cons_zero, List.set_cons_succ, List.getElem_toArray, List.getElem_cons_zero, List.getElem_cons_succ]
  refine wpList_nil ?_
  replace hB := hide hB
  go_wp2_with fail
  replace hB := unhide hB
  rw [unhide hT]
  exact ⟨rfl, hB.gr⟩
set_option maxHeartbeats 4000000 in
theorem clamped_small (K : List Int) (hK : K.length = 32) (hKb : IsB K) (B : List Int) (s : Option Addr) (n cap : Nat) (t : Int) (ht : 0 ≤ t ∧ t < 256) (h : n ≤ 16384) (w : World) (lb : Lb w s n cap B) : Calls Try.prog 7 #[.agg (kc K), .slice s n cap, .int .u8 t] w (Woke w) := by
  obtain ⟨T, hT⟩ : ∃ T, T = Woke w := ⟨_, rfl⟩
  rw [← hT]
  replace hT := hide hT
  replace hKb := hide hKb
  have hn := hide lb.len
  replace lb := hide lb
  have hI : ¬ (16384 : Int) < (n : Int) := by omega
  obtain ⟨SK, hSK⟩ : ∃ S, S = kc K := ⟨_, rfl⟩
  rw [← hSK]
  replace hSK := hide hSK
  go_enter Try.func7, Try.ntmps7
  go_upto_region 1 with fail
  have hB := (Bl.nil w).new SK 23
  simp only [List.nil_append] at hB
  generalize World.alloc _ _ = u at *
  rw [unhide hSK] at hB
  replace hB : Bl w [⟨w.heap.size, kc K, 23⟩] u := hB
  refine wp_region_lit ?_
  refine list_call 9 #[] (by kernel_rfl) (by kernel_rfl) ((wakes_ok _).mono ?_)
  rintro r v ⟨rfl, hg⟩
  refine ⟨_, rfl, ?_⟩
  replace hB := hB.more hg
  clear hg
  simp only [Act.put, List.setIfInBounds_toArray, List.set_cons_zero, List.set_cons_succ, List.getElem_toArray, List.getElem_cons_zero, List.getElem_cons_succ]
  refine list_val (.bool false) (by kernel_rfl) (by kernel_rfl) ?_
  simp only [Act.put, List.setIfInBounds_toArray, List.set_cons_zero, List.set_cons_succ, List.getElem_toArray, List.getElem_cons_zero, List.getElem_cons_succ]
  refine wpList_nil ?_
  replace hB := hide hB
  go_upto_region 5 with fail
  replace hB := unhide hB
  refine wp_region_lit ?_
  refine list_val (.agg (kc K)) (by kernel_rfl) (exec_arr _ 23 (.tmp 3) rfl (w.heap.size) (by kernel_rfl) (kc K) 23 _ (hB.get 0 (x := ⟨w.heap.size, kc K, 23⟩) rfl) Try.underlying23 rfl (by rw [Try.infoKey, kc_size, hK])) ?_
  simp only [Act.put, List.setIfInBounds_toArray, List.set_cons_zero, List.set_cons_succ, List.getElem_toArray, List.getElem_cons_zero, List.getElem_cons_succ]
  replace hB := hide hB
  (refine wpList_step fun K hK => ?_; replace hK := hide hK; go_simp; refine unhide hK _ _ ?_; clear hK K)
  replace hB := (unhide hB).new #[.int .u8 0, .int .u8 0, .int .u8 0, .int .u8 0, .int .u8 0, .int .u8 0, .int .u8 0, .int .u8 0, .int .u8 0, .int .u8 0, .int .u8 0, .int .u8 0, .int .u8 0, .int .u8 0, .int .u8 0, .int .u8 0, .int .u8 0, .int .u8 0, .int .u8 0, .int .u8 0, .int .u8 0, .int .u8 0, .int .u8 0, .int .u8 0, .int .u8 0, .int .u8 0, .int .u8 0, .int .u8 0, .int .u8 0, .int .u8 0, .int .u8 0, .int .u8 0] 23
  simp only [List.nil_append, List.cons_append] at hB
  generalize World.alloc _ _ = v1 at *
  generalize v.heap.size = h7 at *
  replace hB : Bl w [⟨w.heap.size, kc K, 23⟩, ⟨h7, kc (List.replicate 32 0), 23⟩] v1 := hB
  refine list_store 23 (.tmp 7) (.tmp 17) (h7) (kc K) 23 (kc (List.replicate 32 0)) (by kernel_rfl) rfl (by kernel_rfl) (by kernel_rfl) (hB.get 1 (x := ⟨h7, kc (List.replicate 32 0), 23⟩) rfl) (by rw [Try.infoKey, kc_size, hK]) ((show (kc (List.replicate 32 0)).size = 32 from rfl).trans ((kc_size _).trans hK).symm) (kc_one _) ?_
  replace hB := hB.set 1 (x := ⟨h7, kc (List.replicate 32 0), 23⟩) rfl (kc K)
  simp only [List.set_cons_zero, List.set_cons_succ] at hB
  generalize World.setRow _ _ _ = v2 at *
  simp only [Act.put, List.setIfInBounds_toArray, List.set_cons_zero, List.set_cons_succ, List.getElem_toArray, List.getElem_cons_zero, List.getElem_cons_succ]
  refine wpList_nil ?_
  replace hB := hide hB
  go_upto_region 6 with fail
  replace hB := unhide hB
  refine wp_region_lit ?_
  refine list_valw (.slice (some ⟨v2.heap.size, 0, none⟩) 4 4) (v2.alloc (.cells (ni pa) 3 (0, 0))) (by kernel_rfl) (by kernel_rfl) ?_
  simp only [Act.put, List.setIfInBounds_toArray, List.set_cons_zero, List.set_cons_succ, List.getElem_toArray, List.getElem_cons_zero, List.getElem_cons_succ]
  replace hB := hB.new (ni pa) 3
  simp only [List.nil_append, List.cons_append] at hB
  generalize World.alloc _ _ = v3 at *
  generalize v2.heap.size = g18 at *
  refine list_val (.int .i64 4) (by kernel_rfl) (by kernel_rfl) ?_
  simp only [Act.put, List.setIfInBounds_toArray, List.set_cons_zero, List.set_cons_succ, List.getElem_toArray, List.getElem_cons_zero, List.getElem_cons_succ]
  refine list_val (.int .i64 0) (by kernel_rfl) (by kernel_rfl) ?_
  simp only [Act.put, List.setIfInBounds_toArray, List.set_cons_zero, List.set_cons_succ, List.getElem_toArray, List.getElem_cons_zero, List.getElem_cons_succ]
  refine wpList_nil ?_
  replace hB := hide hB
  go_wp2_with fail
  go_loopw [20] (fun i wr => ∃ i' : Nat, ∃ m : List Int, i' ≤ 4 ∧ i = .int .i64 i' ∧ Hid (m = tw K pa t 240 i') ∧ Hid (Bl w [⟨w.heap.size, kc K, 23⟩, ⟨h7, kc m, 23⟩, ⟨g18, ni pa, 3⟩] wr)) (fun i _ => 4 - (intOf i).toNat)
  case atStart => exact ⟨0, K, by omega, rfl, rfl, hB⟩
  case round =>
  clear hB
  obtain ⟨i, m, hi, rfl, hm, hB⟩ := hrel
  have hml : m.length = 32 := by rw [unhide hm, tw_len]; exact hK
  by_cases hil : i < 4
  · obtain ⟨p, hp⟩ : ∃ p, p = pa.getD i 0 := ⟨_, rfl⟩
    have hp2 : p < 32 := by rw [hp]; exact (show ∀ i, i < 4 → pa.getD i 0 < 32 by decide) i hil
    have c0 := ni_cell ((unhide hB).get 2 (x := ⟨g18, ni pa, 3⟩) rfl) i (by exact hil)
    rw [← hp] at c0
    have c1 := kc_cell ((unhide hB).get 1 (x := ⟨h7, kc m, 23⟩) rfl) p (by omega)
    have f1 := froz_of (i := p) ((unhide hB).get 1 (x := ⟨h7, kc m, 23⟩) rfl)
    have hB2 := (unhide hB).cell 1 (x := ⟨h7, kc m, 23⟩) rfl p (.int .u8 (tx t 240 (m.getD p 0)))
    simp only [List.set_cons_zero, List.set_cons_succ, kc_set] at hB2
    have hm2 : Hid (m.set p (tx t 240 (m.getD p 0)) = tw K pa t 240 (i + 1)) := by
      rw [tw, ← unhide hm, ← hp]
      exact rfl
    generalize m.getD p 0 = z at *
    have iI : (i : Int) < 4 := by omega
    have pI : (p : Int) < 32 := by omega
    replace hp := hide hp
    replace hB2 := hide hB2
    go_wp2_with fail
    go_roundw
    case rel => exact ⟨i + 1, _, by omega, by go_num, hm2, hB2⟩
    case measure => simp [intOf]; omega
  have e : i = 4 := by omega
  subst e
  clear hi hil
  obtain ⟨M1, hM1⟩ : ∃ M, M = m := ⟨_, rfl⟩
  rw [← hM1] at hm hB hml
  clear hM1 m
  have hMl : M1.length = 32 := hml
  clear hml
  go_upto_region 11 with fail
  replace hB := unhide hB
  refine wp_region_lit ?_
  refine list_valw (.slice (some ⟨wr.heap.size, 0, none⟩) 3 3) (wr.alloc (.cells (ni pb) 3 (0, 0))) (by kernel_rfl) (by kernel_rfl) ?_
  simp only [Act.put, List.setIfInBounds_toArray, List.set_cons_zero, List.set_cons_succ, List.getElem_toArray, List.getElem_cons_zero, List.getElem_cons_succ]
  replace hB := hB.new (ni pb) 3
  simp only [List.nil_append, List.cons_append] at hB
  generalize World.alloc _ _ = v5 at *
  generalize wr.heap.size = g32 at *
  refine list_val (.int .i64 3) (by kernel_rfl) (by kernel_rfl) ?_
  simp only [Act.put, List.setIfInBounds_toArray, List.set_cons_zero, List.set_cons_succ, List.getElem_toArray, List.getElem_cons_zero, List.getElem_cons_succ]
  refine list_val (.int .i64 0) (by kernel_rfl) (by kernel_rfl) ?_
  simp only [Act.put, List.setIfInBounds_toArray, List.set_cons_zero, List.set_cons_succ, List.getElem_toArray, List.getElem_cons_zero, List.getElem_cons_succ]
  refine wpList_nil ?_
  have hm1 : Hid (M1 = tw K pa t 240 4) := hm
  clear hm
  replace hB := hide hB
  go_wp2_with fail
  go_loopw [34] (fun i wr => ∃ i' : Nat, ∃ m : List Int, i' ≤ 3 ∧ i = .int .i64 i' ∧ Hid (m = tw M1 pb t 3 i') ∧ Hid (Bl w [⟨w.heap.size, kc K, 23⟩, ⟨h7, kc m, 23⟩, ⟨g18, ni pa, 3⟩, ⟨g32, ni pb, 3⟩] wr)) (fun i _ => 3 - (intOf i).toNat)
  case atStart => exact ⟨0, M1, by omega, rfl, rfl, hB⟩
  case round =>
  clear hB
  obtain ⟨i, m, hi, rfl, hm, hB⟩ := hrel
  have hml : m.length = 32 := by rw [unhide hm, tw_len]; exact hMl
  by_cases hil : i < 3
  · obtain ⟨p, hp⟩ : ∃ p, p = pb.getD i 0 := ⟨_, rfl⟩
    have hp2 : p < 32 := by rw [hp]; exact (show ∀ i, i < 3 → pb.getD i 0 < 32 by decide) i hil
    have c0 := ni_cell ((unhide hB).get 3 (x := ⟨g32, ni pb, 3⟩) rfl) i (by exact hil)
    rw [← hp] at c0
    have c1 := kc_cell ((unhide hB).get 1 (x := ⟨h7, kc m, 23⟩) rfl) p (by omega)
    have f1 := froz_of (i := p) ((unhide hB).get 1 (x := ⟨h7, kc m, 23⟩) rfl)
    have hB2 := (unhide hB).cell 1 (x := ⟨h7, kc m, 23⟩) rfl p (.int .u8 (tx t 3 (m.getD p 0)))
    simp only [List.set_cons_zero, List.set_cons_succ, kc_set] at hB2
    have hm2 : Hid (m.set p (tx t 3 (m.getD p 0)) = tw M1 pb t 3 (i + 1)) := by
      rw [tw, ← unhide hm, ← hp]
      exact rfl
    generalize m.getD p 0 = z at *
    have iI : (i : Int) < 3 := by omega
    have pI : (p : Int) < 32 := by omega
    replace hp := hide hp
    replace hB2 := hide hB2
    go_wp2_with fail
    go_roundw
    case rel => exact ⟨i + 1, _, by omega, by go_num, hm2, hB2⟩
    case measure => simp [intOf]; omega
  have e : i = 3 := by omega
  subst e
  clear hi hil
  have hO : Hid (m = ok2 K t) := by rw [unhide hm, unhide hm1]; exact rfl
  have hOb : Hid (IsB m) := by rw [unhide hO]; exact tw_isB _ _ _ _ (tw_isB _ _ _ _ (unhide hKb) _) _
  have hc1 : Hid (mcL m B = mcL K B) := by rw [unhide hO]; exact ok2_mc K B hK (unhide hKb) t ht
  have hc2 : Hid (clL m = clL K) := by rw [unhide hO]; exact ok2_cl K hK (unhide hKb) t ht
  clear hm
  go_upto_region 16 with fail
  replace hB := unhide hB
  refine any_start (S := fun v => Bl w [⟨w.heap.size, kc K, 23⟩, ⟨h7, kc m, 23⟩, ⟨g18, ni pa, 3⟩, ⟨g32, ni pb, 3⟩] v) (by kernel_rfl) ?_
  replace hB := hB.drew
  generalize World.drew _ = v0 at *
  simp only [List.size_toArray, List.length_cons, List.length_nil, Array.replicate, List.replicate]
  refine any_take (i := 0) (v := (.agg (kc m))) #[false, false, false, false, false, false, false, false, false, false, false, false, false, false, false] rfl (by kernel_rfl) (by kernel_rfl) (by kernel_rfl) (by kernel_rfl) (fun _ _ _ h => h) (.inl ⟨by kernel_rfl, fun x_ hu => exec_arr _ 23 (.tmp 7) rfl (h7) (by kernel_rfl) (kc m) 23 _ (hu.get 1 (x := ⟨h7, kc m, 23⟩) rfl) Try.underlying23 rfl (by rw [Try.infoKey, kc_size, hml])⟩) hB ?_
  simp only [Act.put, List.setIfInBounds_toArray, List.set_cons_zero, List.set_cons_succ, List.getElem_toArray, List.getElem_cons_zero, List.getElem_cons_succ]
  refine any_take (i := 1) (v := (.slice s n cap)) #[true, false, false, false, false, false, false, false, false, false, false, false, false, false, false] rfl (by kernel_rfl) (by kernel_rfl) (by kernel_rfl) (by kernel_rfl) (fun _ _ _ h => h) (.inl ⟨by kernel_rfl, fun x_ hu => by kernel_rfl⟩) hB ?_
  simp only [Act.put, List.setIfInBounds_toArray, List.set_cons_zero, List.set_cons_succ, List.getElem_toArray, List.getElem_cons_zero, List.getElem_cons_succ]
  refine any_take (i := 3) (v := (.agg (kc K))) #[true, true, false, false, false, false, false, false, false, false, false, false, false, false, false] rfl (by kernel_rfl) (by kernel_rfl) (by kernel_rfl) (by kernel_rfl) (fun _ _ _ h => h) (.inl ⟨by kernel_rfl, fun x_ hu => exec_arr _ 23 (.tmp 3) rfl (w.heap.size) (by kernel_rfl) (kc K) 23 _ (hu.get 0 (x := ⟨w.heap.size, kc K, 23⟩) rfl) Try.underlying23 rfl (by rw [Try.infoKey, kc_size, hK])⟩) hB ?_
  simp only [Act.put, List.setIfInBounds_toArray, List.set_cons_zero, List.set_cons_succ, List.getElem_toArray, List.getElem_cons_zero, List.getElem_cons_succ]
  refine any_take (i := 4) (v := (.slice s n cap)) #[true, true, false, true, false, false, false, false, false, false, false, false, false, false, false] rfl (by kernel_rfl) (by kernel_rfl) (by kernel_rfl) (by kernel_rfl) (fun _ _ _ h => h) (.inl ⟨by kernel_rfl, fun x_ hu => by kernel_rfl⟩) hB ?_
  simp only [Act.put, List.setIfInBounds_toArray, List.set_cons_zero, List.set_cons_succ, List.getElem_toArray, List.getElem_cons_zero, List.getElem_cons_succ]
  refine any_one (i := 2) (by kernel_rfl) rfl (fun K_ hQ => ?_)
  refine step_callw (by kernel_rfl) 10 #[.agg (kc m), .slice s n cap] (by kernel_rfl) ((mac_ok m hml (unhide hOb) B s n cap (by omega) _ ((unhide lb).gr hB.gr)).mono ?_)
  rintro r u1 ⟨rfl, hg⟩
  refine ⟨_, rfl, ?_⟩
  replace hB := hB.more hg
  clear hg
  rw [unhide hc1]
  refine hQ.out _ _ hB (fun _ => ?_)
  clear hQ K_
  simp only [Act.put, List.setIfInBounds_toArray, List.set_cons_zero, List.set_cons_succ, List.getElem_toArray, List.getElem_cons_zero, List.getElem_cons_succ]
  refine any_one (i := 5) (by kernel_rfl) rfl (fun K_ hQ => ?_)
  refine step_callw (by kernel_rfl) 10 #[.agg (kc K), .slice s n cap] (by kernel_rfl) ((mac_ok K hK (unhide hKb) B s n cap (by omega) _ ((unhide lb).gr hB.gr)).mono ?_)
  rintro r u2 ⟨rfl, hg⟩
  refine ⟨_, rfl, ?_⟩
  replace hB := hB.more hg
  clear hg
  refine hQ.out _ _ hB (fun _ => ?_)
  clear hQ K_
  simp only [Act.put, List.setIfInBounds_toArray, List.set_cons_zero, List.set_cons_succ, List.getElem_toArray, List.getElem_cons_zero, List.getElem_cons_succ]
  refine any_take (i := 6) (v := (.bool true)) #[true, true, true, true, true, true, false, false, false, false, false, false, false, false, false] rfl (by kernel_rfl) (by kernel_rfl) (by kernel_rfl) (by kernel_rfl) (fun _ _ _ h => h) (.inl ⟨by kernel_rfl, fun x_ hu => by have e := refl_T (mcL K B) (tgL_len _); go_simp⟩) hB ?_
  simp only [Act.put, List.setIfInBounds_toArray, List.set_cons_zero, List.set_cons_succ, List.getElem_toArray, List.getElem_cons_zero, List.getElem_cons_succ]
  refine any_take (i := 7) (v := (.bool true)) #[true, true, true, true, true, true, true, false, false, false, false, false, false, false, false] rfl (by kernel_rfl) (by kernel_rfl) (by kernel_rfl) (by kernel_rfl) (fun _ _ _ h => h) (.inl ⟨by kernel_rfl, fun x_ hu => by kernel_rfl⟩) hB ?_
  simp only [Act.put, List.setIfInBounds_toArray, List.set_cons_zero, List.set_cons_succ, List.getElem_toArray, List.getElem_cons_zero, List.getElem_cons_succ]
  refine any_take (i := 8) (v := (.agg (kc m))) #[true, true, true, true, true, true, true, true, false, false, false, false, false, false, false] rfl (by kernel_rfl) (by kernel_rfl) (by kernel_rfl) (by kernel_rfl) (fun _ _ _ h => h) (.inl ⟨by kernel_rfl, fun x_ hu => exec_arr _ 23 (.tmp 7) rfl (h7) (by kernel_rfl) (kc m) 23 _ (hu.get 1 (x := ⟨h7, kc m, 23⟩) rfl) Try.underlying23 rfl (by rw [Try.infoKey, kc_size, hml])⟩) hB ?_
  simp only [Act.put, List.setIfInBounds_toArray, List.set_cons_zero, List.set_cons_succ, List.getElem_toArray, List.getElem_cons_zero, List.getElem_cons_succ]
  refine any_take (i := 10) (v := (.agg (kc K))) #[true, true, true, true, true, true, true, true, true, false, false, false, false, false, false] rfl (by kernel_rfl) (by kernel_rfl) (by kernel_rfl) (by kernel_rfl) (fun _ _ _ h => h) (.inl ⟨by kernel_rfl, fun x_ hu => exec_arr _ 23 (.tmp 3) rfl (w.heap.size) (by kernel_rfl) (kc K) 23 _ (hu.get 0 (x := ⟨w.heap.size, kc K, 23⟩) rfl) Try.underlying23 rfl (by rw [Try.infoKey, kc_size, hK])⟩) hB ?_
  simp only [Act.put, List.setIfInBounds_toArray, List.set_cons_zero, List.set_cons_succ, List.getElem_toArray, List.getElem_cons_zero, List.getElem_cons_succ]
  refine any_one (i := 9) (by kernel_rfl) rfl (fun K_ hQ => ?_)
  refine step_callw (by kernel_rfl) 12 #[.agg (kc m)] (by kernel_rfl) ((clamp_ok m hml (unhide hOb) _).mono ?_)
  rintro r u3 ⟨rfl, hg⟩
  refine ⟨_, rfl, ?_⟩
  replace hB := hB.more hg
  clear hg
  rw [unhide hc2]
  refine hQ.out _ _ hB (fun _ => ?_)
  clear hQ K_
  simp only [Act.put, List.setIfInBounds_toArray, List.set_cons_zero, List.set_cons_succ, List.getElem_toArray, List.getElem_cons_zero, List.getElem_cons_succ]
  refine any_one (i := 11) (by kernel_rfl) rfl (fun K_ hQ => ?_)
  refine step_callw (by kernel_rfl) 12 #[.agg (kc K)] (by kernel_rfl) ((clamp_ok K hK (unhide hKb) _).mono ?_)
  rintro r u4 ⟨rfl, hg⟩
  refine ⟨_, rfl, ?_⟩
  replace hB := hB.more hg
  clear hg
  refine hQ.out _ _ hB (fun _ => ?_)
  clear hQ K_
  simp only [Act.put, List.setIfInBounds_toArray, List.set_cons_zero, List.set_cons_succ, List.getElem_toArray, List.getElem_cons_zero, List.getElem_cons_succ]
  refine any_take (i := 12) (v := (.bool true)) #[true, true, true, true, true, true, true, true, true, true, true, true, false, false, false] rfl (by kernel_rfl) (by kernel_rfl) (by kernel_rfl) (by kernel_rfl) (fun _ _ _ h => h) (.inl ⟨by kernel_rfl, fun x_ hu => by have e := refl_T (clL K) (clL_len _); go_simp⟩) hB ?_
  simp only [Act.put, List.setIfInBounds_toArray, List.set_cons_zero, List.set_cons_succ, List.getElem_toArray, List.getElem_cons_zero, List.getElem_cons_succ]
  refine any_take (i := 13) (v := (.bool true)) #[true, true, true, true, true, true, true, true, true, true, true, true, true, false, false] rfl (by kernel_rfl) (by kernel_rfl) (by kernel_rfl) (by kernel_rfl) (fun _ _ _ h => h) (.inl ⟨by kernel_rfl, fun x_ hu => by kernel_rfl⟩) hB ?_
  simp only [Act.put, List.setIfInBounds_toArray, List.set_cons_zero, List.set_cons_succ, List.getElem_toArray, List.getElem_cons_zero, List.getElem_cons_succ]
  refine any_one (i := 14) (by kernel_rfl) rfl (fun K_ hQ => ?_)
  replace hQ := hide hQ
  go_simp
  refine (unhide hQ).out _ _ hB (fun _ => ?_)
  clear hQ K_
  refine any_done (by kernel_rfl) ?_
  replace hB := hide hB
  go_wp2_with fail
  replace hB := unhide hB
  rw [unhide hT]
  exact ⟨rfl, hB.gr⟩
theorem clamped_ok (K : List Int) (hK : K.length = 32) (hKb : IsB K) (B : List Int) (s : Option Addr) (n cap : Nat) (t : Int) (ht : 0 ≤ t ∧ t < 256) (w : World) (lb : Lb w s n cap B) : Calls Try.prog 7 #[.agg (kc K), .slice s n cap, .int .u8 t] w (Woke w) := by
  rcases Nat.lt_or_ge 16384 n with h | h
  · exact clamped_big K hK hKb B s n cap t h w lb
  · exact clamped_small K hK hKb B s n cap t ht h w lb
end Go.Proofs.Ytgjejgaendlkjaa
