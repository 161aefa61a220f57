/-
  Numbers as bytes: what put, Put64 and tag answer.
-/
import Derived.Test.YtdekjbdkpchbjabPlD
namespace Go.Proofs.Ytdekjbdkpchbjab
open Go.RowKit
set_option maxRecDepth 100000
set_option linter.unusedSimpArgs false
set_option linter.unusedVariables false
/-- The low form of x, of k bytes. -/
def lowL (x : Int) : Nat → List Int
  | 0 => []
  | k + 1 => x % 256 :: lowL (x / 256) k
theorem lowL_len (x : Int) (k : Nat) : (lowL x k).length = k := by
  induction k generalizing x with
  | zero => rfl
  | succ k ih => simp [lowL, ih]
theorem lowL_isB (x : Int) (k : Nat) : IsB (lowL x k) := by
  induction k generalizing x with
  | zero => intro y hy; cases hy
  | succ k ih =>
    intro y hy
    simp only [lowL, List.mem_cons] at hy
    rcases hy with rfl | hy
    · omega
    · exact ih _ y hy
theorem div_pow (x : Int) (k : Nat) : x / 256 / 256 ^ k = x / 256 ^ (k + 1) := by
  rw [Int.pow_succ, Int.mul_comm, Int.ediv_ediv_of_nonneg (by omega)]
theorem lowL_snoc (x : Int) (k : Nat) : lowL x (k + 1) = lowL x k ++ [x / 256 ^ k % 256] := by
  induction k generalizing x with
  | zero => simp [lowL]
  | succ k ih => rw [lowL, ih, lowL, List.cons_append, div_pow]
/-- The row behind k rounds. -/
def filled (l : List Int) (x : Int) (size k : Nat) : List Int := l ++ (lowL x k ++ List.replicate (size - k) 0)
theorem filled_len (l : List Int) (x : Int) (size k : Nat) (h : k ≤ size) : (filled l x size k).length = l.length + size := by simp [filled, lowL_len]; omega
theorem filled_step (l : List Int) (x : Int) (size k : Nat) (h : k < size) : (filled l x size k).set (l.length + k) (x / 256 ^ k % 256) = filled l x size (k + 1) := by
  unfold filled
  rw [List.set_append_right _ _ (by omega), Nat.add_sub_cancel_left, List.set_append_right _ _ (by rw [lowL_len]; exact Nat.le_refl _), lowL_len, Nat.sub_self, lowL_snoc]
  obtain ⟨j, hj⟩ : ∃ j, size - k = j + 1 := ⟨size - k - 1, by omega⟩
  rw [hj, show size - (k + 1) = j by omega]
  simp [List.replicate_succ]
/-- bytes laid over bytes -/
def lay (C : List Int) (o : Nat) (S : List Int) : List Int := C.take o ++ (S ++ C.drop (o + S.length))
theorem lay_len (C : List Int) (o : Nat) (S : List Int) (h : o + S.length ≤ C.length) : (lay C o S).length = C.length := by
  unfold lay
  simp only [List.length_append, List.length_take, List.length_drop]
  omega
theorem lay_isB {C : List Int} {o : Nat} {S : List Int} (hC : IsB C) (hS : IsB S) : IsB (lay C o S) := fun x hx => by
  unfold lay at hx
  rcases List.mem_append.1 hx with h | h
  · exact hC.take _ x h
  · rcases List.mem_append.1 h with h | h
    · exact hS x h
    · exact hC.drop _ x h
theorem sp_lay (C S : List Int) (o : Nat) (h : o + S.length ≤ C.length) : sp (C.map (Value.int .u8)) o (S.map (Value.int .u8)) = (lay C o S).map (Value.int .u8) := by
  have e : C = C.take o ++ ((C.drop o).take S.length ++ C.drop (o + S.length)) := by rw [← List.drop_drop, List.take_append_drop, List.take_append_drop]
  have h1 := sp_mid (S.map (Value.int .u8)) ((C.take o).map (Value.int .u8)) (((C.drop o).take S.length).map (Value.int .u8)) ((C.drop (o + S.length)).map (Value.int .u8)) (by simp; omega)
  rw [List.length_map, List.length_take, Nat.min_eq_left (by omega), ← List.map_append, ← List.map_append, ← e] at h1
  rw [h1]
  simp [lay]
/-- copy into a row of bytes -/
theorem laid {w : World} {g o : Nat} {C S : List Int} {t : TypeId} (h : w.heap[g]? = some (.cells (kc C) t (0, 0))) (ho : o + S.length ≤ C.length) : (w.setCells g o (S.map (Value.int .u8))).heap[g]? = some (.cells (kc (lay C o S)) t (0, 0)) := by
  rw [setCells_heap _ w g o (C.map (Value.int .u8)) t h, sp_lay C S o ho]
  rfl
theorem Lb.nil0 (w : World) : Lb w none 0 0 [] := ⟨rfl, (by intro x hx; cases hx), .inl rfl, by omega, by omega⟩
/-- new bytes in a block of their own -/
def Mkd (L : List Int) (w : World) (r : Ending) (w' : World) : Prop := ∃ g, r = .returned (.slice (some ⟨g, 0, none⟩) L.length L.length) ∧ w.heap.size ≤ g ∧ w'.heap[g]? = some (.cells (kc L) 5 (0, 0)) ∧ Gr w w'
set_option maxHeartbeats 4000000 in
theorem put_ok (B : List Int) (s : Option Addr) (n cap : Nat) (x : Int) (hx : 0 ≤ x) (hn : n ≤ 1000) (w : World) (lb : Lb w s n cap B) : Calls Try.prog 27 #[.slice s n cap, .int .u64 x, .int .i64 8] w (Mkd (B ++ lowL x 8) w) := by
  obtain ⟨T, hT⟩ : ∃ T, T = Mkd (B ++ lowL x 8) w := ⟨_, rfl⟩
  rw [← hT]
  replace hT := hide hT
  obtain ⟨m, hm⟩ : ∃ m, m = n + 8 := ⟨_, rfl⟩
  have i1 : (n : Int) + 8 = (m : Int) := by omega
  have i2 : IntKind.i64.wrap (m : Int) = (m : Int) := by rw [IntKind.wrap_i64]; omega
  replace lb := hide lb
  replace hm := hide hm
  go_enter Try.func27, Try.ntmps27
  go_upto_region 1 with fail
  have hmb : m ≤ 1008 := by have := unhide hm; omega
  refine wp_region_lit ?_
  refine list_val (.slice s n cap) (by kernel_rfl) (by kernel_rfl) ?_
  simp only [Act.put, List.setIfInBounds_toArray, List.set_cons_zero, List.set_cons_succ, List.getElem_toArray, List.getElem_cons_zero, List.getElem_cons_succ]
  refine list_val (.int .i64 n) (by kernel_rfl) (by kernel_rfl) ?_
  simp only [Act.put, List.setIfInBounds_toArray, List.set_cons_zero, List.set_cons_succ, List.getElem_toArray, List.getElem_cons_zero, List.getElem_cons_succ]
  refine list_val (.int .i64 8) (by kernel_rfl) (by kernel_rfl) ?_
  simp only [Act.put, List.setIfInBounds_toArray, List.set_cons_zero, List.set_cons_succ, List.getElem_toArray, List.getElem_cons_zero, List.getElem_cons_succ]
  refine list_val (.int .i64 m) (by kernel_rfl) (by go_simp) ?_
  simp only [Act.put, List.setIfInBounds_toArray, List.set_cons_zero, List.set_cons_succ, List.getElem_toArray, List.getElem_cons_zero, List.getElem_cons_succ]
  refine wpList_make_room _ rfl (.tmp 12) (.tmp 12) rfl (m : Int) (m : Int) m m (by kernel_rfl) (by kernel_rfl) rfl rfl (Nat.le_refl _) (by omega) ?_
  simp only [Act.put, List.setIfInBounds_toArray, List.set_cons_zero, List.set_cons_succ, List.getElem_toArray, List.getElem_cons_zero, List.getElem_cons_succ]
  have hB := (Bl.nil w).new (kc (List.replicate m 0)) 5
  simp only [List.nil_append] at hB
  generalize World.alloc _ _ = u at *
  replace hB := hide hB
  (refine wpList_step fun K hK => ?_; replace hK := hide hK; go_simp; refine unhide hK _ _ ?_; clear hK K)
  refine wpList_nil ?_
  go_upto_region 2 with fail
  replace hB := unhide hB
  have hnm : n ≤ m := by have := unhide hm; omega
  have lb2 : Hid (Lb u s n cap B) := (unhide lb).gr hB.gr
  refine wp_region_lit ?_
  refine list_val (.slice (some ⟨w.heap.size, 0, none⟩) m m) (by kernel_rfl) (by kernel_rfl) ?_
  simp only [Act.put, List.setIfInBounds_toArray, List.set_cons_zero, List.set_cons_succ, List.getElem_toArray, List.getElem_cons_zero, List.getElem_cons_succ]
  refine list_val (.slice s n cap) (by kernel_rfl) (by kernel_rfl) ?_
  simp only [Act.put, List.setIfInBounds_toArray, List.set_cons_zero, List.set_cons_succ, List.getElem_toArray, List.getElem_cons_zero, List.getElem_cons_succ]
  refine wpList_plain rfl fun K hK => ?_
  refine copy_wp (.tmp 14) (.tmp 15) rfl w.heap.size 0 m m s n cap (by kernel_rfl) (by kernel_rfl) ((List.replicate m 0).map (Value.int .u8)) 5 (hB.get 0 (x := ⟨w.heap.size, kc (List.replicate m 0), 5⟩) rfl) B (by rw [(unhide lb).len]; exact (Nat.min_eq_left (by omega)).symm) (unhide lb2).sl (by rw [(unhide lb).len, List.length_map, List.length_replicate]; omega) ?_
  have hcell := laid (S := B) (o := 0) (hB.get 0 (x := ⟨w.heap.size, kc (List.replicate m 0), 5⟩) rfl) (by rw [(unhide lb).len, List.length_replicate]; omega)
  have hB2 := hB.but (setCells_bt (B.map (Value.int .u8)) u w.heap.size 0) 0 (x := ⟨w.heap.size, kc (List.replicate m 0), 5⟩) rfl rfl hcell
  simp only [List.set_cons_zero] at hB2
  refine hK _ _ ?_
  clear hK K hcell hB
  simp only [Act.put, List.setIfInBounds_toArray, List.set_cons_zero, List.set_cons_succ, List.getElem_toArray, List.getElem_cons_zero, List.getElem_cons_succ]
  generalize World.setCells _ _ _ _ = u1 at *
  rw [(unhide lb).len]
  (refine wpList_step fun K hK => ?_; replace hK := hide hK; go_simp; refine unhide hK _ _ ?_; clear hK K)
  refine wpList_nil ?_
  have hL : lay (List.replicate m 0) 0 B = filled B x 8 0 := by
    unfold lay filled
    rw [List.take_zero, List.nil_append, Nat.zero_add, List.drop_replicate, (unhide lb).len, show m - n = 8 from by have := unhide hm; omega]
    rfl
  rw [hL] at hB2
  replace hB2 := hide hB2
  clear hL lb2
  go_wp2_with fail
  go_loopw [1, 8] (fun y i wr => ∃ k : Nat, k ≤ 8 ∧ y = .int .u64 (x / 256 ^ k) ∧ i = .int .i64 (n + k : Nat) ∧ Hid (Bl w [⟨w.heap.size, kc (filled B x 8 k), 5⟩] wr)) (fun _ i _ => m - (intOf i).toNat)
  case atStart => exact ⟨0, Nat.zero_le _, by simp, rfl, hB2⟩
  case round =>
  clear hB2
  obtain ⟨k, hk, rfl, rfl, hB⟩ := hrel
  have hBn : B.length = n := (unhide lb).len
  have hlen := filled_len B x 8 k hk
  rw [hBn] at hlen
  by_cases hlt : k < 8
  · obtain ⟨q, hq⟩ : ∃ q, q = n + k := ⟨_, rfl⟩
    rw [← hq]
    have hqm : q < m := by have := unhide hm; omega
    have qI : (q : Int) < (m : Int) := by omega
    have c1 := kc_cell ((unhide hB).get 0 (x := ⟨w.heap.size, kc (filled B x 8 k), 5⟩) rfl) q (by omega)
    generalize (filled B x 8 k).getD q 0 = z at c1
    have f1 := froz_of (i := q) ((unhide hB).get 0 (x := ⟨w.heap.size, kc (filled B x 8 k), 5⟩) rfl)
    have hy0 : 0 ≤ x / 256 ^ k := Int.ediv_nonneg hx (Int.pow_nonneg (by omega))
    have hst := filled_step B x 8 k hlt
    have hdv : x / 256 ^ k / 256 = x / 256 ^ (k + 1) := by rw [Int.pow_succ, Int.ediv_ediv_of_nonneg (Int.pow_nonneg (by omega))]
    rw [hBn, ← hq] at hst
    generalize x / 256 ^ k = y at *
    have hB1 := (unhide hB).cell 0 (x := ⟨w.heap.size, kc (filled B x 8 k), 5⟩) rfl q (.int .u8 (y % 256))
    simp only [List.set_cons_zero, List.set_cons_succ, kc_set, hst] at hB1
    replace hB1 := hide hB1
    replace hdv := hide hdv
    replace hq := hide hq
    replace hy0 := hide hy0
    have i3 : IntKind.i64.wrap ((q : Int) + 1) = (q : Int) + 1 := by rw [IntKind.wrap_i64]; omega
    have i4 : IntKind.u8.wrap y = y % 256 := by rw [IntKind.wrap_u8]
    replace hy0 := unhide hy0
    clear hst hlen hB hBn
    go_wp2_with fail
    go_roundw
    case rel => exact ⟨k + 1, by omega, by rw [unhide hdv], by have := unhide hq; go_num, hB1⟩
    case measure => have := unhide hq; simp [intOf]; omega
  · have hqm : ¬ n + k < m := by have := unhide hm; omega
    have qI : ¬ ((n + k : Nat) : Int) < (m : Int) := by omega
    have hk8 : k = 8 := by omega
    have hF : Hid (Mkd (B ++ lowL x 8) w (.returned (.slice (some ⟨w.heap.size, 0, none⟩) m m)) wr) := by
      refine ⟨w.heap.size, ?_, (unhide hB).own 0 (x := ⟨w.heap.size, kc (filled B x 8 k), 5⟩) rfl, ?_, (unhide hB).gr⟩
      · rw [List.length_append, lowL_len, hBn, ← unhide hm]
      · have h := (unhide hB).get 0 (x := ⟨w.heap.size, kc (filled B x 8 k), 5⟩) rfl
        rw [hk8] at h
        have e : filled B x 8 8 = B ++ lowL x 8 := by simp [filled]
        rw [e] at h
        exact h
    clear hlen hB hBn
    generalize n + k = q at *
    go_wp2_with fail
    rw [unhide hT]
    exact unhide hF
set_option maxHeartbeats 400000 in
theorem put64_ok (B : List Int) (s : Option Addr) (n cap : Nat) (x : Int) (hx : 0 ≤ x) (hn : n ≤ 1000) (w : World) (lb : Lb w s n cap B) : Calls Try.prog 19 #[.slice s n cap, .int .u64 x] w (Mkd (B ++ lowL x 8) w) := by
  have hp := hide (put_ok B s n cap x hx hn w lb)
  obtain ⟨T, hT⟩ : ∃ T, T = Mkd (B ++ lowL x 8) w := ⟨_, rfl⟩
  rw [← hT]
  rw [← hT] at hp
  replace hT := hide hT
  go_enter Try.func19, Try.ntmps19
  go_upto_region 1 with fail
  refine wp_region_lit ?_
  refine list_val (.slice s n cap) (by kernel_rfl) (by kernel_rfl) ?_
  simp only [Act.put, List.setIfInBounds_toArray, List.set_cons_zero, List.set_cons_succ, List.getElem_toArray, List.getElem_cons_zero, List.getElem_cons_succ]
  refine list_val (.int .u64 x) (by kernel_rfl) (by kernel_rfl) ?_
  simp only [Act.put, List.setIfInBounds_toArray, List.set_cons_zero, List.set_cons_succ, List.getElem_toArray, List.getElem_cons_zero, List.getElem_cons_succ]
  refine list_call 27 #[.slice s n cap, .int .u64 x, .int .i64 8] (by kernel_rfl) (by kernel_rfl) ((unhide hp).mono ?_)
  rw [unhide hT]
  rintro r u ⟨g, rfl, hg1, hg2, hg3⟩
  have hF : Hid (Mkd (B ++ lowL x 8) w (.returned (.slice (some ⟨g, 0, none⟩) (B ++ lowL x 8).length (B ++ lowL x 8).length)) u) := ⟨g, rfl, hg1, hg2, hg3⟩
  refine ⟨_, rfl, ?_⟩
  simp only [Act.put, List.setIfInBounds_toArray, List.set_cons_zero, List.set_cons_succ, List.getElem_toArray, List.getElem_cons_zero, List.getElem_cons_succ]
  clear hg1 hg2 hg3
  generalize (B ++ lowL x 8).length = m at *
  generalize B ++ lowL x 8 = L at *
  (refine wpList_step fun K hK => ?_; replace hK := hide hK; go_simp; refine unhide hK _ _ ?_; clear hK K)
  refine wpList_nil ?_
  go_wp2_with fail
  rw [unhide hT]
  exact unhide hF
theorem tag_low (a b c : Int) (ha : Dg a) (hb : Dg b) (hc : Dg c) : bits .or .u64 (bits .or .u64 a (IntKind.u64.wrap (b * 2 ^ 26))) (IntKind.u64.wrap (c * 2 ^ 52)) = a + b * 67108864 + c % 4096 * 4503599627370496 := by
  unfold Dg at *
  rw [show (2 : Int) ^ 26 = 67108864 from by decide, show (2 : Int) ^ 52 = 4503599627370496 from by decide, IntKind.wrap_u64, IntKind.wrap_u64]
  have e1 := or_add a (b * 67108864 % 18446744073709551616) 26 (by rw [show ((2 ^ 26 : Nat) : Int) = 67108864 from rfl]; omega) (by omega) (by omega) (by omega) (by rw [show ((2 ^ 26 : Nat) : Int) = 67108864 from rfl]; omega)
  rw [e1]
  have e2 := or_add (a + b * 67108864 % 18446744073709551616) (c * 4503599627370496 % 18446744073709551616) 52 (by rw [show ((2 ^ 52 : Nat) : Int) = 4503599627370496 from rfl]; omega) (by omega) (by omega) (by omega) (by rw [show ((2 ^ 52 : Nat) : Int) = 4503599627370496 from rfl]; omega)
  rw [e2]
  omega
theorem tag_high (c d e : Int) (hc : Dg c) (hd : Dg d) (he : Dg e) : bits .or .u64 (bits .or .u64 (c / 2 ^ 12) (IntKind.u64.wrap (d * 2 ^ 14))) (IntKind.u64.wrap (e * 2 ^ 40)) = c / 4096 + d * 16384 + e % 16777216 * 1099511627776 := by
  unfold Dg at *
  rw [show (2 : Int) ^ 12 = 4096 from by decide, show (2 : Int) ^ 14 = 16384 from by decide, show (2 : Int) ^ 40 = 1099511627776 from by decide, IntKind.wrap_u64, IntKind.wrap_u64]
  have e1 := or_add (c / 4096) (d * 16384 % 18446744073709551616) 14 (by rw [show ((2 ^ 14 : Nat) : Int) = 16384 from rfl]; omega) (by omega) (by omega) (by omega) (by rw [show ((2 ^ 14 : Nat) : Int) = 16384 from rfl]; omega)
  rw [e1]
  have e2 := or_add (c / 4096 + d * 16384 % 18446744073709551616) (e * 1099511627776 % 18446744073709551616) 40 (by rw [show ((2 ^ 40 : Nat) : Int) = 1099511627776 from rfl]; omega) (by omega) (by omega) (by omega) (by rw [show ((2 ^ 40 : Nat) : Int) = 1099511627776 from rfl]; omega)
  rw [e2]
  omega
theorem lowL_get (x : Int) : ∀ (k i : Nat), i < k → (lowL x k).getD i 0 = x / 256 ^ i % 256
  | k + 1, i, h => by
    rw [lowL_snoc]
    by_cases hi : i < k
    · have := lowL_get x k i hi
      rw [List.getD_eq_getElem?_getD, List.getElem?_append_left (by rw [lowL_len]; exact hi), ← List.getD_eq_getElem?_getD, this]
    · have e : i = k := by omega
      subst e
      rw [List.getD_eq_getElem?_getD, List.getElem?_append_right (by rw [lowL_len]; exact Nat.le_refl _), lowL_len, Nat.sub_self]
      rfl
/-- the bytes of a number, in two halves -/
theorem tag_bytes (n : Nat) (lo hi : Int) (k : Int) (h0 : 0 ≤ lo ∧ lo < 18446744073709551616) (h : (n : Int) = lo + 18446744073709551616 * hi + 340282366920938463463374607431768211456 * k) : tgL n = lowL lo 8 ++ lowL hi 8 := by
  have e : ∀ j : Nat, tgf n j = (n : Int) / 256 ^ j % 256 := by
    intro j
    unfold tgf
    rw [Int.natCast_emod, Int.natCast_ediv, Int.natCast_pow]
    rfl
  have l1 : lowL lo 8 = [lo % 256, lo / 256 % 256, lo / 256 / 256 % 256, lo / 256 / 256 / 256 % 256, lo / 256 / 256 / 256 / 256 % 256, lo / 256 / 256 / 256 / 256 / 256 % 256, lo / 256 / 256 / 256 / 256 / 256 / 256 % 256, lo / 256 / 256 / 256 / 256 / 256 / 256 / 256 % 256] := rfl
  have l2 : lowL hi 8 = [hi % 256, hi / 256 % 256, hi / 256 / 256 % 256, hi / 256 / 256 / 256 % 256, hi / 256 / 256 / 256 / 256 % 256, hi / 256 / 256 / 256 / 256 / 256 % 256, hi / 256 / 256 / 256 / 256 / 256 / 256 % 256, hi / 256 / 256 / 256 / 256 / 256 / 256 / 256 % 256] := rfl
  have l3 : tgL n = [tgf n 0, tgf n 1, tgf n 2, tgf n 3, tgf n 4, tgf n 5, tgf n 6, tgf n 7, tgf n 8, tgf n 9, tgf n 10, tgf n 11, tgf n 12, tgf n 13, tgf n 14, tgf n 15] := rfl
  rw [l1, l2, l3]
  simp only [e, List.cons_append, List.nil_append, List.cons.injEq, and_true]
  generalize (n : Int) = N at *
  refine ⟨?_, ?_, ?_, ?_, ?_, ?_, ?_, ?_, ?_, ?_, ?_, ?_, ?_, ?_, ?_, ?_⟩ <;> omega
set_option maxHeartbeats 4000000 in
theorem tag_ok (n : Nat) (a b c d e : Int) (ha : Sm a) (hb : Sm b) (hc : Sm c) (hd : Sm d) (he : Sm e) (hn : v5 a b c d e = (n : Int)) (w : World) : Calls Try.prog 31 #[.agg (fc a b c d e)] w (Tg (tgL n) w) := by
  obtain ⟨T, hT⟩ : ∃ T, T = Tg (tgL n) w := ⟨_, rfl⟩
  rw [← hT]
  replace hT := hide hT
  obtain ⟨SK, hSK⟩ : ∃ S, S = fc a b c d e := ⟨_, rfl⟩
  rw [← hSK]
  replace hSK := hide hSK
  replace ha := hide ha; replace hb := hide hb; replace hc := hide hc; replace hd := hide hd; replace he := hide he
  replace hn := hide hn
  go_enter Try.func31, Try.ntmps31
  go_upto_region 1 with fail
  have hB := ((Bl.nil w).new SK 59).new #[.int .u8 0, .int .u8 0, .int .u8 0, .int .u8 0, .int .u8 0, .int .u8 0, .int .u8 0, .int .u8 0, .int .u8 0, .int .u8 0, .int .u8 0, .int .u8 0, .int .u8 0, .int .u8 0, .int .u8 0, .int .u8 0] 40
  simp only [size_alloc, List.nil_append, List.cons_append] at hB
  generalize World.alloc _ _ = u at *
  rw [unhide hSK] at hB
  replace hB : Bl w [⟨w.heap.size, fc a b c d e, 59⟩, ⟨w.heap.size + 1, kc ZT, 40⟩] u := hB
  refine wp_region_lit ?_
  refine list_val (.agg (fc a b c d e)) (by kernel_rfl) (exec_arr _ 59 (.tmp 1) rfl (w.heap.size) (by kernel_rfl) (fc a b c d e) 59 _ (hB.get 0 (x := ⟨w.heap.size, fc a b c d e, 59⟩) rfl) Try.underlying59 rfl Try.infoL) ?_
  simp only [Act.put, List.setIfInBounds_toArray, List.set_cons_zero, List.set_cons_succ, List.getElem_toArray, List.getElem_cons_zero, List.getElem_cons_succ]
  refine list_call 37 #[.agg (fc a b c d e), .int .u64 0] (by kernel_rfl) (by kernel_rfl) ((passed_ok a b c d e 0 (unhide ha) (unhide hb) (unhide hc) (unhide hd) (unhide he) (by unfold Sm; omega) _).mono ?_)
  rintro r u1 ⟨y0, y1, y2, y3, y4, o1, rfl, hy0, hy1, hy2, hy3, hy4, ho1, hv1, hg⟩
  refine ⟨_, rfl, ?_⟩
  replace hB := hB.more hg
  clear hg
  simp only [Act.put, List.setIfInBounds_toArray, List.set_cons_zero, List.set_cons_succ, List.getElem_toArray, List.getElem_cons_zero, List.getElem_cons_succ]
  refine list_val (.tuple #[.agg (fc y0 y1 y2 y3 y4), .int .u64 o1]) (by kernel_rfl) (by kernel_rfl) ?_
  simp only [Act.put, List.setIfInBounds_toArray, List.set_cons_zero, List.set_cons_succ, List.getElem_toArray, List.getElem_cons_zero, List.getElem_cons_succ]
  refine list_val (.agg (fc y0 y1 y2 y3 y4)) (by kernel_rfl) (by kernel_rfl) ?_
  simp only [Act.put, List.setIfInBounds_toArray, List.set_cons_zero, List.set_cons_succ, List.getElem_toArray, List.getElem_cons_zero, List.getElem_cons_succ]
  refine list_val (.int .u64 o1) (by kernel_rfl) (by kernel_rfl) ?_
  simp only [Act.put, List.setIfInBounds_toArray, List.set_cons_zero, List.set_cons_succ, List.getElem_toArray, List.getElem_cons_zero, List.getElem_cons_succ]
  refine list_store 59 (.tmp 1) (.tmp 9) (w.heap.size) (fc y0 y1 y2 y3 y4) 59 (fc a b c d e) (by kernel_rfl) rfl (by kernel_rfl) (by kernel_rfl) (hB.get 0 (x := ⟨w.heap.size, fc a b c d e, 59⟩) rfl) Try.infoL rfl (fc_one _ _ _ _ _) ?_
  replace hB := hB.set 0 (x := ⟨w.heap.size, fc a b c d e, 59⟩) rfl (fc y0 y1 y2 y3 y4)
  simp only [List.set_cons_zero, List.set_cons_succ] at hB
  generalize World.setRow _ _ _ = u2 at *
  simp only [Act.put, List.setIfInBounds_toArray, List.set_cons_zero, List.set_cons_succ, List.getElem_toArray, List.getElem_cons_zero, List.getElem_cons_succ]
  refine wpList_nil ?_
  have tl := hide (tag_low y0 y1 y2 hy0 hy1 hy2)
  have th := hide (tag_high y2 y3 y4 hy2 hy3 hy4)
  have hN : Hid ((n : Int) = (y0 + y1 * 67108864 + y2 % 4096 * 4503599627370496) + 18446744073709551616 * (y2 / 4096 + y3 * 16384 + y4 % 16777216 * 1099511627776) + 340282366920938463463374607431768211456 * (y4 / 16777216 + 4 * o1)) := by
    have := unhide hn
    rw [this] at hv1
    unfold v5 at hv1
    show (n : Int) = _
    omega
  have hl0 : 0 ≤ y0 + y1 * 67108864 + y2 % 4096 * 4503599627370496 := by unfold Dg at hy0 hy1; omega
  have hl1 : Hid (0 ≤ y0 + y1 * 67108864 + y2 % 4096 * 4503599627370496 ∧ y0 + y1 * 67108864 + y2 % 4096 * 4503599627370496 < 18446744073709551616) := by show _ ∧ _; unfold Dg at hy0 hy1; omega
  have hh0 : 0 ≤ y2 / 4096 + y3 * 16384 + y4 % 16777216 * 1099511627776 := by unfold Dg at hy2 hy3; omega
  have h20 : 0 ≤ y2 := hy2.1
  replace hl0 := hide hl0; replace hh0 := hide hh0; replace h20 := hide h20
  clear hv1 ho1 hy0 hy1 hy2 hy3 hy4 hn ha hb hc hd he
  replace hB := hide hB
  go_upto_region 2 with fail
  replace hB := unhide hB
  refine wp_region_lit ?_
  refine list_val (.pointer (some ⟨w.heap.size, 0, none⟩)) (by kernel_rfl) (by kernel_rfl) ?_
  simp only [Act.put, List.setIfInBounds_toArray, List.set_cons_zero, List.set_cons_succ, List.getElem_toArray, List.getElem_cons_zero, List.getElem_cons_succ]
  refine list_val (.int .u64 y0) (by kernel_rfl) (exec_u64 _ (.tmp 11) rfl (w.heap.size) 0 (by kernel_rfl) y0 (cell_of (hB.get 0 (x := ⟨w.heap.size, fc y0 y1 y2 y3 y4, 59⟩) rfl) rfl)) ?_
  simp only [Act.put, List.setIfInBounds_toArray, List.set_cons_zero, List.set_cons_succ, List.getElem_toArray, List.getElem_cons_zero, List.getElem_cons_succ]
  refine list_val (.pointer (some ⟨w.heap.size, 1, none⟩)) (by kernel_rfl) (by kernel_rfl) ?_
  simp only [Act.put, List.setIfInBounds_toArray, List.set_cons_zero, List.set_cons_succ, List.getElem_toArray, List.getElem_cons_zero, List.getElem_cons_succ]
  refine list_val (.int .u64 y1) (by kernel_rfl) (exec_u64 _ (.tmp 13) rfl (w.heap.size) 1 (by kernel_rfl) y1 (cell_of (hB.get 0 (x := ⟨w.heap.size, fc y0 y1 y2 y3 y4, 59⟩) rfl) rfl)) ?_
  simp only [Act.put, List.setIfInBounds_toArray, List.set_cons_zero, List.set_cons_succ, List.getElem_toArray, List.getElem_cons_zero, List.getElem_cons_succ]
  refine list_val (.int .u64 (IntKind.u64.wrap (y1 * 2 ^ 26))) (by kernel_rfl) (by go_simp) ?_
  simp only [Act.put, List.setIfInBounds_toArray, List.set_cons_zero, List.set_cons_succ, List.getElem_toArray, List.getElem_cons_zero, List.getElem_cons_succ]
  refine list_val (.int .u64 (bits .or .u64 y0 (IntKind.u64.wrap (y1 * 2 ^ 26)))) (by kernel_rfl) (by kernel_rfl) ?_
  simp only [Act.put, List.setIfInBounds_toArray, List.set_cons_zero, List.set_cons_succ, List.getElem_toArray, List.getElem_cons_zero, List.getElem_cons_succ]
  refine list_val (.pointer (some ⟨w.heap.size, 2, none⟩)) (by kernel_rfl) (by kernel_rfl) ?_
  simp only [Act.put, List.setIfInBounds_toArray, List.set_cons_zero, List.set_cons_succ, List.getElem_toArray, List.getElem_cons_zero, List.getElem_cons_succ]
  refine list_val (.int .u64 y2) (by kernel_rfl) (exec_u64 _ (.tmp 17) rfl (w.heap.size) 2 (by kernel_rfl) y2 (cell_of (hB.get 0 (x := ⟨w.heap.size, fc y0 y1 y2 y3 y4, 59⟩) rfl) rfl)) ?_
  simp only [Act.put, List.setIfInBounds_toArray, List.set_cons_zero, List.set_cons_succ, List.getElem_toArray, List.getElem_cons_zero, List.getElem_cons_succ]
  refine list_val (.int .u64 (IntKind.u64.wrap (y2 * 2 ^ 52))) (by kernel_rfl) (by go_simp) ?_
  simp only [Act.put, List.setIfInBounds_toArray, List.set_cons_zero, List.set_cons_succ, List.getElem_toArray, List.getElem_cons_zero, List.getElem_cons_succ]
  refine list_val (.int .u64 (bits .or .u64 (bits .or .u64 y0 (IntKind.u64.wrap (y1 * 2 ^ 26))) (IntKind.u64.wrap (y2 * 2 ^ 52)))) (by kernel_rfl) (by kernel_rfl) ?_
  simp only [Act.put, List.setIfInBounds_toArray, List.set_cons_zero, List.set_cons_succ, List.getElem_toArray, List.getElem_cons_zero, List.getElem_cons_succ]
  rw [unhide tl]
  (refine wpList_step fun K hK => ?_; replace hK := hide hK; go_simp; refine unhide hK _ _ ?_; clear hK K)
  refine wpList_nil ?_
  obtain ⟨lo, hlo⟩ : ∃ x, x = y0 + y1 * 67108864 + y2 % 4096 * 4503599627370496 := ⟨_, rfl⟩
  rw [← hlo] at hN hl0 hl1 ⊢
  clear hlo tl
  replace hB := hide hB
  go_upto_region 3 with fail
  replace hB := unhide hB
  refine wp_region_lit ?_
  refine list_val (.pointer (some ⟨w.heap.size, 2, none⟩)) (by kernel_rfl) (by kernel_rfl) ?_
  simp only [Act.put, List.setIfInBounds_toArray, List.set_cons_zero, List.set_cons_succ, List.getElem_toArray, List.getElem_cons_zero, List.getElem_cons_succ]
  refine list_val (.int .u64 y2) (by kernel_rfl) (exec_u64 _ (.tmp 21) rfl (w.heap.size) 2 (by kernel_rfl) y2 (cell_of (hB.get 0 (x := ⟨w.heap.size, fc y0 y1 y2 y3 y4, 59⟩) rfl) rfl)) ?_
  simp only [Act.put, List.setIfInBounds_toArray, List.set_cons_zero, List.set_cons_succ, List.getElem_toArray, List.getElem_cons_zero, List.getElem_cons_succ]
  refine list_val (.int .u64 (y2 / 2 ^ 12)) (by kernel_rfl) (by have h1 := unhide h20; go_simp) ?_
  simp only [Act.put, List.setIfInBounds_toArray, List.set_cons_zero, List.set_cons_succ, List.getElem_toArray, List.getElem_cons_zero, List.getElem_cons_succ]
  refine list_val (.pointer (some ⟨w.heap.size, 3, none⟩)) (by kernel_rfl) (by kernel_rfl) ?_
  simp only [Act.put, List.setIfInBounds_toArray, List.set_cons_zero, List.set_cons_succ, List.getElem_toArray, List.getElem_cons_zero, List.getElem_cons_succ]
  refine list_val (.int .u64 y3) (by kernel_rfl) (exec_u64 _ (.tmp 24) rfl (w.heap.size) 3 (by kernel_rfl) y3 (cell_of (hB.get 0 (x := ⟨w.heap.size, fc y0 y1 y2 y3 y4, 59⟩) rfl) rfl)) ?_
  simp only [Act.put, List.setIfInBounds_toArray, List.set_cons_zero, List.set_cons_succ, List.getElem_toArray, List.getElem_cons_zero, List.getElem_cons_succ]
  refine list_val (.int .u64 (IntKind.u64.wrap (y3 * 2 ^ 14))) (by kernel_rfl) (by go_simp) ?_
  simp only [Act.put, List.setIfInBounds_toArray, List.set_cons_zero, List.set_cons_succ, List.getElem_toArray, List.getElem_cons_zero, List.getElem_cons_succ]
  refine list_val (.int .u64 (bits .or .u64 (y2 / 2 ^ 12) (IntKind.u64.wrap (y3 * 2 ^ 14)))) (by kernel_rfl) (by kernel_rfl) ?_
  simp only [Act.put, List.setIfInBounds_toArray, List.set_cons_zero, List.set_cons_succ, List.getElem_toArray, List.getElem_cons_zero, List.getElem_cons_succ]
  refine list_val (.pointer (some ⟨w.heap.size, 4, none⟩)) (by kernel_rfl) (by kernel_rfl) ?_
  simp only [Act.put, List.setIfInBounds_toArray, List.set_cons_zero, List.set_cons_succ, List.getElem_toArray, List.getElem_cons_zero, List.getElem_cons_succ]
  refine list_val (.int .u64 y4) (by kernel_rfl) (exec_u64 _ (.tmp 28) rfl (w.heap.size) 4 (by kernel_rfl) y4 (cell_of (hB.get 0 (x := ⟨w.heap.size, fc y0 y1 y2 y3 y4, 59⟩) rfl) rfl)) ?_
  simp only [Act.put, List.setIfInBounds_toArray, List.set_cons_zero, List.set_cons_succ, List.getElem_toArray, List.getElem_cons_zero, List.getElem_cons_succ]
  refine list_val (.int .u64 (IntKind.u64.wrap (y4 * 2 ^ 40))) (by kernel_rfl) (by go_simp) ?_
  simp only [Act.put, List.setIfInBounds_toArray, List.set_cons_zero, List.set_cons_succ, List.getElem_toArray, List.getElem_cons_zero, List.getElem_cons_succ]
  refine list_val (.int .u64 (bits .or .u64 (bits .or .u64 (y2 / 2 ^ 12) (IntKind.u64.wrap (y3 * 2 ^ 14))) (IntKind.u64.wrap (y4 * 2 ^ 40)))) (by kernel_rfl) (by kernel_rfl) ?_
  simp only [Act.put, List.setIfInBounds_toArray, List.set_cons_zero, List.set_cons_succ, List.getElem_toArray, List.getElem_cons_zero, List.getElem_cons_succ]
  rw [unhide th]
  (refine wpList_step fun K hK => ?_; replace hK := hide hK; go_simp; refine unhide hK _ _ ?_; clear hK K)
  refine wpList_nil ?_
  obtain ⟨hi, hhi⟩ : ∃ x, x = y2 / 4096 + y3 * 16384 + y4 % 16777216 * 1099511627776 := ⟨_, rfl⟩
  rw [← hhi] at hN hh0 ⊢
  clear hhi th
  replace hB := hide hB
  go_upto_region 5 with fail
  replace hB := (unhide hB).new #[.int .u8 0, .int .u8 0, .int .u8 0, .int .u8 0, .int .u8 0, .int .u8 0, .int .u8 0, .int .u8 0, .int .u8 0, .int .u8 0, .int .u8 0, .int .u8 0, .int .u8 0, .int .u8 0, .int .u8 0, .int .u8 0] 40
  simp only [List.nil_append, List.cons_append] at hB
  generalize hz5 : u2.heap.size = h5 at hB ⊢
  generalize World.alloc _ _ = u3 at *
  clear hz5
  replace hB : Bl w [⟨w.heap.size, fc y0 y1 y2 y3 y4, 59⟩, ⟨w.heap.size + 1, kc ZT, 40⟩, ⟨h5, kc ZT, 40⟩] u3 := hB
  refine any_start (S := fun _ => True) (by kernel_rfl) ?_
  replace hB := hB.drew
  generalize World.drew _ = u4 at *
  simp only [List.size_toArray, List.length_cons, List.length_nil, Array.replicate, List.replicate]
  refine any_take (i := 0) (v := (.slice (some ⟨h5, 0, none⟩) 16 16)) #[false, false, false, false, false, false] rfl (by kernel_rfl) (by kernel_rfl) (by kernel_rfl) (by kernel_rfl) (fun _ _ _ h => h) (.inl ⟨by kernel_rfl, fun x_ hu => by kernel_rfl⟩) trivial ?_
  simp only [Act.put, List.setIfInBounds_toArray, List.set_cons_zero, List.set_cons_succ, List.getElem_toArray, List.getElem_cons_zero, List.getElem_cons_succ]
  refine any_take (i := 1) (v := (.int .u64 lo)) #[true, false, false, false, false, false] rfl (by kernel_rfl) (by kernel_rfl) (by kernel_rfl) (by kernel_rfl) (fun _ _ _ h => h) (.inl ⟨by kernel_rfl, fun x_ hu => by kernel_rfl⟩) trivial ?_
  simp only [Act.put, List.setIfInBounds_toArray, List.set_cons_zero, List.set_cons_succ, List.getElem_toArray, List.getElem_cons_zero, List.getElem_cons_succ]
  refine any_take (i := 3) (v := (.int .u64 hi)) #[true, true, false, false, false, false] rfl (by kernel_rfl) (by kernel_rfl) (by kernel_rfl) (by kernel_rfl) (fun _ _ _ h => h) (.inl ⟨by kernel_rfl, fun x_ hu => by kernel_rfl⟩) trivial ?_
  simp only [Act.put, List.setIfInBounds_toArray, List.set_cons_zero, List.set_cons_succ, List.getElem_toArray, List.getElem_cons_zero, List.getElem_cons_succ]
  refine any_one (i := 2) (by kernel_rfl) rfl (fun K hK => ?_)
  refine step_callw (by kernel_rfl) 19 #[.slice none 0 0, .int .u64 lo] (by kernel_rfl) ((put64_ok [] none 0 0 lo (unhide hl0) (by omega) _ (Lb.nil0 _)).mono ?_)
  rintro r u5 ⟨g6, rfl, hg1, hg2, hg3⟩
  refine ⟨_, rfl, ?_⟩
  replace hB := hB.more hg3
  rw [List.nil_append] at hg2 ⊢
  rw [lowL_len] at ⊢
  clear hg3 hg1
  refine hK.out _ _ trivial (fun _ => ?_)
  clear hK K
  simp only [Act.put, List.setIfInBounds_toArray, List.set_cons_zero, List.set_cons_succ, List.getElem_toArray, List.getElem_cons_zero, List.getElem_cons_succ]
  refine any_one (i := 4) (by kernel_rfl) rfl (fun K hK => ?_)
  refine step_callw (by kernel_rfl) 19 #[.slice (some ⟨g6, 0, none⟩) 8 8, .int .u64 hi] (by kernel_rfl) ((put64_ok (lowL lo 8) (some ⟨g6, 0, none⟩) 8 8 hi (unhide hh0) (by omega) _ (kc_lb hg2 (lowL_len _ _) (lowL_isB _ _) (by omega))).mono ?_)
  rintro r u6 ⟨g7, rfl, hk1, hk2, hk3⟩
  refine ⟨_, rfl, ?_⟩
  replace hB := hB.more hk3
  have hXl : (lowL lo 8 ++ lowL hi 8).length = 16 := by rw [List.length_append, lowL_len, lowL_len]
  rw [hXl] at ⊢
  have hX : Hid (tgL n = lowL lo 8 ++ lowL hi 8) := tag_bytes n lo hi _ (unhide hl1) (unhide hN)
  have hXB : IsB (lowL lo 8 ++ lowL hi 8) := fun x hx => (List.mem_append.1 hx).elim (lowL_isB _ _ x) (lowL_isB _ _ x)
  generalize lowL lo 8 ++ lowL hi 8 = X at *
  clear hk3 hk1 hg2
  refine hK.out _ _ trivial (fun _ => ?_)
  clear hK K
  simp only [Act.put, List.setIfInBounds_toArray, List.set_cons_zero, List.set_cons_succ, List.getElem_toArray, List.getElem_cons_zero, List.getElem_cons_succ]
  refine any_one (i := 5) (by kernel_rfl) rfl (fun K hK => ?_)
  rw [if_pos (by kernel_rfl)]
  refine copy_wp (.tmp 32) (.tmp 36) rfl h5 0 16 16 (some ⟨g7, 0, none⟩) 16 16 (by kernel_rfl) (by kernel_rfl) (ZT.map (Value.int .u8)) 40 (hB.get 2 (x := ⟨h5, kc ZT, 40⟩) rfl) X (by rw [hXl]; rfl) (.inr ⟨g7, 0, rfl, kc_at hk2⟩) (by rw [hXl]; decide) ?_
  have hcell := laid (S := X) (o := 0) (hB.get 2 (x := ⟨h5, kc ZT, 40⟩) rfl) (by rw [hXl]; decide)
  have eL : lay ZT 0 X = X := by unfold lay; rw [List.take_zero, List.nil_append, List.drop_eq_nil_of_le (by rw [hXl]; decide), List.append_nil]
  rw [eL] at hcell
  have hB2 := hB.but (setCells_bt (X.map (Value.int .u8)) u6 h5 0) 2 (x := ⟨h5, kc ZT, 40⟩) rfl rfl hcell
  simp only [List.set_cons_zero, List.set_cons_succ] at hB2
  generalize World.setCells _ _ _ _ = u7 at *
  clear hcell hB eL
  refine hK.out _ _ trivial (fun _ => ?_)
  clear hK K
  simp only [Act.put, List.setIfInBounds_toArray, List.set_cons_zero, List.set_cons_succ, List.getElem_toArray, List.getElem_cons_zero, List.getElem_cons_succ]
  refine any_done (by kernel_rfl) ?_
  replace hB2 := hide hB2
  go_upto_region 6 with fail
  have hB := unhide hB2
  clear hB2
  refine wp_region_lit ?_
  refine list_val (.agg (kc X)) (by kernel_rfl) (exec_arr _ 40 (.tmp 5) rfl (h5) (by kernel_rfl) (kc X) 40 _ (hB.get 2 (x := ⟨h5, kc X, 40⟩) rfl) Try.underlying40 rfl (by rw [Try.infoT, kc_size, hXl])) ?_
  simp only [Act.put, List.setIfInBounds_toArray, List.set_cons_zero, List.set_cons_succ, List.getElem_toArray, List.getElem_cons_zero, List.getElem_cons_succ]
  refine list_store 40 (.tmp 2) (.tmp 38) (w.heap.size + 1) (kc X) 40 (kc ZT) (by kernel_rfl) rfl (by kernel_rfl) (by kernel_rfl) (hB.get 1 (x := ⟨w.heap.size + 1, kc ZT, 40⟩) rfl) (by rw [Try.infoT, kc_size, hXl]) ((show (kc ZT).size = 16 from rfl).trans ((kc_size _).trans hXl).symm) (kc_one _) ?_
  replace hB := hB.set 1 (x := ⟨w.heap.size + 1, kc ZT, 40⟩) rfl (kc X)
  simp only [List.set_cons_zero, List.set_cons_succ] at hB
  generalize World.setRow _ _ _ = u8 at *
  simp only [Act.put, List.setIfInBounds_toArray, List.set_cons_zero, List.set_cons_succ, List.getElem_toArray, List.getElem_cons_zero, List.getElem_cons_succ]
  refine wpList_nil ?_
  replace hB := hide hB
  go_wp2_with fail
  replace hB := unhide hB
  rw [unhide hT, unhide hX]
  exact bodyPost_ret (v := .agg (kc X)) (results_cell_row Try.results31 _ _ (w.heap.size + 1) 40 (kc X) (0, 0) _ rfl (hB.get 1 (x := ⟨w.heap.size + 1, kc X, 40⟩) rfl) Try.underlying40 rfl (by rw [Try.infoT, kc_size, hXl])) rfl (⟨rfl, hB.gr⟩)
end Go.Proofs.Ytdekjbdkpchbjab
