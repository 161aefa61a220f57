/-
  Bytes as numbers: what number answers.
-/
import Derived.Test.YtdekjbdkpchbjabPlC
namespace Go.Proofs.Ytdekjbdkpchbjab
open Go.RowKit
set_option maxRecDepth 100000
set_option linter.unusedSimpArgs false
set_option linter.unusedVariables false
/-- The number whose low form is l. -/
def lowN : List Int → Int
  | [] => 0
  | x :: r => x + 256 * lowN r
theorem lowN_V : ∀ (l : List Int), IsB l → lowN l = ((V (nb l) : Nat) : Int)
  | [], _ => rfl
  | x :: r, h => by
    have h1 := lowN_V r (fun y hy => h y (List.mem_cons_of_mem _ hy))
    have hx := h x List.mem_cons_self
    have e : nb (x :: r) = x.toNat :: nb r := rfl
    rw [lowN, h1, e, V]
    omega
theorem lowN_bd (l : List Int) (h : IsB l) : 0 ≤ lowN l ∧ lowN l < 256 ^ l.length := by
  induction l with
  | nil => simp [lowN]
  | cons x r ih =>
    have := ih (fun y hy => h y (List.mem_cons_of_mem _ hy))
    have hx := h x (List.mem_cons_self ..)
    simp only [lowN, List.length_cons]
    rw [Int.pow_succ]
    omega
theorem lowN_append (l m : List Int) : lowN (l ++ m) = lowN l + 256 ^ l.length * lowN m := by
  induction l with
  | nil => simp [lowN]
  | cons x r ih =>
    simp only [List.cons_append, lowN, ih, List.length_cons, Int.pow_succ, Int.mul_add]
    rw [Int.add_assoc, ← Int.mul_assoc, Int.mul_comm 256 (256 ^ _)]
theorem lowN_snoc (l : List Int) (c : Int) : lowN (l ++ [c]) = lowN l + c * 256 ^ l.length := by
  rw [lowN_append, Int.mul_comm]
  simp [lowN]
/-- words that have no bit in common -/
theorem or_add (x y : Int) (k : Nat) (hx : 0 ≤ x ∧ x < ((2 ^ k : Nat) : Int)) (hy0 : 0 ≤ y) (hy1 : y < 18446744073709551616) (hx1 : x < 18446744073709551616) (hy : y % ((2 ^ k : Nat) : Int) = 0) : bits .or .u64 x y = x + y := by
  obtain ⟨X, rfl⟩ := Int.eq_ofNat_of_zero_le hx.1
  obtain ⟨Y, rfl⟩ := Int.eq_ofNat_of_zero_le hy0
  rw [u64_or_nat X Y (by omega) (by omega)]
  have hX : X < 2 ^ k := by have := hx.2; exact_mod_cast this
  have hY : Y % 2 ^ k = 0 := by
    have h : ((Y % 2 ^ k : Nat) : Int) = 0 := by rw [Int.natCast_emod]; exact hy
    omega
  have := nat_join k Y X hY hX
  rw [Nat.or_comm] at this
  rw [this]
  omega
theorem or_step (X y : Int) (k : Nat) (hk : k < 8) (h0 : 0 ≤ X) (h1 : X < 256 ^ k) (hy0 : 0 ≤ y) (hy1 : y < 256) :
    bits .or .u64 X (IntKind.u64.wrap (y * 2 ^ (8 * k))) = X + y * 256 ^ k := by
  obtain ⟨N, rfl⟩ := Int.eq_ofNat_of_zero_le h0
  obtain ⟨Y, rfl⟩ := Int.eq_ofNat_of_zero_le hy0
  have e : (256 : Nat) ^ k = 2 ^ (8 * k) := by rw [Nat.pow_mul]
  have e1 : (256 : Int) ^ k = ((2 ^ (8 * k) : Nat) : Int) := by rw [← e]; simp
  have e2 : (2 : Int) ^ (8 * k) = ((2 ^ (8 * k) : Nat) : Int) := by simp
  have hN : N < 2 ^ (8 * k) := by rw [e1] at h1; omega
  have hY : Y < 256 := by omega
  have hle : 2 ^ (8 * k) ≤ 2 ^ 56 := Nat.pow_le_pow_right (by omega) (by omega)
  rw [e1, e2]
  generalize hP : 2 ^ (8 * k) = P at *
  have hYP : Y * P < 18446744073709551616 := by
    have : Y * P ≤ 255 * P := Nat.mul_le_mul_right _ (by omega)
    omega
  have e3 : IntKind.u64.wrap ((Y : Int) * (P : Int)) = ((Y * P : Nat) : Int) := by
    rw [IntKind.wrap_u64]
    rw [← Int.natCast_mul]
    omega
  rw [e3, u64_or_nat N (Y * P) (by omega) hYP]
  have := nat_join (8 * k) (Y * P) N (by rw [hP]; exact Nat.mul_mod_left _ _) (by rw [hP]; exact hN)
  rw [Nat.or_comm] at this
  rw [this]
  rw [← Int.natCast_mul]
  omega
theorem take_snoc_getD (l : List Int) (k : Nat) (h : k < l.length) : l.take (k + 1) = l.take k ++ [l.getD k 0] := by
  rw [List.take_succ_eq_append_getElem h, List.getD_eq_getElem?_getD, List.getElem?_eq_getElem h]; rfl
theorem lowN_step (l : List Int) (k : Nat) (y : Int) (h : k < l.length) (h8 : l.length ≤ 8) (hb : IsB l) (hy : y = l.getD k 0) :
    bits .or .u64 (lowN (l.take k)) (IntKind.u64.wrap (y * 2 ^ (8 * k))) = lowN (l.take (k + 1)) := by
  have hm := hb.at_ k
  have hbd := lowN_bd (l.take k) (hb.take k)
  have hlen : (l.take k).length = k := by simp; omega
  rw [hlen] at hbd
  rw [take_snoc_getD l k h, lowN_snoc, hlen, ← hy]
  rw [← hy] at hm
  exact or_step _ _ k (by omega) hbd.1 hbd.2 hm.1 hm.2
set_option maxHeartbeats 400000 in
theorem onum_ok (p o n c : Nat) (l : List Int) (w : World) (hl : l.length = n) (hn : n ≤ 8) (hb : IsB l) (hat : At w p o l) :
    Calls Try.prog 40 #[.slice (some ⟨p, o, none⟩) n c] w fun e w' => e = .returned (.int .u64 (lowN l)) ∧ w' = w := by
  have hc : ∀ i, i < n → w.cell? ⟨p, o + i, none⟩ = some (.int .u8 (l.getD i 0)) := fun i hi => hat i (by omega)
  clear hat
  go_enter Try.func40, Try.ntmps40
  go_wp2
  go_loop [3, 8] (fun x i => ∃ k : Nat, k ≤ n ∧ i = .int .i64 k ∧ x = .int .u64 (lowN (l.take k))) (fun _ i => n - (intOf i).toNat)
  case atStart => exact ⟨0, Nat.zero_le _, rfl, by simp [lowN]⟩
  case round =>
    obtain ⟨k, hk, rfl, rfl⟩ := hrel
    by_cases hlt : k < n
    · have hck := hc k hlt
      have hx := hb.at_ k
      obtain ⟨y, hy⟩ : ∃ y, y = l.getD k 0 := ⟨_, rfl⟩
      rw [← hy] at hck hx
      have HB : Hid (∀ y, y = l.getD k 0 → bits .or .u64 (lowN (l.take k)) (IntKind.u64.wrap (y * 2 ^ (8 * k))) = lowN (l.take (k + 1))) := fun y hy => lowN_step l k y (by omega) (by omega) hb hy
      have HY := hide hy
      obtain ⟨hx0, hx1⟩ := hx
      clear hy hc hb
      go_wp2
      go_round
      case rel => exact ⟨k + 1, by omega, by go_num, by rw [unhide HB y HY]⟩
      case measure => simp [intOf]; omega
    · go_wp2
      go_ret
      rw [List.take_of_length_le (by omega)]
      exact ⟨rfl, rfl⟩
theorem At.take {w : World} {p o : Nat} {B : List Int} (h : At w p o B) (n : Nat) : At w p o (B.take n) := by
  intro j hj
  rw [List.length_take] at hj
  rw [h j (by omega)]
  congr 2
  rw [List.getD_eq_getElem?_getD, List.getD_eq_getElem?_getD, List.getElem?_take, if_pos (by omega)]
theorem At.drop {w : World} {p o : Nat} {B : List Int} (h : At w p o B) (n : Nat) : At w p (o + n) (B.drop n) := by
  intro j hj
  rw [List.length_drop] at hj
  rw [Nat.add_assoc, h (n + j) (by omega)]
  congr 2
  rw [List.getD_eq_getElem?_getD, List.getD_eq_getElem?_getD, List.getElem?_drop]
theorem exec_to8 {a : Act} {op : Oper} (w : World) (x y : Operand) (ho : op.op = .slice 26 x none (some y) none) (p o n cap : Nat) (hx : a.eval x = .slice (some ⟨p, o, none⟩) n cap) (hy : a.eval y = .int .i64 (8 : Nat)) (hc : n ≤ cap) (hn : 8 ≤ n) :
    (execOp a.eval op).run Try.prog w = .ok (.value (.slice (some ⟨p, o, none⟩) 8 cap)) w := by
  have h := exec_upto w x y ho (some ⟨p, o, none⟩) n cap 8 hx hy hc hn
  rw [if_neg (by omega), Option.map_some, add_zero] at h
  exact h
set_option maxHeartbeats 400000 in
theorem get64_ok (p o n c : Nat) (B : List Int) (w : World) (hl : B.length = n) (h8 : 8 ≤ n) (hc : n ≤ c) (hcb : c < 9223372036854775808) (hb : IsB B) (hat : At w p o B) :
    Calls Try.prog 35 #[.slice (some ⟨p, o, none⟩) n c] w fun e w' => e = .returned (.int .u64 (lowN (B.take 8))) ∧ w' = w := by
  have hcon := hide (onum_ok p o 8 c (B.take 8) w (by rw [List.length_take]; omega) (by omega) (hb.take 8) (hat.take 8))
  have nI : ¬ (n : Int) < 8 := by omega
  have nI2 : (8 : Int) ≤ n := by omega
  have cI : (8 : Int) ≤ c := by omega
  have cN : ¬ c = 0 := by omega
  clear hat
  generalize lowN (B.take 8) = x at *
  go_enter Try.func35, Try.ntmps35
  go_upto_region 1 with fail
  refine wp_region_lit ?_
  refine list_val (.slice (some ⟨p, o, none⟩) n c) (by kernel_rfl) (by kernel_rfl) ?_
  simp only [Act.put, List.setIfInBounds_toArray, List.set_cons_zero, List.set_cons_succ, List.getElem_toArray, List.getElem_cons_zero, List.getElem_cons_succ]
  refine list_val (.slice (some ⟨p, o, none⟩) n c) (by kernel_rfl) (by kernel_rfl) ?_
  simp only [Act.put, List.setIfInBounds_toArray, List.set_cons_zero, List.set_cons_succ, List.getElem_toArray, List.getElem_cons_zero, List.getElem_cons_succ]
  refine list_val (.int .i64 n) (by kernel_rfl) (by kernel_rfl) ?_
  simp only [Act.put, List.setIfInBounds_toArray, List.set_cons_zero, List.set_cons_succ, List.getElem_toArray, List.getElem_cons_zero, List.getElem_cons_succ]
  refine list_val (.int .i64 (8 : Nat)) (by kernel_rfl) (by go_simp; omega) ?_
  simp only [Act.put, List.setIfInBounds_toArray, List.set_cons_zero, List.set_cons_succ, List.getElem_toArray, List.getElem_cons_zero, List.getElem_cons_succ]
  refine list_val (.slice (some ⟨p, o, none⟩) 8 c) (by kernel_rfl) (exec_to8 _ (.tmp 3) (.tmp 6) rfl p o n c (by kernel_rfl) (by kernel_rfl) hc h8) ?_
  simp only [Act.put, List.setIfInBounds_toArray, List.set_cons_zero, List.set_cons_succ, List.getElem_toArray, List.getElem_cons_zero, List.getElem_cons_succ]
  refine list_call 40 #[.slice (some ⟨p, o, none⟩) 8 c] (by kernel_rfl) (by kernel_rfl) ((unhide hcon).mono ?_)
  rintro r u ⟨rfl, rfl⟩
  refine ⟨_, rfl, ?_⟩
  simp only [Act.put, List.setIfInBounds_toArray, List.set_cons_zero, List.set_cons_succ, List.getElem_toArray, List.getElem_cons_zero, List.getElem_cons_succ]
  (refine wpList_step fun K hK => ?_; replace hK := hide hK; go_simp; refine unhide hK _ _ ?_; clear hK K)
  refine wpList_nil ?_
  go_wp2_with fail
  go_ret
  exact ⟨rfl, rfl⟩
theorem num_parts (lo hi : Int) (hl : 0 ≤ lo ∧ lo < 18446744073709551616) (hh : 0 ≤ hi ∧ hi < 18446744073709551616) :
    bits .and .u64 lo 67108863 = lo % 67108864 ∧ bits .and .u64 (lo / 2 ^ 26) 67108863 = lo / 67108864 % 67108864 ∧ bits .and .u64 (bits .or .u64 (lo / 2 ^ 52) (IntKind.u64.wrap (hi * 2 ^ 12))) 67108863 = lo / 4503599627370496 + hi % 16384 * 4096 ∧ bits .and .u64 (hi / 2 ^ 14) 67108863 = hi / 16384 % 67108864 ∧ hi / 2 ^ 40 = hi / 1099511627776 := by
  have e1 : (2 : Int) ^ 26 = 67108864 := by decide
  have e2 : (2 : Int) ^ 52 = 4503599627370496 := by decide
  have e3 : (2 : Int) ^ 12 = 4096 := by decide
  have e4 : (2 : Int) ^ 14 = 16384 := by decide
  have e5 : (2 : Int) ^ 40 = 1099511627776 := by decide
  rw [e1, e2, e3, e4, e5, mask26 lo (by omega) (by omega), mask26 (lo / 67108864) (by omega) (by omega), mask26 (hi / 16384) (by omega) (by omega), IntKind.wrap_u64]
  have e6 := or_add (lo / 4503599627370496) (hi * 4096 % 18446744073709551616) 12 (by rw [show ((2 ^ 12 : Nat) : Int) = 4096 from rfl]; omega) (by omega) (by omega) (by omega) (by rw [show ((2 ^ 12 : Nat) : Int) = 4096 from rfl]; omega)
  rw [e6, mask26 _ (by omega) (by omega)]
  refine ⟨rfl, rfl, ?_, rfl, rfl⟩
  omega
theorem num_val (lo hi : Int) (hl : 0 ≤ lo ∧ lo < 18446744073709551616) (hh : 0 ≤ hi ∧ hi < 18446744073709551616) : v5 (lo % 67108864) (lo / 67108864 % 67108864) (lo / 4503599627370496 + hi % 16384 * 4096) (hi / 16384 % 67108864) (hi / 1099511627776) = lo + 18446744073709551616 * hi := by
  unfold v5
  omega
/-- what number answers -/
def Nmd (n : Int) (w : World) (r : Ending) (w' : World) : Prop := ∃ a b c d e, r = .returned (.agg (fc a b c d e)) ∧ Dg a ∧ Dg b ∧ Dg c ∧ Dg d ∧ (0 ≤ e ∧ e < 16777216) ∧ v5 a b c d e = n ∧ Gr w w'
theorem exec_from8 {a : Act} {o : Oper} (w : World) (x y : Operand) (ho : o.op = .slice 26 x (some y) none none) (p q cap : Nat) (hx : a.eval x = .slice (some ⟨p, q, none⟩) 16 cap) (hy : a.eval y = .int .i64 (8 : Nat)) (hc : 16 ≤ cap) :
    (execOp a.eval o).run Try.prog w = .ok (.value (.slice (some ⟨p, q + 8, none⟩) 8 (cap - 8))) w := by
  have h := exec_from w x y ho (some ⟨p, q, none⟩) 16 cap 8 hx hy hc (by omega)
  rw [if_neg (by omega), Option.map_some, add_some] at h
  exact h
set_option maxHeartbeats 4000000 in
theorem number_ok (B : List Int) (p q cap : Nat) (hl : B.length = 16) (hb : IsB B) (hc : 16 ≤ cap) (hcb : cap < 9223372036854775808) (w : World) (hat : At w p q B) : Calls Try.prog 24 #[.slice (some ⟨p, q, none⟩) 16 cap] w (Nmd (lowN B) w) := by
  obtain ⟨T, hT⟩ : ∃ T, T = Nmd (lowN B) w := ⟨_, rfl⟩
  rw [← hT]
  replace hT := hide hT
  have hat2 := hide hat
  clear hat
  go_enter Try.func24, Try.ntmps24
  go_upto_region 1 with fail
  have hB := (Bl.nil w).new #[.int .u64 0, .int .u64 0, .int .u64 0, .int .u64 0, .int .u64 0] 59
  simp only [List.nil_append, List.cons_append] at hB
  generalize World.alloc _ _ = u at *
  replace hB : Bl w [⟨w.heap.size, fc 0 0 0 0 0, 59⟩] u := hB
  refine any_start (S := fun _ => True) (by kernel_rfl) ?_
  replace hB := hB.drew
  generalize World.drew _ = u1 at *
  simp only [List.size_toArray, List.length_cons, List.length_nil, Array.replicate, List.replicate]
  refine any_take (i := 0) (v := (.slice (some ⟨p, q, none⟩) 16 cap)) #[false, false, false, false, false, false, false] rfl (by kernel_rfl) (by kernel_rfl) (by kernel_rfl) (by kernel_rfl) (fun _ _ _ h => h) (.inl ⟨by kernel_rfl, fun x_ hu => by kernel_rfl⟩) trivial ?_
  simp only [Act.put, List.setIfInBounds_toArray, List.set_cons_zero, List.set_cons_succ, List.getElem_toArray, List.getElem_cons_zero, List.getElem_cons_succ]
  refine any_take (i := 2) (v := (.slice (some ⟨p, q, none⟩) 16 cap)) #[true, false, false, false, false, false, false] rfl (by kernel_rfl) (by kernel_rfl) (by kernel_rfl) (by kernel_rfl) (fun _ _ _ h => h) (.inl ⟨by kernel_rfl, fun x_ hu => by kernel_rfl⟩) trivial ?_
  simp only [Act.put, List.setIfInBounds_toArray, List.set_cons_zero, List.set_cons_succ, List.getElem_toArray, List.getElem_cons_zero, List.getElem_cons_succ]
  refine any_take (i := 3) (v := (.slice (some ⟨p, q + 8, none⟩) 8 (cap - 8))) #[true, false, true, false, false, false, false] rfl (by kernel_rfl) (by kernel_rfl) (by kernel_rfl) (by kernel_rfl) (fun _ _ _ h => h) (.inl ⟨by kernel_rfl, fun x_ hu => exec_from8 _ (.tmp 7) (.const (.int .i64 8)) rfl p q cap (by kernel_rfl) (by kernel_rfl) hc⟩) trivial ?_
  simp only [Act.put, List.setIfInBounds_toArray, List.set_cons_zero, List.set_cons_succ, List.getElem_toArray, List.getElem_cons_zero, List.getElem_cons_succ]
  refine any_one (i := 1) (by kernel_rfl) rfl (fun K hK => ?_)
  refine step_callw (by kernel_rfl) 35 #[.slice (some ⟨p, q, none⟩) 16 cap] (by kernel_rfl) ((get64_ok p q 16 cap B _ hl (by omega) hc hcb hb ((unhide hat2).gr hB.gr)).mono ?_)
  rintro r u2 ⟨rfl, rfl⟩
  refine ⟨_, rfl, ?_⟩
  have hlo := lowN_bd (B.take 8) (hb.take 8)
  have hlv : Hid (lowN (B.take 8) + 18446744073709551616 * lowN (B.drop 8) = lowN B) := by
    have h := lowN_append (B.take 8) (B.drop 8)
    rw [List.take_append_drop, List.length_take, hl] at h
    exact h.symm
  rw [List.length_take, hl] at hlo
  replace hlo : 0 ≤ lowN (B.take 8) ∧ lowN (B.take 8) < 18446744073709551616 := hlo
  generalize lowN (B.take 8) = lo at *
  refine hK.out _ _ trivial (fun _ => ?_)
  clear hK K
  simp only [Act.put, List.setIfInBounds_toArray, List.set_cons_zero, List.set_cons_succ, List.getElem_toArray, List.getElem_cons_zero, List.getElem_cons_succ]
  refine any_one (i := 4) (by kernel_rfl) rfl (fun K hK => ?_)
  refine step_callw (by kernel_rfl) 35 #[.slice (some ⟨p, q + 8, none⟩) 8 (cap - 8)] (by kernel_rfl) ((get64_ok p (q + 8) 8 (cap - 8) (B.drop 8) _ (by rw [List.length_drop, hl]) (by omega) (by omega) (by omega) (hb.drop 8) (((unhide hat2).gr hB.gr).drop 8)).mono ?_)
  rintro r u3 ⟨rfl, rfl⟩
  refine ⟨_, rfl, ?_⟩
  have hhi := lowN_bd (B.drop 8) (hb.drop 8)
  have e8 : (B.drop 8).length = 8 := by rw [List.length_drop, hl]
  rw [e8] at hhi
  rw [show List.take 8 (B.drop 8) = B.drop 8 from List.take_of_length_le (by omega)]
  replace hhi : 0 ≤ lowN (B.drop 8) ∧ lowN (B.drop 8) < 18446744073709551616 := hhi
  clear e8
  generalize lowN (B.drop 8) = hi at *
  refine hK.out _ _ trivial (fun _ => ?_)
  clear hK K
  simp only [Act.put, List.setIfInBounds_toArray, List.set_cons_zero, List.set_cons_succ, List.getElem_toArray, List.getElem_cons_zero, List.getElem_cons_succ]
  refine any_one (i := 5) (by kernel_rfl) rfl (fun K hK => ?_)
  replace hK := hide hK
  go_simp
  refine (unhide hK).out _ _ trivial (fun _ => ?_)
  clear hK K
  refine any_one (i := 6) (by kernel_rfl) rfl (fun K hK => ?_)
  replace hK := hide hK
  go_simp
  refine (unhide hK).out _ _ trivial (fun _ => ?_)
  clear hK K
  refine any_done (by kernel_rfl) ?_
  obtain ⟨t1, t2, t3, t4, t5⟩ := num_parts lo hi hlo hhi
  have hval := num_val lo hi hlo hhi
  replace hB := hide hB
  replace hlo := hide hlo; replace hhi := hide hhi; replace hval := hide hval
  replace t1 := hide t1; replace t2 := hide t2; replace t3 := hide t3; replace t4 := hide t4; replace t5 := hide t5
  go_upto_region 2 with fail
  replace hB := unhide hB
  refine wp_region_lit ?_
  refine list_val (.int .u64 lo) (by kernel_rfl) (by kernel_rfl) ?_
  simp only [Act.put, List.setIfInBounds_toArray, List.set_cons_zero, List.set_cons_succ, List.getElem_toArray, List.getElem_cons_zero, List.getElem_cons_succ]
  refine list_val (.int .u64 (bits .and .u64 lo 67108863)) (by kernel_rfl) (by kernel_rfl) ?_
  simp only [Act.put, List.setIfInBounds_toArray, List.set_cons_zero, List.set_cons_succ, List.getElem_toArray, List.getElem_cons_zero, List.getElem_cons_succ]
  refine list_val (.int .u64 lo) (by kernel_rfl) (by kernel_rfl) ?_
  simp only [Act.put, List.setIfInBounds_toArray, List.set_cons_zero, List.set_cons_succ, List.getElem_toArray, List.getElem_cons_zero, List.getElem_cons_succ]
  refine list_val (.int .u64 (lo / 2 ^ 26)) (by kernel_rfl) (by have h1 := (unhide hlo).1; have h2 := (unhide hhi).1; go_simp) ?_
  simp only [Act.put, List.setIfInBounds_toArray, List.set_cons_zero, List.set_cons_succ, List.getElem_toArray, List.getElem_cons_zero, List.getElem_cons_succ]
  refine list_val (.int .u64 (bits .and .u64 (lo / 2 ^ 26) 67108863)) (by kernel_rfl) (by kernel_rfl) ?_
  simp only [Act.put, List.setIfInBounds_toArray, List.set_cons_zero, List.set_cons_succ, List.getElem_toArray, List.getElem_cons_zero, List.getElem_cons_succ]
  refine list_val (.int .u64 lo) (by kernel_rfl) (by kernel_rfl) ?_
  simp only [Act.put, List.setIfInBounds_toArray, List.set_cons_zero, List.set_cons_succ, List.getElem_toArray, List.getElem_cons_zero, List.getElem_cons_succ]
  refine list_val (.int .u64 (lo / 2 ^ 52)) (by kernel_rfl) (by have h1 := (unhide hlo).1; have h2 := (unhide hhi).1; go_simp) ?_
  simp only [Act.put, List.setIfInBounds_toArray, List.set_cons_zero, List.set_cons_succ, List.getElem_toArray, List.getElem_cons_zero, List.getElem_cons_succ]
  refine list_val (.int .u64 hi) (by kernel_rfl) (by kernel_rfl) ?_
  simp only [Act.put, List.setIfInBounds_toArray, List.set_cons_zero, List.set_cons_succ, List.getElem_toArray, List.getElem_cons_zero, List.getElem_cons_succ]
  refine list_val (.int .u64 (IntKind.u64.wrap (hi * 2 ^ 12))) (by kernel_rfl) (by go_simp) ?_
  simp only [Act.put, List.setIfInBounds_toArray, List.set_cons_zero, List.set_cons_succ, List.getElem_toArray, List.getElem_cons_zero, List.getElem_cons_succ]
  refine list_val (.int .u64 (bits .or .u64 (lo / 2 ^ 52) (IntKind.u64.wrap (hi * 2 ^ 12)))) (by kernel_rfl) (by kernel_rfl) ?_
  simp only [Act.put, List.setIfInBounds_toArray, List.set_cons_zero, List.set_cons_succ, List.getElem_toArray, List.getElem_cons_zero, List.getElem_cons_succ]
  refine list_val (.int .u64 (bits .and .u64 (bits .or .u64 (lo / 2 ^ 52) (IntKind.u64.wrap (hi * 2 ^ 12))) 67108863)) (by kernel_rfl) (by kernel_rfl) ?_
  simp only [Act.put, List.setIfInBounds_toArray, List.set_cons_zero, List.set_cons_succ, List.getElem_toArray, List.getElem_cons_zero, List.getElem_cons_succ]
  refine list_val (.int .u64 hi) (by kernel_rfl) (by kernel_rfl) ?_
  simp only [Act.put, List.setIfInBounds_toArray, List.set_cons_zero, List.set_cons_succ, List.getElem_toArray, List.getElem_cons_zero, List.getElem_cons_succ]
  refine list_val (.int .u64 (hi / 2 ^ 14)) (by kernel_rfl) (by have h1 := (unhide hlo).1; have h2 := (unhide hhi).1; go_simp) ?_
  simp only [Act.put, List.setIfInBounds_toArray, List.set_cons_zero, List.set_cons_succ, List.getElem_toArray, List.getElem_cons_zero, List.getElem_cons_succ]
  refine list_val (.int .u64 (bits .and .u64 (hi / 2 ^ 14) 67108863)) (by kernel_rfl) (by kernel_rfl) ?_
  simp only [Act.put, List.setIfInBounds_toArray, List.set_cons_zero, List.set_cons_succ, List.getElem_toArray, List.getElem_cons_zero, List.getElem_cons_succ]
  refine list_val (.int .u64 hi) (by kernel_rfl) (by kernel_rfl) ?_
  simp only [Act.put, List.setIfInBounds_toArray, List.set_cons_zero, List.set_cons_succ, List.getElem_toArray, List.getElem_cons_zero, List.getElem_cons_succ]
  refine list_val (.int .u64 (hi / 2 ^ 40)) (by kernel_rfl) (by have h1 := (unhide hlo).1; have h2 := (unhide hhi).1; go_simp) ?_
  simp only [Act.put, List.setIfInBounds_toArray, List.set_cons_zero, List.set_cons_succ, List.getElem_toArray, List.getElem_cons_zero, List.getElem_cons_succ]
  refine list_val (.agg (fc (bits .and .u64 lo 67108863) (bits .and .u64 (lo / 2 ^ 26) 67108863) (bits .and .u64 (bits .or .u64 (lo / 2 ^ 52) (IntKind.u64.wrap (hi * 2 ^ 12))) 67108863) (bits .and .u64 (hi / 2 ^ 14) 67108863) (hi / 2 ^ 40))) (by kernel_rfl) (by kernel_rfl) ?_
  simp only [Act.put, List.setIfInBounds_toArray, List.set_cons_zero, List.set_cons_succ, List.getElem_toArray, List.getElem_cons_zero, List.getElem_cons_succ]
  rw [unhide t1, unhide t2, unhide t3, unhide t4, unhide t5]
  have d0 : Dg (lo % 67108864) := by unfold Dg; omega
  have d1 : Dg (lo / 67108864 % 67108864) := by unfold Dg; omega
  have d2 : Dg (lo / 4503599627370496 + hi % 16384 * 4096) := by have := unhide hlo; unfold Dg; omega
  have d3 : Dg (hi / 16384 % 67108864) := by unfold Dg; omega
  have d4 : 0 ≤ hi / 1099511627776 ∧ hi / 1099511627776 < 16777216 := by have := unhide hhi; omega
  clear t1 t2 t3 t4 t5
  generalize lo % 67108864 = y0 at *
  generalize lo / 67108864 % 67108864 = y1 at *
  generalize lo / 4503599627370496 + hi % 16384 * 4096 = y2 at *
  generalize hi / 16384 % 67108864 = y3 at *
  generalize hi / 1099511627776 = y4 at *
  refine list_store 59 (.tmp 2) (.tmp 26) (w.heap.size) (fc y0 y1 y2 y3 y4) 59 (fc 0 0 0 0 0) (by kernel_rfl) rfl (by kernel_rfl) (by kernel_rfl) (hB.get 0 (x := ⟨w.heap.size, fc 0 0 0 0 0, 59⟩) rfl) Try.infoL rfl (fc_one _ _ _ _ _) ?_
  replace hB := hB.set 0 (x := ⟨w.heap.size, fc 0 0 0 0 0, 59⟩) rfl (fc y0 y1 y2 y3 y4)
  simp only [List.set_cons_zero, List.set_cons_succ] at hB
  generalize World.setRow _ _ _ = u4 at *
  simp only [Act.put, List.setIfInBounds_toArray, List.set_cons_zero, List.set_cons_succ, List.getElem_toArray, List.getElem_cons_zero, List.getElem_cons_succ]
  refine wpList_nil ?_
  replace hB := hide hB
  go_wp2_with fail
  replace hB := unhide hB
  rw [unhide hT]
  exact bodyPost_ret (v := .agg (fc y0 y1 y2 y3 y4)) (results_cell_row Try.results24 _ _ (w.heap.size) 59 (fc y0 y1 y2 y3 y4) (0, 0) _ rfl (hB.get 0 (x := ⟨w.heap.size, fc y0 y1 y2 y3 y4, 59⟩) rfl) Try.underlying59 rfl Try.infoL) rfl (⟨_, _, _, _, _, rfl, d0, d1, d2, d3, d4, (unhide hval).trans (unhide hlv), hB.gr⟩)
end Go.Proofs.Ytdekjbdkpchbjab
