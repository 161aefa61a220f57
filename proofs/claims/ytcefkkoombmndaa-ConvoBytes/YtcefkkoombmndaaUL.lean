/-
  Where a number stands among those that are held.
-/
import Derived.Test.YtcefkkoombmndaaUK
namespace Go.Proofs.Ytcefkkoombmndaa
open Go.RowKit
set_option maxRecDepth 100000
set_option linter.unusedSimpArgs false
set_option linter.unusedVariables false
section
variable {a : Act} {o : Oper} (w : World) (x y : Operand) (m n : Int)
theorem conv_iu (ho : o.op = .convert 3 101 x) (hx : a.eval x = .int .i64 m) (h : 0 ≤ m ∧ m < 9223372036854775808) : (execOp a.eval o).run Try.prog w = .ok (.value (.int .u64 m)) w := by
  have hw : IntKind.u64.wrap m = m := by rw [IntKind.wrap_u64]; omega
  unfold execOp
  simp only [ho, hx]
  go_simp
theorem conv_ui (ho : o.op = .convert 101 3 x) (hx : a.eval x = .int .u64 m) (h : 0 ≤ m ∧ m < 9223372036854775808) : (execOp a.eval o).run Try.prog w = .ok (.value (.int .i64 m)) w := by
  have hw : IntKind.i64.wrap m = m := by rw [IntKind.wrap_i64]; omega
  unfold execOp
  simp only [ho, hx]
  go_simp
theorem half_u (ho : o.op = .binOp .shr 101 x (.const (.int .u64 1)) 101) (hx : a.eval x = .int .u64 m) (h : 0 ≤ m ∧ m < 9223372036854775808) : (execOp a.eval o).run Try.prog w = .ok (.value (.int .u64 (m / 2))) w := by
  have hw : IntKind.u64.wrap (m / 2) = m / 2 := by rw [IntKind.wrap_u64]; omega
  unfold execOp
  simp only [ho, hx]
  go_simp
end
/-- by rising numbers -/
def Srt (H : List It) : Prop := ∀ (k l : Nat) (s t : It), k < l → H[k]? = some s → H[l]? = some t → s.n < t.n
def pos (H : List It) (m : Int) : Nat := H.findIdx (fun s => decide (m ≤ s.n))
def isIn (H : List It) (m : Int) : Bool := H.any (fun s => decide (s.n = m))
theorem rises_lo : ∀ (H : List It) (f e : Int), rises f e H = true → ∀ (k : Nat) (s : It), H[k]? = some s → f < s.n ∧ s.n < e ∧ szB s.s = true
  | [], _, _, _, k, s, h => by simp at h
  | i :: H, f, e, hr, k, s, h => by
    unfold rises at hr
    simp only [Bool.and_eq_true, decide_eq_true_eq] at hr
    cases k with
    | zero =>
      simp only [List.getElem?_cons_zero, Option.some.injEq] at h
      subst h
      exact ⟨hr.1.1.1, hr.1.1.2, hr.1.2⟩
    | succ k =>
      rw [List.getElem?_cons_succ] at h
      have := rises_lo H i.n e hr.2 k s h
      exact ⟨by omega, this.2⟩
theorem rises_srt : ∀ (H : List It) (f e : Int), rises f e H = true → Srt H
  | [], _, _, _ => fun k l s t _ h => by simp at h
  | i :: H, f, e, hr => fun k l s t hkl h1 h2 => by
    unfold rises at hr
    simp only [Bool.and_eq_true, decide_eq_true_eq] at hr
    cases l with
    | zero => omega
    | succ l =>
      rw [List.getElem?_cons_succ] at h2
      cases k with
      | zero =>
        simp only [List.getElem?_cons_zero, Option.some.injEq] at h1
        subst h1
        exact (rises_lo H i.n e hr.2 l t h2).1
      | succ k =>
        rw [List.getElem?_cons_succ] at h1
        exact rises_srt H i.n e hr.2 k l s t (by omega) h1 h2
theorem rt_rises {c : Cm} (h : rt c = true) : rises c.dl (min (c.dl + 4) 2147483648) c.H = true := by
  unfold rt heldB at h
  simp only [Bool.and_eq_true, decide_eq_true_eq] at h
  exact h.2.2.2
theorem rt_srt {c : Cm} (h : rt c = true) : Srt c.H := rises_srt _ _ _ (rt_rises h)
theorem pos_at {H : List It} {m : Int} {i : Nat} (hi : i ≤ H.length) (h1 : ∀ k s, k < i → H[k]? = some s → s.n < m) (h2 : ∀ k s, i ≤ k → H[k]? = some s → m ≤ s.n) : pos H m = i := by
  unfold pos
  by_cases hl : i < H.length
  · refine (List.findIdx_eq hl).2 ⟨decide_eq_true (by have := h2 i _ (Nat.le_refl _) (List.getElem?_eq_getElem hl); omega), fun k hk => ?_⟩
    exact decide_eq_false (by have := h1 k _ hk (List.getElem?_eq_getElem (by omega)); omega)
  · have : i = H.length := by omega
    subst this
    refine List.findIdx_eq_length.2 fun s hs => ?_
    obtain ⟨k, hk, rfl⟩ := List.getElem_of_mem hs
    exact decide_eq_false (by have := h1 k _ hk (List.getElem?_eq_getElem hk); omega)
theorem isin_at {H : List It} {m : Int} {i : Nat} (hs : Srt H) (s : It) (hi : H[i]? = some s) (h1 : ∀ k s, k < i → H[k]? = some s → s.n < m) (h2 : ∀ k s, i ≤ k → H[k]? = some s → m ≤ s.n) : isIn H m = decide (s.n = m) := by
  unfold isIn
  rw [Bool.eq_iff_iff, List.any_eq_true, decide_eq_true_iff]
  constructor
  · rintro ⟨t, ht, he⟩
    simp only [decide_eq_true_eq] at he
    obtain ⟨k, hk, rfl⟩ := List.getElem_of_mem ht
    have hk2 := List.getElem?_eq_getElem hk
    rcases Nat.lt_trichotomy k i with h | h | h
    · have := h1 k _ h hk2; omega
    · subst h
      rw [hk2] at hi
      injection hi with hi
      rw [← hi]; exact he
    · have h3 := hs i k s _ h hi hk2
      have h4 := h2 i s (Nat.le_refl _) hi
      omega
  · intro he
    exact ⟨s, List.mem_of_getElem? hi, decide_eq_true he⟩
theorem isin_none {H : List It} {m : Int} (h1 : ∀ k s, k < H.length → H[k]? = some s → s.n < m) : isIn H m = false := by
  unfold isIn
  rw [List.any_eq_false]
  intro s hs
  obtain ⟨k, hk, rfl⟩ := List.getElem_of_mem hs
  have := h1 k _ hk (List.getElem?_eq_getElem hk)
  simp only [decide_eq_true_eq]
  omega
set_option maxHeartbeats 4000000 in
theorem bin_ok (H : List It) (m : Int) (a : Option Addr) (n c : Nat) (hn : n ≤ 1000000) (w : World) (h : IL w a n c H) (hs : Srt H) : Calls Try.prog 54 #[.slice a n c, .int .u32 m, .func (.func 55) #[] #[]] w (fun r w' => r = .returned (.tuple #[.int .i64 (pos H m : Int), .bool (isIn H m)]) ∧ Gr w w') := by
  obtain ⟨T, hT⟩ : ∃ T : Ending → World → Prop, T = (fun r w' => r = .returned (.tuple #[.int .i64 (pos H m : Int), .bool (isIn H m)]) ∧ Gr w w') := ⟨_, rfl⟩
  rw [← hT]
  replace hT := hide hT
  have hl := h.len
  have hcp := h.2.cap
  have hmx := h.2.max
  replace h := hide h
  replace hs := hide hs
  obtain ⟨FV, hFV⟩ : ∃ f, f = Value.func (.func 55) #[] #[] := ⟨_, rfl⟩
  rw [← hFV]
  replace hFV := hide hFV
  go_enter Try.func54, Try.ntmps54
  go_upto_region 1 with fail
  obtain ⟨u0, hu_⟩ : ∃ u, u = w := ⟨_, rfl⟩
  rw [← hu_]
  have hB : Bl w [] u0 := hu_ ▸ Bl.nil w
  clear hu_
  refine wp_region_lit ?_
  refine lvk (.slice a n c) ?_
  simp only [nrm]
  refine lvk (.int .i64 (n : Int)) ?_
  simp only [nrm]
  (refine wpList_step fun K hK => ?_; replace hK := hide hK; go_simp; refine unhide hK _ _ ?_; clear hK K)
  refine wpList_nil ?_
  replace hB := hide hB
  go_upto_region 2 with fail
  replace hB := unhide hB
  refine wp_region_lit ?_
  refine lvk (.int .i64 (n : Int)) ?_
  simp only [nrm]
  (refine wpList_step fun K hK => ?_; replace hK := hide hK; go_simp; refine unhide hK _ _ ?_; clear hK K)
  (refine wpList_step fun K hK => ?_; replace hK := hide hK; go_simp; refine unhide hK _ _ ?_; clear hK K)
  refine wpList_nil ?_
  have hI : Hid ((∀ k s, k < 0 → H[k]? = some s → s.n < m) ∧ (∀ k s, n ≤ k → H[k]? = some s → m ≤ s.n)) := hide ⟨fun k s hk => absurd hk (by omega), fun k s hk hk2 => by
    have := (List.getElem?_eq_some_iff.1 hk2).1
    omega⟩
  have hG := hide hB.gr
  clear hB
  go_wp2_with fail
  go_loopw [9, 10] (fun u v wr => ∃ i j : Nat, i ≤ j ∧ j ≤ n ∧ u = .int .i64 (i : Int) ∧ v = .int .i64 (j : Int) ∧ Hid ((∀ k s, k < i → H[k]? = some s → s.n < m) ∧ (∀ k s, j ≤ k → H[k]? = some s → m ≤ s.n)) ∧ Hid (Gr w wr)) (fun u v _ => (intOf v).toNat - (intOf u).toNat)
  case atStart => exact ⟨0, n, by omega, by omega, rfl, rfl, hI, hG⟩
  case round =>
  clear hI hG
  obtain ⟨i, j, hij, hjn, rfl, rfl, hI, hG⟩ := hrel
  by_cases hlt : i < j
  · have jI : (i : Int) < (j : Int) := by omega
    obtain ⟨q, hq⟩ : ∃ q : Nat, q = (i + j) / 2 := ⟨_, rfl⟩
    have hq1 : i ≤ q ∧ q < j := by omega
    have hqI : ((i : Int) + (j : Int)) / 2 = (q : Int) := by omega
    replace hq := hide hq; replace hqI := hide hqI
    obtain ⟨s, hsj⟩ : ∃ s, H[q]? = some s := ⟨_, List.getElem?_eq_getElem (by omega)⟩
    have hok := (unhide h).ok q s hsj
    obtain ⟨p, o, ha, hr⟩ := (unhide h).at_ q s hsj
    replace hok := hide hok; replace hr := hide hr; replace hsj := hide hsj; replace ha := hide ha
    have hB := Bl.nil wr
    replace hB := hide hB
    go_upto_region 4 with fail
    replace hB := unhide hB
    refine wp_region_lit ?_
    refine lvk (.int .i64 (i : Int)) ?_
    simp only [nrm]
    refine lvk (.int .i64 (j : Int)) ?_
    simp only [nrm]
    refine list_val (.int .i64 ((i : Int) + (j : Int))) (by kernel_rfl) (add_i _ (.tmp 18) (.tmp 19) (i : Int) (j : Int) rfl (by kernel_rfl) (by kernel_rfl) _ rfl (by omega)) ?_
    simp only [nrm]
    refine list_val (.int .u64 ((i : Int) + (j : Int))) (by kernel_rfl) (conv_iu _ (.tmp 20) _ rfl (by kernel_rfl) (by omega)) ?_
    simp only [nrm]
    refine list_val (.int .u64 (q : Int)) (by kernel_rfl) (unhide hqI ▸ half_u _ (.tmp 21) ((i : Int) + (j : Int)) rfl (by kernel_rfl) (by omega)) ?_
    simp only [nrm]
    refine list_val (.int .i64 (q : Int)) (by kernel_rfl) (conv_ui _ (.tmp 22) _ rfl (by kernel_rfl) (by omega)) ?_
    simp only [nrm]
    (refine wpList_step fun K hK => ?_; replace hK := hide hK; go_simp; refine unhide hK _ _ ?_; clear hK K)
    refine wpList_nil ?_
    replace hB := hide hB
    go_upto_region 5 with fail
    replace hB := unhide hB
    by_cases hc : s.n < m
    · have hcv : cmpV s.n m < 0 := by unfold cmpV; rw [if_pos hc]; omega
      replace hc := hide hc; replace hcv := hide hcv
      refine wp_region_lit ?_
      refine lvk FV ?_
      simp only [nrm]
      refine lvk (.slice a n c) ?_
      simp only [nrm]
      refine lvk (.int .i64 (q : Int)) ?_
      simp only [nrm]
      refine list_val (.pointer (some ⟨p, o + 2 * q, none⟩)) (by kernel_rfl) (exec_isi _ (.tmp 25) (.tmp 26) rfl p o n c q (by rw [← unhide ha]; kernel_rfl) (by kernel_rfl) (by omega)) ?_
      simp only [nrm]
      refine list_val (.agg (fl [[.int .u32 s.n], [.string s.s]])) (by kernel_rfl) (exec_li _ (.tmp 27) rfl p (o + 2 * q) (by kernel_rfl) s (range_gr (unhide hr) ((unhide hG).trans hB.gr))) ?_
      simp only [nrm]
      refine lvk (.int .u32 m) ?_
      simp only [nrm]
      refine list_call 55 #[.agg (fl [[.int .u32 s.n], [.string s.s]]), .int .u32 m] (by kernel_rfl) (by rw [unhide hFV]; kernel_rfl) ((pl1_ok s m wr).mono ?_)
      rintro r_ u1 ⟨rfl, hg⟩
      replace hB := hB.more hg
      clear hg
      refine ⟨_, rfl, ?_⟩
      simp only [nrm]
      refine list_val (.bool true) (by kernel_rfl) (lss_i _ (.tmp 30) (.const (.int .i64 0)) (cmpV s.n m) 0 true rfl (by kernel_rfl) (by kernel_rfl) (decide_eq_true (unhide hcv))) ?_
      simp only [nrm]
      refine wpList_nil ?_
      have hI2 : Hid ((∀ k s, k < q + 1 → H[k]? = some s → s.n < m) ∧ (∀ k s, j ≤ k → H[k]? = some s → m ≤ s.n)) := hide ⟨fun k t hk hk2 => by
        rcases Nat.lt_or_ge k q with h1 | h1
        · have h2 := (unhide hs) k q t s h1 hk2 (unhide hsj)
          have := unhide hc
          omega
        · have e : k = q := by omega
          subst e
          have e2 := hk2.symm.trans (unhide hsj)
          injection e2 with e2
          rw [e2]; exact unhide hc, (unhide hI).2⟩
      have hG2 := hide ((unhide hG).trans hB.gr)
      clear hI hG hB hsj ha hr hok hc hcv hq hqI
      have jw : IntKind.i64.wrap ((q : Int) + 1) = (q : Int) + 1 := by rw [IntKind.wrap_i64]; omega
      go_wp2_with fail
      go_roundw
      case rel => exact ⟨q + 1, j, by omega, by omega, by simp, rfl, hI2, hG2⟩
      case measure => simp [intOf]; omega
    · have hcv : ¬ cmpV s.n m < 0 := by unfold cmpV; rw [if_neg hc]; split <;> omega
      replace hc := hide hc; replace hcv := hide hcv
      refine wp_region_lit ?_
      refine lvk FV ?_
      simp only [nrm]
      refine lvk (.slice a n c) ?_
      simp only [nrm]
      refine lvk (.int .i64 (q : Int)) ?_
      simp only [nrm]
      refine list_val (.pointer (some ⟨p, o + 2 * q, none⟩)) (by kernel_rfl) (exec_isi _ (.tmp 25) (.tmp 26) rfl p o n c q (by rw [← unhide ha]; kernel_rfl) (by kernel_rfl) (by omega)) ?_
      simp only [nrm]
      refine list_val (.agg (fl [[.int .u32 s.n], [.string s.s]])) (by kernel_rfl) (exec_li _ (.tmp 27) rfl p (o + 2 * q) (by kernel_rfl) s (range_gr (unhide hr) ((unhide hG).trans hB.gr))) ?_
      simp only [nrm]
      refine lvk (.int .u32 m) ?_
      simp only [nrm]
      refine list_call 55 #[.agg (fl [[.int .u32 s.n], [.string s.s]]), .int .u32 m] (by kernel_rfl) (by rw [unhide hFV]; kernel_rfl) ((pl1_ok s m wr).mono ?_)
      rintro r_ u1 ⟨rfl, hg⟩
      replace hB := hB.more hg
      clear hg
      refine ⟨_, rfl, ?_⟩
      simp only [nrm]
      refine list_val (.bool false) (by kernel_rfl) (lss_i _ (.tmp 30) (.const (.int .i64 0)) (cmpV s.n m) 0 false rfl (by kernel_rfl) (by kernel_rfl) (decide_eq_false (unhide hcv))) ?_
      simp only [nrm]
      refine wpList_nil ?_
      have hI2 : Hid ((∀ k s, k < i → H[k]? = some s → s.n < m) ∧ (∀ k s, q ≤ k → H[k]? = some s → m ≤ s.n)) := hide ⟨(unhide hI).1, fun k t hk hk2 => by
        rcases Nat.lt_or_ge q k with h1 | h1
        · have h2 := (unhide hs) q k s t h1 (unhide hsj) hk2
          have := unhide hc
          omega
        · have e : k = q := by omega
          subst e
          have e2 := hk2.symm.trans (unhide hsj)
          injection e2 with e2
          rw [e2]; exact Int.not_lt.1 (unhide hc)⟩
      have hG2 := hide ((unhide hG).trans hB.gr)
      clear hI hG hB hsj ha hr hok hc hcv hq hqI
      have jw : IntKind.i64.wrap ((q : Int) + 1) = (q : Int) + 1 := by rw [IntKind.wrap_i64]; omega
      go_wp2_with fail
      go_roundw
      case rel => exact ⟨i, q, by omega, by omega, rfl, rfl, hI2, hG2⟩
      case measure => simp [intOf]; omega
  · have hij2 : i = j := by omega
    subst hij2
    have jI : ¬ (i : Int) < (i : Int) := by omega
    have hp := pos_at (by omega) (unhide hI).1 (unhide hI).2
    replace hp := hide hp
    have hB := Bl.nil wr
    replace hB := hide hB
    go_upto_region 8 with fail
    replace hB := unhide hB
    by_cases hin : (i : Int) < (n : Int)
    rotate_left
    · have hv := isin_none (fun k s hk => (unhide hI).1 k s (by omega))
      replace hin := hide hin
      refine wp_region_lit ?_
      refine wpList_gen fun ops_ hops => ?_
      replace hops := hide hops
      refine list_val (.int .i64 (i : Int)) (by rw [unhide hops]; kernel_rfl) (by kernel_rfl) ?_
      simp only [nrm]
      refine list_val (.int .i64 (i : Int)) (by rw [unhide hops]; kernel_rfl) (by kernel_rfl) ?_
      simp only [nrm]
      refine list_val (.int .i64 (n : Int)) (by rw [unhide hops]; kernel_rfl) (by kernel_rfl) ?_
      simp only [nrm]
      refine list_val (.bool false) (by rw [unhide hops]; kernel_rfl) (lss_i _ (.tmp 36) (.tmp 37) (i : Int) (n : Int) false rfl (by kernel_rfl) (by kernel_rfl) (decide_eq_false (unhide hin))) ?_
      simp only [nrm]
      refine list_val (.bool false) (by rw [unhide hops]; kernel_rfl) (by kernel_rfl) ?_
      simp only [nrm]
      refine list_off (by rw [unhide hops]; kernel_rfl) ?_
      simp only [nrm]
      refine list_off (by rw [unhide hops]; kernel_rfl) ?_
      simp only [nrm]
      refine list_off (by rw [unhide hops]; kernel_rfl) ?_
      simp only [nrm]
      refine list_off (by rw [unhide hops]; kernel_rfl) ?_
      simp only [nrm]
      refine list_off (by rw [unhide hops]; kernel_rfl) ?_
      simp only [nrm]
      refine list_off (by rw [unhide hops]; kernel_rfl) ?_
      simp only [nrm]
      refine list_off (by rw [unhide hops]; kernel_rfl) ?_
      simp only [nrm]
      refine list_off (by rw [unhide hops]; kernel_rfl) ?_
      simp only [nrm]
      refine list_val (.bool false) (by rw [unhide hops]; kernel_rfl) (by kernel_rfl) ?_
      simp only [nrm]
      (refine wpList_step fun K hK => ?_; replace hK := hide hK; go_simp; refine unhide hK _ _ ?_; clear hK K)
      (refine wpList_step fun K hK => ?_; replace hK := hide hK; go_simp; refine unhide hK _ _ ?_; clear hK K)
      refine wpList_nil ?_
      have hG2 := hide ((unhide hG).trans hB.gr)
      replace hB := hide hB
      go_wp2_with fail
      replace hB := unhide hB
      rw [unhide hT]
      exact (⟨by rw [unhide hp, hv] <;> rfl, unhide hG2⟩)
    obtain ⟨s, hsj⟩ : ∃ s, H[i]? = some s := ⟨_, List.getElem?_eq_getElem (by omega)⟩
    have hv := isin_at (unhide hs) s hsj (unhide hI).1 (unhide hI).2
    obtain ⟨p, o, ha, hr⟩ := (unhide h).at_ i s hsj
    have hcz : decide (cmpV s.n m = 0) = decide (s.n = m) := by
      rw [decide_eq_decide]
      unfold cmpV
      split
      · omega
      · split <;> omega
    obtain ⟨b, hb⟩ : ∃ b, b = decide (s.n = m) := ⟨_, rfl⟩
    rw [← hb] at hv hcz
    have hin2 : i < n := by omega
    replace hr := hide hr; replace hsj := hide hsj; replace ha := hide ha; replace hv := hide hv; replace hcz := hide hcz; replace hb := hide hb; replace hin := hide hin
    refine wp_region_lit ?_
    refine wpList_gen fun ops_ hops => ?_
    replace hops := hide hops
    refine list_val (.int .i64 (i : Int)) (by rw [unhide hops]; kernel_rfl) (by kernel_rfl) ?_
    simp only [nrm]
    refine list_val (.int .i64 (i : Int)) (by rw [unhide hops]; kernel_rfl) (by kernel_rfl) ?_
    simp only [nrm]
    refine list_val (.int .i64 (n : Int)) (by rw [unhide hops]; kernel_rfl) (by kernel_rfl) ?_
    simp only [nrm]
    refine list_val (.bool true) (by rw [unhide hops]; kernel_rfl) (lss_i _ (.tmp 36) (.tmp 37) (i : Int) (n : Int) true rfl (by kernel_rfl) (by kernel_rfl) (decide_eq_true (unhide hin))) ?_
    simp only [nrm]
    refine list_val (.bool true) (by rw [unhide hops]; kernel_rfl) (by kernel_rfl) ?_
    simp only [nrm]
    refine list_val FV (by rw [unhide hops]; kernel_rfl) (by kernel_rfl) ?_
    simp only [nrm]
    refine list_val (.slice a n c) (by rw [unhide hops]; kernel_rfl) (by kernel_rfl) ?_
    simp only [nrm]
    refine list_val (.int .i64 (i : Int)) (by rw [unhide hops]; kernel_rfl) (by kernel_rfl) ?_
    simp only [nrm]
    refine list_val (.pointer (some ⟨p, o + 2 * i, none⟩)) (by rw [unhide hops]; kernel_rfl) (exec_isi _ (.tmp 41) (.tmp 42) rfl p o n c i (by rw [← unhide ha]; kernel_rfl) (by kernel_rfl) hin2) ?_
    simp only [nrm]
    refine list_val (.agg (fl [[.int .u32 s.n], [.string s.s]])) (by rw [unhide hops]; kernel_rfl) (exec_li _ (.tmp 43) rfl p (o + 2 * i) (by kernel_rfl) s (range_gr (unhide hr) ((unhide hG).trans hB.gr))) ?_
    simp only [nrm]
    refine list_val (.int .u32 m) (by rw [unhide hops]; kernel_rfl) (by kernel_rfl) ?_
    simp only [nrm]
    refine list_call 55 #[.agg (fl [[.int .u32 s.n], [.string s.s]]), .int .u32 m] (by rw [unhide hops]; kernel_rfl) (by rw [unhide hFV]; kernel_rfl) ((pl1_ok s m wr).mono ?_)
    rintro r_ u1 ⟨rfl, hg⟩
    replace hB := hB.more hg
    clear hg
    refine ⟨_, rfl, ?_⟩
    simp only [nrm]
    refine list_val (.bool b) (by rw [unhide hops]; kernel_rfl) (eql_i _ (.tmp 46) (.const (.int .i64 0)) (cmpV s.n m) 0 b rfl (by kernel_rfl) (by kernel_rfl) (unhide hcz)) ?_
    simp only [nrm]
    refine list_val (.bool b) (by rw [unhide hops]; kernel_rfl) (by kernel_rfl) ?_
    simp only [nrm]
    (refine wpList_step fun K hK => ?_; replace hK := hide hK; go_simp; refine unhide hK _ _ ?_; clear hK K)
    (refine wpList_step fun K hK => ?_; replace hK := hide hK; go_simp; refine unhide hK _ _ ?_; clear hK K)
    refine wpList_nil ?_
    have hG2 := hide ((unhide hG).trans hB.gr)
    replace hB := hide hB
    go_wp2_with fail
    replace hB := unhide hB
    rw [unhide hT]
    exact (⟨by rw [unhide hp, unhide hv] <;> rfl, unhide hG2⟩)
set_option maxHeartbeats 4000000 in
theorem place_ok (H : List It) (m : Int) (a : Option Addr) (n c : Nat) (hn : n ≤ 1000000) (w : World) (h : IL w a n c H) (hs : Srt H) : Calls Try.prog 37 #[.slice a n c, .int .u32 m] w (fun r w' => r = .returned (.tuple #[.int .i64 (pos H m : Int), .bool (isIn H m)]) ∧ Gr w w') := by
  obtain ⟨T, hT⟩ : ∃ T : Ending → World → Prop, T = (fun r w' => r = .returned (.tuple #[.int .i64 (pos H m : Int), .bool (isIn H m)]) ∧ Gr w w') := ⟨_, rfl⟩
  rw [← hT]
  replace hT := hide hT
  replace h := hide h
  replace hs := hide hs
  go_enter Try.func37, Try.ntmps37
  go_upto_region 1 with fail
  obtain ⟨u0, hu_⟩ : ∃ u, u = w := ⟨_, rfl⟩
  rw [← hu_]
  have hB : Bl w [] u0 := hu_ ▸ Bl.nil w
  clear hu_
  refine wp_region_lit ?_
  refine lvk (.slice a n c) ?_
  simp only [nrm]
  refine lvk (.int .u32 m) ?_
  simp only [nrm]
  refine list_call 54 #[.slice a n c, .int .u32 m, .func (.func 55) #[] #[]] (by kernel_rfl) (by kernel_rfl) ((bin_ok H m a n c hn u0 ((unhide h).gr hB.gr) (unhide hs)).mono ?_)
  rintro r_ u1 ⟨rfl, hg⟩
  replace hB := hB.more hg
  clear hg
  refine ⟨_, rfl, ?_⟩
  simp only [nrm]
  refine lvk (.int .i64 (pos H m : Int)) ?_
  simp only [nrm]
  refine lvk (.bool (isIn H m)) ?_
  simp only [nrm]
  (refine wpList_step fun K hK => ?_; replace hK := hide hK; go_simp; refine unhide hK _ _ ?_; clear hK K)
  (refine wpList_step fun K hK => ?_; replace hK := hide hK; go_simp; refine unhide hK _ _ ?_; clear hK K)
  refine wpList_nil ?_
  replace hB := hide hB
  go_wp2_with fail
  replace hB := unhide hB
  rw [unhide hT]
  exact (⟨rfl, hB.gr⟩)
end Go.Proofs.Ytcefkkoombmndaa
