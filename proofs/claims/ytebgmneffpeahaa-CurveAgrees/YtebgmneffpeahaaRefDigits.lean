/-
  The reference's digits.
-/
import Derived.Test.YtebgmneffpeahaaRefClamp
namespace Go.Proofs.Ytebgmneffpeahaa
open Go.RowKit
set_option maxRecDepth 100000
set_option linter.unusedSimpArgs false

theorem mul_bdw {x q : Int} (hx : 0 ≤ x ∧ x < 131072) (hq : 0 ≤ q ∧ q < 1048576) : 0 ≤ x * q ∧ x * q < 137438953472 := by
  have h1 := Int.mul_nonneg hx.1 hq.1
  have h2 := Int.mul_le_mul_of_nonneg_right (show x ≤ 131071 by omega) hq.1
  omega
set_option maxHeartbeats 2000000 in
theorem nSmallW_ok (a  : List Int) (q : Int) (hq : 0 ≤ q ∧ q < 1048576) (ha : a.length = 16) (da : ∀ x ∈ a, 0 ≤ x ∧ x < 131072)  (w : World) :
    Calls Try.prog 24 #[.agg (nc a), .int .i64 q] w (RetN (sv a * q) w) := by
  have hn : (nc a).size = 16 := by rw [nc_size]; exact ha
  go_enter Try.func24, Try.ntmps24
  go_wp2_with fail
  have hB := ((Bl.nil w).new (nc a) 46).new #[.int .i64 0, .int .i64 0, .int .i64 0, .int .i64 0, .int .i64 0, .int .i64 0, .int .i64 0, .int .i64 0, .int .i64 0, .int .i64 0, .int .i64 0, .int .i64 0, .int .i64 0, .int .i64 0, .int .i64 0, .int .i64 0] 46
  simp only [size_alloc, List.nil_append, List.cons_append] at hB
  generalize World.alloc _ _ = u at *
  replace hB : Hid (Bl w [⟨w.heap.size, nc a, 46⟩, ⟨w.heap.size + 1, nc Zl, 46⟩] u) := hide hB
  go_loopw [5] (fun i wr => ∃ k : Nat, ∃ m : List Int, k ≤ 16 ∧ i = .int .i64 k ∧ Hid (m.length = 16 ∧ ∀ j, j < 16 → m.getD j 0 = if j < k then a.getD j 0 * q else a.getD j 0) ∧ Hid (Bl w [⟨w.heap.size, nc m, 46⟩, ⟨w.heap.size + 1, nc Zl, 46⟩] wr)) (fun i _ => 16 - (intOf i).toNat)
  case atStart => exact ⟨0, a, by omega, rfl, hide ⟨ha, fun j _ => by rw [if_neg (by omega)]⟩, hB⟩
  case round =>
  clear hB
  obtain ⟨i, m, hi, rfl, hm, hB⟩ := hrel
  by_cases hil : i < 16
  · have c1 := nc_cell (Bl.get (unhide hB) 0 (x := ⟨w.heap.size, nc m, 46⟩) rfl) i (by rw [(unhide hm).1]; exact hil)
    have f1 := froz_of (i := i) (Bl.get (unhide hB) 0 (x := ⟨w.heap.size, nc m, 46⟩) rfl)
    have b1 := da _ (getD_mem (l := a) (i := i) (by omega))
    have ei := (unhide hm).2 i hil
    rw [if_neg (by omega)] at ei
    rw [ei] at c1
    have hm2 : Hid ((m.set i (a.getD i 0 * q)).length = 16 ∧ ∀ j, j < 16 → (m.set i (a.getD i 0 * q)).getD j 0 = if j < i + 1 then a.getD j 0 * q else a.getD j 0) := by
      refine hide ⟨by simpa using (unhide hm).1, fun j hj => ?_⟩
      rw [getD_set m i j _ (by rw [(unhide hm).1]; exact hil)]
      by_cases e : j = i
      · subst e
        rw [if_pos rfl, if_pos (by omega)]
      · rw [if_neg e, (unhide hm).2 j hj]
        by_cases e2 : j < i
        · rw [if_pos e2, if_pos (by omega)]
        · rw [if_neg e2, if_neg (by omega)]
    have hB2 := Bl.cell (unhide hB) 0 (x := ⟨w.heap.size, nc m, 46⟩) rfl i (.int .i64 (a.getD i 0 * q))
    simp only [List.set_cons_zero, nc_set] at hB2
    replace hB2 := hide hB2
    have hp := mul_bdw b1 hq
    clear ei
    generalize a.getD i 0 = x at *
    go_wp2_with fail
    
    go_roundw
    case rel => exact ⟨i + 1, _, by omega, by go_num, hm2, hB2⟩
    case measure => simp [intOf]; omega
  · have e : i = 16 := by omega
    subst e
    have hv : sv m = sv a * q := by
      have h := sv_comb q 0 m a a (by rw [ha, (unhide hm).1]) (by rw [ha, (unhide hm).1]) (fun j hj => by have h1 := (unhide hm).2 j (by rw [(unhide hm).1] at hj; exact hj); rw [if_pos (by rw [(unhide hm).1] at hj; exact hj)] at h1; rw [h1, Int.zero_mul, Int.add_zero, Int.mul_comm])
      rw [h, Int.zero_mul, Int.add_zero, Int.mul_comm]
    have hz := (unhide hm).1
    have hbd : ∀ j, j < 16 → -36028797018963968 ≤ m.getD j 0 ∧ m.getD j 0 ≤ 36028797018963968 := by
      intro j hj
      have h1 := (unhide hm).2 j hj
      rw [if_pos hj] at h1
      have b1 := da _ (getD_mem (l := a) (i := j) (by omega))
      
      rw [h1]
      have := mul_bdw b1 hq
      omega
    go_upto_region 5 with fail
    replace hB := unhide hB
    refine wp_region_lit ?_
    refine list_val (.agg (nc m)) (by kernel_rfl) (exec_arr _ 46 (.tmp 2) rfl w.heap.size (by kernel_rfl) (nc m) 46 _ (hB.get 0 (x := ⟨w.heap.size, (nc m), 46⟩) rfl) Try.underlying46 rfl (by rw [Try.infoNum, nc_size, hz])) ?_
    simp only [Act.put, List.setIfInBounds_toArray, List.set_cons_zero, List.set_cons_succ, List.getElem_toArray, List.getElem_cons_zero, List.getElem_cons_succ]
    refine list_call 38 #[.agg (nc m)] (by kernel_rfl) (by kernel_rfl) ((carry_ok m hz hbd _).mono ?_)
    rintro r v1_ ⟨c1, rfl, hc1, hg⟩
    refine ⟨_, rfl, ?_⟩
    rw [hv] at hc1
    replace hB := hB.more hg
    clear hg
    simp only [Act.put, List.setIfInBounds_toArray, List.set_cons_zero, List.set_cons_succ, List.getElem_toArray, List.getElem_cons_zero, List.getElem_cons_succ]
    refine list_store 46 (.tmp 4) (.tmp 18) (w.heap.size + 1) c1 46 (nc Zl) (by kernel_rfl) rfl (by kernel_rfl) (by kernel_rfl) (hB.get 1 (x := ⟨w.heap.size + 1, (nc Zl), 46⟩) rfl) (by rw [Try.infoNum, NC.size _ hc1]) ((show (nc Zl).size = 16 from rfl).trans (NC.size _ hc1).symm) (NC.one _ hc1) ?_
    replace hB := hB.set 1 (x := ⟨w.heap.size + 1, (nc Zl), 46⟩) rfl c1
    simp only [List.set_cons_zero, List.set_cons_succ] at hB
    generalize World.setRow _ _ _ = v2_ at *
    simp only [Act.put, List.setIfInBounds_toArray, List.set_cons_zero, List.set_cons_succ, List.getElem_toArray, List.getElem_cons_zero, List.getElem_cons_succ]
    refine wpList_nil ?_
    go_wp2_with fail
    exact bodyPost_ret (v := .agg c1) (results_cell_row Try.results24 _ _ (w.heap.size + 1) 46 c1 (0, 0) _ rfl (hB.get 1 (x := ⟨w.heap.size + 1, c1, 46⟩) rfl) Try.underlying46 rfl (by rw [Try.infoNum, NC.size _ hc1])) rfl ⟨_, rfl, hc1, hB.gr⟩

/-- the number of a row of decimal digits -/
def dv (f : Nat → Nat) : Nat → Int
  | 0 => 0
  | k + 1 => dv f k * 10 + ((f k : Int) - 48)
/-- what digits has read behind k letters -/
def DI (f : Nat → Nat) (m : List Int) (k : Nat) : Prop := m.length = 16 ∧ (∀ x ∈ m, 0 ≤ x ∧ x < 131072) ∧ sv m % pp = dv f k % pp
theorem DI.start (f : Nat → Nat) : DI f Zl 0 := ⟨rfl, by decide, rfl⟩
theorem DI.step {f : Nat → Nat} {m : List Int} {k : Nat} {l : List Int} (h : DI f m k) (hl : l.length = 16) (hd : D16 l) (hv : sv l % pp = (sv m * 10) % pp) (hb : 48 ≤ f k ∧ f k ≤ 57) : DI f (l.set 0 (l.getD 0 0 + ((f k : Int) - 48))) (k + 1) := by
  refine ⟨by simpa using hl, ?_, ?_⟩
  · intro x hx
    rcases List.mem_or_eq_of_mem_set hx with h1 | h1
    · have := hd x h1
      omega
    · have := hd _ (getD_mem (l := l) (i := 0) (by omega))
      omega
  · rw [sv_set l 0 _ (by omega), Int.pow_zero]
    show _ = (dv f k * 10 + ((f k : Int) - 48)) % pp
    have e : sv l + (l.getD 0 0 + ((f k : Int) - 48) - l.getD 0 0) * 1 = sv l + ((f k : Int) - 48) := by omega
    rw [e, Int.add_emod, hv, Int.mul_emod, h.2.2, ← Int.mul_emod, ← Int.add_emod]

set_option maxHeartbeats 2000000 in
theorem digits_ok (s : ByteArray) (L : Nat) (f : Nat → Nat) (hL : s.size = L) (hL2 : L < 1000) (hf : ∀ k (h : k < s.size), (s[k]'h).toNat = f k) (hd : ∀ k, k < L → 48 ≤ f k ∧ f k ≤ 57) (w : World) : Calls Try.prog 28 #[.string s] w (RetN (dv f L) w) := by
  go_enter Try.func28, Try.ntmps28
  go_wp2_with fail
  have hB := ((Bl.nil w).new #[.int .i64 0, .int .i64 0, .int .i64 0, .int .i64 0, .int .i64 0, .int .i64 0, .int .i64 0, .int .i64 0, .int .i64 0, .int .i64 0, .int .i64 0, .int .i64 0, .int .i64 0, .int .i64 0, .int .i64 0, .int .i64 0] 46).new #[.int .i64 0, .int .i64 0, .int .i64 0, .int .i64 0, .int .i64 0, .int .i64 0, .int .i64 0, .int .i64 0, .int .i64 0, .int .i64 0, .int .i64 0, .int .i64 0, .int .i64 0, .int .i64 0, .int .i64 0, .int .i64 0] 46
  simp only [size_alloc, List.nil_append, List.cons_append] at hB
  generalize World.alloc _ _ = u at *
  replace hB : Hid (Bl w [⟨w.heap.size, nc Zl, 46⟩, ⟨w.heap.size + 1, nc Zl, 46⟩] u) := hide hB
  have hm := hide (DI.start f)
  go_loopw [4] (fun i wr => ∃ k : Nat, ∃ m : List Int, k ≤ L ∧ i = .int .i64 k ∧ Hid (DI f m k) ∧ Hid (Bl w [⟨w.heap.size, nc Zl, 46⟩, ⟨w.heap.size + 1, nc m, 46⟩] wr)) (fun i _ => L - (intOf i).toNat)
  case atStart => exact ⟨0, Zl, by omega, rfl, hm, hB⟩
  case round =>
  clear hB hm
  obtain ⟨k, m, hk, rfl, hm, hB⟩ := hrel
  by_cases hkl : k < L
  · have hb := hd k hkl
    have kI : (k : Int) < (L : Int) := by omega
    go_upto_region 5 with fail
    replace hB := unhide hB
    refine wp_region_lit ?_
    refine list_val (.agg (nc m)) (by kernel_rfl) (exec_arr _ 46 (.tmp 3) rfl (w.heap.size + 1) (by kernel_rfl) (nc m) 46 _ (hB.get 1 (x := ⟨w.heap.size + 1, (nc m), 46⟩) rfl) Try.underlying46 rfl (by rw [Try.infoNum, nc_size, (unhide hm).1])) ?_
    simp only [Act.put, List.setIfInBounds_toArray, List.set_cons_zero, List.set_cons_succ, List.getElem_toArray, List.getElem_cons_zero, List.getElem_cons_succ]
    refine list_call 24 #[.agg (nc m), .int .i64 10] (by kernel_rfl) (by kernel_rfl) ((nSmallW_ok m 10 (by omega) (unhide hm).1 (unhide hm).2.1 _).mono ?_)
    rintro r v1_ ⟨c1, rfl, hc1, hg⟩
    refine ⟨_, rfl, ?_⟩
    replace hB := hB.more hg
    clear hg
    simp only [Act.put, List.setIfInBounds_toArray, List.set_cons_zero, List.set_cons_succ, List.getElem_toArray, List.getElem_cons_zero, List.getElem_cons_succ]
    refine list_store 46 (.tmp 3) (.tmp 12) (w.heap.size + 1) c1 46 (nc m) (by kernel_rfl) rfl (by kernel_rfl) (by kernel_rfl) (hB.get 1 (x := ⟨w.heap.size + 1, (nc m), 46⟩) rfl) (by rw [Try.infoNum, NC.size _ hc1]) (((nc_size _).trans (unhide hm).1).trans (NC.size _ hc1).symm) (NC.one _ hc1) ?_
    replace hB := hB.set 1 (x := ⟨w.heap.size + 1, (nc m), 46⟩) rfl c1
    simp only [List.set_cons_zero, List.set_cons_succ] at hB
    generalize World.setRow _ _ _ = v2_ at *
    simp only [Act.put, List.setIfInBounds_toArray, List.set_cons_zero, List.set_cons_succ, List.getElem_toArray, List.getElem_cons_zero, List.getElem_cons_succ]
    refine wpList_nil ?_
    obtain ⟨l, rfl, hl⟩ := hc1
    have hm2 := (unhide hm).step (unhide hl).1 (unhide hl).2.1 (unhide hl).2.2 hb
    have c1 := nc_cell (hB.get 1 (x := ⟨w.heap.size + 1, nc l, 46⟩) rfl) 0 (by rw [(unhide hl).1]; omega)
    have f1 := froz_of (i := 0) (hB.get 1 (x := ⟨w.heap.size + 1, nc l, 46⟩) rfl)
    have b1 := (unhide hl).2.1 _ (getD_mem (l := l) (i := 0) (by rw [(unhide hl).1]; omega))
    have hB2 := Bl.cell hB.drew 1 (x := ⟨w.heap.size + 1, nc l, 46⟩) rfl 0 (.int .i64 (l.getD 0 0 + ((f k : Int) - 48)))
    simp only [List.set_cons_zero, List.set_cons_succ, nc_set] at hB2
    replace hB2 := hide hB2
    replace hm2 := hide hm2
    clear hB
    have ek : (s[k]'(by omega)).toNat = f k := hf k (by omega)
    have w1 : IntKind.u8.wrap ((f k : Int) - 48) = (f k : Int) - 48 := by rw [IntKind.wrap_u8]; omega
    generalize l.getD 0 0 = x at *
    have w2 : ((f k : Int) - 48) % 256 = (f k : Int) - 48 := by omega
    have w3 : wrap64 ((f k : Int) - 48) = (f k : Int) - 48 := by simp only [wrap64]; omega
    have w4 : wrap64 (x + ((f k : Int) - 48)) = x + ((f k : Int) - 48) := by simp only [wrap64]; omega
    go_wp2_with fail
    go_still_tail 9, (by kernel_rfl)
    go_wp2_with fail
    go_roundw
    case rel => exact ⟨k + 1, _, by omega, by go_num, hm2, hB2⟩
    case measure => simp [intOf]; omega
  · have e : k = L := by omega
    subst e
    have kI : ¬ (k : Int) < (k : Int) := by omega
    go_upto_region 7 with fail
    replace hB := unhide hB
    refine wp_region_lit ?_
    refine list_val (.agg (nc m)) (by kernel_rfl) (exec_arr _ 46 (.tmp 3) rfl (w.heap.size + 1) (by kernel_rfl) (nc m) 46 _ (hB.get 1 (x := ⟨w.heap.size + 1, (nc m), 46⟩) rfl) Try.underlying46 rfl (by rw [Try.infoNum, nc_size, (unhide hm).1])) ?_
    simp only [Act.put, List.setIfInBounds_toArray, List.set_cons_zero, List.set_cons_succ, List.getElem_toArray, List.getElem_cons_zero, List.getElem_cons_succ]
    refine list_call 38 #[.agg (nc m)] (by kernel_rfl) (by kernel_rfl) ((carry_ok m (unhide hm).1 (fun j hj => by have := (unhide hm).2.1 _ (getD_mem (l := m) (i := j) (by rw [(unhide hm).1]; exact hj)); omega) _).mono ?_)
    rintro r v501_ ⟨c2, rfl, hc2, hg⟩
    refine ⟨_, rfl, ?_⟩
    replace hB := hB.more hg
    clear hg
    simp only [Act.put, List.setIfInBounds_toArray, List.set_cons_zero, List.set_cons_succ, List.getElem_toArray, List.getElem_cons_zero, List.getElem_cons_succ]
    refine list_store 46 (.tmp 2) (.tmp 23) w.heap.size c2 46 (nc Zl) (by kernel_rfl) rfl (by kernel_rfl) (by kernel_rfl) (hB.get 0 (x := ⟨w.heap.size, (nc Zl), 46⟩) rfl) (by rw [Try.infoNum, NC.size _ hc2]) ((show (nc Zl).size = 16 from rfl).trans (NC.size _ hc2).symm) (NC.one _ hc2) ?_
    replace hB := hB.set 0 (x := ⟨w.heap.size, (nc Zl), 46⟩) rfl c2
    simp only [List.set_cons_zero, List.set_cons_succ] at hB
    generalize World.setRow _ _ _ = v502_ at *
    simp only [Act.put, List.setIfInBounds_toArray, List.set_cons_zero, List.set_cons_succ, List.getElem_toArray, List.getElem_cons_zero, List.getElem_cons_succ]
    refine wpList_nil ?_
    go_wp2_with fail
    exact bodyPost_ret (v := .agg c2) (results_cell_row Try.results28 _ _ w.heap.size 46 c2 (0, 0) _ rfl (hB.get 0 (x := ⟨w.heap.size, c2, 46⟩) rfl) Try.underlying46 rfl (by rw [Try.infoNum, NC.size _ hc2])) rfl ⟨_, rfl, hc2.same (unhide hm).2.2, hB.gr⟩
end Go.Proofs.Ytebgmneffpeahaa
