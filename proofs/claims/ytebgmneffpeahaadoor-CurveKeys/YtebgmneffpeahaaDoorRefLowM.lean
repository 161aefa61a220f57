/-
  Several texts in one.
-/
import Derived.Test.YtebgmneffpeahaaDoorRefClamp
/-
  The reference's digits.
-/
namespace Go.Proofs.YtebgmneffpeahaaDoor
open Go.RowKit
set_option maxRecDepth 100000
set_option linter.unusedSimpArgs false

theorem mul_bdw {x q : Int} (hx : 0 ≤ x ∧ x < 131072) (hq : 0 ≤ q ∧ q < 1048576) : 0 ≤ x * q ∧ x * q < 137438953472 := by
  have h1 := Int.mul_nonneg hx.1 hq.1
  have h2 := Int.mul_le_mul_of_nonneg_right (show x ≤ 131071 by omega) hq.1
  omega
set_option maxHeartbeats 2000000 in
theorem nSmallW_ok (a  : List Int) (q : Int) (hq : 0 ≤ q ∧ q < 1048576) (ha : a.length = 16) (da : ∀ x ∈ a, 0 ≤ x ∧ x < 131072)  (w : World) :
    Calls Tryd.prog 18 #[.agg (nc a), .int .i64 q] w (RetN (sv a * q) w) := by
  have hn : (nc a).size = 16 := by rw [nc_size]; exact ha
  go_enter Tryd.func18, Tryd.ntmps18
  go_wp2_with fail
  have hB := ((Bl.nil w).new (nc a) 33).new #[.int .i64 0, .int .i64 0, .int .i64 0, .int .i64 0, .int .i64 0, .int .i64 0, .int .i64 0, .int .i64 0, .int .i64 0, .int .i64 0, .int .i64 0, .int .i64 0, .int .i64 0, .int .i64 0, .int .i64 0, .int .i64 0] 33
  simp only [size_alloc, List.nil_append, List.cons_append] at hB
  generalize World.alloc _ _ = u at *
  replace hB : Hid (Bl w [⟨w.heap.size, nc a, 33⟩, ⟨w.heap.size + 1, nc Zl, 33⟩] u) := hide hB
  go_loopw [5] (fun i wr => ∃ k : Nat, ∃ m : List Int, k ≤ 16 ∧ i = .int .i64 k ∧ Hid (m.length = 16 ∧ ∀ j, j < 16 → m.getD j 0 = if j < k then a.getD j 0 * q else a.getD j 0) ∧ Hid (Bl w [⟨w.heap.size, nc m, 33⟩, ⟨w.heap.size + 1, nc Zl, 33⟩] wr)) (fun i _ => 16 - (intOf i).toNat)
  case atStart => exact ⟨0, a, by omega, rfl, hide ⟨ha, fun j _ => by rw [if_neg (by omega)]⟩, hB⟩
  case round =>
  clear hB
  obtain ⟨i, m, hi, rfl, hm, hB⟩ := hrel
  by_cases hil : i < 16
  · have c1 := nc_cell (Bl.get (unhide hB) 0 (x := ⟨w.heap.size, nc m, 33⟩) rfl) i (by rw [(unhide hm).1]; exact hil)
    have f1 := froz_of (i := i) (Bl.get (unhide hB) 0 (x := ⟨w.heap.size, nc m, 33⟩) rfl)
    have b1 := da _ (getD_mem (l := a) (i := i) (by omega))
    have ei := (unhide hm).2 i hil
    rw [if_neg (by omega)] at ei
    rw [ei] at c1
    have hm2 : Hid ((m.set i (a.getD i 0 * q)).length = 16 ∧ ∀ j, j < 16 → (m.set i (a.getD i 0 * q)).getD j 0 = if j < i + 1 then a.getD j 0 * q else a.getD j 0) := by
      refine hide ⟨by simpa using (unhide hm).1, fun j hj => ?_⟩
      rw [getD_set m i j _ (by rw [(unhide hm).1]; exact hil)]
      by_cases e : j = i
      · subst e
        rw [if_pos rfl, if_pos (by omega)]
      · rw [if_neg e, (unhide hm).2 j hj]
        by_cases e2 : j < i
        · rw [if_pos e2, if_pos (by omega)]
        · rw [if_neg e2, if_neg (by omega)]
    have hB2 := Bl.cell (unhide hB) 0 (x := ⟨w.heap.size, nc m, 33⟩) rfl i (.int .i64 (a.getD i 0 * q))
    simp only [List.set_cons_zero, nc_set] at hB2
    replace hB2 := hide hB2
    have hp := mul_bdw b1 hq
    clear ei
    generalize a.getD i 0 = x at *
    go_wp2_with fail
    
    go_roundw
    case rel => exact ⟨i + 1, _, by omega, by go_num, hm2, hB2⟩
    case measure => simp [intOf]; omega
  · have e : i = 16 := by omega
    subst e
    have hv : sv m = sv a * q := by
      have h := sv_comb q 0 m a a (by rw [ha, (unhide hm).1]) (by rw [ha, (unhide hm).1]) (fun j hj => by have h1 := (unhide hm).2 j (by rw [(unhide hm).1] at hj; exact hj); rw [if_pos (by rw [(unhide hm).1] at hj; exact hj)] at h1; rw [h1, Int.zero_mul, Int.add_zero, Int.mul_comm])
      rw [h, Int.zero_mul, Int.add_zero, Int.mul_comm]
    have hz := (unhide hm).1
    have hbd : ∀ j, j < 16 → -36028797018963968 ≤ m.getD j 0 ∧ m.getD j 0 ≤ 36028797018963968 := by
      intro j hj
      have h1 := (unhide hm).2 j hj
      rw [if_pos hj] at h1
      have b1 := da _ (getD_mem (l := a) (i := j) (by omega))
      
      rw [h1]
      have := mul_bdw b1 hq
      omega
    go_upto_region 5 with fail
    replace hB := unhide hB
    refine wp_region_lit ?_
    refine list_val (.agg (nc m)) (by kernel_rfl) (exec_arr _ 33 (.tmp 2) rfl w.heap.size (by kernel_rfl) (nc m) 33 _ (hB.get 0 (x := ⟨w.heap.size, (nc m), 33⟩) rfl) Tryd.underlying33 rfl (by rw [Tryd.infoNum, nc_size, hz])) ?_
    simp only [Act.put, List.setIfInBounds_toArray, List.set_cons_zero, List.set_cons_succ, List.getElem_toArray, List.getElem_cons_zero, List.getElem_cons_succ]
    refine list_call 28 #[.agg (nc m)] (by kernel_rfl) (by kernel_rfl) ((carry_ok m hz hbd _).mono ?_)
    rintro r v1_ ⟨c1, rfl, hc1, hg⟩
    refine ⟨_, rfl, ?_⟩
    rw [hv] at hc1
    replace hB := hB.more hg
    clear hg
    simp only [Act.put, List.setIfInBounds_toArray, List.set_cons_zero, List.set_cons_succ, List.getElem_toArray, List.getElem_cons_zero, List.getElem_cons_succ]
    refine list_store 33 (.tmp 4) (.tmp 18) (w.heap.size + 1) c1 33 (nc Zl) (by kernel_rfl) rfl (by kernel_rfl) (by kernel_rfl) (hB.get 1 (x := ⟨w.heap.size + 1, (nc Zl), 33⟩) rfl) (by rw [Tryd.infoNum, NC.size _ hc1]) ((show (nc Zl).size = 16 from rfl).trans (NC.size _ hc1).symm) (NC.one _ hc1) ?_
    replace hB := hB.set 1 (x := ⟨w.heap.size + 1, (nc Zl), 33⟩) rfl c1
    simp only [List.set_cons_zero, List.set_cons_succ] at hB
    generalize World.setRow _ _ _ = v2_ at *
    simp only [Act.put, List.setIfInBounds_toArray, List.set_cons_zero, List.set_cons_succ, List.getElem_toArray, List.getElem_cons_zero, List.getElem_cons_succ]
    refine wpList_nil ?_
    go_wp2_with fail
    exact bodyPost_ret (v := .agg c1) (results_cell_row Tryd.results18 _ _ (w.heap.size + 1) 33 c1 (0, 0) _ rfl (hB.get 1 (x := ⟨w.heap.size + 1, c1, 33⟩) rfl) Tryd.underlying33 rfl (by rw [Tryd.infoNum, NC.size _ hc1])) rfl ⟨_, rfl, hc1, hB.gr⟩

/-- the number of a row of decimal digits -/
def dv (f : Nat → Nat) : Nat → Int
  | 0 => 0
  | k + 1 => dv f k * 10 + ((f k : Int) - 48)
/-- what digits has read behind k letters -/
def DI (f : Nat → Nat) (m : List Int) (k : Nat) : Prop := m.length = 16 ∧ (∀ x ∈ m, 0 ≤ x ∧ x < 131072) ∧ sv m % pp = dv f k % pp
theorem DI.start (f : Nat → Nat) : DI f Zl 0 := ⟨rfl, by decide, rfl⟩
theorem DI.step {f : Nat → Nat} {m : List Int} {k : Nat} {l : List Int} (h : DI f m k) (hl : l.length = 16) (hd : D16 l) (hv : sv l % pp = (sv m * 10) % pp) (hb : 48 ≤ f k ∧ f k ≤ 57) : DI f (l.set 0 (l.getD 0 0 + ((f k : Int) - 48))) (k + 1) := by
  refine ⟨by simpa using hl, ?_, ?_⟩
  · intro x hx
    rcases List.mem_or_eq_of_mem_set hx with h1 | h1
    · have := hd x h1
      omega
    · have := hd _ (getD_mem (l := l) (i := 0) (by omega))
      omega
  · rw [sv_set l 0 _ (by omega), Int.pow_zero]
    show _ = (dv f k * 10 + ((f k : Int) - 48)) % pp
    have e : sv l + (l.getD 0 0 + ((f k : Int) - 48) - l.getD 0 0) * 1 = sv l + ((f k : Int) - 48) := by omega
    rw [e, Int.add_emod, hv, Int.mul_emod, h.2.2, ← Int.mul_emod, ← Int.add_emod]

set_option maxHeartbeats 2000000 in
theorem digits_ok (s : ByteArray) (L : Nat) (f : Nat → Nat) (hL : s.size = L) (hL2 : L < 1000) (hf : ∀ k (h : k < s.size), (s[k]'h).toNat = f k) (hd : ∀ k, k < L → 48 ≤ f k ∧ f k ≤ 57) (w : World) : Calls Tryd.prog 23 #[.string s] w (RetN (dv f L) w) := by
  go_enter Tryd.func23, Tryd.ntmps23
  go_wp2_with fail
  have hB := ((Bl.nil w).new #[.int .i64 0, .int .i64 0, .int .i64 0, .int .i64 0, .int .i64 0, .int .i64 0, .int .i64 0, .int .i64 0, .int .i64 0, .int .i64 0, .int .i64 0, .int .i64 0, .int .i64 0, .int .i64 0, .int .i64 0, .int .i64 0] 33).new #[.int .i64 0, .int .i64 0, .int .i64 0, .int .i64 0, .int .i64 0, .int .i64 0, .int .i64 0, .int .i64 0, .int .i64 0, .int .i64 0, .int .i64 0, .int .i64 0, .int .i64 0, .int .i64 0, .int .i64 0, .int .i64 0] 33
  simp only [size_alloc, List.nil_append, List.cons_append] at hB
  generalize World.alloc _ _ = u at *
  replace hB : Hid (Bl w [⟨w.heap.size, nc Zl, 33⟩, ⟨w.heap.size + 1, nc Zl, 33⟩] u) := hide hB
  have hm := hide (DI.start f)
  go_loopw [4] (fun i wr => ∃ k : Nat, ∃ m : List Int, k ≤ L ∧ i = .int .i64 k ∧ Hid (DI f m k) ∧ Hid (Bl w [⟨w.heap.size, nc Zl, 33⟩, ⟨w.heap.size + 1, nc m, 33⟩] wr)) (fun i _ => L - (intOf i).toNat)
  case atStart => exact ⟨0, Zl, by omega, rfl, hm, hB⟩
  case round =>
  clear hB hm
  obtain ⟨k, m, hk, rfl, hm, hB⟩ := hrel
  by_cases hkl : k < L
  · have hb := hd k hkl
    have kI : (k : Int) < (L : Int) := by omega
    go_upto_region 5 with fail
    replace hB := unhide hB
    refine wp_region_lit ?_
    refine list_val (.agg (nc m)) (by kernel_rfl) (exec_arr _ 33 (.tmp 3) rfl (w.heap.size + 1) (by kernel_rfl) (nc m) 33 _ (hB.get 1 (x := ⟨w.heap.size + 1, (nc m), 33⟩) rfl) Tryd.underlying33 rfl (by rw [Tryd.infoNum, nc_size, (unhide hm).1])) ?_
    simp only [Act.put, List.setIfInBounds_toArray, List.set_cons_zero, List.set_cons_succ, List.getElem_toArray, List.getElem_cons_zero, List.getElem_cons_succ]
    refine list_call 18 #[.agg (nc m), .int .i64 10] (by kernel_rfl) (by kernel_rfl) ((nSmallW_ok m 10 (by omega) (unhide hm).1 (unhide hm).2.1 _).mono ?_)
    rintro r v1_ ⟨c1, rfl, hc1, hg⟩
    refine ⟨_, rfl, ?_⟩
    replace hB := hB.more hg
    clear hg
    simp only [Act.put, List.setIfInBounds_toArray, List.set_cons_zero, List.set_cons_succ, List.getElem_toArray, List.getElem_cons_zero, List.getElem_cons_succ]
    refine list_store 33 (.tmp 3) (.tmp 12) (w.heap.size + 1) c1 33 (nc m) (by kernel_rfl) rfl (by kernel_rfl) (by kernel_rfl) (hB.get 1 (x := ⟨w.heap.size + 1, (nc m), 33⟩) rfl) (by rw [Tryd.infoNum, NC.size _ hc1]) (((nc_size _).trans (unhide hm).1).trans (NC.size _ hc1).symm) (NC.one _ hc1) ?_
    replace hB := hB.set 1 (x := ⟨w.heap.size + 1, (nc m), 33⟩) rfl c1
    simp only [List.set_cons_zero, List.set_cons_succ] at hB
    generalize World.setRow _ _ _ = v2_ at *
    simp only [Act.put, List.setIfInBounds_toArray, List.set_cons_zero, List.set_cons_succ, List.getElem_toArray, List.getElem_cons_zero, List.getElem_cons_succ]
    refine wpList_nil ?_
    obtain ⟨l, rfl, hl⟩ := hc1
    have hm2 := (unhide hm).step (unhide hl).1 (unhide hl).2.1 (unhide hl).2.2 hb
    have c1 := nc_cell (hB.get 1 (x := ⟨w.heap.size + 1, nc l, 33⟩) rfl) 0 (by rw [(unhide hl).1]; omega)
    have f1 := froz_of (i := 0) (hB.get 1 (x := ⟨w.heap.size + 1, nc l, 33⟩) rfl)
    have b1 := (unhide hl).2.1 _ (getD_mem (l := l) (i := 0) (by rw [(unhide hl).1]; omega))
    have hB2 := Bl.cell hB.drew 1 (x := ⟨w.heap.size + 1, nc l, 33⟩) rfl 0 (.int .i64 (l.getD 0 0 + ((f k : Int) - 48)))
    simp only [List.set_cons_zero, List.set_cons_succ, nc_set] at hB2
    replace hB2 := hide hB2
    replace hm2 := hide hm2
    clear hB
    have ek : (s[k]'(by omega)).toNat = f k := hf k (by omega)
    have w1 : IntKind.u8.wrap ((f k : Int) - 48) = (f k : Int) - 48 := by rw [IntKind.wrap_u8]; omega
    generalize l.getD 0 0 = x at *
    have w2 : ((f k : Int) - 48) % 256 = (f k : Int) - 48 := by omega
    have w3 : wrap64 ((f k : Int) - 48) = (f k : Int) - 48 := by simp only [wrap64]; omega
    have w4 : wrap64 (x + ((f k : Int) - 48)) = x + ((f k : Int) - 48) := by simp only [wrap64]; omega
    go_wp2_with fail
    go_still_tail 9, (by kernel_rfl)
    go_wp2_with fail
    go_roundw
    case rel => exact ⟨k + 1, _, by omega, by go_num, hm2, hB2⟩
    case measure => simp [intOf]; omega
  · have e : k = L := by omega
    subst e
    have kI : ¬ (k : Int) < (k : Int) := by omega
    go_upto_region 7 with fail
    replace hB := unhide hB
    refine wp_region_lit ?_
    refine list_val (.agg (nc m)) (by kernel_rfl) (exec_arr _ 33 (.tmp 3) rfl (w.heap.size + 1) (by kernel_rfl) (nc m) 33 _ (hB.get 1 (x := ⟨w.heap.size + 1, (nc m), 33⟩) rfl) Tryd.underlying33 rfl (by rw [Tryd.infoNum, nc_size, (unhide hm).1])) ?_
    simp only [Act.put, List.setIfInBounds_toArray, List.set_cons_zero, List.set_cons_succ, List.getElem_toArray, List.getElem_cons_zero, List.getElem_cons_succ]
    refine list_call 28 #[.agg (nc m)] (by kernel_rfl) (by kernel_rfl) ((carry_ok m (unhide hm).1 (fun j hj => by have := (unhide hm).2.1 _ (getD_mem (l := m) (i := j) (by rw [(unhide hm).1]; exact hj)); omega) _).mono ?_)
    rintro r v501_ ⟨c2, rfl, hc2, hg⟩
    refine ⟨_, rfl, ?_⟩
    replace hB := hB.more hg
    clear hg
    simp only [Act.put, List.setIfInBounds_toArray, List.set_cons_zero, List.set_cons_succ, List.getElem_toArray, List.getElem_cons_zero, List.getElem_cons_succ]
    refine list_store 33 (.tmp 2) (.tmp 23) w.heap.size c2 33 (nc Zl) (by kernel_rfl) rfl (by kernel_rfl) (by kernel_rfl) (hB.get 0 (x := ⟨w.heap.size, (nc Zl), 33⟩) rfl) (by rw [Tryd.infoNum, NC.size _ hc2]) ((show (nc Zl).size = 16 from rfl).trans (NC.size _ hc2).symm) (NC.one _ hc2) ?_
    replace hB := hB.set 0 (x := ⟨w.heap.size, (nc Zl), 33⟩) rfl c2
    simp only [List.set_cons_zero, List.set_cons_succ] at hB
    generalize World.setRow _ _ _ = v502_ at *
    simp only [Act.put, List.setIfInBounds_toArray, List.set_cons_zero, List.set_cons_succ, List.getElem_toArray, List.getElem_cons_zero, List.getElem_cons_succ]
    refine wpList_nil ?_
    go_wp2_with fail
    exact bodyPost_ret (v := .agg c2) (results_cell_row Tryd.results23 _ _ w.heap.size 33 c2 (0, 0) _ rfl (hB.get 0 (x := ⟨w.heap.size, c2, 33⟩) rfl) Tryd.underlying33 rfl (by rw [Tryd.infoNum, NC.size _ hc2])) rfl ⟨_, rfl, hc2.same (unhide hm).2.2, hB.gr⟩
end Go.Proofs.YtebgmneffpeahaaDoor

/-
  The reference's Low.
-/
namespace Go.Proofs.YtebgmneffpeahaaDoor
open Go.RowKit
set_option maxRecDepth 100000
set_option linter.unusedSimpArgs false

def l8 : List Nat := [51, 50, 53, 54, 48, 54, 50, 53, 48, 57, 49, 54, 53, 53, 55, 52, 51, 49, 55, 57, 53, 57, 56, 51, 54, 50, 54, 51, 53, 54, 49, 49, 48, 54, 51, 49, 50, 57, 52, 48, 48, 56, 49, 49, 53, 55, 50, 55, 56, 52, 56, 56, 48, 53, 53, 54, 48, 48, 50, 51, 51, 56, 55, 49, 54, 55, 57, 50, 55, 50, 51, 51, 53, 48, 52]
def l9 : List Nat := [51, 57, 51, 56, 50, 51, 53, 55, 50, 51, 53, 52, 56, 57, 54, 49, 52, 53, 56, 49, 55, 50, 51, 48, 54, 48, 55, 56, 49, 53, 53, 51, 48, 50, 49, 49, 49, 50, 53, 50, 57, 57, 49, 49, 55, 49, 57, 52, 52, 48, 54, 57, 56, 49, 55, 54, 56, 56, 50, 56, 56, 53, 56, 53, 51, 57, 54, 51, 52, 52, 53, 55, 48, 53, 56, 50, 51]
def s8 : ByteArray := ⟨#[51, 50, 53, 54, 48, 54, 50, 53, 48, 57, 49, 54, 53, 53, 55, 52, 51, 49, 55, 57, 53, 57, 56, 51, 54, 50, 54, 51, 53, 54, 49, 49, 48, 54, 51, 49, 50, 57, 52, 48, 48, 56, 49, 49, 53, 55, 50, 55, 56, 52, 56, 56, 48, 53, 53, 54, 48, 48, 50, 51, 51, 56, 55, 49, 54, 55, 57, 50, 55, 50, 51, 51, 53, 48, 52]⟩
def s9 : ByteArray := ⟨#[51, 57, 51, 56, 50, 51, 53, 55, 50, 51, 53, 52, 56, 57, 54, 49, 52, 53, 56, 49, 55, 50, 51, 48, 54, 48, 55, 56, 49, 53, 53, 51, 48, 50, 49, 49, 49, 50, 53, 50, 57, 57, 49, 49, 55, 49, 57, 52, 52, 48, 54, 57, 56, 49, 55, 54, 56, 56, 50, 56, 56, 53, 56, 53, 51, 57, 54, 51, 52, 52, 53, 55, 48, 53, 56, 50, 51]⟩
theorem s8_get (k : Nat) (h : k < s8.size) : (s8[k]'h).toNat = l8.getD k 0 := by
  have : ∀ k : Fin 75, (s8[k.val]'(by have := k.isLt; exact this)).toNat = l8.getD k.val 0 := by decide +kernel
  exact this ⟨k, h⟩
theorem s9_get (k : Nat) (h : k < s9.size) : (s9[k]'h).toNat = l9.getD k 0 := by
  have : ∀ k : Fin 77, (s9[k.val]'(by have := k.isLt; exact this)).toNat = l9.getD k.val 0 := by decide +kernel
  exact this ⟨k, h⟩
theorem l8_dig (k : Nat) (h : k < 75) : 48 ≤ l8.getD k 0 ∧ l8.getD k 0 ≤ 57 := by
  have : ∀ k : Fin 75, 48 ≤ l8.getD k.val 0 ∧ l8.getD k.val 0 ≤ 57 := by decide +kernel
  exact this ⟨k, h⟩
theorem l9_dig (k : Nat) (h : k < 77) : 48 ≤ l9.getD k 0 ∧ l9.getD k 0 ≤ 57 := by
  have : ∀ k : Fin 77, 48 ≤ l9.getD k.val 0 ∧ l9.getD k.val 0 ≤ 57 := by decide +kernel
  exact this ⟨k, h⟩
theorem dv8 : dv (fun k => l8.getD k 0) 75 = 325606250916557431795983626356110631294008115727848805560023387167927233504 := by decide +kernel
theorem dv9 : dv (fun k => l9.getD k 0) 77 = 39382357235489614581723060781553021112529911719440698176882885853963445705823 := by decide +kernel
theorem dig8_ok (w : World) : Calls Tryd.prog 23 #[.string s8] w (RetN 325606250916557431795983626356110631294008115727848805560023387167927233504 w) := by
  have := digits_ok s8 75 (fun k => l8.getD k 0) rfl (by omega) s8_get l8_dig w
  rw [dv8] at this
  exact this
theorem dig9_ok (w : World) : Calls Tryd.prog 23 #[.string s9] w (RetN 39382357235489614581723060781553021112529911719440698176882885853963445705823 w) := by
  have := digits_ok s9 77 (fun k => l9.getD k 0) rfl (by omega) s9_get l9_dig w
  rw [dv9] at this
  exact this
theorem key_diff {n m : Int} (hn : 0 ≤ n ∧ n < 115792089237316195423570985008687907853269984665640564039457584007913129639936) (hm : 0 ≤ m ∧ m < 115792089237316195423570985008687907853269984665640564039457584007913129639936) (h : n ≠ m) (w : World) : Sem.run Tryd.prog (Op.equalIn 10000 23 (.agg (kc (digs n 32))) (.agg (kc (digs m 32)))) w = .ok false w := by
  rw [key_eq _ _ (digs_len _ _) (digs_len _ _) w]
  have : digs n 32 ≠ digs m 32 := fun e => h (digs_inj n m hn hm e)
  simp [this]

set_option maxHeartbeats 2000000 in
theorem rlow_0 (U : Nat) (hU : U < 115792089237316195423570985008687907853269984665640564039457584007913129639936) (hV : (U : Int) % 57896044618658097711785492504343953926634992332820282019728792003956564819968 % pp = 0) (w : World) :
    Calls Tryd.prog 11 #[.agg (kc (digs (U : Int) 32))] w (fun r w' => r = .returned (.bool true) ∧ Gr w w') := by
  replace hU := hide hU
  replace hV := hide hV
  go_enter Tryd.func11, Tryd.ntmps11
  go_upto_region 1 with fail
  have hB := (Bl.nil w).new (kc (digs (U : Int) 32)) 23
  simp only [List.nil_append] at hB
  generalize World.alloc _ _ = v1_ at *
  refine wp_region_lit ?_
  refine list_val (.agg (kc (digs (U : Int) 32))) (by kernel_rfl) (exec_arr _ 23 (.tmp 1) rfl w.heap.size (by kernel_rfl) (kc (digs (U : Int) 32)) 23 _ (hB.get 0 (x := ⟨w.heap.size, (kc (digs (U : Int) 32)), 23⟩) rfl) Tryd.underlying23 rfl (by rw [Tryd.infoKey, kc32])) ?_
  simp only [Act.put, List.setIfInBounds_toArray, List.set_cons_zero, List.set_cons_succ, List.getElem_toArray, List.getElem_cons_zero, List.getElem_cons_succ]
  refine list_call 14 #[.agg (kc (digs (U : Int) 32))] (by kernel_rfl) (by kernel_rfl) ((rFrom_ok U (unhide hU) _).mono ?_)
  rintro r v2_ ⟨c1, rfl, hc1, hg⟩
  refine ⟨_, rfl, ?_⟩
  replace hB := hB.more hg
  clear hg
  simp only [Act.put, List.setIfInBounds_toArray, List.set_cons_zero, List.set_cons_succ, List.getElem_toArray, List.getElem_cons_zero, List.getElem_cons_succ]
  refine list_call 20 #[.agg c1] (by kernel_rfl) (by kernel_rfl) ((nbytes_nc hc1 _).mono ?_)
  rintro r v3_ ⟨rfl, hg⟩
  refine ⟨_, rfl, ?_⟩
  rw [unhide hV]
  replace hB := hB.more hg
  clear hg
  simp only [Act.put, List.setIfInBounds_toArray, List.set_cons_zero, List.set_cons_succ, List.getElem_toArray, List.getElem_cons_zero, List.getElem_cons_succ]
  refine wpList_step fun K hK => ?_
  replace hK := hide hK
  go_simp
  refine unhide hK _ _ ?_
  clear hK K
  replace hB := hB.new #[.int .u8 0, .int .u8 0, .int .u8 0, .int .u8 0, .int .u8 0, .int .u8 0, .int .u8 0, .int .u8 0, .int .u8 0, .int .u8 0, .int .u8 0, .int .u8 0, .int .u8 0, .int .u8 0, .int .u8 0, .int .u8 0, .int .u8 0, .int .u8 0, .int .u8 0, .int .u8 0, .int .u8 0, .int .u8 0, .int .u8 0, .int .u8 0, .int .u8 0, .int .u8 0, .int .u8 0, .int .u8 0, .int .u8 0, .int .u8 0, .int .u8 0, .int .u8 0] 23
  simp only [List.cons_append, List.nil_append] at hB
  generalize v3_.heap.size = g1_3 at *
  generalize World.alloc _ _ = v4_ at *
  replace hB : Bl w [⟨w.heap.size, (kc (digs (U : Int) 32)), 23⟩, ⟨g1_3, Z32, 23⟩] v4_ := hB
  refine list_store 23 (.tmp 3) (.tmp 6) g1_3 (kc (digs (0 : Int) 32)) 23 Z32 (by kernel_rfl) rfl (by kernel_rfl) (by kernel_rfl) (hB.get 1 (x := ⟨g1_3, Z32, 23⟩) rfl) (by rw [Tryd.infoKey, kc32]) (Z32_size.trans (kc32 (0 : Int) 32).symm) (kc_one _) ?_
  replace hB := hB.set 1 (x := ⟨g1_3, Z32, 23⟩) rfl (kc (digs (0 : Int) 32))
  simp only [List.set_cons_zero, List.set_cons_succ] at hB
  generalize World.setRow _ _ _ = v5_ at *
  simp only [Act.put, List.setIfInBounds_toArray, List.set_cons_zero, List.set_cons_succ, List.getElem_toArray, List.getElem_cons_zero, List.getElem_cons_succ]
  refine wpList_nil ?_
  go_upto_region 2 with fail
  refine any_start (S := fun v => v.heap[g1_3]? = some (.cells (kc (digs (0 : Int) 32)) 23 (0, 0)) ∧ True) (by kernel_rfl) ?_
  replace hB := hB.drew
  generalize World.drew _ = v6_ at *
  simp only [List.size_toArray, List.length_cons, List.length_nil, Array.replicate, List.replicate]
  refine any_take (i := 0) (v := (.agg (kc (digs (0 : Int) 32)))) #[false, false, false, false, false, false, false, false, false, false, false, false, false, false, false, false, false, false, false, false, false, false, false, false, false, false, false, false, false, false, false, false, false, false, false] rfl (by kernel_rfl) (by kernel_rfl) (by kernel_rfl) (by kernel_rfl) (fun _ _ _ h => h) (.inl ⟨by kernel_rfl, fun x_ hu => exec_arr x_ 23 (.tmp 3) rfl g1_3 (by kernel_rfl) (kc (digs (0 : Int) 32)) 23 _ hu.1 Tryd.underlying23 rfl (by rw [Tryd.infoKey, kc32])⟩) ⟨(hB.get 1 (x := ⟨g1_3, (kc (digs (0 : Int) 32)), 23⟩) rfl), trivial⟩ ?_
  simp only [Act.put, List.setIfInBounds_toArray, List.set_cons_zero, List.set_cons_succ, List.getElem_toArray, List.getElem_cons_zero, List.getElem_cons_succ]
  refine any_take (i := 1) (v := (.agg (kc (digs ((0 : Nat) : Int) 32)))) #[true, false, false, false, false, false, false, false, false, false, false, false, false, false, false, false, false, false, false, false, false, false, false, false, false, false, false, false, false, false, false, false, false, false, false] rfl (by kernel_rfl) (by kernel_rfl) (by kernel_rfl) (by kernel_rfl) (fun _ _ _ h => h) (.inl ⟨by kernel_rfl, fun x_ hu => by kernel_rfl⟩) ⟨(hB.get 1 (x := ⟨g1_3, (kc (digs (0 : Int) 32)), 23⟩) rfl), trivial⟩ ?_
  simp only [Act.put, List.setIfInBounds_toArray, List.set_cons_zero, List.set_cons_succ, List.getElem_toArray, List.getElem_cons_zero, List.getElem_cons_succ]
  refine any_one (i := 2) (by kernel_rfl) rfl (fun K hK => ?_)
  refine step_callw (by kernel_rfl) 14 #[.agg (kc (digs ((0 : Nat) : Int) 32))] (by kernel_rfl) ((rFrom_ok 0 (by decide) _).mono ?_)
  rintro r v7_ ⟨c2, rfl, hc2, hg⟩
  refine ⟨_, rfl, ?_⟩
  replace hc2 : NC 0 c2 := NC.same hc2 rfl
  replace hB := hB.more hg
  clear hg
  refine hK.out _ _ ⟨(hB.get 1 (x := ⟨g1_3, (kc (digs (0 : Int) 32)), 23⟩) rfl), trivial⟩ (fun _ => ?_)
  clear hK K
  simp only [Act.put, List.setIfInBounds_toArray, List.set_cons_zero, List.set_cons_succ, List.getElem_toArray, List.getElem_cons_zero, List.getElem_cons_succ]
  refine any_one (i := 3) (by kernel_rfl) rfl (fun K hK => ?_)
  refine step_callw (by kernel_rfl) 20 #[.agg c2] (by kernel_rfl) ((nbytes_nc hc2 _).mono ?_)
  rintro r v8_ ⟨rfl, hg⟩
  refine ⟨_, rfl, ?_⟩
  rw [show (0 : Int) % pp = 0 from by decide]
  replace hB := hB.more hg
  clear hg
  refine hK.out _ _ ⟨(hB.get 1 (x := ⟨g1_3, (kc (digs (0 : Int) 32)), 23⟩) rfl), trivial⟩ (fun _ => ?_)
  clear hK K
  simp only [Act.put, List.setIfInBounds_toArray, List.set_cons_zero, List.set_cons_succ, List.getElem_toArray, List.getElem_cons_zero, List.getElem_cons_succ]
  refine any_take (i := 4) (v := (.bool true)) #[true, true, true, true, false, false, false, false, false, false, false, false, false, false, false, false, false, false, false, false, false, false, false, false, false, false, false, false, false, false, false, false, false, false, false] rfl (by kernel_rfl) (by kernel_rfl) (by kernel_rfl) (by kernel_rfl) (fun _ _ _ h => h) (.inl ⟨by kernel_rfl, fun x_ hu => by have e := key_same (0 : Int); go_simp⟩) ⟨(hB.get 1 (x := ⟨g1_3, (kc (digs (0 : Int) 32)), 23⟩) rfl), trivial⟩ ?_
  simp only [Act.put, List.setIfInBounds_toArray, List.set_cons_zero, List.set_cons_succ, List.getElem_toArray, List.getElem_cons_zero, List.getElem_cons_succ]
  refine any_take (i := 5) (v := (.bool true)) #[true, true, true, true, true, false, false, false, false, false, false, false, false, false, false, false, false, false, false, false, false, false, false, false, false, false, false, false, false, false, false, false, false, false, false] rfl (by kernel_rfl) (by kernel_rfl) (by kernel_rfl) (by kernel_rfl) (fun _ _ _ h => h) (.inl ⟨by kernel_rfl, fun x_ hu => by kernel_rfl⟩) ⟨(hB.get 1 (x := ⟨g1_3, (kc (digs (0 : Int) 32)), 23⟩) rfl), trivial⟩ ?_
  simp only [Act.put, List.setIfInBounds_toArray, List.set_cons_zero, List.set_cons_succ, List.getElem_toArray, List.getElem_cons_zero, List.getElem_cons_succ]
  refine any_take (i := 6) (v := undef) #[true, true, true, true, true, true, false, false, false, false, false, false, false, false, false, false, false, false, false, false, false, false, false, false, false, false, false, false, false, false, false, false, false, false, false] rfl (by kernel_rfl) (by kernel_rfl) (by kernel_rfl) (by kernel_rfl) (fun _ _ _ h => h) (.inr ⟨by kernel_rfl, rfl⟩) ⟨(hB.get 1 (x := ⟨g1_3, (kc (digs (0 : Int) 32)), 23⟩) rfl), trivial⟩ ?_
  simp only [Act.put, List.setIfInBounds_toArray, List.set_cons_zero, List.set_cons_succ, List.getElem_toArray, List.getElem_cons_zero, List.getElem_cons_succ]
  refine any_take (i := 7) (v := undef) #[true, true, true, true, true, true, true, false, false, false, false, false, false, false, false, false, false, false, false, false, false, false, false, false, false, false, false, false, false, false, false, false, false, false, false] rfl (by kernel_rfl) (by kernel_rfl) (by kernel_rfl) (by kernel_rfl) (fun _ _ _ h => h) (.inr ⟨by kernel_rfl, rfl⟩) ⟨(hB.get 1 (x := ⟨g1_3, (kc (digs (0 : Int) 32)), 23⟩) rfl), trivial⟩ ?_
  simp only [Act.put, List.setIfInBounds_toArray, List.set_cons_zero, List.set_cons_succ, List.getElem_toArray, List.getElem_cons_zero, List.getElem_cons_succ]
  refine any_take (i := 8) (v := undef) #[true, true, true, true, true, true, true, true, false, false, false, false, false, false, false, false, false, false, false, false, false, false, false, false, false, false, false, false, false, false, false, false, false, false, false] rfl (by kernel_rfl) (by kernel_rfl) (by kernel_rfl) (by kernel_rfl) (fun _ _ _ h => h) (.inr ⟨by kernel_rfl, rfl⟩) ⟨(hB.get 1 (x := ⟨g1_3, (kc (digs (0 : Int) 32)), 23⟩) rfl), trivial⟩ ?_
  simp only [Act.put, List.setIfInBounds_toArray, List.set_cons_zero, List.set_cons_succ, List.getElem_toArray, List.getElem_cons_zero, List.getElem_cons_succ]
  refine any_take (i := 9) (v := undef) #[true, true, true, true, true, true, true, true, true, false, false, false, false, false, false, false, false, false, false, false, false, false, false, false, false, false, false, false, false, false, false, false, false, false, false] rfl (by kernel_rfl) (by kernel_rfl) (by kernel_rfl) (by kernel_rfl) (fun _ _ _ h => h) (.inr ⟨by kernel_rfl, rfl⟩) ⟨(hB.get 1 (x := ⟨g1_3, (kc (digs (0 : Int) 32)), 23⟩) rfl), trivial⟩ ?_
  simp only [Act.put, List.setIfInBounds_toArray, List.set_cons_zero, List.set_cons_succ, List.getElem_toArray, List.getElem_cons_zero, List.getElem_cons_succ]
  refine any_take (i := 10) (v := undef) #[true, true, true, true, true, true, true, true, true, true, false, false, false, false, false, false, false, false, false, false, false, false, false, false, false, false, false, false, false, false, false, false, false, false, false] rfl (by kernel_rfl) (by kernel_rfl) (by kernel_rfl) (by kernel_rfl) (fun _ _ _ h => h) (.inr ⟨by kernel_rfl, rfl⟩) ⟨(hB.get 1 (x := ⟨g1_3, (kc (digs (0 : Int) 32)), 23⟩) rfl), trivial⟩ ?_
  simp only [Act.put, List.setIfInBounds_toArray, List.set_cons_zero, List.set_cons_succ, List.getElem_toArray, List.getElem_cons_zero, List.getElem_cons_succ]
  refine any_take (i := 11) (v := (.bool true)) #[true, true, true, true, true, true, true, true, true, true, true, false, false, false, false, false, false, false, false, false, false, false, false, false, false, false, false, false, false, false, false, false, false, false, false] rfl (by kernel_rfl) (by kernel_rfl) (by kernel_rfl) (by kernel_rfl) (fun _ _ _ h => h) (.inl ⟨by kernel_rfl, fun x_ hu => by kernel_rfl⟩) ⟨(hB.get 1 (x := ⟨g1_3, (kc (digs (0 : Int) 32)), 23⟩) rfl), trivial⟩ ?_
  simp only [Act.put, List.setIfInBounds_toArray, List.set_cons_zero, List.set_cons_succ, List.getElem_toArray, List.getElem_cons_zero, List.getElem_cons_succ]
  refine any_take (i := 12) (v := (.bool true)) #[true, true, true, true, true, true, true, true, true, true, true, true, false, false, false, false, false, false, false, false, false, false, false, false, false, false, false, false, false, false, false, false, false, false, false] rfl (by kernel_rfl) (by kernel_rfl) (by kernel_rfl) (by kernel_rfl) (fun _ _ _ h => h) (.inl ⟨by kernel_rfl, fun x_ hu => by kernel_rfl⟩) ⟨(hB.get 1 (x := ⟨g1_3, (kc (digs (0 : Int) 32)), 23⟩) rfl), trivial⟩ ?_
  simp only [Act.put, List.setIfInBounds_toArray, List.set_cons_zero, List.set_cons_succ, List.getElem_toArray, List.getElem_cons_zero, List.getElem_cons_succ]
  refine any_take (i := 13) (v := undef) #[true, true, true, true, true, true, true, true, true, true, true, true, true, false, false, false, false, false, false, false, false, false, false, false, false, false, false, false, false, false, false, false, false, false, false] rfl (by kernel_rfl) (by kernel_rfl) (by kernel_rfl) (by kernel_rfl) (fun _ _ _ h => h) (.inr ⟨by kernel_rfl, rfl⟩) ⟨(hB.get 1 (x := ⟨g1_3, (kc (digs (0 : Int) 32)), 23⟩) rfl), trivial⟩ ?_
  simp only [Act.put, List.setIfInBounds_toArray, List.set_cons_zero, List.set_cons_succ, List.getElem_toArray, List.getElem_cons_zero, List.getElem_cons_succ]
  refine any_take (i := 14) (v := undef) #[true, true, true, true, true, true, true, true, true, true, true, true, true, true, false, false, false, false, false, false, false, false, false, false, false, false, false, false, false, false, false, false, false, false, false] rfl (by kernel_rfl) (by kernel_rfl) (by kernel_rfl) (by kernel_rfl) (fun _ _ _ h => h) (.inr ⟨by kernel_rfl, rfl⟩) ⟨(hB.get 1 (x := ⟨g1_3, (kc (digs (0 : Int) 32)), 23⟩) rfl), trivial⟩ ?_
  simp only [Act.put, List.setIfInBounds_toArray, List.set_cons_zero, List.set_cons_succ, List.getElem_toArray, List.getElem_cons_zero, List.getElem_cons_succ]
  refine any_take (i := 15) (v := undef) #[true, true, true, true, true, true, true, true, true, true, true, true, true, true, true, false, false, false, false, false, false, false, false, false, false, false, false, false, false, false, false, false, false, false, false] rfl (by kernel_rfl) (by kernel_rfl) (by kernel_rfl) (by kernel_rfl) (fun _ _ _ h => h) (.inr ⟨by kernel_rfl, rfl⟩) ⟨(hB.get 1 (x := ⟨g1_3, (kc (digs (0 : Int) 32)), 23⟩) rfl), trivial⟩ ?_
  simp only [Act.put, List.setIfInBounds_toArray, List.set_cons_zero, List.set_cons_succ, List.getElem_toArray, List.getElem_cons_zero, List.getElem_cons_succ]
  refine any_take (i := 16) (v := undef) #[true, true, true, true, true, true, true, true, true, true, true, true, true, true, true, true, false, false, false, false, false, false, false, false, false, false, false, false, false, false, false, false, false, false, false] rfl (by kernel_rfl) (by kernel_rfl) (by kernel_rfl) (by kernel_rfl) (fun _ _ _ h => h) (.inr ⟨by kernel_rfl, rfl⟩) ⟨(hB.get 1 (x := ⟨g1_3, (kc (digs (0 : Int) 32)), 23⟩) rfl), trivial⟩ ?_
  simp only [Act.put, List.setIfInBounds_toArray, List.set_cons_zero, List.set_cons_succ, List.getElem_toArray, List.getElem_cons_zero, List.getElem_cons_succ]
  refine any_take (i := 17) (v := undef) #[true, true, true, true, true, true, true, true, true, true, true, true, true, true, true, true, true, false, false, false, false, false, false, false, false, false, false, false, false, false, false, false, false, false, false] rfl (by kernel_rfl) (by kernel_rfl) (by kernel_rfl) (by kernel_rfl) (fun _ _ _ h => h) (.inr ⟨by kernel_rfl, rfl⟩) ⟨(hB.get 1 (x := ⟨g1_3, (kc (digs (0 : Int) 32)), 23⟩) rfl), trivial⟩ ?_
  simp only [Act.put, List.setIfInBounds_toArray, List.set_cons_zero, List.set_cons_succ, List.getElem_toArray, List.getElem_cons_zero, List.getElem_cons_succ]
  refine any_take (i := 18) (v := undef) #[true, true, true, true, true, true, true, true, true, true, true, true, true, true, true, true, true, true, false, false, false, false, false, false, false, false, false, false, false, false, false, false, false, false, false] rfl (by kernel_rfl) (by kernel_rfl) (by kernel_rfl) (by kernel_rfl) (fun _ _ _ h => h) (.inr ⟨by kernel_rfl, rfl⟩) ⟨(hB.get 1 (x := ⟨g1_3, (kc (digs (0 : Int) 32)), 23⟩) rfl), trivial⟩ ?_
  simp only [Act.put, List.setIfInBounds_toArray, List.set_cons_zero, List.set_cons_succ, List.getElem_toArray, List.getElem_cons_zero, List.getElem_cons_succ]
  refine any_take (i := 19) (v := undef) #[true, true, true, true, true, true, true, true, true, true, true, true, true, true, true, true, true, true, true, false, false, false, false, false, false, false, false, false, false, false, false, false, false, false, false] rfl (by kernel_rfl) (by kernel_rfl) (by kernel_rfl) (by kernel_rfl) (fun _ _ _ h => h) (.inr ⟨by kernel_rfl, rfl⟩) ⟨(hB.get 1 (x := ⟨g1_3, (kc (digs (0 : Int) 32)), 23⟩) rfl), trivial⟩ ?_
  simp only [Act.put, List.setIfInBounds_toArray, List.set_cons_zero, List.set_cons_succ, List.getElem_toArray, List.getElem_cons_zero, List.getElem_cons_succ]
  refine any_take (i := 20) (v := undef) #[true, true, true, true, true, true, true, true, true, true, true, true, true, true, true, true, true, true, true, true, false, false, false, false, false, false, false, false, false, false, false, false, false, false, false] rfl (by kernel_rfl) (by kernel_rfl) (by kernel_rfl) (by kernel_rfl) (fun _ _ _ h => h) (.inr ⟨by kernel_rfl, rfl⟩) ⟨(hB.get 1 (x := ⟨g1_3, (kc (digs (0 : Int) 32)), 23⟩) rfl), trivial⟩ ?_
  simp only [Act.put, List.setIfInBounds_toArray, List.set_cons_zero, List.set_cons_succ, List.getElem_toArray, List.getElem_cons_zero, List.getElem_cons_succ]
  refine any_take (i := 21) (v := (.bool true)) #[true, true, true, true, true, true, true, true, true, true, true, true, true, true, true, true, true, true, true, true, true, false, false, false, false, false, false, false, false, false, false, false, false, false, false] rfl (by kernel_rfl) (by kernel_rfl) (by kernel_rfl) (by kernel_rfl) (fun _ _ _ h => h) (.inl ⟨by kernel_rfl, fun x_ hu => by kernel_rfl⟩) ⟨(hB.get 1 (x := ⟨g1_3, (kc (digs (0 : Int) 32)), 23⟩) rfl), trivial⟩ ?_
  simp only [Act.put, List.setIfInBounds_toArray, List.set_cons_zero, List.set_cons_succ, List.getElem_toArray, List.getElem_cons_zero, List.getElem_cons_succ]
  refine any_take (i := 22) (v := (.bool true)) #[true, true, true, true, true, true, true, true, true, true, true, true, true, true, true, true, true, true, true, true, true, true, false, false, false, false, false, false, false, false, false, false, false, false, false] rfl (by kernel_rfl) (by kernel_rfl) (by kernel_rfl) (by kernel_rfl) (fun _ _ _ h => h) (.inl ⟨by kernel_rfl, fun x_ hu => by kernel_rfl⟩) ⟨(hB.get 1 (x := ⟨g1_3, (kc (digs (0 : Int) 32)), 23⟩) rfl), trivial⟩ ?_
  simp only [Act.put, List.setIfInBounds_toArray, List.set_cons_zero, List.set_cons_succ, List.getElem_toArray, List.getElem_cons_zero, List.getElem_cons_succ]
  refine any_take (i := 23) (v := undef) #[true, true, true, true, true, true, true, true, true, true, true, true, true, true, true, true, true, true, true, true, true, true, true, false, false, false, false, false, false, false, false, false, false, false, false] rfl (by kernel_rfl) (by kernel_rfl) (by kernel_rfl) (by kernel_rfl) (fun _ _ _ h => h) (.inr ⟨by kernel_rfl, rfl⟩) ⟨(hB.get 1 (x := ⟨g1_3, (kc (digs (0 : Int) 32)), 23⟩) rfl), trivial⟩ ?_
  simp only [Act.put, List.setIfInBounds_toArray, List.set_cons_zero, List.set_cons_succ, List.getElem_toArray, List.getElem_cons_zero, List.getElem_cons_succ]
  refine any_take (i := 24) (v := undef) #[true, true, true, true, true, true, true, true, true, true, true, true, true, true, true, true, true, true, true, true, true, true, true, true, false, false, false, false, false, false, false, false, false, false, false] rfl (by kernel_rfl) (by kernel_rfl) (by kernel_rfl) (by kernel_rfl) (fun _ _ _ h => h) (.inr ⟨by kernel_rfl, rfl⟩) ⟨(hB.get 1 (x := ⟨g1_3, (kc (digs (0 : Int) 32)), 23⟩) rfl), trivial⟩ ?_
  simp only [Act.put, List.setIfInBounds_toArray, List.set_cons_zero, List.set_cons_succ, List.getElem_toArray, List.getElem_cons_zero, List.getElem_cons_succ]
  refine any_take (i := 25) (v := undef) #[true, true, true, true, true, true, true, true, true, true, true, true, true, true, true, true, true, true, true, true, true, true, true, true, true, false, false, false, false, false, false, false, false, false, false] rfl (by kernel_rfl) (by kernel_rfl) (by kernel_rfl) (by kernel_rfl) (fun _ _ _ h => h) (.inr ⟨by kernel_rfl, rfl⟩) ⟨(hB.get 1 (x := ⟨g1_3, (kc (digs (0 : Int) 32)), 23⟩) rfl), trivial⟩ ?_
  simp only [Act.put, List.setIfInBounds_toArray, List.set_cons_zero, List.set_cons_succ, List.getElem_toArray, List.getElem_cons_zero, List.getElem_cons_succ]
  refine any_take (i := 26) (v := undef) #[true, true, true, true, true, true, true, true, true, true, true, true, true, true, true, true, true, true, true, true, true, true, true, true, true, true, false, false, false, false, false, false, false, false, false] rfl (by kernel_rfl) (by kernel_rfl) (by kernel_rfl) (by kernel_rfl) (fun _ _ _ h => h) (.inr ⟨by kernel_rfl, rfl⟩) ⟨(hB.get 1 (x := ⟨g1_3, (kc (digs (0 : Int) 32)), 23⟩) rfl), trivial⟩ ?_
  simp only [Act.put, List.setIfInBounds_toArray, List.set_cons_zero, List.set_cons_succ, List.getElem_toArray, List.getElem_cons_zero, List.getElem_cons_succ]
  refine any_take (i := 27) (v := (.bool true)) #[true, true, true, true, true, true, true, true, true, true, true, true, true, true, true, true, true, true, true, true, true, true, true, true, true, true, true, false, false, false, false, false, false, false, false] rfl (by kernel_rfl) (by kernel_rfl) (by kernel_rfl) (by kernel_rfl) (fun _ _ _ h => h) (.inl ⟨by kernel_rfl, fun x_ hu => by kernel_rfl⟩) ⟨(hB.get 1 (x := ⟨g1_3, (kc (digs (0 : Int) 32)), 23⟩) rfl), trivial⟩ ?_
  simp only [Act.put, List.setIfInBounds_toArray, List.set_cons_zero, List.set_cons_succ, List.getElem_toArray, List.getElem_cons_zero, List.getElem_cons_succ]
  refine any_take (i := 28) (v := (.bool true)) #[true, true, true, true, true, true, true, true, true, true, true, true, true, true, true, true, true, true, true, true, true, true, true, true, true, true, true, true, false, false, false, false, false, false, false] rfl (by kernel_rfl) (by kernel_rfl) (by kernel_rfl) (by kernel_rfl) (fun _ _ _ h => h) (.inl ⟨by kernel_rfl, fun x_ hu => by kernel_rfl⟩) ⟨(hB.get 1 (x := ⟨g1_3, (kc (digs (0 : Int) 32)), 23⟩) rfl), trivial⟩ ?_
  simp only [Act.put, List.setIfInBounds_toArray, List.set_cons_zero, List.set_cons_succ, List.getElem_toArray, List.getElem_cons_zero, List.getElem_cons_succ]
  refine any_take (i := 29) (v := undef) #[true, true, true, true, true, true, true, true, true, true, true, true, true, true, true, true, true, true, true, true, true, true, true, true, true, true, true, true, true, false, false, false, false, false, false] rfl (by kernel_rfl) (by kernel_rfl) (by kernel_rfl) (by kernel_rfl) (fun _ _ _ h => h) (.inr ⟨by kernel_rfl, rfl⟩) ⟨(hB.get 1 (x := ⟨g1_3, (kc (digs (0 : Int) 32)), 23⟩) rfl), trivial⟩ ?_
  simp only [Act.put, List.setIfInBounds_toArray, List.set_cons_zero, List.set_cons_succ, List.getElem_toArray, List.getElem_cons_zero, List.getElem_cons_succ]
  refine any_take (i := 30) (v := undef) #[true, true, true, true, true, true, true, true, true, true, true, true, true, true, true, true, true, true, true, true, true, true, true, true, true, true, true, true, true, true, false, false, false, false, false] rfl (by kernel_rfl) (by kernel_rfl) (by kernel_rfl) (by kernel_rfl) (fun _ _ _ h => h) (.inr ⟨by kernel_rfl, rfl⟩) ⟨(hB.get 1 (x := ⟨g1_3, (kc (digs (0 : Int) 32)), 23⟩) rfl), trivial⟩ ?_
  simp only [Act.put, List.setIfInBounds_toArray, List.set_cons_zero, List.set_cons_succ, List.getElem_toArray, List.getElem_cons_zero, List.getElem_cons_succ]
  refine any_take (i := 31) (v := undef) #[true, true, true, true, true, true, true, true, true, true, true, true, true, true, true, true, true, true, true, true, true, true, true, true, true, true, true, true, true, true, true, false, false, false, false] rfl (by kernel_rfl) (by kernel_rfl) (by kernel_rfl) (by kernel_rfl) (fun _ _ _ h => h) (.inr ⟨by kernel_rfl, rfl⟩) ⟨(hB.get 1 (x := ⟨g1_3, (kc (digs (0 : Int) 32)), 23⟩) rfl), trivial⟩ ?_
  simp only [Act.put, List.setIfInBounds_toArray, List.set_cons_zero, List.set_cons_succ, List.getElem_toArray, List.getElem_cons_zero, List.getElem_cons_succ]
  refine any_take (i := 32) (v := undef) #[true, true, true, true, true, true, true, true, true, true, true, true, true, true, true, true, true, true, true, true, true, true, true, true, true, true, true, true, true, true, true, true, false, false, false] rfl (by kernel_rfl) (by kernel_rfl) (by kernel_rfl) (by kernel_rfl) (fun _ _ _ h => h) (.inr ⟨by kernel_rfl, rfl⟩) ⟨(hB.get 1 (x := ⟨g1_3, (kc (digs (0 : Int) 32)), 23⟩) rfl), trivial⟩ ?_
  simp only [Act.put, List.setIfInBounds_toArray, List.set_cons_zero, List.set_cons_succ, List.getElem_toArray, List.getElem_cons_zero, List.getElem_cons_succ]
  refine any_take (i := 33) (v := (.bool true)) #[true, true, true, true, true, true, true, true, true, true, true, true, true, true, true, true, true, true, true, true, true, true, true, true, true, true, true, true, true, true, true, true, true, false, false] rfl (by kernel_rfl) (by kernel_rfl) (by kernel_rfl) (by kernel_rfl) (fun _ _ _ h => h) (.inl ⟨by kernel_rfl, fun x_ hu => by kernel_rfl⟩) ⟨(hB.get 1 (x := ⟨g1_3, (kc (digs (0 : Int) 32)), 23⟩) rfl), trivial⟩ ?_
  simp only [Act.put, List.setIfInBounds_toArray, List.set_cons_zero, List.set_cons_succ, List.getElem_toArray, List.getElem_cons_zero, List.getElem_cons_succ]
  refine any_one (i := 34) (by kernel_rfl) rfl (fun K hK => ?_)
  replace hK := hide hK
  go_simp
  refine (unhide hK).out _ _ ⟨(hB.get 1 (x := ⟨g1_3, (kc (digs (0 : Int) 32)), 23⟩) rfl), trivial⟩ (fun _ => ?_)
  clear hK K
  refine any_done (by kernel_rfl) ?_
  have hG := hide hB.gr
  clear hB
  go_wp2_with fail
  refine bodyPost_ret (v := .bool true) ?_ rfl ⟨rfl, unhide hG⟩
  simp [results, Tryd.results11, go_sem]

set_option maxHeartbeats 2000000 in
theorem rlow_1 (U : Nat) (hU : U < 115792089237316195423570985008687907853269984665640564039457584007913129639936) (hV : (U : Int) % 57896044618658097711785492504343953926634992332820282019728792003956564819968 % pp = 1) (w : World) :
    Calls Tryd.prog 11 #[.agg (kc (digs (U : Int) 32))] w (fun r w' => r = .returned (.bool true) ∧ Gr w w') := by
  replace hU := hide hU
  replace hV := hide hV
  go_enter Tryd.func11, Tryd.ntmps11
  go_upto_region 1 with fail
  have hB := (Bl.nil w).new (kc (digs (U : Int) 32)) 23
  simp only [List.nil_append] at hB
  generalize World.alloc _ _ = v1_ at *
  refine wp_region_lit ?_
  refine list_val (.agg (kc (digs (U : Int) 32))) (by kernel_rfl) (exec_arr _ 23 (.tmp 1) rfl w.heap.size (by kernel_rfl) (kc (digs (U : Int) 32)) 23 _ (hB.get 0 (x := ⟨w.heap.size, (kc (digs (U : Int) 32)), 23⟩) rfl) Tryd.underlying23 rfl (by rw [Tryd.infoKey, kc32])) ?_
  simp only [Act.put, List.setIfInBounds_toArray, List.set_cons_zero, List.set_cons_succ, List.getElem_toArray, List.getElem_cons_zero, List.getElem_cons_succ]
  refine list_call 14 #[.agg (kc (digs (U : Int) 32))] (by kernel_rfl) (by kernel_rfl) ((rFrom_ok U (unhide hU) _).mono ?_)
  rintro r v2_ ⟨c1, rfl, hc1, hg⟩
  refine ⟨_, rfl, ?_⟩
  replace hB := hB.more hg
  clear hg
  simp only [Act.put, List.setIfInBounds_toArray, List.set_cons_zero, List.set_cons_succ, List.getElem_toArray, List.getElem_cons_zero, List.getElem_cons_succ]
  refine list_call 20 #[.agg c1] (by kernel_rfl) (by kernel_rfl) ((nbytes_nc hc1 _).mono ?_)
  rintro r v3_ ⟨rfl, hg⟩
  refine ⟨_, rfl, ?_⟩
  rw [unhide hV]
  replace hB := hB.more hg
  clear hg
  simp only [Act.put, List.setIfInBounds_toArray, List.set_cons_zero, List.set_cons_succ, List.getElem_toArray, List.getElem_cons_zero, List.getElem_cons_succ]
  refine wpList_step fun K hK => ?_
  replace hK := hide hK
  go_simp
  refine unhide hK _ _ ?_
  clear hK K
  replace hB := hB.new #[.int .u8 0, .int .u8 0, .int .u8 0, .int .u8 0, .int .u8 0, .int .u8 0, .int .u8 0, .int .u8 0, .int .u8 0, .int .u8 0, .int .u8 0, .int .u8 0, .int .u8 0, .int .u8 0, .int .u8 0, .int .u8 0, .int .u8 0, .int .u8 0, .int .u8 0, .int .u8 0, .int .u8 0, .int .u8 0, .int .u8 0, .int .u8 0, .int .u8 0, .int .u8 0, .int .u8 0, .int .u8 0, .int .u8 0, .int .u8 0, .int .u8 0, .int .u8 0] 23
  simp only [List.cons_append, List.nil_append] at hB
  generalize v3_.heap.size = g1_3 at *
  generalize World.alloc _ _ = v4_ at *
  replace hB : Bl w [⟨w.heap.size, (kc (digs (U : Int) 32)), 23⟩, ⟨g1_3, Z32, 23⟩] v4_ := hB
  refine list_store 23 (.tmp 3) (.tmp 6) g1_3 (kc (digs (1 : Int) 32)) 23 Z32 (by kernel_rfl) rfl (by kernel_rfl) (by kernel_rfl) (hB.get 1 (x := ⟨g1_3, Z32, 23⟩) rfl) (by rw [Tryd.infoKey, kc32]) (Z32_size.trans (kc32 (1 : Int) 32).symm) (kc_one _) ?_
  replace hB := hB.set 1 (x := ⟨g1_3, Z32, 23⟩) rfl (kc (digs (1 : Int) 32))
  simp only [List.set_cons_zero, List.set_cons_succ] at hB
  generalize World.setRow _ _ _ = v5_ at *
  simp only [Act.put, List.setIfInBounds_toArray, List.set_cons_zero, List.set_cons_succ, List.getElem_toArray, List.getElem_cons_zero, List.getElem_cons_succ]
  refine wpList_nil ?_
  go_upto_region 2 with fail
  refine any_start (S := fun v => v.heap[g1_3]? = some (.cells (kc (digs (1 : Int) 32)) 23 (0, 0)) ∧ True) (by kernel_rfl) ?_
  replace hB := hB.drew
  generalize World.drew _ = v6_ at *
  simp only [List.size_toArray, List.length_cons, List.length_nil, Array.replicate, List.replicate]
  refine any_take (i := 0) (v := (.agg (kc (digs (1 : Int) 32)))) #[false, false, false, false, false, false, false, false, false, false, false, false, false, false, false, false, false, false, false, false, false, false, false, false, false, false, false, false, false, false, false, false, false, false, false] rfl (by kernel_rfl) (by kernel_rfl) (by kernel_rfl) (by kernel_rfl) (fun _ _ _ h => h) (.inl ⟨by kernel_rfl, fun x_ hu => exec_arr x_ 23 (.tmp 3) rfl g1_3 (by kernel_rfl) (kc (digs (1 : Int) 32)) 23 _ hu.1 Tryd.underlying23 rfl (by rw [Tryd.infoKey, kc32])⟩) ⟨(hB.get 1 (x := ⟨g1_3, (kc (digs (1 : Int) 32)), 23⟩) rfl), trivial⟩ ?_
  simp only [Act.put, List.setIfInBounds_toArray, List.set_cons_zero, List.set_cons_succ, List.getElem_toArray, List.getElem_cons_zero, List.getElem_cons_succ]
  refine any_take (i := 1) (v := (.agg (kc (digs ((0 : Nat) : Int) 32)))) #[true, false, false, false, false, false, false, false, false, false, false, false, false, false, false, false, false, false, false, false, false, false, false, false, false, false, false, false, false, false, false, false, false, false, false] rfl (by kernel_rfl) (by kernel_rfl) (by kernel_rfl) (by kernel_rfl) (fun _ _ _ h => h) (.inl ⟨by kernel_rfl, fun x_ hu => by kernel_rfl⟩) ⟨(hB.get 1 (x := ⟨g1_3, (kc (digs (1 : Int) 32)), 23⟩) rfl), trivial⟩ ?_
  simp only [Act.put, List.setIfInBounds_toArray, List.set_cons_zero, List.set_cons_succ, List.getElem_toArray, List.getElem_cons_zero, List.getElem_cons_succ]
  refine any_one (i := 2) (by kernel_rfl) rfl (fun K hK => ?_)
  refine step_callw (by kernel_rfl) 14 #[.agg (kc (digs ((0 : Nat) : Int) 32))] (by kernel_rfl) ((rFrom_ok 0 (by decide) _).mono ?_)
  rintro r v7_ ⟨c2, rfl, hc2, hg⟩
  refine ⟨_, rfl, ?_⟩
  replace hc2 : NC 0 c2 := NC.same hc2 rfl
  replace hB := hB.more hg
  clear hg
  refine hK.out _ _ ⟨(hB.get 1 (x := ⟨g1_3, (kc (digs (1 : Int) 32)), 23⟩) rfl), trivial⟩ (fun _ => ?_)
  clear hK K
  simp only [Act.put, List.setIfInBounds_toArray, List.set_cons_zero, List.set_cons_succ, List.getElem_toArray, List.getElem_cons_zero, List.getElem_cons_succ]
  refine any_one (i := 3) (by kernel_rfl) rfl (fun K hK => ?_)
  refine step_callw (by kernel_rfl) 20 #[.agg c2] (by kernel_rfl) ((nbytes_nc hc2 _).mono ?_)
  rintro r v8_ ⟨rfl, hg⟩
  refine ⟨_, rfl, ?_⟩
  rw [show (0 : Int) % pp = 0 from by decide]
  replace hB := hB.more hg
  clear hg
  refine hK.out _ _ ⟨(hB.get 1 (x := ⟨g1_3, (kc (digs (1 : Int) 32)), 23⟩) rfl), trivial⟩ (fun _ => ?_)
  clear hK K
  simp only [Act.put, List.setIfInBounds_toArray, List.set_cons_zero, List.set_cons_succ, List.getElem_toArray, List.getElem_cons_zero, List.getElem_cons_succ]
  refine any_take (i := 4) (v := (.bool false)) #[true, true, true, true, false, false, false, false, false, false, false, false, false, false, false, false, false, false, false, false, false, false, false, false, false, false, false, false, false, false, false, false, false, false, false] rfl (by kernel_rfl) (by kernel_rfl) (by kernel_rfl) (by kernel_rfl) (fun _ _ _ h => h) (.inl ⟨by kernel_rfl, fun x_ hu => by have e := key_diff (n := 1) (m := 0) (by omega) (by omega) (by decide); go_simp⟩) ⟨(hB.get 1 (x := ⟨g1_3, (kc (digs (1 : Int) 32)), 23⟩) rfl), trivial⟩ ?_
  simp only [Act.put, List.setIfInBounds_toArray, List.set_cons_zero, List.set_cons_succ, List.getElem_toArray, List.getElem_cons_zero, List.getElem_cons_succ]
  refine any_take (i := 5) (v := (.bool false)) #[true, true, true, true, true, false, false, false, false, false, false, false, false, false, false, false, false, false, false, false, false, false, false, false, false, false, false, false, false, false, false, false, false, false, false] rfl (by kernel_rfl) (by kernel_rfl) (by kernel_rfl) (by kernel_rfl) (fun _ _ _ h => h) (.inl ⟨by kernel_rfl, fun x_ hu => by kernel_rfl⟩) ⟨(hB.get 1 (x := ⟨g1_3, (kc (digs (1 : Int) 32)), 23⟩) rfl), trivial⟩ ?_
  simp only [Act.put, List.setIfInBounds_toArray, List.set_cons_zero, List.set_cons_succ, List.getElem_toArray, List.getElem_cons_zero, List.getElem_cons_succ]
  refine any_take (i := 6) (v := (.agg (kc (digs (1 : Int) 32)))) #[true, true, true, true, true, true, false, false, false, false, false, false, false, false, false, false, false, false, false, false, false, false, false, false, false, false, false, false, false, false, false, false, false, false, false] rfl (by kernel_rfl) (by kernel_rfl) (by kernel_rfl) (by kernel_rfl) (fun _ _ _ h => h) (.inl ⟨by kernel_rfl, fun x_ hu => exec_arr x_ 23 (.tmp 3) rfl g1_3 (by kernel_rfl) (kc (digs (1 : Int) 32)) 23 _ hu.1 Tryd.underlying23 rfl (by rw [Tryd.infoKey, kc32])⟩) ⟨(hB.get 1 (x := ⟨g1_3, (kc (digs (1 : Int) 32)), 23⟩) rfl), trivial⟩ ?_
  simp only [Act.put, List.setIfInBounds_toArray, List.set_cons_zero, List.set_cons_succ, List.getElem_toArray, List.getElem_cons_zero, List.getElem_cons_succ]
  refine any_take (i := 7) (v := (.agg (kc (digs ((1 : Nat) : Int) 32)))) #[true, true, true, true, true, true, true, false, false, false, false, false, false, false, false, false, false, false, false, false, false, false, false, false, false, false, false, false, false, false, false, false, false, false, false] rfl (by kernel_rfl) (by kernel_rfl) (by kernel_rfl) (by kernel_rfl) (fun _ _ _ h => h) (.inl ⟨by kernel_rfl, fun x_ hu => by kernel_rfl⟩) ⟨(hB.get 1 (x := ⟨g1_3, (kc (digs (1 : Int) 32)), 23⟩) rfl), trivial⟩ ?_
  simp only [Act.put, List.setIfInBounds_toArray, List.set_cons_zero, List.set_cons_succ, List.getElem_toArray, List.getElem_cons_zero, List.getElem_cons_succ]
  refine any_one (i := 8) (by kernel_rfl) rfl (fun K hK => ?_)
  refine step_callw (by kernel_rfl) 14 #[.agg (kc (digs ((1 : Nat) : Int) 32))] (by kernel_rfl) ((rFrom_ok 1 (by decide) _).mono ?_)
  rintro r v9_ ⟨c3, rfl, hc3, hg⟩
  refine ⟨_, rfl, ?_⟩
  replace hc3 : NC 1 c3 := NC.same hc3 rfl
  replace hB := hB.more hg
  clear hg
  refine hK.out _ _ ⟨(hB.get 1 (x := ⟨g1_3, (kc (digs (1 : Int) 32)), 23⟩) rfl), trivial⟩ (fun _ => ?_)
  clear hK K
  simp only [Act.put, List.setIfInBounds_toArray, List.set_cons_zero, List.set_cons_succ, List.getElem_toArray, List.getElem_cons_zero, List.getElem_cons_succ]
  refine any_one (i := 9) (by kernel_rfl) rfl (fun K hK => ?_)
  refine step_callw (by kernel_rfl) 20 #[.agg c3] (by kernel_rfl) ((nbytes_nc hc3 _).mono ?_)
  rintro r v10_ ⟨rfl, hg⟩
  refine ⟨_, rfl, ?_⟩
  rw [show (1 : Int) % pp = 1 from by decide]
  replace hB := hB.more hg
  clear hg
  refine hK.out _ _ ⟨(hB.get 1 (x := ⟨g1_3, (kc (digs (1 : Int) 32)), 23⟩) rfl), trivial⟩ (fun _ => ?_)
  clear hK K
  simp only [Act.put, List.setIfInBounds_toArray, List.set_cons_zero, List.set_cons_succ, List.getElem_toArray, List.getElem_cons_zero, List.getElem_cons_succ]
  refine any_take (i := 10) (v := (.bool true)) #[true, true, true, true, true, true, true, true, true, true, false, false, false, false, false, false, false, false, false, false, false, false, false, false, false, false, false, false, false, false, false, false, false, false, false] rfl (by kernel_rfl) (by kernel_rfl) (by kernel_rfl) (by kernel_rfl) (fun _ _ _ h => h) (.inl ⟨by kernel_rfl, fun x_ hu => by have e := key_same (1 : Int); go_simp⟩) ⟨(hB.get 1 (x := ⟨g1_3, (kc (digs (1 : Int) 32)), 23⟩) rfl), trivial⟩ ?_
  simp only [Act.put, List.setIfInBounds_toArray, List.set_cons_zero, List.set_cons_succ, List.getElem_toArray, List.getElem_cons_zero, List.getElem_cons_succ]
  refine any_take (i := 11) (v := (.bool true)) #[true, true, true, true, true, true, true, true, true, true, true, false, false, false, false, false, false, false, false, false, false, false, false, false, false, false, false, false, false, false, false, false, false, false, false] rfl (by kernel_rfl) (by kernel_rfl) (by kernel_rfl) (by kernel_rfl) (fun _ _ _ h => h) (.inl ⟨by kernel_rfl, fun x_ hu => by kernel_rfl⟩) ⟨(hB.get 1 (x := ⟨g1_3, (kc (digs (1 : Int) 32)), 23⟩) rfl), trivial⟩ ?_
  simp only [Act.put, List.setIfInBounds_toArray, List.set_cons_zero, List.set_cons_succ, List.getElem_toArray, List.getElem_cons_zero, List.getElem_cons_succ]
  refine any_take (i := 12) (v := (.bool true)) #[true, true, true, true, true, true, true, true, true, true, true, true, false, false, false, false, false, false, false, false, false, false, false, false, false, false, false, false, false, false, false, false, false, false, false] rfl (by kernel_rfl) (by kernel_rfl) (by kernel_rfl) (by kernel_rfl) (fun _ _ _ h => h) (.inl ⟨by kernel_rfl, fun x_ hu => by kernel_rfl⟩) ⟨(hB.get 1 (x := ⟨g1_3, (kc (digs (1 : Int) 32)), 23⟩) rfl), trivial⟩ ?_
  simp only [Act.put, List.setIfInBounds_toArray, List.set_cons_zero, List.set_cons_succ, List.getElem_toArray, List.getElem_cons_zero, List.getElem_cons_succ]
  refine any_take (i := 13) (v := undef) #[true, true, true, true, true, true, true, true, true, true, true, true, true, false, false, false, false, false, false, false, false, false, false, false, false, false, false, false, false, false, false, false, false, false, false] rfl (by kernel_rfl) (by kernel_rfl) (by kernel_rfl) (by kernel_rfl) (fun _ _ _ h => h) (.inr ⟨by kernel_rfl, rfl⟩) ⟨(hB.get 1 (x := ⟨g1_3, (kc (digs (1 : Int) 32)), 23⟩) rfl), trivial⟩ ?_
  simp only [Act.put, List.setIfInBounds_toArray, List.set_cons_zero, List.set_cons_succ, List.getElem_toArray, List.getElem_cons_zero, List.getElem_cons_succ]
  refine any_take (i := 14) (v := undef) #[true, true, true, true, true, true, true, true, true, true, true, true, true, true, false, false, false, false, false, false, false, false, false, false, false, false, false, false, false, false, false, false, false, false, false] rfl (by kernel_rfl) (by kernel_rfl) (by kernel_rfl) (by kernel_rfl) (fun _ _ _ h => h) (.inr ⟨by kernel_rfl, rfl⟩) ⟨(hB.get 1 (x := ⟨g1_3, (kc (digs (1 : Int) 32)), 23⟩) rfl), trivial⟩ ?_
  simp only [Act.put, List.setIfInBounds_toArray, List.set_cons_zero, List.set_cons_succ, List.getElem_toArray, List.getElem_cons_zero, List.getElem_cons_succ]
  refine any_take (i := 15) (v := undef) #[true, true, true, true, true, true, true, true, true, true, true, true, true, true, true, false, false, false, false, false, false, false, false, false, false, false, false, false, false, false, false, false, false, false, false] rfl (by kernel_rfl) (by kernel_rfl) (by kernel_rfl) (by kernel_rfl) (fun _ _ _ h => h) (.inr ⟨by kernel_rfl, rfl⟩) ⟨(hB.get 1 (x := ⟨g1_3, (kc (digs (1 : Int) 32)), 23⟩) rfl), trivial⟩ ?_
  simp only [Act.put, List.setIfInBounds_toArray, List.set_cons_zero, List.set_cons_succ, List.getElem_toArray, List.getElem_cons_zero, List.getElem_cons_succ]
  refine any_take (i := 16) (v := undef) #[true, true, true, true, true, true, true, true, true, true, true, true, true, true, true, true, false, false, false, false, false, false, false, false, false, false, false, false, false, false, false, false, false, false, false] rfl (by kernel_rfl) (by kernel_rfl) (by kernel_rfl) (by kernel_rfl) (fun _ _ _ h => h) (.inr ⟨by kernel_rfl, rfl⟩) ⟨(hB.get 1 (x := ⟨g1_3, (kc (digs (1 : Int) 32)), 23⟩) rfl), trivial⟩ ?_
  simp only [Act.put, List.setIfInBounds_toArray, List.set_cons_zero, List.set_cons_succ, List.getElem_toArray, List.getElem_cons_zero, List.getElem_cons_succ]
  refine any_take (i := 17) (v := undef) #[true, true, true, true, true, true, true, true, true, true, true, true, true, true, true, true, true, false, false, false, false, false, false, false, false, false, false, false, false, false, false, false, false, false, false] rfl (by kernel_rfl) (by kernel_rfl) (by kernel_rfl) (by kernel_rfl) (fun _ _ _ h => h) (.inr ⟨by kernel_rfl, rfl⟩) ⟨(hB.get 1 (x := ⟨g1_3, (kc (digs (1 : Int) 32)), 23⟩) rfl), trivial⟩ ?_
  simp only [Act.put, List.setIfInBounds_toArray, List.set_cons_zero, List.set_cons_succ, List.getElem_toArray, List.getElem_cons_zero, List.getElem_cons_succ]
  refine any_take (i := 18) (v := undef) #[true, true, true, true, true, true, true, true, true, true, true, true, true, true, true, true, true, true, false, false, false, false, false, false, false, false, false, false, false, false, false, false, false, false, false] rfl (by kernel_rfl) (by kernel_rfl) (by kernel_rfl) (by kernel_rfl) (fun _ _ _ h => h) (.inr ⟨by kernel_rfl, rfl⟩) ⟨(hB.get 1 (x := ⟨g1_3, (kc (digs (1 : Int) 32)), 23⟩) rfl), trivial⟩ ?_
  simp only [Act.put, List.setIfInBounds_toArray, List.set_cons_zero, List.set_cons_succ, List.getElem_toArray, List.getElem_cons_zero, List.getElem_cons_succ]
  refine any_take (i := 19) (v := undef) #[true, true, true, true, true, true, true, true, true, true, true, true, true, true, true, true, true, true, true, false, false, false, false, false, false, false, false, false, false, false, false, false, false, false, false] rfl (by kernel_rfl) (by kernel_rfl) (by kernel_rfl) (by kernel_rfl) (fun _ _ _ h => h) (.inr ⟨by kernel_rfl, rfl⟩) ⟨(hB.get 1 (x := ⟨g1_3, (kc (digs (1 : Int) 32)), 23⟩) rfl), trivial⟩ ?_
  simp only [Act.put, List.setIfInBounds_toArray, List.set_cons_zero, List.set_cons_succ, List.getElem_toArray, List.getElem_cons_zero, List.getElem_cons_succ]
  refine any_take (i := 20) (v := undef) #[true, true, true, true, true, true, true, true, true, true, true, true, true, true, true, true, true, true, true, true, false, false, false, false, false, false, false, false, false, false, false, false, false, false, false] rfl (by kernel_rfl) (by kernel_rfl) (by kernel_rfl) (by kernel_rfl) (fun _ _ _ h => h) (.inr ⟨by kernel_rfl, rfl⟩) ⟨(hB.get 1 (x := ⟨g1_3, (kc (digs (1 : Int) 32)), 23⟩) rfl), trivial⟩ ?_
  simp only [Act.put, List.setIfInBounds_toArray, List.set_cons_zero, List.set_cons_succ, List.getElem_toArray, List.getElem_cons_zero, List.getElem_cons_succ]
  refine any_take (i := 21) (v := (.bool true)) #[true, true, true, true, true, true, true, true, true, true, true, true, true, true, true, true, true, true, true, true, true, false, false, false, false, false, false, false, false, false, false, false, false, false, false] rfl (by kernel_rfl) (by kernel_rfl) (by kernel_rfl) (by kernel_rfl) (fun _ _ _ h => h) (.inl ⟨by kernel_rfl, fun x_ hu => by kernel_rfl⟩) ⟨(hB.get 1 (x := ⟨g1_3, (kc (digs (1 : Int) 32)), 23⟩) rfl), trivial⟩ ?_
  simp only [Act.put, List.setIfInBounds_toArray, List.set_cons_zero, List.set_cons_succ, List.getElem_toArray, List.getElem_cons_zero, List.getElem_cons_succ]
  refine any_take (i := 22) (v := (.bool true)) #[true, true, true, true, true, true, true, true, true, true, true, true, true, true, true, true, true, true, true, true, true, true, false, false, false, false, false, false, false, false, false, false, false, false, false] rfl (by kernel_rfl) (by kernel_rfl) (by kernel_rfl) (by kernel_rfl) (fun _ _ _ h => h) (.inl ⟨by kernel_rfl, fun x_ hu => by kernel_rfl⟩) ⟨(hB.get 1 (x := ⟨g1_3, (kc (digs (1 : Int) 32)), 23⟩) rfl), trivial⟩ ?_
  simp only [Act.put, List.setIfInBounds_toArray, List.set_cons_zero, List.set_cons_succ, List.getElem_toArray, List.getElem_cons_zero, List.getElem_cons_succ]
  refine any_take (i := 23) (v := undef) #[true, true, true, true, true, true, true, true, true, true, true, true, true, true, true, true, true, true, true, true, true, true, true, false, false, false, false, false, false, false, false, false, false, false, false] rfl (by kernel_rfl) (by kernel_rfl) (by kernel_rfl) (by kernel_rfl) (fun _ _ _ h => h) (.inr ⟨by kernel_rfl, rfl⟩) ⟨(hB.get 1 (x := ⟨g1_3, (kc (digs (1 : Int) 32)), 23⟩) rfl), trivial⟩ ?_
  simp only [Act.put, List.setIfInBounds_toArray, List.set_cons_zero, List.set_cons_succ, List.getElem_toArray, List.getElem_cons_zero, List.getElem_cons_succ]
  refine any_take (i := 24) (v := undef) #[true, true, true, true, true, true, true, true, true, true, true, true, true, true, true, true, true, true, true, true, true, true, true, true, false, false, false, false, false, false, false, false, false, false, false] rfl (by kernel_rfl) (by kernel_rfl) (by kernel_rfl) (by kernel_rfl) (fun _ _ _ h => h) (.inr ⟨by kernel_rfl, rfl⟩) ⟨(hB.get 1 (x := ⟨g1_3, (kc (digs (1 : Int) 32)), 23⟩) rfl), trivial⟩ ?_
  simp only [Act.put, List.setIfInBounds_toArray, List.set_cons_zero, List.set_cons_succ, List.getElem_toArray, List.getElem_cons_zero, List.getElem_cons_succ]
  refine any_take (i := 25) (v := undef) #[true, true, true, true, true, true, true, true, true, true, true, true, true, true, true, true, true, true, true, true, true, true, true, true, true, false, false, false, false, false, false, false, false, false, false] rfl (by kernel_rfl) (by kernel_rfl) (by kernel_rfl) (by kernel_rfl) (fun _ _ _ h => h) (.inr ⟨by kernel_rfl, rfl⟩) ⟨(hB.get 1 (x := ⟨g1_3, (kc (digs (1 : Int) 32)), 23⟩) rfl), trivial⟩ ?_
  simp only [Act.put, List.setIfInBounds_toArray, List.set_cons_zero, List.set_cons_succ, List.getElem_toArray, List.getElem_cons_zero, List.getElem_cons_succ]
  refine any_take (i := 26) (v := undef) #[true, true, true, true, true, true, true, true, true, true, true, true, true, true, true, true, true, true, true, true, true, true, true, true, true, true, false, false, false, false, false, false, false, false, false] rfl (by kernel_rfl) (by kernel_rfl) (by kernel_rfl) (by kernel_rfl) (fun _ _ _ h => h) (.inr ⟨by kernel_rfl, rfl⟩) ⟨(hB.get 1 (x := ⟨g1_3, (kc (digs (1 : Int) 32)), 23⟩) rfl), trivial⟩ ?_
  simp only [Act.put, List.setIfInBounds_toArray, List.set_cons_zero, List.set_cons_succ, List.getElem_toArray, List.getElem_cons_zero, List.getElem_cons_succ]
  refine any_take (i := 27) (v := (.bool true)) #[true, true, true, true, true, true, true, true, true, true, true, true, true, true, true, true, true, true, true, true, true, true, true, true, true, true, true, false, false, false, false, false, false, false, false] rfl (by kernel_rfl) (by kernel_rfl) (by kernel_rfl) (by kernel_rfl) (fun _ _ _ h => h) (.inl ⟨by kernel_rfl, fun x_ hu => by kernel_rfl⟩) ⟨(hB.get 1 (x := ⟨g1_3, (kc (digs (1 : Int) 32)), 23⟩) rfl), trivial⟩ ?_
  simp only [Act.put, List.setIfInBounds_toArray, List.set_cons_zero, List.set_cons_succ, List.getElem_toArray, List.getElem_cons_zero, List.getElem_cons_succ]
  refine any_take (i := 28) (v := (.bool true)) #[true, true, true, true, true, true, true, true, true, true, true, true, true, true, true, true, true, true, true, true, true, true, true, true, true, true, true, true, false, false, false, false, false, false, false] rfl (by kernel_rfl) (by kernel_rfl) (by kernel_rfl) (by kernel_rfl) (fun _ _ _ h => h) (.inl ⟨by kernel_rfl, fun x_ hu => by kernel_rfl⟩) ⟨(hB.get 1 (x := ⟨g1_3, (kc (digs (1 : Int) 32)), 23⟩) rfl), trivial⟩ ?_
  simp only [Act.put, List.setIfInBounds_toArray, List.set_cons_zero, List.set_cons_succ, List.getElem_toArray, List.getElem_cons_zero, List.getElem_cons_succ]
  refine any_take (i := 29) (v := undef) #[true, true, true, true, true, true, true, true, true, true, true, true, true, true, true, true, true, true, true, true, true, true, true, true, true, true, true, true, true, false, false, false, false, false, false] rfl (by kernel_rfl) (by kernel_rfl) (by kernel_rfl) (by kernel_rfl) (fun _ _ _ h => h) (.inr ⟨by kernel_rfl, rfl⟩) ⟨(hB.get 1 (x := ⟨g1_3, (kc (digs (1 : Int) 32)), 23⟩) rfl), trivial⟩ ?_
  simp only [Act.put, List.setIfInBounds_toArray, List.set_cons_zero, List.set_cons_succ, List.getElem_toArray, List.getElem_cons_zero, List.getElem_cons_succ]
  refine any_take (i := 30) (v := undef) #[true, true, true, true, true, true, true, true, true, true, true, true, true, true, true, true, true, true, true, true, true, true, true, true, true, true, true, true, true, true, false, false, false, false, false] rfl (by kernel_rfl) (by kernel_rfl) (by kernel_rfl) (by kernel_rfl) (fun _ _ _ h => h) (.inr ⟨by kernel_rfl, rfl⟩) ⟨(hB.get 1 (x := ⟨g1_3, (kc (digs (1 : Int) 32)), 23⟩) rfl), trivial⟩ ?_
  simp only [Act.put, List.setIfInBounds_toArray, List.set_cons_zero, List.set_cons_succ, List.getElem_toArray, List.getElem_cons_zero, List.getElem_cons_succ]
  refine any_take (i := 31) (v := undef) #[true, true, true, true, true, true, true, true, true, true, true, true, true, true, true, true, true, true, true, true, true, true, true, true, true, true, true, true, true, true, true, false, false, false, false] rfl (by kernel_rfl) (by kernel_rfl) (by kernel_rfl) (by kernel_rfl) (fun _ _ _ h => h) (.inr ⟨by kernel_rfl, rfl⟩) ⟨(hB.get 1 (x := ⟨g1_3, (kc (digs (1 : Int) 32)), 23⟩) rfl), trivial⟩ ?_
  simp only [Act.put, List.setIfInBounds_toArray, List.set_cons_zero, List.set_cons_succ, List.getElem_toArray, List.getElem_cons_zero, List.getElem_cons_succ]
  refine any_take (i := 32) (v := undef) #[true, true, true, true, true, true, true, true, true, true, true, true, true, true, true, true, true, true, true, true, true, true, true, true, true, true, true, true, true, true, true, true, false, false, false] rfl (by kernel_rfl) (by kernel_rfl) (by kernel_rfl) (by kernel_rfl) (fun _ _ _ h => h) (.inr ⟨by kernel_rfl, rfl⟩) ⟨(hB.get 1 (x := ⟨g1_3, (kc (digs (1 : Int) 32)), 23⟩) rfl), trivial⟩ ?_
  simp only [Act.put, List.setIfInBounds_toArray, List.set_cons_zero, List.set_cons_succ, List.getElem_toArray, List.getElem_cons_zero, List.getElem_cons_succ]
  refine any_take (i := 33) (v := (.bool true)) #[true, true, true, true, true, true, true, true, true, true, true, true, true, true, true, true, true, true, true, true, true, true, true, true, true, true, true, true, true, true, true, true, true, false, false] rfl (by kernel_rfl) (by kernel_rfl) (by kernel_rfl) (by kernel_rfl) (fun _ _ _ h => h) (.inl ⟨by kernel_rfl, fun x_ hu => by kernel_rfl⟩) ⟨(hB.get 1 (x := ⟨g1_3, (kc (digs (1 : Int) 32)), 23⟩) rfl), trivial⟩ ?_
  simp only [Act.put, List.setIfInBounds_toArray, List.set_cons_zero, List.set_cons_succ, List.getElem_toArray, List.getElem_cons_zero, List.getElem_cons_succ]
  refine any_one (i := 34) (by kernel_rfl) rfl (fun K hK => ?_)
  replace hK := hide hK
  go_simp
  refine (unhide hK).out _ _ ⟨(hB.get 1 (x := ⟨g1_3, (kc (digs (1 : Int) 32)), 23⟩) rfl), trivial⟩ (fun _ => ?_)
  clear hK K
  refine any_done (by kernel_rfl) ?_
  have hG := hide hB.gr
  clear hB
  go_wp2_with fail
  refine bodyPost_ret (v := .bool true) ?_ rfl ⟨rfl, unhide hG⟩
  simp [results, Tryd.results11, go_sem]

set_option maxHeartbeats 2000000 in
theorem rlow_2 (U : Nat) (hU : U < 115792089237316195423570985008687907853269984665640564039457584007913129639936) (hV : (U : Int) % 57896044618658097711785492504343953926634992332820282019728792003956564819968 % pp = 57896044618658097711785492504343953926634992332820282019728792003956564819948) (w : World) :
    Calls Tryd.prog 11 #[.agg (kc (digs (U : Int) 32))] w (fun r w' => r = .returned (.bool true) ∧ Gr w w') := by
  replace hU := hide hU
  replace hV := hide hV
  go_enter Tryd.func11, Tryd.ntmps11
  go_upto_region 1 with fail
  have hB := (Bl.nil w).new (kc (digs (U : Int) 32)) 23
  simp only [List.nil_append] at hB
  generalize World.alloc _ _ = v1_ at *
  refine wp_region_lit ?_
  refine list_val (.agg (kc (digs (U : Int) 32))) (by kernel_rfl) (exec_arr _ 23 (.tmp 1) rfl w.heap.size (by kernel_rfl) (kc (digs (U : Int) 32)) 23 _ (hB.get 0 (x := ⟨w.heap.size, (kc (digs (U : Int) 32)), 23⟩) rfl) Tryd.underlying23 rfl (by rw [Tryd.infoKey, kc32])) ?_
  simp only [Act.put, List.setIfInBounds_toArray, List.set_cons_zero, List.set_cons_succ, List.getElem_toArray, List.getElem_cons_zero, List.getElem_cons_succ]
  refine list_call 14 #[.agg (kc (digs (U : Int) 32))] (by kernel_rfl) (by kernel_rfl) ((rFrom_ok U (unhide hU) _).mono ?_)
  rintro r v2_ ⟨c1, rfl, hc1, hg⟩
  refine ⟨_, rfl, ?_⟩
  replace hB := hB.more hg
  clear hg
  simp only [Act.put, List.setIfInBounds_toArray, List.set_cons_zero, List.set_cons_succ, List.getElem_toArray, List.getElem_cons_zero, List.getElem_cons_succ]
  refine list_call 20 #[.agg c1] (by kernel_rfl) (by kernel_rfl) ((nbytes_nc hc1 _).mono ?_)
  rintro r v3_ ⟨rfl, hg⟩
  refine ⟨_, rfl, ?_⟩
  rw [unhide hV]
  replace hB := hB.more hg
  clear hg
  simp only [Act.put, List.setIfInBounds_toArray, List.set_cons_zero, List.set_cons_succ, List.getElem_toArray, List.getElem_cons_zero, List.getElem_cons_succ]
  refine wpList_step fun K hK => ?_
  replace hK := hide hK
  go_simp
  refine unhide hK _ _ ?_
  clear hK K
  replace hB := hB.new #[.int .u8 0, .int .u8 0, .int .u8 0, .int .u8 0, .int .u8 0, .int .u8 0, .int .u8 0, .int .u8 0, .int .u8 0, .int .u8 0, .int .u8 0, .int .u8 0, .int .u8 0, .int .u8 0, .int .u8 0, .int .u8 0, .int .u8 0, .int .u8 0, .int .u8 0, .int .u8 0, .int .u8 0, .int .u8 0, .int .u8 0, .int .u8 0, .int .u8 0, .int .u8 0, .int .u8 0, .int .u8 0, .int .u8 0, .int .u8 0, .int .u8 0, .int .u8 0] 23
  simp only [List.cons_append, List.nil_append] at hB
  generalize v3_.heap.size = g1_3 at *
  generalize World.alloc _ _ = v4_ at *
  replace hB : Bl w [⟨w.heap.size, (kc (digs (U : Int) 32)), 23⟩, ⟨g1_3, Z32, 23⟩] v4_ := hB
  refine list_store 23 (.tmp 3) (.tmp 6) g1_3 (kc (digs (57896044618658097711785492504343953926634992332820282019728792003956564819948 : Int) 32)) 23 Z32 (by kernel_rfl) rfl (by kernel_rfl) (by kernel_rfl) (hB.get 1 (x := ⟨g1_3, Z32, 23⟩) rfl) (by rw [Tryd.infoKey, kc32]) (Z32_size.trans (kc32 (57896044618658097711785492504343953926634992332820282019728792003956564819948 : Int) 32).symm) (kc_one _) ?_
  replace hB := hB.set 1 (x := ⟨g1_3, Z32, 23⟩) rfl (kc (digs (57896044618658097711785492504343953926634992332820282019728792003956564819948 : Int) 32))
  simp only [List.set_cons_zero, List.set_cons_succ] at hB
  generalize World.setRow _ _ _ = v5_ at *
  simp only [Act.put, List.setIfInBounds_toArray, List.set_cons_zero, List.set_cons_succ, List.getElem_toArray, List.getElem_cons_zero, List.getElem_cons_succ]
  refine wpList_nil ?_
  go_upto_region 2 with fail
  refine any_start (S := fun v => v.heap[g1_3]? = some (.cells (kc (digs (57896044618658097711785492504343953926634992332820282019728792003956564819948 : Int) 32)) 23 (0, 0)) ∧ True) (by kernel_rfl) ?_
  replace hB := hB.drew
  generalize World.drew _ = v6_ at *
  simp only [List.size_toArray, List.length_cons, List.length_nil, Array.replicate, List.replicate]
  refine any_take (i := 0) (v := (.agg (kc (digs (57896044618658097711785492504343953926634992332820282019728792003956564819948 : Int) 32)))) #[false, false, false, false, false, false, false, false, false, false, false, false, false, false, false, false, false, false, false, false, false, false, false, false, false, false, false, false, false, false, false, false, false, false, false] rfl (by kernel_rfl) (by kernel_rfl) (by kernel_rfl) (by kernel_rfl) (fun _ _ _ h => h) (.inl ⟨by kernel_rfl, fun x_ hu => exec_arr x_ 23 (.tmp 3) rfl g1_3 (by kernel_rfl) (kc (digs (57896044618658097711785492504343953926634992332820282019728792003956564819948 : Int) 32)) 23 _ hu.1 Tryd.underlying23 rfl (by rw [Tryd.infoKey, kc32])⟩) ⟨(hB.get 1 (x := ⟨g1_3, (kc (digs (57896044618658097711785492504343953926634992332820282019728792003956564819948 : Int) 32)), 23⟩) rfl), trivial⟩ ?_
  simp only [Act.put, List.setIfInBounds_toArray, List.set_cons_zero, List.set_cons_succ, List.getElem_toArray, List.getElem_cons_zero, List.getElem_cons_succ]
  refine any_take (i := 1) (v := (.agg (kc (digs ((0 : Nat) : Int) 32)))) #[true, false, false, false, false, false, false, false, false, false, false, false, false, false, false, false, false, false, false, false, false, false, false, false, false, false, false, false, false, false, false, false, false, false, false] rfl (by kernel_rfl) (by kernel_rfl) (by kernel_rfl) (by kernel_rfl) (fun _ _ _ h => h) (.inl ⟨by kernel_rfl, fun x_ hu => by kernel_rfl⟩) ⟨(hB.get 1 (x := ⟨g1_3, (kc (digs (57896044618658097711785492504343953926634992332820282019728792003956564819948 : Int) 32)), 23⟩) rfl), trivial⟩ ?_
  simp only [Act.put, List.setIfInBounds_toArray, List.set_cons_zero, List.set_cons_succ, List.getElem_toArray, List.getElem_cons_zero, List.getElem_cons_succ]
  refine any_one (i := 2) (by kernel_rfl) rfl (fun K hK => ?_)
  refine step_callw (by kernel_rfl) 14 #[.agg (kc (digs ((0 : Nat) : Int) 32))] (by kernel_rfl) ((rFrom_ok 0 (by decide) _).mono ?_)
  rintro r v7_ ⟨c2, rfl, hc2, hg⟩
  refine ⟨_, rfl, ?_⟩
  replace hc2 : NC 0 c2 := NC.same hc2 rfl
  replace hB := hB.more hg
  clear hg
  refine hK.out _ _ ⟨(hB.get 1 (x := ⟨g1_3, (kc (digs (57896044618658097711785492504343953926634992332820282019728792003956564819948 : Int) 32)), 23⟩) rfl), trivial⟩ (fun _ => ?_)
  clear hK K
  simp only [Act.put, List.setIfInBounds_toArray, List.set_cons_zero, List.set_cons_succ, List.getElem_toArray, List.getElem_cons_zero, List.getElem_cons_succ]
  refine any_one (i := 3) (by kernel_rfl) rfl (fun K hK => ?_)
  refine step_callw (by kernel_rfl) 20 #[.agg c2] (by kernel_rfl) ((nbytes_nc hc2 _).mono ?_)
  rintro r v8_ ⟨rfl, hg⟩
  refine ⟨_, rfl, ?_⟩
  rw [show (0 : Int) % pp = 0 from by decide]
  replace hB := hB.more hg
  clear hg
  refine hK.out _ _ ⟨(hB.get 1 (x := ⟨g1_3, (kc (digs (57896044618658097711785492504343953926634992332820282019728792003956564819948 : Int) 32)), 23⟩) rfl), trivial⟩ (fun _ => ?_)
  clear hK K
  simp only [Act.put, List.setIfInBounds_toArray, List.set_cons_zero, List.set_cons_succ, List.getElem_toArray, List.getElem_cons_zero, List.getElem_cons_succ]
  refine any_take (i := 4) (v := (.bool false)) #[true, true, true, true, false, false, false, false, false, false, false, false, false, false, false, false, false, false, false, false, false, false, false, false, false, false, false, false, false, false, false, false, false, false, false] rfl (by kernel_rfl) (by kernel_rfl) (by kernel_rfl) (by kernel_rfl) (fun _ _ _ h => h) (.inl ⟨by kernel_rfl, fun x_ hu => by have e := key_diff (n := 57896044618658097711785492504343953926634992332820282019728792003956564819948) (m := 0) (by omega) (by omega) (by decide); go_simp⟩) ⟨(hB.get 1 (x := ⟨g1_3, (kc (digs (57896044618658097711785492504343953926634992332820282019728792003956564819948 : Int) 32)), 23⟩) rfl), trivial⟩ ?_
  simp only [Act.put, List.setIfInBounds_toArray, List.set_cons_zero, List.set_cons_succ, List.getElem_toArray, List.getElem_cons_zero, List.getElem_cons_succ]
  refine any_take (i := 5) (v := (.bool false)) #[true, true, true, true, true, false, false, false, false, false, false, false, false, false, false, false, false, false, false, false, false, false, false, false, false, false, false, false, false, false, false, false, false, false, false] rfl (by kernel_rfl) (by kernel_rfl) (by kernel_rfl) (by kernel_rfl) (fun _ _ _ h => h) (.inl ⟨by kernel_rfl, fun x_ hu => by kernel_rfl⟩) ⟨(hB.get 1 (x := ⟨g1_3, (kc (digs (57896044618658097711785492504343953926634992332820282019728792003956564819948 : Int) 32)), 23⟩) rfl), trivial⟩ ?_
  simp only [Act.put, List.setIfInBounds_toArray, List.set_cons_zero, List.set_cons_succ, List.getElem_toArray, List.getElem_cons_zero, List.getElem_cons_succ]
  refine any_take (i := 6) (v := (.agg (kc (digs (57896044618658097711785492504343953926634992332820282019728792003956564819948 : Int) 32)))) #[true, true, true, true, true, true, false, false, false, false, false, false, false, false, false, false, false, false, false, false, false, false, false, false, false, false, false, false, false, false, false, false, false, false, false] rfl (by kernel_rfl) (by kernel_rfl) (by kernel_rfl) (by kernel_rfl) (fun _ _ _ h => h) (.inl ⟨by kernel_rfl, fun x_ hu => exec_arr x_ 23 (.tmp 3) rfl g1_3 (by kernel_rfl) (kc (digs (57896044618658097711785492504343953926634992332820282019728792003956564819948 : Int) 32)) 23 _ hu.1 Tryd.underlying23 rfl (by rw [Tryd.infoKey, kc32])⟩) ⟨(hB.get 1 (x := ⟨g1_3, (kc (digs (57896044618658097711785492504343953926634992332820282019728792003956564819948 : Int) 32)), 23⟩) rfl), trivial⟩ ?_
  simp only [Act.put, List.setIfInBounds_toArray, List.set_cons_zero, List.set_cons_succ, List.getElem_toArray, List.getElem_cons_zero, List.getElem_cons_succ]
  refine any_take (i := 7) (v := (.agg (kc (digs ((1 : Nat) : Int) 32)))) #[true, true, true, true, true, true, true, false, false, false, false, false, false, false, false, false, false, false, false, false, false, false, false, false, false, false, false, false, false, false, false, false, false, false, false] rfl (by kernel_rfl) (by kernel_rfl) (by kernel_rfl) (by kernel_rfl) (fun _ _ _ h => h) (.inl ⟨by kernel_rfl, fun x_ hu => by kernel_rfl⟩) ⟨(hB.get 1 (x := ⟨g1_3, (kc (digs (57896044618658097711785492504343953926634992332820282019728792003956564819948 : Int) 32)), 23⟩) rfl), trivial⟩ ?_
  simp only [Act.put, List.setIfInBounds_toArray, List.set_cons_zero, List.set_cons_succ, List.getElem_toArray, List.getElem_cons_zero, List.getElem_cons_succ]
  refine any_one (i := 8) (by kernel_rfl) rfl (fun K hK => ?_)
  refine step_callw (by kernel_rfl) 14 #[.agg (kc (digs ((1 : Nat) : Int) 32))] (by kernel_rfl) ((rFrom_ok 1 (by decide) _).mono ?_)
  rintro r v9_ ⟨c3, rfl, hc3, hg⟩
  refine ⟨_, rfl, ?_⟩
  replace hc3 : NC 1 c3 := NC.same hc3 rfl
  replace hB := hB.more hg
  clear hg
  refine hK.out _ _ ⟨(hB.get 1 (x := ⟨g1_3, (kc (digs (57896044618658097711785492504343953926634992332820282019728792003956564819948 : Int) 32)), 23⟩) rfl), trivial⟩ (fun _ => ?_)
  clear hK K
  simp only [Act.put, List.setIfInBounds_toArray, List.set_cons_zero, List.set_cons_succ, List.getElem_toArray, List.getElem_cons_zero, List.getElem_cons_succ]
  refine any_one (i := 9) (by kernel_rfl) rfl (fun K hK => ?_)
  refine step_callw (by kernel_rfl) 20 #[.agg c3] (by kernel_rfl) ((nbytes_nc hc3 _).mono ?_)
  rintro r v10_ ⟨rfl, hg⟩
  refine ⟨_, rfl, ?_⟩
  rw [show (1 : Int) % pp = 1 from by decide]
  replace hB := hB.more hg
  clear hg
  refine hK.out _ _ ⟨(hB.get 1 (x := ⟨g1_3, (kc (digs (57896044618658097711785492504343953926634992332820282019728792003956564819948 : Int) 32)), 23⟩) rfl), trivial⟩ (fun _ => ?_)
  clear hK K
  simp only [Act.put, List.setIfInBounds_toArray, List.set_cons_zero, List.set_cons_succ, List.getElem_toArray, List.getElem_cons_zero, List.getElem_cons_succ]
  refine any_take (i := 10) (v := (.bool false)) #[true, true, true, true, true, true, true, true, true, true, false, false, false, false, false, false, false, false, false, false, false, false, false, false, false, false, false, false, false, false, false, false, false, false, false] rfl (by kernel_rfl) (by kernel_rfl) (by kernel_rfl) (by kernel_rfl) (fun _ _ _ h => h) (.inl ⟨by kernel_rfl, fun x_ hu => by have e := key_diff (n := 57896044618658097711785492504343953926634992332820282019728792003956564819948) (m := 1) (by omega) (by omega) (by decide); go_simp⟩) ⟨(hB.get 1 (x := ⟨g1_3, (kc (digs (57896044618658097711785492504343953926634992332820282019728792003956564819948 : Int) 32)), 23⟩) rfl), trivial⟩ ?_
  simp only [Act.put, List.setIfInBounds_toArray, List.set_cons_zero, List.set_cons_succ, List.getElem_toArray, List.getElem_cons_zero, List.getElem_cons_succ]
  refine any_take (i := 11) (v := (.bool false)) #[true, true, true, true, true, true, true, true, true, true, true, false, false, false, false, false, false, false, false, false, false, false, false, false, false, false, false, false, false, false, false, false, false, false, false] rfl (by kernel_rfl) (by kernel_rfl) (by kernel_rfl) (by kernel_rfl) (fun _ _ _ h => h) (.inl ⟨by kernel_rfl, fun x_ hu => by kernel_rfl⟩) ⟨(hB.get 1 (x := ⟨g1_3, (kc (digs (57896044618658097711785492504343953926634992332820282019728792003956564819948 : Int) 32)), 23⟩) rfl), trivial⟩ ?_
  simp only [Act.put, List.setIfInBounds_toArray, List.set_cons_zero, List.set_cons_succ, List.getElem_toArray, List.getElem_cons_zero, List.getElem_cons_succ]
  refine any_take (i := 12) (v := (.bool false)) #[true, true, true, true, true, true, true, true, true, true, true, true, false, false, false, false, false, false, false, false, false, false, false, false, false, false, false, false, false, false, false, false, false, false, false] rfl (by kernel_rfl) (by kernel_rfl) (by kernel_rfl) (by kernel_rfl) (fun _ _ _ h => h) (.inl ⟨by kernel_rfl, fun x_ hu => by kernel_rfl⟩) ⟨(hB.get 1 (x := ⟨g1_3, (kc (digs (57896044618658097711785492504343953926634992332820282019728792003956564819948 : Int) 32)), 23⟩) rfl), trivial⟩ ?_
  simp only [Act.put, List.setIfInBounds_toArray, List.set_cons_zero, List.set_cons_succ, List.getElem_toArray, List.getElem_cons_zero, List.getElem_cons_succ]
  refine any_take (i := 13) (v := (.agg (kc (digs (57896044618658097711785492504343953926634992332820282019728792003956564819948 : Int) 32)))) #[true, true, true, true, true, true, true, true, true, true, true, true, true, false, false, false, false, false, false, false, false, false, false, false, false, false, false, false, false, false, false, false, false, false, false] rfl (by kernel_rfl) (by kernel_rfl) (by kernel_rfl) (by kernel_rfl) (fun _ _ _ h => h) (.inl ⟨by kernel_rfl, fun x_ hu => exec_arr x_ 23 (.tmp 3) rfl g1_3 (by kernel_rfl) (kc (digs (57896044618658097711785492504343953926634992332820282019728792003956564819948 : Int) 32)) 23 _ hu.1 Tryd.underlying23 rfl (by rw [Tryd.infoKey, kc32])⟩) ⟨(hB.get 1 (x := ⟨g1_3, (kc (digs (57896044618658097711785492504343953926634992332820282019728792003956564819948 : Int) 32)), 23⟩) rfl), trivial⟩ ?_
  simp only [Act.put, List.setIfInBounds_toArray, List.set_cons_zero, List.set_cons_succ, List.getElem_toArray, List.getElem_cons_zero, List.getElem_cons_succ]
  refine any_take (i := 14) (v := (.agg (kc (digs ((0 : Nat) : Int) 32)))) #[true, true, true, true, true, true, true, true, true, true, true, true, true, true, false, false, false, false, false, false, false, false, false, false, false, false, false, false, false, false, false, false, false, false, false] rfl (by kernel_rfl) (by kernel_rfl) (by kernel_rfl) (by kernel_rfl) (fun _ _ _ h => h) (.inl ⟨by kernel_rfl, fun x_ hu => by kernel_rfl⟩) ⟨(hB.get 1 (x := ⟨g1_3, (kc (digs (57896044618658097711785492504343953926634992332820282019728792003956564819948 : Int) 32)), 23⟩) rfl), trivial⟩ ?_
  simp only [Act.put, List.setIfInBounds_toArray, List.set_cons_zero, List.set_cons_succ, List.getElem_toArray, List.getElem_cons_zero, List.getElem_cons_succ]
  refine any_take (i := 16) (v := (.agg (kc (digs ((1 : Nat) : Int) 32)))) #[true, true, true, true, true, true, true, true, true, true, true, true, true, true, true, false, false, false, false, false, false, false, false, false, false, false, false, false, false, false, false, false, false, false, false] rfl (by kernel_rfl) (by kernel_rfl) (by kernel_rfl) (by kernel_rfl) (fun _ _ _ h => h) (.inl ⟨by kernel_rfl, fun x_ hu => by kernel_rfl⟩) ⟨(hB.get 1 (x := ⟨g1_3, (kc (digs (57896044618658097711785492504343953926634992332820282019728792003956564819948 : Int) 32)), 23⟩) rfl), trivial⟩ ?_
  simp only [Act.put, List.setIfInBounds_toArray, List.set_cons_zero, List.set_cons_succ, List.getElem_toArray, List.getElem_cons_zero, List.getElem_cons_succ]
  refine any_one (i := 15) (by kernel_rfl) rfl (fun K hK => ?_)
  refine step_callw (by kernel_rfl) 14 #[.agg (kc (digs ((0 : Nat) : Int) 32))] (by kernel_rfl) ((rFrom_ok 0 (by decide) _).mono ?_)
  rintro r v11_ ⟨c4, rfl, hc4, hg⟩
  refine ⟨_, rfl, ?_⟩
  replace hc4 : NC 0 c4 := NC.same hc4 rfl
  replace hB := hB.more hg
  clear hg
  refine hK.out _ _ ⟨(hB.get 1 (x := ⟨g1_3, (kc (digs (57896044618658097711785492504343953926634992332820282019728792003956564819948 : Int) 32)), 23⟩) rfl), trivial⟩ (fun _ => ?_)
  clear hK K
  simp only [Act.put, List.setIfInBounds_toArray, List.set_cons_zero, List.set_cons_succ, List.getElem_toArray, List.getElem_cons_zero, List.getElem_cons_succ]
  refine any_one (i := 17) (by kernel_rfl) rfl (fun K hK => ?_)
  refine step_callw (by kernel_rfl) 14 #[.agg (kc (digs ((1 : Nat) : Int) 32))] (by kernel_rfl) ((rFrom_ok 1 (by decide) _).mono ?_)
  rintro r v12_ ⟨c5, rfl, hc5, hg⟩
  refine ⟨_, rfl, ?_⟩
  replace hc5 : NC 1 c5 := NC.same hc5 rfl
  replace hB := hB.more hg
  clear hg
  refine hK.out _ _ ⟨(hB.get 1 (x := ⟨g1_3, (kc (digs (57896044618658097711785492504343953926634992332820282019728792003956564819948 : Int) 32)), 23⟩) rfl), trivial⟩ (fun _ => ?_)
  clear hK K
  simp only [Act.put, List.setIfInBounds_toArray, List.set_cons_zero, List.set_cons_succ, List.getElem_toArray, List.getElem_cons_zero, List.getElem_cons_succ]
  refine any_one (i := 18) (by kernel_rfl) rfl (fun K hK => ?_)
  refine step_callw (by kernel_rfl) 16 #[.agg c4, .agg c5] (by kernel_rfl) ((nsub_nc hc4 hc5 _).mono ?_)
  rintro r v13_ ⟨c6, rfl, hc6, hg⟩
  refine ⟨_, rfl, ?_⟩
  replace hc6 : NC 57896044618658097711785492504343953926634992332820282019728792003956564819948 c6 := NC.same hc6 (by decide)
  replace hB := hB.more hg
  clear hg
  refine hK.out _ _ ⟨(hB.get 1 (x := ⟨g1_3, (kc (digs (57896044618658097711785492504343953926634992332820282019728792003956564819948 : Int) 32)), 23⟩) rfl), trivial⟩ (fun _ => ?_)
  clear hK K
  simp only [Act.put, List.setIfInBounds_toArray, List.set_cons_zero, List.set_cons_succ, List.getElem_toArray, List.getElem_cons_zero, List.getElem_cons_succ]
  refine any_one (i := 19) (by kernel_rfl) rfl (fun K hK => ?_)
  refine step_callw (by kernel_rfl) 20 #[.agg c6] (by kernel_rfl) ((nbytes_nc hc6 _).mono ?_)
  rintro r v14_ ⟨rfl, hg⟩
  refine ⟨_, rfl, ?_⟩
  rw [show (57896044618658097711785492504343953926634992332820282019728792003956564819948 : Int) % pp = 57896044618658097711785492504343953926634992332820282019728792003956564819948 from by decide]
  replace hB := hB.more hg
  clear hg
  refine hK.out _ _ ⟨(hB.get 1 (x := ⟨g1_3, (kc (digs (57896044618658097711785492504343953926634992332820282019728792003956564819948 : Int) 32)), 23⟩) rfl), trivial⟩ (fun _ => ?_)
  clear hK K
  simp only [Act.put, List.setIfInBounds_toArray, List.set_cons_zero, List.set_cons_succ, List.getElem_toArray, List.getElem_cons_zero, List.getElem_cons_succ]
  refine any_take (i := 20) (v := (.bool true)) #[true, true, true, true, true, true, true, true, true, true, true, true, true, true, true, true, true, true, true, true, false, false, false, false, false, false, false, false, false, false, false, false, false, false, false] rfl (by kernel_rfl) (by kernel_rfl) (by kernel_rfl) (by kernel_rfl) (fun _ _ _ h => h) (.inl ⟨by kernel_rfl, fun x_ hu => by have e := key_same (57896044618658097711785492504343953926634992332820282019728792003956564819948 : Int); go_simp⟩) ⟨(hB.get 1 (x := ⟨g1_3, (kc (digs (57896044618658097711785492504343953926634992332820282019728792003956564819948 : Int) 32)), 23⟩) rfl), trivial⟩ ?_
  simp only [Act.put, List.setIfInBounds_toArray, List.set_cons_zero, List.set_cons_succ, List.getElem_toArray, List.getElem_cons_zero, List.getElem_cons_succ]
  refine any_take (i := 21) (v := (.bool true)) #[true, true, true, true, true, true, true, true, true, true, true, true, true, true, true, true, true, true, true, true, true, false, false, false, false, false, false, false, false, false, false, false, false, false, false] rfl (by kernel_rfl) (by kernel_rfl) (by kernel_rfl) (by kernel_rfl) (fun _ _ _ h => h) (.inl ⟨by kernel_rfl, fun x_ hu => by kernel_rfl⟩) ⟨(hB.get 1 (x := ⟨g1_3, (kc (digs (57896044618658097711785492504343953926634992332820282019728792003956564819948 : Int) 32)), 23⟩) rfl), trivial⟩ ?_
  simp only [Act.put, List.setIfInBounds_toArray, List.set_cons_zero, List.set_cons_succ, List.getElem_toArray, List.getElem_cons_zero, List.getElem_cons_succ]
  refine any_take (i := 22) (v := (.bool true)) #[true, true, true, true, true, true, true, true, true, true, true, true, true, true, true, true, true, true, true, true, true, true, false, false, false, false, false, false, false, false, false, false, false, false, false] rfl (by kernel_rfl) (by kernel_rfl) (by kernel_rfl) (by kernel_rfl) (fun _ _ _ h => h) (.inl ⟨by kernel_rfl, fun x_ hu => by kernel_rfl⟩) ⟨(hB.get 1 (x := ⟨g1_3, (kc (digs (57896044618658097711785492504343953926634992332820282019728792003956564819948 : Int) 32)), 23⟩) rfl), trivial⟩ ?_
  simp only [Act.put, List.setIfInBounds_toArray, List.set_cons_zero, List.set_cons_succ, List.getElem_toArray, List.getElem_cons_zero, List.getElem_cons_succ]
  refine any_take (i := 23) (v := undef) #[true, true, true, true, true, true, true, true, true, true, true, true, true, true, true, true, true, true, true, true, true, true, true, false, false, false, false, false, false, false, false, false, false, false, false] rfl (by kernel_rfl) (by kernel_rfl) (by kernel_rfl) (by kernel_rfl) (fun _ _ _ h => h) (.inr ⟨by kernel_rfl, rfl⟩) ⟨(hB.get 1 (x := ⟨g1_3, (kc (digs (57896044618658097711785492504343953926634992332820282019728792003956564819948 : Int) 32)), 23⟩) rfl), trivial⟩ ?_
  simp only [Act.put, List.setIfInBounds_toArray, List.set_cons_zero, List.set_cons_succ, List.getElem_toArray, List.getElem_cons_zero, List.getElem_cons_succ]
  refine any_take (i := 24) (v := undef) #[true, true, true, true, true, true, true, true, true, true, true, true, true, true, true, true, true, true, true, true, true, true, true, true, false, false, false, false, false, false, false, false, false, false, false] rfl (by kernel_rfl) (by kernel_rfl) (by kernel_rfl) (by kernel_rfl) (fun _ _ _ h => h) (.inr ⟨by kernel_rfl, rfl⟩) ⟨(hB.get 1 (x := ⟨g1_3, (kc (digs (57896044618658097711785492504343953926634992332820282019728792003956564819948 : Int) 32)), 23⟩) rfl), trivial⟩ ?_
  simp only [Act.put, List.setIfInBounds_toArray, List.set_cons_zero, List.set_cons_succ, List.getElem_toArray, List.getElem_cons_zero, List.getElem_cons_succ]
  refine any_take (i := 25) (v := undef) #[true, true, true, true, true, true, true, true, true, true, true, true, true, true, true, true, true, true, true, true, true, true, true, true, true, false, false, false, false, false, false, false, false, false, false] rfl (by kernel_rfl) (by kernel_rfl) (by kernel_rfl) (by kernel_rfl) (fun _ _ _ h => h) (.inr ⟨by kernel_rfl, rfl⟩) ⟨(hB.get 1 (x := ⟨g1_3, (kc (digs (57896044618658097711785492504343953926634992332820282019728792003956564819948 : Int) 32)), 23⟩) rfl), trivial⟩ ?_
  simp only [Act.put, List.setIfInBounds_toArray, List.set_cons_zero, List.set_cons_succ, List.getElem_toArray, List.getElem_cons_zero, List.getElem_cons_succ]
  refine any_take (i := 26) (v := undef) #[true, true, true, true, true, true, true, true, true, true, true, true, true, true, true, true, true, true, true, true, true, true, true, true, true, true, false, false, false, false, false, false, false, false, false] rfl (by kernel_rfl) (by kernel_rfl) (by kernel_rfl) (by kernel_rfl) (fun _ _ _ h => h) (.inr ⟨by kernel_rfl, rfl⟩) ⟨(hB.get 1 (x := ⟨g1_3, (kc (digs (57896044618658097711785492504343953926634992332820282019728792003956564819948 : Int) 32)), 23⟩) rfl), trivial⟩ ?_
  simp only [Act.put, List.setIfInBounds_toArray, List.set_cons_zero, List.set_cons_succ, List.getElem_toArray, List.getElem_cons_zero, List.getElem_cons_succ]
  refine any_take (i := 27) (v := (.bool true)) #[true, true, true, true, true, true, true, true, true, true, true, true, true, true, true, true, true, true, true, true, true, true, true, true, true, true, true, false, false, false, false, false, false, false, false] rfl (by kernel_rfl) (by kernel_rfl) (by kernel_rfl) (by kernel_rfl) (fun _ _ _ h => h) (.inl ⟨by kernel_rfl, fun x_ hu => by kernel_rfl⟩) ⟨(hB.get 1 (x := ⟨g1_3, (kc (digs (57896044618658097711785492504343953926634992332820282019728792003956564819948 : Int) 32)), 23⟩) rfl), trivial⟩ ?_
  simp only [Act.put, List.setIfInBounds_toArray, List.set_cons_zero, List.set_cons_succ, List.getElem_toArray, List.getElem_cons_zero, List.getElem_cons_succ]
  refine any_take (i := 28) (v := (.bool true)) #[true, true, true, true, true, true, true, true, true, true, true, true, true, true, true, true, true, true, true, true, true, true, true, true, true, true, true, true, false, false, false, false, false, false, false] rfl (by kernel_rfl) (by kernel_rfl) (by kernel_rfl) (by kernel_rfl) (fun _ _ _ h => h) (.inl ⟨by kernel_rfl, fun x_ hu => by kernel_rfl⟩) ⟨(hB.get 1 (x := ⟨g1_3, (kc (digs (57896044618658097711785492504343953926634992332820282019728792003956564819948 : Int) 32)), 23⟩) rfl), trivial⟩ ?_
  simp only [Act.put, List.setIfInBounds_toArray, List.set_cons_zero, List.set_cons_succ, List.getElem_toArray, List.getElem_cons_zero, List.getElem_cons_succ]
  refine any_take (i := 29) (v := undef) #[true, true, true, true, true, true, true, true, true, true, true, true, true, true, true, true, true, true, true, true, true, true, true, true, true, true, true, true, true, false, false, false, false, false, false] rfl (by kernel_rfl) (by kernel_rfl) (by kernel_rfl) (by kernel_rfl) (fun _ _ _ h => h) (.inr ⟨by kernel_rfl, rfl⟩) ⟨(hB.get 1 (x := ⟨g1_3, (kc (digs (57896044618658097711785492504343953926634992332820282019728792003956564819948 : Int) 32)), 23⟩) rfl), trivial⟩ ?_
  simp only [Act.put, List.setIfInBounds_toArray, List.set_cons_zero, List.set_cons_succ, List.getElem_toArray, List.getElem_cons_zero, List.getElem_cons_succ]
  refine any_take (i := 30) (v := undef) #[true, true, true, true, true, true, true, true, true, true, true, true, true, true, true, true, true, true, true, true, true, true, true, true, true, true, true, true, true, true, false, false, false, false, false] rfl (by kernel_rfl) (by kernel_rfl) (by kernel_rfl) (by kernel_rfl) (fun _ _ _ h => h) (.inr ⟨by kernel_rfl, rfl⟩) ⟨(hB.get 1 (x := ⟨g1_3, (kc (digs (57896044618658097711785492504343953926634992332820282019728792003956564819948 : Int) 32)), 23⟩) rfl), trivial⟩ ?_
  simp only [Act.put, List.setIfInBounds_toArray, List.set_cons_zero, List.set_cons_succ, List.getElem_toArray, List.getElem_cons_zero, List.getElem_cons_succ]
  refine any_take (i := 31) (v := undef) #[true, true, true, true, true, true, true, true, true, true, true, true, true, true, true, true, true, true, true, true, true, true, true, true, true, true, true, true, true, true, true, false, false, false, false] rfl (by kernel_rfl) (by kernel_rfl) (by kernel_rfl) (by kernel_rfl) (fun _ _ _ h => h) (.inr ⟨by kernel_rfl, rfl⟩) ⟨(hB.get 1 (x := ⟨g1_3, (kc (digs (57896044618658097711785492504343953926634992332820282019728792003956564819948 : Int) 32)), 23⟩) rfl), trivial⟩ ?_
  simp only [Act.put, List.setIfInBounds_toArray, List.set_cons_zero, List.set_cons_succ, List.getElem_toArray, List.getElem_cons_zero, List.getElem_cons_succ]
  refine any_take (i := 32) (v := undef) #[true, true, true, true, true, true, true, true, true, true, true, true, true, true, true, true, true, true, true, true, true, true, true, true, true, true, true, true, true, true, true, true, false, false, false] rfl (by kernel_rfl) (by kernel_rfl) (by kernel_rfl) (by kernel_rfl) (fun _ _ _ h => h) (.inr ⟨by kernel_rfl, rfl⟩) ⟨(hB.get 1 (x := ⟨g1_3, (kc (digs (57896044618658097711785492504343953926634992332820282019728792003956564819948 : Int) 32)), 23⟩) rfl), trivial⟩ ?_
  simp only [Act.put, List.setIfInBounds_toArray, List.set_cons_zero, List.set_cons_succ, List.getElem_toArray, List.getElem_cons_zero, List.getElem_cons_succ]
  refine any_take (i := 33) (v := (.bool true)) #[true, true, true, true, true, true, true, true, true, true, true, true, true, true, true, true, true, true, true, true, true, true, true, true, true, true, true, true, true, true, true, true, true, false, false] rfl (by kernel_rfl) (by kernel_rfl) (by kernel_rfl) (by kernel_rfl) (fun _ _ _ h => h) (.inl ⟨by kernel_rfl, fun x_ hu => by kernel_rfl⟩) ⟨(hB.get 1 (x := ⟨g1_3, (kc (digs (57896044618658097711785492504343953926634992332820282019728792003956564819948 : Int) 32)), 23⟩) rfl), trivial⟩ ?_
  simp only [Act.put, List.setIfInBounds_toArray, List.set_cons_zero, List.set_cons_succ, List.getElem_toArray, List.getElem_cons_zero, List.getElem_cons_succ]
  refine any_one (i := 34) (by kernel_rfl) rfl (fun K hK => ?_)
  replace hK := hide hK
  go_simp
  refine (unhide hK).out _ _ ⟨(hB.get 1 (x := ⟨g1_3, (kc (digs (57896044618658097711785492504343953926634992332820282019728792003956564819948 : Int) 32)), 23⟩) rfl), trivial⟩ (fun _ => ?_)
  clear hK K
  refine any_done (by kernel_rfl) ?_
  have hG := hide hB.gr
  clear hB
  go_wp2_with fail
  refine bodyPost_ret (v := .bool true) ?_ rfl ⟨rfl, unhide hG⟩
  simp [results, Tryd.results11, go_sem]

set_option maxHeartbeats 2000000 in
theorem rlow_3 (U : Nat) (hU : U < 115792089237316195423570985008687907853269984665640564039457584007913129639936) (hV : (U : Int) % 57896044618658097711785492504343953926634992332820282019728792003956564819968 % pp = 325606250916557431795983626356110631294008115727848805560023387167927233504) (w : World) :
    Calls Tryd.prog 11 #[.agg (kc (digs (U : Int) 32))] w (fun r w' => r = .returned (.bool true) ∧ Gr w w') := by
  replace hU := hide hU
  replace hV := hide hV
  go_enter Tryd.func11, Tryd.ntmps11
  go_upto_region 1 with fail
  have hB := (Bl.nil w).new (kc (digs (U : Int) 32)) 23
  simp only [List.nil_append] at hB
  generalize World.alloc _ _ = v1_ at *
  refine wp_region_lit ?_
  refine list_val (.agg (kc (digs (U : Int) 32))) (by kernel_rfl) (exec_arr _ 23 (.tmp 1) rfl w.heap.size (by kernel_rfl) (kc (digs (U : Int) 32)) 23 _ (hB.get 0 (x := ⟨w.heap.size, (kc (digs (U : Int) 32)), 23⟩) rfl) Tryd.underlying23 rfl (by rw [Tryd.infoKey, kc32])) ?_
  simp only [Act.put, List.setIfInBounds_toArray, List.set_cons_zero, List.set_cons_succ, List.getElem_toArray, List.getElem_cons_zero, List.getElem_cons_succ]
  refine list_call 14 #[.agg (kc (digs (U : Int) 32))] (by kernel_rfl) (by kernel_rfl) ((rFrom_ok U (unhide hU) _).mono ?_)
  rintro r v2_ ⟨c1, rfl, hc1, hg⟩
  refine ⟨_, rfl, ?_⟩
  replace hB := hB.more hg
  clear hg
  simp only [Act.put, List.setIfInBounds_toArray, List.set_cons_zero, List.set_cons_succ, List.getElem_toArray, List.getElem_cons_zero, List.getElem_cons_succ]
  refine list_call 20 #[.agg c1] (by kernel_rfl) (by kernel_rfl) ((nbytes_nc hc1 _).mono ?_)
  rintro r v3_ ⟨rfl, hg⟩
  refine ⟨_, rfl, ?_⟩
  rw [unhide hV]
  replace hB := hB.more hg
  clear hg
  simp only [Act.put, List.setIfInBounds_toArray, List.set_cons_zero, List.set_cons_succ, List.getElem_toArray, List.getElem_cons_zero, List.getElem_cons_succ]
  refine wpList_step fun K hK => ?_
  replace hK := hide hK
  go_simp
  refine unhide hK _ _ ?_
  clear hK K
  replace hB := hB.new #[.int .u8 0, .int .u8 0, .int .u8 0, .int .u8 0, .int .u8 0, .int .u8 0, .int .u8 0, .int .u8 0, .int .u8 0, .int .u8 0, .int .u8 0, .int .u8 0, .int .u8 0, .int .u8 0, .int .u8 0, .int .u8 0, .int .u8 0, .int .u8 0, .int .u8 0, .int .u8 0, .int .u8 0, .int .u8 0, .int .u8 0, .int .u8 0, .int .u8 0, .int .u8 0, .int .u8 0, .int .u8 0, .int .u8 0, .int .u8 0, .int .u8 0, .int .u8 0] 23
  simp only [List.cons_append, List.nil_append] at hB
  generalize v3_.heap.size = g1_3 at *
  generalize World.alloc _ _ = v4_ at *
  replace hB : Bl w [⟨w.heap.size, (kc (digs (U : Int) 32)), 23⟩, ⟨g1_3, Z32, 23⟩] v4_ := hB
  refine list_store 23 (.tmp 3) (.tmp 6) g1_3 (kc (digs (325606250916557431795983626356110631294008115727848805560023387167927233504 : Int) 32)) 23 Z32 (by kernel_rfl) rfl (by kernel_rfl) (by kernel_rfl) (hB.get 1 (x := ⟨g1_3, Z32, 23⟩) rfl) (by rw [Tryd.infoKey, kc32]) (Z32_size.trans (kc32 (325606250916557431795983626356110631294008115727848805560023387167927233504 : Int) 32).symm) (kc_one _) ?_
  replace hB := hB.set 1 (x := ⟨g1_3, Z32, 23⟩) rfl (kc (digs (325606250916557431795983626356110631294008115727848805560023387167927233504 : Int) 32))
  simp only [List.set_cons_zero, List.set_cons_succ] at hB
  generalize World.setRow _ _ _ = v5_ at *
  simp only [Act.put, List.setIfInBounds_toArray, List.set_cons_zero, List.set_cons_succ, List.getElem_toArray, List.getElem_cons_zero, List.getElem_cons_succ]
  refine wpList_nil ?_
  go_upto_region 2 with fail
  refine any_start (S := fun v => v.heap[g1_3]? = some (.cells (kc (digs (325606250916557431795983626356110631294008115727848805560023387167927233504 : Int) 32)) 23 (0, 0)) ∧ True) (by kernel_rfl) ?_
  replace hB := hB.drew
  generalize World.drew _ = v6_ at *
  simp only [List.size_toArray, List.length_cons, List.length_nil, Array.replicate, List.replicate]
  refine any_take (i := 0) (v := (.agg (kc (digs (325606250916557431795983626356110631294008115727848805560023387167927233504 : Int) 32)))) #[false, false, false, false, false, false, false, false, false, false, false, false, false, false, false, false, false, false, false, false, false, false, false, false, false, false, false, false, false, false, false, false, false, false, false] rfl (by kernel_rfl) (by kernel_rfl) (by kernel_rfl) (by kernel_rfl) (fun _ _ _ h => h) (.inl ⟨by kernel_rfl, fun x_ hu => exec_arr x_ 23 (.tmp 3) rfl g1_3 (by kernel_rfl) (kc (digs (325606250916557431795983626356110631294008115727848805560023387167927233504 : Int) 32)) 23 _ hu.1 Tryd.underlying23 rfl (by rw [Tryd.infoKey, kc32])⟩) ⟨(hB.get 1 (x := ⟨g1_3, (kc (digs (325606250916557431795983626356110631294008115727848805560023387167927233504 : Int) 32)), 23⟩) rfl), trivial⟩ ?_
  simp only [Act.put, List.setIfInBounds_toArray, List.set_cons_zero, List.set_cons_succ, List.getElem_toArray, List.getElem_cons_zero, List.getElem_cons_succ]
  refine any_take (i := 1) (v := (.agg (kc (digs ((0 : Nat) : Int) 32)))) #[true, false, false, false, false, false, false, false, false, false, false, false, false, false, false, false, false, false, false, false, false, false, false, false, false, false, false, false, false, false, false, false, false, false, false] rfl (by kernel_rfl) (by kernel_rfl) (by kernel_rfl) (by kernel_rfl) (fun _ _ _ h => h) (.inl ⟨by kernel_rfl, fun x_ hu => by kernel_rfl⟩) ⟨(hB.get 1 (x := ⟨g1_3, (kc (digs (325606250916557431795983626356110631294008115727848805560023387167927233504 : Int) 32)), 23⟩) rfl), trivial⟩ ?_
  simp only [Act.put, List.setIfInBounds_toArray, List.set_cons_zero, List.set_cons_succ, List.getElem_toArray, List.getElem_cons_zero, List.getElem_cons_succ]
  refine any_one (i := 2) (by kernel_rfl) rfl (fun K hK => ?_)
  refine step_callw (by kernel_rfl) 14 #[.agg (kc (digs ((0 : Nat) : Int) 32))] (by kernel_rfl) ((rFrom_ok 0 (by decide) _).mono ?_)
  rintro r v7_ ⟨c2, rfl, hc2, hg⟩
  refine ⟨_, rfl, ?_⟩
  replace hc2 : NC 0 c2 := NC.same hc2 rfl
  replace hB := hB.more hg
  clear hg
  refine hK.out _ _ ⟨(hB.get 1 (x := ⟨g1_3, (kc (digs (325606250916557431795983626356110631294008115727848805560023387167927233504 : Int) 32)), 23⟩) rfl), trivial⟩ (fun _ => ?_)
  clear hK K
  simp only [Act.put, List.setIfInBounds_toArray, List.set_cons_zero, List.set_cons_succ, List.getElem_toArray, List.getElem_cons_zero, List.getElem_cons_succ]
  refine any_one (i := 3) (by kernel_rfl) rfl (fun K hK => ?_)
  refine step_callw (by kernel_rfl) 20 #[.agg c2] (by kernel_rfl) ((nbytes_nc hc2 _).mono ?_)
  rintro r v8_ ⟨rfl, hg⟩
  refine ⟨_, rfl, ?_⟩
  rw [show (0 : Int) % pp = 0 from by decide]
  replace hB := hB.more hg
  clear hg
  refine hK.out _ _ ⟨(hB.get 1 (x := ⟨g1_3, (kc (digs (325606250916557431795983626356110631294008115727848805560023387167927233504 : Int) 32)), 23⟩) rfl), trivial⟩ (fun _ => ?_)
  clear hK K
  simp only [Act.put, List.setIfInBounds_toArray, List.set_cons_zero, List.set_cons_succ, List.getElem_toArray, List.getElem_cons_zero, List.getElem_cons_succ]
  refine any_take (i := 4) (v := (.bool false)) #[true, true, true, true, false, false, false, false, false, false, false, false, false, false, false, false, false, false, false, false, false, false, false, false, false, false, false, false, false, false, false, false, false, false, false] rfl (by kernel_rfl) (by kernel_rfl) (by kernel_rfl) (by kernel_rfl) (fun _ _ _ h => h) (.inl ⟨by kernel_rfl, fun x_ hu => by have e := key_diff (n := 325606250916557431795983626356110631294008115727848805560023387167927233504) (m := 0) (by omega) (by omega) (by decide); go_simp⟩) ⟨(hB.get 1 (x := ⟨g1_3, (kc (digs (325606250916557431795983626356110631294008115727848805560023387167927233504 : Int) 32)), 23⟩) rfl), trivial⟩ ?_
  simp only [Act.put, List.setIfInBounds_toArray, List.set_cons_zero, List.set_cons_succ, List.getElem_toArray, List.getElem_cons_zero, List.getElem_cons_succ]
  refine any_take (i := 5) (v := (.bool false)) #[true, true, true, true, true, false, false, false, false, false, false, false, false, false, false, false, false, false, false, false, false, false, false, false, false, false, false, false, false, false, false, false, false, false, false] rfl (by kernel_rfl) (by kernel_rfl) (by kernel_rfl) (by kernel_rfl) (fun _ _ _ h => h) (.inl ⟨by kernel_rfl, fun x_ hu => by kernel_rfl⟩) ⟨(hB.get 1 (x := ⟨g1_3, (kc (digs (325606250916557431795983626356110631294008115727848805560023387167927233504 : Int) 32)), 23⟩) rfl), trivial⟩ ?_
  simp only [Act.put, List.setIfInBounds_toArray, List.set_cons_zero, List.set_cons_succ, List.getElem_toArray, List.getElem_cons_zero, List.getElem_cons_succ]
  refine any_take (i := 6) (v := (.agg (kc (digs (325606250916557431795983626356110631294008115727848805560023387167927233504 : Int) 32)))) #[true, true, true, true, true, true, false, false, false, false, false, false, false, false, false, false, false, false, false, false, false, false, false, false, false, false, false, false, false, false, false, false, false, false, false] rfl (by kernel_rfl) (by kernel_rfl) (by kernel_rfl) (by kernel_rfl) (fun _ _ _ h => h) (.inl ⟨by kernel_rfl, fun x_ hu => exec_arr x_ 23 (.tmp 3) rfl g1_3 (by kernel_rfl) (kc (digs (325606250916557431795983626356110631294008115727848805560023387167927233504 : Int) 32)) 23 _ hu.1 Tryd.underlying23 rfl (by rw [Tryd.infoKey, kc32])⟩) ⟨(hB.get 1 (x := ⟨g1_3, (kc (digs (325606250916557431795983626356110631294008115727848805560023387167927233504 : Int) 32)), 23⟩) rfl), trivial⟩ ?_
  simp only [Act.put, List.setIfInBounds_toArray, List.set_cons_zero, List.set_cons_succ, List.getElem_toArray, List.getElem_cons_zero, List.getElem_cons_succ]
  refine any_take (i := 7) (v := (.agg (kc (digs ((1 : Nat) : Int) 32)))) #[true, true, true, true, true, true, true, false, false, false, false, false, false, false, false, false, false, false, false, false, false, false, false, false, false, false, false, false, false, false, false, false, false, false, false] rfl (by kernel_rfl) (by kernel_rfl) (by kernel_rfl) (by kernel_rfl) (fun _ _ _ h => h) (.inl ⟨by kernel_rfl, fun x_ hu => by kernel_rfl⟩) ⟨(hB.get 1 (x := ⟨g1_3, (kc (digs (325606250916557431795983626356110631294008115727848805560023387167927233504 : Int) 32)), 23⟩) rfl), trivial⟩ ?_
  simp only [Act.put, List.setIfInBounds_toArray, List.set_cons_zero, List.set_cons_succ, List.getElem_toArray, List.getElem_cons_zero, List.getElem_cons_succ]
  refine any_one (i := 8) (by kernel_rfl) rfl (fun K hK => ?_)
  refine step_callw (by kernel_rfl) 14 #[.agg (kc (digs ((1 : Nat) : Int) 32))] (by kernel_rfl) ((rFrom_ok 1 (by decide) _).mono ?_)
  rintro r v9_ ⟨c3, rfl, hc3, hg⟩
  refine ⟨_, rfl, ?_⟩
  replace hc3 : NC 1 c3 := NC.same hc3 rfl
  replace hB := hB.more hg
  clear hg
  refine hK.out _ _ ⟨(hB.get 1 (x := ⟨g1_3, (kc (digs (325606250916557431795983626356110631294008115727848805560023387167927233504 : Int) 32)), 23⟩) rfl), trivial⟩ (fun _ => ?_)
  clear hK K
  simp only [Act.put, List.setIfInBounds_toArray, List.set_cons_zero, List.set_cons_succ, List.getElem_toArray, List.getElem_cons_zero, List.getElem_cons_succ]
  refine any_one (i := 9) (by kernel_rfl) rfl (fun K hK => ?_)
  refine step_callw (by kernel_rfl) 20 #[.agg c3] (by kernel_rfl) ((nbytes_nc hc3 _).mono ?_)
  rintro r v10_ ⟨rfl, hg⟩
  refine ⟨_, rfl, ?_⟩
  rw [show (1 : Int) % pp = 1 from by decide]
  replace hB := hB.more hg
  clear hg
  refine hK.out _ _ ⟨(hB.get 1 (x := ⟨g1_3, (kc (digs (325606250916557431795983626356110631294008115727848805560023387167927233504 : Int) 32)), 23⟩) rfl), trivial⟩ (fun _ => ?_)
  clear hK K
  simp only [Act.put, List.setIfInBounds_toArray, List.set_cons_zero, List.set_cons_succ, List.getElem_toArray, List.getElem_cons_zero, List.getElem_cons_succ]
  refine any_take (i := 10) (v := (.bool false)) #[true, true, true, true, true, true, true, true, true, true, false, false, false, false, false, false, false, false, false, false, false, false, false, false, false, false, false, false, false, false, false, false, false, false, false] rfl (by kernel_rfl) (by kernel_rfl) (by kernel_rfl) (by kernel_rfl) (fun _ _ _ h => h) (.inl ⟨by kernel_rfl, fun x_ hu => by have e := key_diff (n := 325606250916557431795983626356110631294008115727848805560023387167927233504) (m := 1) (by omega) (by omega) (by decide); go_simp⟩) ⟨(hB.get 1 (x := ⟨g1_3, (kc (digs (325606250916557431795983626356110631294008115727848805560023387167927233504 : Int) 32)), 23⟩) rfl), trivial⟩ ?_
  simp only [Act.put, List.setIfInBounds_toArray, List.set_cons_zero, List.set_cons_succ, List.getElem_toArray, List.getElem_cons_zero, List.getElem_cons_succ]
  refine any_take (i := 11) (v := (.bool false)) #[true, true, true, true, true, true, true, true, true, true, true, false, false, false, false, false, false, false, false, false, false, false, false, false, false, false, false, false, false, false, false, false, false, false, false] rfl (by kernel_rfl) (by kernel_rfl) (by kernel_rfl) (by kernel_rfl) (fun _ _ _ h => h) (.inl ⟨by kernel_rfl, fun x_ hu => by kernel_rfl⟩) ⟨(hB.get 1 (x := ⟨g1_3, (kc (digs (325606250916557431795983626356110631294008115727848805560023387167927233504 : Int) 32)), 23⟩) rfl), trivial⟩ ?_
  simp only [Act.put, List.setIfInBounds_toArray, List.set_cons_zero, List.set_cons_succ, List.getElem_toArray, List.getElem_cons_zero, List.getElem_cons_succ]
  refine any_take (i := 12) (v := (.bool false)) #[true, true, true, true, true, true, true, true, true, true, true, true, false, false, false, false, false, false, false, false, false, false, false, false, false, false, false, false, false, false, false, false, false, false, false] rfl (by kernel_rfl) (by kernel_rfl) (by kernel_rfl) (by kernel_rfl) (fun _ _ _ h => h) (.inl ⟨by kernel_rfl, fun x_ hu => by kernel_rfl⟩) ⟨(hB.get 1 (x := ⟨g1_3, (kc (digs (325606250916557431795983626356110631294008115727848805560023387167927233504 : Int) 32)), 23⟩) rfl), trivial⟩ ?_
  simp only [Act.put, List.setIfInBounds_toArray, List.set_cons_zero, List.set_cons_succ, List.getElem_toArray, List.getElem_cons_zero, List.getElem_cons_succ]
  refine any_take (i := 13) (v := (.agg (kc (digs (325606250916557431795983626356110631294008115727848805560023387167927233504 : Int) 32)))) #[true, true, true, true, true, true, true, true, true, true, true, true, true, false, false, false, false, false, false, false, false, false, false, false, false, false, false, false, false, false, false, false, false, false, false] rfl (by kernel_rfl) (by kernel_rfl) (by kernel_rfl) (by kernel_rfl) (fun _ _ _ h => h) (.inl ⟨by kernel_rfl, fun x_ hu => exec_arr x_ 23 (.tmp 3) rfl g1_3 (by kernel_rfl) (kc (digs (325606250916557431795983626356110631294008115727848805560023387167927233504 : Int) 32)) 23 _ hu.1 Tryd.underlying23 rfl (by rw [Tryd.infoKey, kc32])⟩) ⟨(hB.get 1 (x := ⟨g1_3, (kc (digs (325606250916557431795983626356110631294008115727848805560023387167927233504 : Int) 32)), 23⟩) rfl), trivial⟩ ?_
  simp only [Act.put, List.setIfInBounds_toArray, List.set_cons_zero, List.set_cons_succ, List.getElem_toArray, List.getElem_cons_zero, List.getElem_cons_succ]
  refine any_take (i := 14) (v := (.agg (kc (digs ((0 : Nat) : Int) 32)))) #[true, true, true, true, true, true, true, true, true, true, true, true, true, true, false, false, false, false, false, false, false, false, false, false, false, false, false, false, false, false, false, false, false, false, false] rfl (by kernel_rfl) (by kernel_rfl) (by kernel_rfl) (by kernel_rfl) (fun _ _ _ h => h) (.inl ⟨by kernel_rfl, fun x_ hu => by kernel_rfl⟩) ⟨(hB.get 1 (x := ⟨g1_3, (kc (digs (325606250916557431795983626356110631294008115727848805560023387167927233504 : Int) 32)), 23⟩) rfl), trivial⟩ ?_
  simp only [Act.put, List.setIfInBounds_toArray, List.set_cons_zero, List.set_cons_succ, List.getElem_toArray, List.getElem_cons_zero, List.getElem_cons_succ]
  refine any_take (i := 16) (v := (.agg (kc (digs ((1 : Nat) : Int) 32)))) #[true, true, true, true, true, true, true, true, true, true, true, true, true, true, true, false, false, false, false, false, false, false, false, false, false, false, false, false, false, false, false, false, false, false, false] rfl (by kernel_rfl) (by kernel_rfl) (by kernel_rfl) (by kernel_rfl) (fun _ _ _ h => h) (.inl ⟨by kernel_rfl, fun x_ hu => by kernel_rfl⟩) ⟨(hB.get 1 (x := ⟨g1_3, (kc (digs (325606250916557431795983626356110631294008115727848805560023387167927233504 : Int) 32)), 23⟩) rfl), trivial⟩ ?_
  simp only [Act.put, List.setIfInBounds_toArray, List.set_cons_zero, List.set_cons_succ, List.getElem_toArray, List.getElem_cons_zero, List.getElem_cons_succ]
  refine any_one (i := 15) (by kernel_rfl) rfl (fun K hK => ?_)
  refine step_callw (by kernel_rfl) 14 #[.agg (kc (digs ((0 : Nat) : Int) 32))] (by kernel_rfl) ((rFrom_ok 0 (by decide) _).mono ?_)
  rintro r v11_ ⟨c4, rfl, hc4, hg⟩
  refine ⟨_, rfl, ?_⟩
  replace hc4 : NC 0 c4 := NC.same hc4 rfl
  replace hB := hB.more hg
  clear hg
  refine hK.out _ _ ⟨(hB.get 1 (x := ⟨g1_3, (kc (digs (325606250916557431795983626356110631294008115727848805560023387167927233504 : Int) 32)), 23⟩) rfl), trivial⟩ (fun _ => ?_)
  clear hK K
  simp only [Act.put, List.setIfInBounds_toArray, List.set_cons_zero, List.set_cons_succ, List.getElem_toArray, List.getElem_cons_zero, List.getElem_cons_succ]
  refine any_one (i := 17) (by kernel_rfl) rfl (fun K hK => ?_)
  refine step_callw (by kernel_rfl) 14 #[.agg (kc (digs ((1 : Nat) : Int) 32))] (by kernel_rfl) ((rFrom_ok 1 (by decide) _).mono ?_)
  rintro r v12_ ⟨c5, rfl, hc5, hg⟩
  refine ⟨_, rfl, ?_⟩
  replace hc5 : NC 1 c5 := NC.same hc5 rfl
  replace hB := hB.more hg
  clear hg
  refine hK.out _ _ ⟨(hB.get 1 (x := ⟨g1_3, (kc (digs (325606250916557431795983626356110631294008115727848805560023387167927233504 : Int) 32)), 23⟩) rfl), trivial⟩ (fun _ => ?_)
  clear hK K
  simp only [Act.put, List.setIfInBounds_toArray, List.set_cons_zero, List.set_cons_succ, List.getElem_toArray, List.getElem_cons_zero, List.getElem_cons_succ]
  refine any_one (i := 18) (by kernel_rfl) rfl (fun K hK => ?_)
  refine step_callw (by kernel_rfl) 16 #[.agg c4, .agg c5] (by kernel_rfl) ((nsub_nc hc4 hc5 _).mono ?_)
  rintro r v13_ ⟨c6, rfl, hc6, hg⟩
  refine ⟨_, rfl, ?_⟩
  replace hc6 : NC 57896044618658097711785492504343953926634992332820282019728792003956564819948 c6 := NC.same hc6 (by decide)
  replace hB := hB.more hg
  clear hg
  refine hK.out _ _ ⟨(hB.get 1 (x := ⟨g1_3, (kc (digs (325606250916557431795983626356110631294008115727848805560023387167927233504 : Int) 32)), 23⟩) rfl), trivial⟩ (fun _ => ?_)
  clear hK K
  simp only [Act.put, List.setIfInBounds_toArray, List.set_cons_zero, List.set_cons_succ, List.getElem_toArray, List.getElem_cons_zero, List.getElem_cons_succ]
  refine any_one (i := 19) (by kernel_rfl) rfl (fun K hK => ?_)
  refine step_callw (by kernel_rfl) 20 #[.agg c6] (by kernel_rfl) ((nbytes_nc hc6 _).mono ?_)
  rintro r v14_ ⟨rfl, hg⟩
  refine ⟨_, rfl, ?_⟩
  rw [show (57896044618658097711785492504343953926634992332820282019728792003956564819948 : Int) % pp = 57896044618658097711785492504343953926634992332820282019728792003956564819948 from by decide]
  replace hB := hB.more hg
  clear hg
  refine hK.out _ _ ⟨(hB.get 1 (x := ⟨g1_3, (kc (digs (325606250916557431795983626356110631294008115727848805560023387167927233504 : Int) 32)), 23⟩) rfl), trivial⟩ (fun _ => ?_)
  clear hK K
  simp only [Act.put, List.setIfInBounds_toArray, List.set_cons_zero, List.set_cons_succ, List.getElem_toArray, List.getElem_cons_zero, List.getElem_cons_succ]
  refine any_take (i := 20) (v := (.bool false)) #[true, true, true, true, true, true, true, true, true, true, true, true, true, true, true, true, true, true, true, true, false, false, false, false, false, false, false, false, false, false, false, false, false, false, false] rfl (by kernel_rfl) (by kernel_rfl) (by kernel_rfl) (by kernel_rfl) (fun _ _ _ h => h) (.inl ⟨by kernel_rfl, fun x_ hu => by have e := key_diff (n := 325606250916557431795983626356110631294008115727848805560023387167927233504) (m := 57896044618658097711785492504343953926634992332820282019728792003956564819948) (by omega) (by omega) (by decide); go_simp⟩) ⟨(hB.get 1 (x := ⟨g1_3, (kc (digs (325606250916557431795983626356110631294008115727848805560023387167927233504 : Int) 32)), 23⟩) rfl), trivial⟩ ?_
  simp only [Act.put, List.setIfInBounds_toArray, List.set_cons_zero, List.set_cons_succ, List.getElem_toArray, List.getElem_cons_zero, List.getElem_cons_succ]
  refine any_take (i := 21) (v := (.bool false)) #[true, true, true, true, true, true, true, true, true, true, true, true, true, true, true, true, true, true, true, true, true, false, false, false, false, false, false, false, false, false, false, false, false, false, false] rfl (by kernel_rfl) (by kernel_rfl) (by kernel_rfl) (by kernel_rfl) (fun _ _ _ h => h) (.inl ⟨by kernel_rfl, fun x_ hu => by kernel_rfl⟩) ⟨(hB.get 1 (x := ⟨g1_3, (kc (digs (325606250916557431795983626356110631294008115727848805560023387167927233504 : Int) 32)), 23⟩) rfl), trivial⟩ ?_
  simp only [Act.put, List.setIfInBounds_toArray, List.set_cons_zero, List.set_cons_succ, List.getElem_toArray, List.getElem_cons_zero, List.getElem_cons_succ]
  refine any_take (i := 22) (v := (.bool false)) #[true, true, true, true, true, true, true, true, true, true, true, true, true, true, true, true, true, true, true, true, true, true, false, false, false, false, false, false, false, false, false, false, false, false, false] rfl (by kernel_rfl) (by kernel_rfl) (by kernel_rfl) (by kernel_rfl) (fun _ _ _ h => h) (.inl ⟨by kernel_rfl, fun x_ hu => by kernel_rfl⟩) ⟨(hB.get 1 (x := ⟨g1_3, (kc (digs (325606250916557431795983626356110631294008115727848805560023387167927233504 : Int) 32)), 23⟩) rfl), trivial⟩ ?_
  simp only [Act.put, List.setIfInBounds_toArray, List.set_cons_zero, List.set_cons_succ, List.getElem_toArray, List.getElem_cons_zero, List.getElem_cons_succ]
  refine any_take (i := 23) (v := (.agg (kc (digs (325606250916557431795983626356110631294008115727848805560023387167927233504 : Int) 32)))) #[true, true, true, true, true, true, true, true, true, true, true, true, true, true, true, true, true, true, true, true, true, true, true, false, false, false, false, false, false, false, false, false, false, false, false] rfl (by kernel_rfl) (by kernel_rfl) (by kernel_rfl) (by kernel_rfl) (fun _ _ _ h => h) (.inl ⟨by kernel_rfl, fun x_ hu => exec_arr x_ 23 (.tmp 3) rfl g1_3 (by kernel_rfl) (kc (digs (325606250916557431795983626356110631294008115727848805560023387167927233504 : Int) 32)) 23 _ hu.1 Tryd.underlying23 rfl (by rw [Tryd.infoKey, kc32])⟩) ⟨(hB.get 1 (x := ⟨g1_3, (kc (digs (325606250916557431795983626356110631294008115727848805560023387167927233504 : Int) 32)), 23⟩) rfl), trivial⟩ ?_
  simp only [Act.put, List.setIfInBounds_toArray, List.set_cons_zero, List.set_cons_succ, List.getElem_toArray, List.getElem_cons_zero, List.getElem_cons_succ]
  refine any_one (i := 24) (by kernel_rfl) rfl (fun K hK => ?_)
  refine step_callw (by kernel_rfl) 23 #[.string s8] (by kernel_rfl) ((dig8_ok _).mono ?_)
  rintro r v15_ ⟨c7, rfl, hc7, hg⟩
  refine ⟨_, rfl, ?_⟩
  replace hB := hB.more hg
  clear hg
  refine hK.out _ _ ⟨(hB.get 1 (x := ⟨g1_3, (kc (digs (325606250916557431795983626356110631294008115727848805560023387167927233504 : Int) 32)), 23⟩) rfl), trivial⟩ (fun _ => ?_)
  clear hK K
  simp only [Act.put, List.setIfInBounds_toArray, List.set_cons_zero, List.set_cons_succ, List.getElem_toArray, List.getElem_cons_zero, List.getElem_cons_succ]
  refine any_one (i := 25) (by kernel_rfl) rfl (fun K hK => ?_)
  refine step_callw (by kernel_rfl) 20 #[.agg c7] (by kernel_rfl) ((nbytes_nc hc7 _).mono ?_)
  rintro r v16_ ⟨rfl, hg⟩
  refine ⟨_, rfl, ?_⟩
  rw [show (325606250916557431795983626356110631294008115727848805560023387167927233504 : Int) % pp = 325606250916557431795983626356110631294008115727848805560023387167927233504 from by decide]
  replace hB := hB.more hg
  clear hg
  refine hK.out _ _ ⟨(hB.get 1 (x := ⟨g1_3, (kc (digs (325606250916557431795983626356110631294008115727848805560023387167927233504 : Int) 32)), 23⟩) rfl), trivial⟩ (fun _ => ?_)
  clear hK K
  simp only [Act.put, List.setIfInBounds_toArray, List.set_cons_zero, List.set_cons_succ, List.getElem_toArray, List.getElem_cons_zero, List.getElem_cons_succ]
  refine any_take (i := 26) (v := (.bool true)) #[true, true, true, true, true, true, true, true, true, true, true, true, true, true, true, true, true, true, true, true, true, true, true, true, true, true, false, false, false, false, false, false, false, false, false] rfl (by kernel_rfl) (by kernel_rfl) (by kernel_rfl) (by kernel_rfl) (fun _ _ _ h => h) (.inl ⟨by kernel_rfl, fun x_ hu => by have e := key_same (325606250916557431795983626356110631294008115727848805560023387167927233504 : Int); go_simp⟩) ⟨(hB.get 1 (x := ⟨g1_3, (kc (digs (325606250916557431795983626356110631294008115727848805560023387167927233504 : Int) 32)), 23⟩) rfl), trivial⟩ ?_
  simp only [Act.put, List.setIfInBounds_toArray, List.set_cons_zero, List.set_cons_succ, List.getElem_toArray, List.getElem_cons_zero, List.getElem_cons_succ]
  refine any_take (i := 27) (v := (.bool true)) #[true, true, true, true, true, true, true, true, true, true, true, true, true, true, true, true, true, true, true, true, true, true, true, true, true, true, true, false, false, false, false, false, false, false, false] rfl (by kernel_rfl) (by kernel_rfl) (by kernel_rfl) (by kernel_rfl) (fun _ _ _ h => h) (.inl ⟨by kernel_rfl, fun x_ hu => by kernel_rfl⟩) ⟨(hB.get 1 (x := ⟨g1_3, (kc (digs (325606250916557431795983626356110631294008115727848805560023387167927233504 : Int) 32)), 23⟩) rfl), trivial⟩ ?_
  simp only [Act.put, List.setIfInBounds_toArray, List.set_cons_zero, List.set_cons_succ, List.getElem_toArray, List.getElem_cons_zero, List.getElem_cons_succ]
  refine any_take (i := 28) (v := (.bool true)) #[true, true, true, true, true, true, true, true, true, true, true, true, true, true, true, true, true, true, true, true, true, true, true, true, true, true, true, true, false, false, false, false, false, false, false] rfl (by kernel_rfl) (by kernel_rfl) (by kernel_rfl) (by kernel_rfl) (fun _ _ _ h => h) (.inl ⟨by kernel_rfl, fun x_ hu => by kernel_rfl⟩) ⟨(hB.get 1 (x := ⟨g1_3, (kc (digs (325606250916557431795983626356110631294008115727848805560023387167927233504 : Int) 32)), 23⟩) rfl), trivial⟩ ?_
  simp only [Act.put, List.setIfInBounds_toArray, List.set_cons_zero, List.set_cons_succ, List.getElem_toArray, List.getElem_cons_zero, List.getElem_cons_succ]
  refine any_take (i := 29) (v := undef) #[true, true, true, true, true, true, true, true, true, true, true, true, true, true, true, true, true, true, true, true, true, true, true, true, true, true, true, true, true, false, false, false, false, false, false] rfl (by kernel_rfl) (by kernel_rfl) (by kernel_rfl) (by kernel_rfl) (fun _ _ _ h => h) (.inr ⟨by kernel_rfl, rfl⟩) ⟨(hB.get 1 (x := ⟨g1_3, (kc (digs (325606250916557431795983626356110631294008115727848805560023387167927233504 : Int) 32)), 23⟩) rfl), trivial⟩ ?_
  simp only [Act.put, List.setIfInBounds_toArray, List.set_cons_zero, List.set_cons_succ, List.getElem_toArray, List.getElem_cons_zero, List.getElem_cons_succ]
  refine any_take (i := 30) (v := undef) #[true, true, true, true, true, true, true, true, true, true, true, true, true, true, true, true, true, true, true, true, true, true, true, true, true, true, true, true, true, true, false, false, false, false, false] rfl (by kernel_rfl) (by kernel_rfl) (by kernel_rfl) (by kernel_rfl) (fun _ _ _ h => h) (.inr ⟨by kernel_rfl, rfl⟩) ⟨(hB.get 1 (x := ⟨g1_3, (kc (digs (325606250916557431795983626356110631294008115727848805560023387167927233504 : Int) 32)), 23⟩) rfl), trivial⟩ ?_
  simp only [Act.put, List.setIfInBounds_toArray, List.set_cons_zero, List.set_cons_succ, List.getElem_toArray, List.getElem_cons_zero, List.getElem_cons_succ]
  refine any_take (i := 31) (v := undef) #[true, true, true, true, true, true, true, true, true, true, true, true, true, true, true, true, true, true, true, true, true, true, true, true, true, true, true, true, true, true, true, false, false, false, false] rfl (by kernel_rfl) (by kernel_rfl) (by kernel_rfl) (by kernel_rfl) (fun _ _ _ h => h) (.inr ⟨by kernel_rfl, rfl⟩) ⟨(hB.get 1 (x := ⟨g1_3, (kc (digs (325606250916557431795983626356110631294008115727848805560023387167927233504 : Int) 32)), 23⟩) rfl), trivial⟩ ?_
  simp only [Act.put, List.setIfInBounds_toArray, List.set_cons_zero, List.set_cons_succ, List.getElem_toArray, List.getElem_cons_zero, List.getElem_cons_succ]
  refine any_take (i := 32) (v := undef) #[true, true, true, true, true, true, true, true, true, true, true, true, true, true, true, true, true, true, true, true, true, true, true, true, true, true, true, true, true, true, true, true, false, false, false] rfl (by kernel_rfl) (by kernel_rfl) (by kernel_rfl) (by kernel_rfl) (fun _ _ _ h => h) (.inr ⟨by kernel_rfl, rfl⟩) ⟨(hB.get 1 (x := ⟨g1_3, (kc (digs (325606250916557431795983626356110631294008115727848805560023387167927233504 : Int) 32)), 23⟩) rfl), trivial⟩ ?_
  simp only [Act.put, List.setIfInBounds_toArray, List.set_cons_zero, List.set_cons_succ, List.getElem_toArray, List.getElem_cons_zero, List.getElem_cons_succ]
  refine any_take (i := 33) (v := (.bool true)) #[true, true, true, true, true, true, true, true, true, true, true, true, true, true, true, true, true, true, true, true, true, true, true, true, true, true, true, true, true, true, true, true, true, false, false] rfl (by kernel_rfl) (by kernel_rfl) (by kernel_rfl) (by kernel_rfl) (fun _ _ _ h => h) (.inl ⟨by kernel_rfl, fun x_ hu => by kernel_rfl⟩) ⟨(hB.get 1 (x := ⟨g1_3, (kc (digs (325606250916557431795983626356110631294008115727848805560023387167927233504 : Int) 32)), 23⟩) rfl), trivial⟩ ?_
  simp only [Act.put, List.setIfInBounds_toArray, List.set_cons_zero, List.set_cons_succ, List.getElem_toArray, List.getElem_cons_zero, List.getElem_cons_succ]
  refine any_one (i := 34) (by kernel_rfl) rfl (fun K hK => ?_)
  replace hK := hide hK
  go_simp
  refine (unhide hK).out _ _ ⟨(hB.get 1 (x := ⟨g1_3, (kc (digs (325606250916557431795983626356110631294008115727848805560023387167927233504 : Int) 32)), 23⟩) rfl), trivial⟩ (fun _ => ?_)
  clear hK K
  refine any_done (by kernel_rfl) ?_
  have hG := hide hB.gr
  clear hB
  go_wp2_with fail
  refine bodyPost_ret (v := .bool true) ?_ rfl ⟨rfl, unhide hG⟩
  simp [results, Tryd.results11, go_sem]

set_option maxHeartbeats 2000000 in
theorem rlow_4 (U : Nat) (hU : U < 115792089237316195423570985008687907853269984665640564039457584007913129639936) (hV : (U : Int) % 57896044618658097711785492504343953926634992332820282019728792003956564819968 % pp = 39382357235489614581723060781553021112529911719440698176882885853963445705823) (w : World) :
    Calls Tryd.prog 11 #[.agg (kc (digs (U : Int) 32))] w (fun r w' => r = .returned (.bool true) ∧ Gr w w') := by
  replace hU := hide hU
  replace hV := hide hV
  go_enter Tryd.func11, Tryd.ntmps11
  go_upto_region 1 with fail
  have hB := (Bl.nil w).new (kc (digs (U : Int) 32)) 23
  simp only [List.nil_append] at hB
  generalize World.alloc _ _ = v1_ at *
  refine wp_region_lit ?_
  refine list_val (.agg (kc (digs (U : Int) 32))) (by kernel_rfl) (exec_arr _ 23 (.tmp 1) rfl w.heap.size (by kernel_rfl) (kc (digs (U : Int) 32)) 23 _ (hB.get 0 (x := ⟨w.heap.size, (kc (digs (U : Int) 32)), 23⟩) rfl) Tryd.underlying23 rfl (by rw [Tryd.infoKey, kc32])) ?_
  simp only [Act.put, List.setIfInBounds_toArray, List.set_cons_zero, List.set_cons_succ, List.getElem_toArray, List.getElem_cons_zero, List.getElem_cons_succ]
  refine list_call 14 #[.agg (kc (digs (U : Int) 32))] (by kernel_rfl) (by kernel_rfl) ((rFrom_ok U (unhide hU) _).mono ?_)
  rintro r v2_ ⟨c1, rfl, hc1, hg⟩
  refine ⟨_, rfl, ?_⟩
  replace hB := hB.more hg
  clear hg
  simp only [Act.put, List.setIfInBounds_toArray, List.set_cons_zero, List.set_cons_succ, List.getElem_toArray, List.getElem_cons_zero, List.getElem_cons_succ]
  refine list_call 20 #[.agg c1] (by kernel_rfl) (by kernel_rfl) ((nbytes_nc hc1 _).mono ?_)
  rintro r v3_ ⟨rfl, hg⟩
  refine ⟨_, rfl, ?_⟩
  rw [unhide hV]
  replace hB := hB.more hg
  clear hg
  simp only [Act.put, List.setIfInBounds_toArray, List.set_cons_zero, List.set_cons_succ, List.getElem_toArray, List.getElem_cons_zero, List.getElem_cons_succ]
  refine wpList_step fun K hK => ?_
  replace hK := hide hK
  go_simp
  refine unhide hK _ _ ?_
  clear hK K
  replace hB := hB.new #[.int .u8 0, .int .u8 0, .int .u8 0, .int .u8 0, .int .u8 0, .int .u8 0, .int .u8 0, .int .u8 0, .int .u8 0, .int .u8 0, .int .u8 0, .int .u8 0, .int .u8 0, .int .u8 0, .int .u8 0, .int .u8 0, .int .u8 0, .int .u8 0, .int .u8 0, .int .u8 0, .int .u8 0, .int .u8 0, .int .u8 0, .int .u8 0, .int .u8 0, .int .u8 0, .int .u8 0, .int .u8 0, .int .u8 0, .int .u8 0, .int .u8 0, .int .u8 0] 23
  simp only [List.cons_append, List.nil_append] at hB
  generalize v3_.heap.size = g1_3 at *
  generalize World.alloc _ _ = v4_ at *
  replace hB : Bl w [⟨w.heap.size, (kc (digs (U : Int) 32)), 23⟩, ⟨g1_3, Z32, 23⟩] v4_ := hB
  refine list_store 23 (.tmp 3) (.tmp 6) g1_3 (kc (digs (39382357235489614581723060781553021112529911719440698176882885853963445705823 : Int) 32)) 23 Z32 (by kernel_rfl) rfl (by kernel_rfl) (by kernel_rfl) (hB.get 1 (x := ⟨g1_3, Z32, 23⟩) rfl) (by rw [Tryd.infoKey, kc32]) (Z32_size.trans (kc32 (39382357235489614581723060781553021112529911719440698176882885853963445705823 : Int) 32).symm) (kc_one _) ?_
  replace hB := hB.set 1 (x := ⟨g1_3, Z32, 23⟩) rfl (kc (digs (39382357235489614581723060781553021112529911719440698176882885853963445705823 : Int) 32))
  simp only [List.set_cons_zero, List.set_cons_succ] at hB
  generalize World.setRow _ _ _ = v5_ at *
  simp only [Act.put, List.setIfInBounds_toArray, List.set_cons_zero, List.set_cons_succ, List.getElem_toArray, List.getElem_cons_zero, List.getElem_cons_succ]
  refine wpList_nil ?_
  go_upto_region 2 with fail
  refine any_start (S := fun v => v.heap[g1_3]? = some (.cells (kc (digs (39382357235489614581723060781553021112529911719440698176882885853963445705823 : Int) 32)) 23 (0, 0)) ∧ True) (by kernel_rfl) ?_
  replace hB := hB.drew
  generalize World.drew _ = v6_ at *
  simp only [List.size_toArray, List.length_cons, List.length_nil, Array.replicate, List.replicate]
  refine any_take (i := 0) (v := (.agg (kc (digs (39382357235489614581723060781553021112529911719440698176882885853963445705823 : Int) 32)))) #[false, false, false, false, false, false, false, false, false, false, false, false, false, false, false, false, false, false, false, false, false, false, false, false, false, false, false, false, false, false, false, false, false, false, false] rfl (by kernel_rfl) (by kernel_rfl) (by kernel_rfl) (by kernel_rfl) (fun _ _ _ h => h) (.inl ⟨by kernel_rfl, fun x_ hu => exec_arr x_ 23 (.tmp 3) rfl g1_3 (by kernel_rfl) (kc (digs (39382357235489614581723060781553021112529911719440698176882885853963445705823 : Int) 32)) 23 _ hu.1 Tryd.underlying23 rfl (by rw [Tryd.infoKey, kc32])⟩) ⟨(hB.get 1 (x := ⟨g1_3, (kc (digs (39382357235489614581723060781553021112529911719440698176882885853963445705823 : Int) 32)), 23⟩) rfl), trivial⟩ ?_
  simp only [Act.put, List.setIfInBounds_toArray, List.set_cons_zero, List.set_cons_succ, List.getElem_toArray, List.getElem_cons_zero, List.getElem_cons_succ]
  refine any_take (i := 1) (v := (.agg (kc (digs ((0 : Nat) : Int) 32)))) #[true, false, false, false, false, false, false, false, false, false, false, false, false, false, false, false, false, false, false, false, false, false, false, false, false, false, false, false, false, false, false, false, false, false, false] rfl (by kernel_rfl) (by kernel_rfl) (by kernel_rfl) (by kernel_rfl) (fun _ _ _ h => h) (.inl ⟨by kernel_rfl, fun x_ hu => by kernel_rfl⟩) ⟨(hB.get 1 (x := ⟨g1_3, (kc (digs (39382357235489614581723060781553021112529911719440698176882885853963445705823 : Int) 32)), 23⟩) rfl), trivial⟩ ?_
  simp only [Act.put, List.setIfInBounds_toArray, List.set_cons_zero, List.set_cons_succ, List.getElem_toArray, List.getElem_cons_zero, List.getElem_cons_succ]
  refine any_one (i := 2) (by kernel_rfl) rfl (fun K hK => ?_)
  refine step_callw (by kernel_rfl) 14 #[.agg (kc (digs ((0 : Nat) : Int) 32))] (by kernel_rfl) ((rFrom_ok 0 (by decide) _).mono ?_)
  rintro r v7_ ⟨c2, rfl, hc2, hg⟩
  refine ⟨_, rfl, ?_⟩
  replace hc2 : NC 0 c2 := NC.same hc2 rfl
  replace hB := hB.more hg
  clear hg
  refine hK.out _ _ ⟨(hB.get 1 (x := ⟨g1_3, (kc (digs (39382357235489614581723060781553021112529911719440698176882885853963445705823 : Int) 32)), 23⟩) rfl), trivial⟩ (fun _ => ?_)
  clear hK K
  simp only [Act.put, List.setIfInBounds_toArray, List.set_cons_zero, List.set_cons_succ, List.getElem_toArray, List.getElem_cons_zero, List.getElem_cons_succ]
  refine any_one (i := 3) (by kernel_rfl) rfl (fun K hK => ?_)
  refine step_callw (by kernel_rfl) 20 #[.agg c2] (by kernel_rfl) ((nbytes_nc hc2 _).mono ?_)
  rintro r v8_ ⟨rfl, hg⟩
  refine ⟨_, rfl, ?_⟩
  rw [show (0 : Int) % pp = 0 from by decide]
  replace hB := hB.more hg
  clear hg
  refine hK.out _ _ ⟨(hB.get 1 (x := ⟨g1_3, (kc (digs (39382357235489614581723060781553021112529911719440698176882885853963445705823 : Int) 32)), 23⟩) rfl), trivial⟩ (fun _ => ?_)
  clear hK K
  simp only [Act.put, List.setIfInBounds_toArray, List.set_cons_zero, List.set_cons_succ, List.getElem_toArray, List.getElem_cons_zero, List.getElem_cons_succ]
  refine any_take (i := 4) (v := (.bool false)) #[true, true, true, true, false, false, false, false, false, false, false, false, false, false, false, false, false, false, false, false, false, false, false, false, false, false, false, false, false, false, false, false, false, false, false] rfl (by kernel_rfl) (by kernel_rfl) (by kernel_rfl) (by kernel_rfl) (fun _ _ _ h => h) (.inl ⟨by kernel_rfl, fun x_ hu => by have e := key_diff (n := 39382357235489614581723060781553021112529911719440698176882885853963445705823) (m := 0) (by omega) (by omega) (by decide); go_simp⟩) ⟨(hB.get 1 (x := ⟨g1_3, (kc (digs (39382357235489614581723060781553021112529911719440698176882885853963445705823 : Int) 32)), 23⟩) rfl), trivial⟩ ?_
  simp only [Act.put, List.setIfInBounds_toArray, List.set_cons_zero, List.set_cons_succ, List.getElem_toArray, List.getElem_cons_zero, List.getElem_cons_succ]
  refine any_take (i := 5) (v := (.bool false)) #[true, true, true, true, true, false, false, false, false, false, false, false, false, false, false, false, false, false, false, false, false, false, false, false, false, false, false, false, false, false, false, false, false, false, false] rfl (by kernel_rfl) (by kernel_rfl) (by kernel_rfl) (by kernel_rfl) (fun _ _ _ h => h) (.inl ⟨by kernel_rfl, fun x_ hu => by kernel_rfl⟩) ⟨(hB.get 1 (x := ⟨g1_3, (kc (digs (39382357235489614581723060781553021112529911719440698176882885853963445705823 : Int) 32)), 23⟩) rfl), trivial⟩ ?_
  simp only [Act.put, List.setIfInBounds_toArray, List.set_cons_zero, List.set_cons_succ, List.getElem_toArray, List.getElem_cons_zero, List.getElem_cons_succ]
  refine any_take (i := 6) (v := (.agg (kc (digs (39382357235489614581723060781553021112529911719440698176882885853963445705823 : Int) 32)))) #[true, true, true, true, true, true, false, false, false, false, false, false, false, false, false, false, false, false, false, false, false, false, false, false, false, false, false, false, false, false, false, false, false, false, false] rfl (by kernel_rfl) (by kernel_rfl) (by kernel_rfl) (by kernel_rfl) (fun _ _ _ h => h) (.inl ⟨by kernel_rfl, fun x_ hu => exec_arr x_ 23 (.tmp 3) rfl g1_3 (by kernel_rfl) (kc (digs (39382357235489614581723060781553021112529911719440698176882885853963445705823 : Int) 32)) 23 _ hu.1 Tryd.underlying23 rfl (by rw [Tryd.infoKey, kc32])⟩) ⟨(hB.get 1 (x := ⟨g1_3, (kc (digs (39382357235489614581723060781553021112529911719440698176882885853963445705823 : Int) 32)), 23⟩) rfl), trivial⟩ ?_
  simp only [Act.put, List.setIfInBounds_toArray, List.set_cons_zero, List.set_cons_succ, List.getElem_toArray, List.getElem_cons_zero, List.getElem_cons_succ]
  refine any_take (i := 7) (v := (.agg (kc (digs ((1 : Nat) : Int) 32)))) #[true, true, true, true, true, true, true, false, false, false, false, false, false, false, false, false, false, false, false, false, false, false, false, false, false, false, false, false, false, false, false, false, false, false, false] rfl (by kernel_rfl) (by kernel_rfl) (by kernel_rfl) (by kernel_rfl) (fun _ _ _ h => h) (.inl ⟨by kernel_rfl, fun x_ hu => by kernel_rfl⟩) ⟨(hB.get 1 (x := ⟨g1_3, (kc (digs (39382357235489614581723060781553021112529911719440698176882885853963445705823 : Int) 32)), 23⟩) rfl), trivial⟩ ?_
  simp only [Act.put, List.setIfInBounds_toArray, List.set_cons_zero, List.set_cons_succ, List.getElem_toArray, List.getElem_cons_zero, List.getElem_cons_succ]
  refine any_one (i := 8) (by kernel_rfl) rfl (fun K hK => ?_)
  refine step_callw (by kernel_rfl) 14 #[.agg (kc (digs ((1 : Nat) : Int) 32))] (by kernel_rfl) ((rFrom_ok 1 (by decide) _).mono ?_)
  rintro r v9_ ⟨c3, rfl, hc3, hg⟩
  refine ⟨_, rfl, ?_⟩
  replace hc3 : NC 1 c3 := NC.same hc3 rfl
  replace hB := hB.more hg
  clear hg
  refine hK.out _ _ ⟨(hB.get 1 (x := ⟨g1_3, (kc (digs (39382357235489614581723060781553021112529911719440698176882885853963445705823 : Int) 32)), 23⟩) rfl), trivial⟩ (fun _ => ?_)
  clear hK K
  simp only [Act.put, List.setIfInBounds_toArray, List.set_cons_zero, List.set_cons_succ, List.getElem_toArray, List.getElem_cons_zero, List.getElem_cons_succ]
  refine any_one (i := 9) (by kernel_rfl) rfl (fun K hK => ?_)
  refine step_callw (by kernel_rfl) 20 #[.agg c3] (by kernel_rfl) ((nbytes_nc hc3 _).mono ?_)
  rintro r v10_ ⟨rfl, hg⟩
  refine ⟨_, rfl, ?_⟩
  rw [show (1 : Int) % pp = 1 from by decide]
  replace hB := hB.more hg
  clear hg
  refine hK.out _ _ ⟨(hB.get 1 (x := ⟨g1_3, (kc (digs (39382357235489614581723060781553021112529911719440698176882885853963445705823 : Int) 32)), 23⟩) rfl), trivial⟩ (fun _ => ?_)
  clear hK K
  simp only [Act.put, List.setIfInBounds_toArray, List.set_cons_zero, List.set_cons_succ, List.getElem_toArray, List.getElem_cons_zero, List.getElem_cons_succ]
  refine any_take (i := 10) (v := (.bool false)) #[true, true, true, true, true, true, true, true, true, true, false, false, false, false, false, false, false, false, false, false, false, false, false, false, false, false, false, false, false, false, false, false, false, false, false] rfl (by kernel_rfl) (by kernel_rfl) (by kernel_rfl) (by kernel_rfl) (fun _ _ _ h => h) (.inl ⟨by kernel_rfl, fun x_ hu => by have e := key_diff (n := 39382357235489614581723060781553021112529911719440698176882885853963445705823) (m := 1) (by omega) (by omega) (by decide); go_simp⟩) ⟨(hB.get 1 (x := ⟨g1_3, (kc (digs (39382357235489614581723060781553021112529911719440698176882885853963445705823 : Int) 32)), 23⟩) rfl), trivial⟩ ?_
  simp only [Act.put, List.setIfInBounds_toArray, List.set_cons_zero, List.set_cons_succ, List.getElem_toArray, List.getElem_cons_zero, List.getElem_cons_succ]
  refine any_take (i := 11) (v := (.bool false)) #[true, true, true, true, true, true, true, true, true, true, true, false, false, false, false, false, false, false, false, false, false, false, false, false, false, false, false, false, false, false, false, false, false, false, false] rfl (by kernel_rfl) (by kernel_rfl) (by kernel_rfl) (by kernel_rfl) (fun _ _ _ h => h) (.inl ⟨by kernel_rfl, fun x_ hu => by kernel_rfl⟩) ⟨(hB.get 1 (x := ⟨g1_3, (kc (digs (39382357235489614581723060781553021112529911719440698176882885853963445705823 : Int) 32)), 23⟩) rfl), trivial⟩ ?_
  simp only [Act.put, List.setIfInBounds_toArray, List.set_cons_zero, List.set_cons_succ, List.getElem_toArray, List.getElem_cons_zero, List.getElem_cons_succ]
  refine any_take (i := 12) (v := (.bool false)) #[true, true, true, true, true, true, true, true, true, true, true, true, false, false, false, false, false, false, false, false, false, false, false, false, false, false, false, false, false, false, false, false, false, false, false] rfl (by kernel_rfl) (by kernel_rfl) (by kernel_rfl) (by kernel_rfl) (fun _ _ _ h => h) (.inl ⟨by kernel_rfl, fun x_ hu => by kernel_rfl⟩) ⟨(hB.get 1 (x := ⟨g1_3, (kc (digs (39382357235489614581723060781553021112529911719440698176882885853963445705823 : Int) 32)), 23⟩) rfl), trivial⟩ ?_
  simp only [Act.put, List.setIfInBounds_toArray, List.set_cons_zero, List.set_cons_succ, List.getElem_toArray, List.getElem_cons_zero, List.getElem_cons_succ]
  refine any_take (i := 13) (v := (.agg (kc (digs (39382357235489614581723060781553021112529911719440698176882885853963445705823 : Int) 32)))) #[true, true, true, true, true, true, true, true, true, true, true, true, true, false, false, false, false, false, false, false, false, false, false, false, false, false, false, false, false, false, false, false, false, false, false] rfl (by kernel_rfl) (by kernel_rfl) (by kernel_rfl) (by kernel_rfl) (fun _ _ _ h => h) (.inl ⟨by kernel_rfl, fun x_ hu => exec_arr x_ 23 (.tmp 3) rfl g1_3 (by kernel_rfl) (kc (digs (39382357235489614581723060781553021112529911719440698176882885853963445705823 : Int) 32)) 23 _ hu.1 Tryd.underlying23 rfl (by rw [Tryd.infoKey, kc32])⟩) ⟨(hB.get 1 (x := ⟨g1_3, (kc (digs (39382357235489614581723060781553021112529911719440698176882885853963445705823 : Int) 32)), 23⟩) rfl), trivial⟩ ?_
  simp only [Act.put, List.setIfInBounds_toArray, List.set_cons_zero, List.set_cons_succ, List.getElem_toArray, List.getElem_cons_zero, List.getElem_cons_succ]
  refine any_take (i := 14) (v := (.agg (kc (digs ((0 : Nat) : Int) 32)))) #[true, true, true, true, true, true, true, true, true, true, true, true, true, true, false, false, false, false, false, false, false, false, false, false, false, false, false, false, false, false, false, false, false, false, false] rfl (by kernel_rfl) (by kernel_rfl) (by kernel_rfl) (by kernel_rfl) (fun _ _ _ h => h) (.inl ⟨by kernel_rfl, fun x_ hu => by kernel_rfl⟩) ⟨(hB.get 1 (x := ⟨g1_3, (kc (digs (39382357235489614581723060781553021112529911719440698176882885853963445705823 : Int) 32)), 23⟩) rfl), trivial⟩ ?_
  simp only [Act.put, List.setIfInBounds_toArray, List.set_cons_zero, List.set_cons_succ, List.getElem_toArray, List.getElem_cons_zero, List.getElem_cons_succ]
  refine any_take (i := 16) (v := (.agg (kc (digs ((1 : Nat) : Int) 32)))) #[true, true, true, true, true, true, true, true, true, true, true, true, true, true, true, false, false, false, false, false, false, false, false, false, false, false, false, false, false, false, false, false, false, false, false] rfl (by kernel_rfl) (by kernel_rfl) (by kernel_rfl) (by kernel_rfl) (fun _ _ _ h => h) (.inl ⟨by kernel_rfl, fun x_ hu => by kernel_rfl⟩) ⟨(hB.get 1 (x := ⟨g1_3, (kc (digs (39382357235489614581723060781553021112529911719440698176882885853963445705823 : Int) 32)), 23⟩) rfl), trivial⟩ ?_
  simp only [Act.put, List.setIfInBounds_toArray, List.set_cons_zero, List.set_cons_succ, List.getElem_toArray, List.getElem_cons_zero, List.getElem_cons_succ]
  refine any_one (i := 15) (by kernel_rfl) rfl (fun K hK => ?_)
  refine step_callw (by kernel_rfl) 14 #[.agg (kc (digs ((0 : Nat) : Int) 32))] (by kernel_rfl) ((rFrom_ok 0 (by decide) _).mono ?_)
  rintro r v11_ ⟨c4, rfl, hc4, hg⟩
  refine ⟨_, rfl, ?_⟩
  replace hc4 : NC 0 c4 := NC.same hc4 rfl
  replace hB := hB.more hg
  clear hg
  refine hK.out _ _ ⟨(hB.get 1 (x := ⟨g1_3, (kc (digs (39382357235489614581723060781553021112529911719440698176882885853963445705823 : Int) 32)), 23⟩) rfl), trivial⟩ (fun _ => ?_)
  clear hK K
  simp only [Act.put, List.setIfInBounds_toArray, List.set_cons_zero, List.set_cons_succ, List.getElem_toArray, List.getElem_cons_zero, List.getElem_cons_succ]
  refine any_one (i := 17) (by kernel_rfl) rfl (fun K hK => ?_)
  refine step_callw (by kernel_rfl) 14 #[.agg (kc (digs ((1 : Nat) : Int) 32))] (by kernel_rfl) ((rFrom_ok 1 (by decide) _).mono ?_)
  rintro r v12_ ⟨c5, rfl, hc5, hg⟩
  refine ⟨_, rfl, ?_⟩
  replace hc5 : NC 1 c5 := NC.same hc5 rfl
  replace hB := hB.more hg
  clear hg
  refine hK.out _ _ ⟨(hB.get 1 (x := ⟨g1_3, (kc (digs (39382357235489614581723060781553021112529911719440698176882885853963445705823 : Int) 32)), 23⟩) rfl), trivial⟩ (fun _ => ?_)
  clear hK K
  simp only [Act.put, List.setIfInBounds_toArray, List.set_cons_zero, List.set_cons_succ, List.getElem_toArray, List.getElem_cons_zero, List.getElem_cons_succ]
  refine any_one (i := 18) (by kernel_rfl) rfl (fun K hK => ?_)
  refine step_callw (by kernel_rfl) 16 #[.agg c4, .agg c5] (by kernel_rfl) ((nsub_nc hc4 hc5 _).mono ?_)
  rintro r v13_ ⟨c6, rfl, hc6, hg⟩
  refine ⟨_, rfl, ?_⟩
  replace hc6 : NC 57896044618658097711785492504343953926634992332820282019728792003956564819948 c6 := NC.same hc6 (by decide)
  replace hB := hB.more hg
  clear hg
  refine hK.out _ _ ⟨(hB.get 1 (x := ⟨g1_3, (kc (digs (39382357235489614581723060781553021112529911719440698176882885853963445705823 : Int) 32)), 23⟩) rfl), trivial⟩ (fun _ => ?_)
  clear hK K
  simp only [Act.put, List.setIfInBounds_toArray, List.set_cons_zero, List.set_cons_succ, List.getElem_toArray, List.getElem_cons_zero, List.getElem_cons_succ]
  refine any_one (i := 19) (by kernel_rfl) rfl (fun K hK => ?_)
  refine step_callw (by kernel_rfl) 20 #[.agg c6] (by kernel_rfl) ((nbytes_nc hc6 _).mono ?_)
  rintro r v14_ ⟨rfl, hg⟩
  refine ⟨_, rfl, ?_⟩
  rw [show (57896044618658097711785492504343953926634992332820282019728792003956564819948 : Int) % pp = 57896044618658097711785492504343953926634992332820282019728792003956564819948 from by decide]
  replace hB := hB.more hg
  clear hg
  refine hK.out _ _ ⟨(hB.get 1 (x := ⟨g1_3, (kc (digs (39382357235489614581723060781553021112529911719440698176882885853963445705823 : Int) 32)), 23⟩) rfl), trivial⟩ (fun _ => ?_)
  clear hK K
  simp only [Act.put, List.setIfInBounds_toArray, List.set_cons_zero, List.set_cons_succ, List.getElem_toArray, List.getElem_cons_zero, List.getElem_cons_succ]
  refine any_take (i := 20) (v := (.bool false)) #[true, true, true, true, true, true, true, true, true, true, true, true, true, true, true, true, true, true, true, true, false, false, false, false, false, false, false, false, false, false, false, false, false, false, false] rfl (by kernel_rfl) (by kernel_rfl) (by kernel_rfl) (by kernel_rfl) (fun _ _ _ h => h) (.inl ⟨by kernel_rfl, fun x_ hu => by have e := key_diff (n := 39382357235489614581723060781553021112529911719440698176882885853963445705823) (m := 57896044618658097711785492504343953926634992332820282019728792003956564819948) (by omega) (by omega) (by decide); go_simp⟩) ⟨(hB.get 1 (x := ⟨g1_3, (kc (digs (39382357235489614581723060781553021112529911719440698176882885853963445705823 : Int) 32)), 23⟩) rfl), trivial⟩ ?_
  simp only [Act.put, List.setIfInBounds_toArray, List.set_cons_zero, List.set_cons_succ, List.getElem_toArray, List.getElem_cons_zero, List.getElem_cons_succ]
  refine any_take (i := 21) (v := (.bool false)) #[true, true, true, true, true, true, true, true, true, true, true, true, true, true, true, true, true, true, true, true, true, false, false, false, false, false, false, false, false, false, false, false, false, false, false] rfl (by kernel_rfl) (by kernel_rfl) (by kernel_rfl) (by kernel_rfl) (fun _ _ _ h => h) (.inl ⟨by kernel_rfl, fun x_ hu => by kernel_rfl⟩) ⟨(hB.get 1 (x := ⟨g1_3, (kc (digs (39382357235489614581723060781553021112529911719440698176882885853963445705823 : Int) 32)), 23⟩) rfl), trivial⟩ ?_
  simp only [Act.put, List.setIfInBounds_toArray, List.set_cons_zero, List.set_cons_succ, List.getElem_toArray, List.getElem_cons_zero, List.getElem_cons_succ]
  refine any_take (i := 22) (v := (.bool false)) #[true, true, true, true, true, true, true, true, true, true, true, true, true, true, true, true, true, true, true, true, true, true, false, false, false, false, false, false, false, false, false, false, false, false, false] rfl (by kernel_rfl) (by kernel_rfl) (by kernel_rfl) (by kernel_rfl) (fun _ _ _ h => h) (.inl ⟨by kernel_rfl, fun x_ hu => by kernel_rfl⟩) ⟨(hB.get 1 (x := ⟨g1_3, (kc (digs (39382357235489614581723060781553021112529911719440698176882885853963445705823 : Int) 32)), 23⟩) rfl), trivial⟩ ?_
  simp only [Act.put, List.setIfInBounds_toArray, List.set_cons_zero, List.set_cons_succ, List.getElem_toArray, List.getElem_cons_zero, List.getElem_cons_succ]
  refine any_take (i := 23) (v := (.agg (kc (digs (39382357235489614581723060781553021112529911719440698176882885853963445705823 : Int) 32)))) #[true, true, true, true, true, true, true, true, true, true, true, true, true, true, true, true, true, true, true, true, true, true, true, false, false, false, false, false, false, false, false, false, false, false, false] rfl (by kernel_rfl) (by kernel_rfl) (by kernel_rfl) (by kernel_rfl) (fun _ _ _ h => h) (.inl ⟨by kernel_rfl, fun x_ hu => exec_arr x_ 23 (.tmp 3) rfl g1_3 (by kernel_rfl) (kc (digs (39382357235489614581723060781553021112529911719440698176882885853963445705823 : Int) 32)) 23 _ hu.1 Tryd.underlying23 rfl (by rw [Tryd.infoKey, kc32])⟩) ⟨(hB.get 1 (x := ⟨g1_3, (kc (digs (39382357235489614581723060781553021112529911719440698176882885853963445705823 : Int) 32)), 23⟩) rfl), trivial⟩ ?_
  simp only [Act.put, List.setIfInBounds_toArray, List.set_cons_zero, List.set_cons_succ, List.getElem_toArray, List.getElem_cons_zero, List.getElem_cons_succ]
  refine any_one (i := 24) (by kernel_rfl) rfl (fun K hK => ?_)
  refine step_callw (by kernel_rfl) 23 #[.string s8] (by kernel_rfl) ((dig8_ok _).mono ?_)
  rintro r v15_ ⟨c7, rfl, hc7, hg⟩
  refine ⟨_, rfl, ?_⟩
  replace hB := hB.more hg
  clear hg
  refine hK.out _ _ ⟨(hB.get 1 (x := ⟨g1_3, (kc (digs (39382357235489614581723060781553021112529911719440698176882885853963445705823 : Int) 32)), 23⟩) rfl), trivial⟩ (fun _ => ?_)
  clear hK K
  simp only [Act.put, List.setIfInBounds_toArray, List.set_cons_zero, List.set_cons_succ, List.getElem_toArray, List.getElem_cons_zero, List.getElem_cons_succ]
  refine any_one (i := 25) (by kernel_rfl) rfl (fun K hK => ?_)
  refine step_callw (by kernel_rfl) 20 #[.agg c7] (by kernel_rfl) ((nbytes_nc hc7 _).mono ?_)
  rintro r v16_ ⟨rfl, hg⟩
  refine ⟨_, rfl, ?_⟩
  rw [show (325606250916557431795983626356110631294008115727848805560023387167927233504 : Int) % pp = 325606250916557431795983626356110631294008115727848805560023387167927233504 from by decide]
  replace hB := hB.more hg
  clear hg
  refine hK.out _ _ ⟨(hB.get 1 (x := ⟨g1_3, (kc (digs (39382357235489614581723060781553021112529911719440698176882885853963445705823 : Int) 32)), 23⟩) rfl), trivial⟩ (fun _ => ?_)
  clear hK K
  simp only [Act.put, List.setIfInBounds_toArray, List.set_cons_zero, List.set_cons_succ, List.getElem_toArray, List.getElem_cons_zero, List.getElem_cons_succ]
  refine any_take (i := 26) (v := (.bool false)) #[true, true, true, true, true, true, true, true, true, true, true, true, true, true, true, true, true, true, true, true, true, true, true, true, true, true, false, false, false, false, false, false, false, false, false] rfl (by kernel_rfl) (by kernel_rfl) (by kernel_rfl) (by kernel_rfl) (fun _ _ _ h => h) (.inl ⟨by kernel_rfl, fun x_ hu => by have e := key_diff (n := 39382357235489614581723060781553021112529911719440698176882885853963445705823) (m := 325606250916557431795983626356110631294008115727848805560023387167927233504) (by omega) (by omega) (by decide); go_simp⟩) ⟨(hB.get 1 (x := ⟨g1_3, (kc (digs (39382357235489614581723060781553021112529911719440698176882885853963445705823 : Int) 32)), 23⟩) rfl), trivial⟩ ?_
  simp only [Act.put, List.setIfInBounds_toArray, List.set_cons_zero, List.set_cons_succ, List.getElem_toArray, List.getElem_cons_zero, List.getElem_cons_succ]
  refine any_take (i := 27) (v := (.bool false)) #[true, true, true, true, true, true, true, true, true, true, true, true, true, true, true, true, true, true, true, true, true, true, true, true, true, true, true, false, false, false, false, false, false, false, false] rfl (by kernel_rfl) (by kernel_rfl) (by kernel_rfl) (by kernel_rfl) (fun _ _ _ h => h) (.inl ⟨by kernel_rfl, fun x_ hu => by kernel_rfl⟩) ⟨(hB.get 1 (x := ⟨g1_3, (kc (digs (39382357235489614581723060781553021112529911719440698176882885853963445705823 : Int) 32)), 23⟩) rfl), trivial⟩ ?_
  simp only [Act.put, List.setIfInBounds_toArray, List.set_cons_zero, List.set_cons_succ, List.getElem_toArray, List.getElem_cons_zero, List.getElem_cons_succ]
  refine any_take (i := 28) (v := (.bool false)) #[true, true, true, true, true, true, true, true, true, true, true, true, true, true, true, true, true, true, true, true, true, true, true, true, true, true, true, true, false, false, false, false, false, false, false] rfl (by kernel_rfl) (by kernel_rfl) (by kernel_rfl) (by kernel_rfl) (fun _ _ _ h => h) (.inl ⟨by kernel_rfl, fun x_ hu => by kernel_rfl⟩) ⟨(hB.get 1 (x := ⟨g1_3, (kc (digs (39382357235489614581723060781553021112529911719440698176882885853963445705823 : Int) 32)), 23⟩) rfl), trivial⟩ ?_
  simp only [Act.put, List.setIfInBounds_toArray, List.set_cons_zero, List.set_cons_succ, List.getElem_toArray, List.getElem_cons_zero, List.getElem_cons_succ]
  refine any_take (i := 29) (v := (.agg (kc (digs (39382357235489614581723060781553021112529911719440698176882885853963445705823 : Int) 32)))) #[true, true, true, true, true, true, true, true, true, true, true, true, true, true, true, true, true, true, true, true, true, true, true, true, true, true, true, true, true, false, false, false, false, false, false] rfl (by kernel_rfl) (by kernel_rfl) (by kernel_rfl) (by kernel_rfl) (fun _ _ _ h => h) (.inl ⟨by kernel_rfl, fun x_ hu => exec_arr x_ 23 (.tmp 3) rfl g1_3 (by kernel_rfl) (kc (digs (39382357235489614581723060781553021112529911719440698176882885853963445705823 : Int) 32)) 23 _ hu.1 Tryd.underlying23 rfl (by rw [Tryd.infoKey, kc32])⟩) ⟨(hB.get 1 (x := ⟨g1_3, (kc (digs (39382357235489614581723060781553021112529911719440698176882885853963445705823 : Int) 32)), 23⟩) rfl), trivial⟩ ?_
  simp only [Act.put, List.setIfInBounds_toArray, List.set_cons_zero, List.set_cons_succ, List.getElem_toArray, List.getElem_cons_zero, List.getElem_cons_succ]
  refine any_one (i := 30) (by kernel_rfl) rfl (fun K hK => ?_)
  refine step_callw (by kernel_rfl) 23 #[.string s9] (by kernel_rfl) ((dig9_ok _).mono ?_)
  rintro r v17_ ⟨c8, rfl, hc8, hg⟩
  refine ⟨_, rfl, ?_⟩
  replace hB := hB.more hg
  clear hg
  refine hK.out _ _ ⟨(hB.get 1 (x := ⟨g1_3, (kc (digs (39382357235489614581723060781553021112529911719440698176882885853963445705823 : Int) 32)), 23⟩) rfl), trivial⟩ (fun _ => ?_)
  clear hK K
  simp only [Act.put, List.setIfInBounds_toArray, List.set_cons_zero, List.set_cons_succ, List.getElem_toArray, List.getElem_cons_zero, List.getElem_cons_succ]
  refine any_one (i := 31) (by kernel_rfl) rfl (fun K hK => ?_)
  refine step_callw (by kernel_rfl) 20 #[.agg c8] (by kernel_rfl) ((nbytes_nc hc8 _).mono ?_)
  rintro r v18_ ⟨rfl, hg⟩
  refine ⟨_, rfl, ?_⟩
  rw [show (39382357235489614581723060781553021112529911719440698176882885853963445705823 : Int) % pp = 39382357235489614581723060781553021112529911719440698176882885853963445705823 from by decide]
  replace hB := hB.more hg
  clear hg
  refine hK.out _ _ ⟨(hB.get 1 (x := ⟨g1_3, (kc (digs (39382357235489614581723060781553021112529911719440698176882885853963445705823 : Int) 32)), 23⟩) rfl), trivial⟩ (fun _ => ?_)
  clear hK K
  simp only [Act.put, List.setIfInBounds_toArray, List.set_cons_zero, List.set_cons_succ, List.getElem_toArray, List.getElem_cons_zero, List.getElem_cons_succ]
  refine any_take (i := 32) (v := (.bool true)) #[true, true, true, true, true, true, true, true, true, true, true, true, true, true, true, true, true, true, true, true, true, true, true, true, true, true, true, true, true, true, true, true, false, false, false] rfl (by kernel_rfl) (by kernel_rfl) (by kernel_rfl) (by kernel_rfl) (fun _ _ _ h => h) (.inl ⟨by kernel_rfl, fun x_ hu => by have e := key_same (39382357235489614581723060781553021112529911719440698176882885853963445705823 : Int); go_simp⟩) ⟨(hB.get 1 (x := ⟨g1_3, (kc (digs (39382357235489614581723060781553021112529911719440698176882885853963445705823 : Int) 32)), 23⟩) rfl), trivial⟩ ?_
  simp only [Act.put, List.setIfInBounds_toArray, List.set_cons_zero, List.set_cons_succ, List.getElem_toArray, List.getElem_cons_zero, List.getElem_cons_succ]
  refine any_take (i := 33) (v := (.bool true)) #[true, true, true, true, true, true, true, true, true, true, true, true, true, true, true, true, true, true, true, true, true, true, true, true, true, true, true, true, true, true, true, true, true, false, false] rfl (by kernel_rfl) (by kernel_rfl) (by kernel_rfl) (by kernel_rfl) (fun _ _ _ h => h) (.inl ⟨by kernel_rfl, fun x_ hu => by kernel_rfl⟩) ⟨(hB.get 1 (x := ⟨g1_3, (kc (digs (39382357235489614581723060781553021112529911719440698176882885853963445705823 : Int) 32)), 23⟩) rfl), trivial⟩ ?_
  simp only [Act.put, List.setIfInBounds_toArray, List.set_cons_zero, List.set_cons_succ, List.getElem_toArray, List.getElem_cons_zero, List.getElem_cons_succ]
  refine any_one (i := 34) (by kernel_rfl) rfl (fun K hK => ?_)
  replace hK := hide hK
  go_simp
  refine (unhide hK).out _ _ ⟨(hB.get 1 (x := ⟨g1_3, (kc (digs (39382357235489614581723060781553021112529911719440698176882885853963445705823 : Int) 32)), 23⟩) rfl), trivial⟩ (fun _ => ?_)
  clear hK K
  refine any_done (by kernel_rfl) ?_
  have hG := hide hB.gr
  clear hB
  go_wp2_with fail
  refine bodyPost_ret (v := .bool true) ?_ rfl ⟨rfl, unhide hG⟩
  simp [results, Tryd.results11, go_sem]

set_option maxHeartbeats 2000000 in
theorem rlow_5 (U : Nat) (hU : U < 115792089237316195423570985008687907853269984665640564039457584007913129639936) (V : Int) (hV : (U : Int) % 57896044618658097711785492504343953926634992332820282019728792003956564819968 % pp = V) (hVr : 0 ≤ V ∧ V < 115792089237316195423570985008687907853269984665640564039457584007913129639936) (hn0 : Hid (V ≠ 0)) (hn1 : Hid (V ≠ 1)) (hn2 : Hid (V ≠ 57896044618658097711785492504343953926634992332820282019728792003956564819948)) (hn3 : Hid (V ≠ 325606250916557431795983626356110631294008115727848805560023387167927233504)) (hn4 : Hid (V ≠ 39382357235489614581723060781553021112529911719440698176882885853963445705823)) (w : World) :
    Calls Tryd.prog 11 #[.agg (kc (digs (U : Int) 32))] w (fun r w' => r = .returned (.bool false) ∧ Gr w w') := by
  replace hU := hide hU
  replace hV := hide hV
  go_enter Tryd.func11, Tryd.ntmps11
  go_upto_region 1 with fail
  have hB := (Bl.nil w).new (kc (digs (U : Int) 32)) 23
  simp only [List.nil_append] at hB
  generalize World.alloc _ _ = v1_ at *
  refine wp_region_lit ?_
  refine list_val (.agg (kc (digs (U : Int) 32))) (by kernel_rfl) (exec_arr _ 23 (.tmp 1) rfl w.heap.size (by kernel_rfl) (kc (digs (U : Int) 32)) 23 _ (hB.get 0 (x := ⟨w.heap.size, (kc (digs (U : Int) 32)), 23⟩) rfl) Tryd.underlying23 rfl (by rw [Tryd.infoKey, kc32])) ?_
  simp only [Act.put, List.setIfInBounds_toArray, List.set_cons_zero, List.set_cons_succ, List.getElem_toArray, List.getElem_cons_zero, List.getElem_cons_succ]
  refine list_call 14 #[.agg (kc (digs (U : Int) 32))] (by kernel_rfl) (by kernel_rfl) ((rFrom_ok U (unhide hU) _).mono ?_)
  rintro r v2_ ⟨c1, rfl, hc1, hg⟩
  refine ⟨_, rfl, ?_⟩
  replace hB := hB.more hg
  clear hg
  simp only [Act.put, List.setIfInBounds_toArray, List.set_cons_zero, List.set_cons_succ, List.getElem_toArray, List.getElem_cons_zero, List.getElem_cons_succ]
  refine list_call 20 #[.agg c1] (by kernel_rfl) (by kernel_rfl) ((nbytes_nc hc1 _).mono ?_)
  rintro r v3_ ⟨rfl, hg⟩
  refine ⟨_, rfl, ?_⟩
  rw [unhide hV]
  replace hB := hB.more hg
  clear hg
  simp only [Act.put, List.setIfInBounds_toArray, List.set_cons_zero, List.set_cons_succ, List.getElem_toArray, List.getElem_cons_zero, List.getElem_cons_succ]
  refine wpList_step fun K hK => ?_
  replace hK := hide hK
  go_simp
  refine unhide hK _ _ ?_
  clear hK K
  replace hB := hB.new #[.int .u8 0, .int .u8 0, .int .u8 0, .int .u8 0, .int .u8 0, .int .u8 0, .int .u8 0, .int .u8 0, .int .u8 0, .int .u8 0, .int .u8 0, .int .u8 0, .int .u8 0, .int .u8 0, .int .u8 0, .int .u8 0, .int .u8 0, .int .u8 0, .int .u8 0, .int .u8 0, .int .u8 0, .int .u8 0, .int .u8 0, .int .u8 0, .int .u8 0, .int .u8 0, .int .u8 0, .int .u8 0, .int .u8 0, .int .u8 0, .int .u8 0, .int .u8 0] 23
  simp only [List.cons_append, List.nil_append] at hB
  generalize v3_.heap.size = g1_3 at *
  generalize World.alloc _ _ = v4_ at *
  replace hB : Bl w [⟨w.heap.size, (kc (digs (U : Int) 32)), 23⟩, ⟨g1_3, Z32, 23⟩] v4_ := hB
  refine list_store 23 (.tmp 3) (.tmp 6) g1_3 (kc (digs (V : Int) 32)) 23 Z32 (by kernel_rfl) rfl (by kernel_rfl) (by kernel_rfl) (hB.get 1 (x := ⟨g1_3, Z32, 23⟩) rfl) (by rw [Tryd.infoKey, kc32]) (Z32_size.trans (kc32 (V : Int) 32).symm) (kc_one _) ?_
  replace hB := hB.set 1 (x := ⟨g1_3, Z32, 23⟩) rfl (kc (digs (V : Int) 32))
  simp only [List.set_cons_zero, List.set_cons_succ] at hB
  generalize World.setRow _ _ _ = v5_ at *
  simp only [Act.put, List.setIfInBounds_toArray, List.set_cons_zero, List.set_cons_succ, List.getElem_toArray, List.getElem_cons_zero, List.getElem_cons_succ]
  refine wpList_nil ?_
  go_upto_region 2 with fail
  refine any_start (S := fun v => v.heap[g1_3]? = some (.cells (kc (digs (V : Int) 32)) 23 (0, 0)) ∧ True) (by kernel_rfl) ?_
  replace hB := hB.drew
  generalize World.drew _ = v6_ at *
  simp only [List.size_toArray, List.length_cons, List.length_nil, Array.replicate, List.replicate]
  refine any_take (i := 0) (v := (.agg (kc (digs (V : Int) 32)))) #[false, false, false, false, false, false, false, false, false, false, false, false, false, false, false, false, false, false, false, false, false, false, false, false, false, false, false, false, false, false, false, false, false, false, false] rfl (by kernel_rfl) (by kernel_rfl) (by kernel_rfl) (by kernel_rfl) (fun _ _ _ h => h) (.inl ⟨by kernel_rfl, fun x_ hu => exec_arr x_ 23 (.tmp 3) rfl g1_3 (by kernel_rfl) (kc (digs (V : Int) 32)) 23 _ hu.1 Tryd.underlying23 rfl (by rw [Tryd.infoKey, kc32])⟩) ⟨(hB.get 1 (x := ⟨g1_3, (kc (digs (V : Int) 32)), 23⟩) rfl), trivial⟩ ?_
  simp only [Act.put, List.setIfInBounds_toArray, List.set_cons_zero, List.set_cons_succ, List.getElem_toArray, List.getElem_cons_zero, List.getElem_cons_succ]
  refine any_take (i := 1) (v := (.agg (kc (digs ((0 : Nat) : Int) 32)))) #[true, false, false, false, false, false, false, false, false, false, false, false, false, false, false, false, false, false, false, false, false, false, false, false, false, false, false, false, false, false, false, false, false, false, false] rfl (by kernel_rfl) (by kernel_rfl) (by kernel_rfl) (by kernel_rfl) (fun _ _ _ h => h) (.inl ⟨by kernel_rfl, fun x_ hu => by kernel_rfl⟩) ⟨(hB.get 1 (x := ⟨g1_3, (kc (digs (V : Int) 32)), 23⟩) rfl), trivial⟩ ?_
  simp only [Act.put, List.setIfInBounds_toArray, List.set_cons_zero, List.set_cons_succ, List.getElem_toArray, List.getElem_cons_zero, List.getElem_cons_succ]
  refine any_one (i := 2) (by kernel_rfl) rfl (fun K hK => ?_)
  refine step_callw (by kernel_rfl) 14 #[.agg (kc (digs ((0 : Nat) : Int) 32))] (by kernel_rfl) ((rFrom_ok 0 (by decide) _).mono ?_)
  rintro r v7_ ⟨c2, rfl, hc2, hg⟩
  refine ⟨_, rfl, ?_⟩
  replace hc2 : NC 0 c2 := NC.same hc2 rfl
  replace hB := hB.more hg
  clear hg
  refine hK.out _ _ ⟨(hB.get 1 (x := ⟨g1_3, (kc (digs (V : Int) 32)), 23⟩) rfl), trivial⟩ (fun _ => ?_)
  clear hK K
  simp only [Act.put, List.setIfInBounds_toArray, List.set_cons_zero, List.set_cons_succ, List.getElem_toArray, List.getElem_cons_zero, List.getElem_cons_succ]
  refine any_one (i := 3) (by kernel_rfl) rfl (fun K hK => ?_)
  refine step_callw (by kernel_rfl) 20 #[.agg c2] (by kernel_rfl) ((nbytes_nc hc2 _).mono ?_)
  rintro r v8_ ⟨rfl, hg⟩
  refine ⟨_, rfl, ?_⟩
  rw [show (0 : Int) % pp = 0 from by decide]
  replace hB := hB.more hg
  clear hg
  refine hK.out _ _ ⟨(hB.get 1 (x := ⟨g1_3, (kc (digs (V : Int) 32)), 23⟩) rfl), trivial⟩ (fun _ => ?_)
  clear hK K
  simp only [Act.put, List.setIfInBounds_toArray, List.set_cons_zero, List.set_cons_succ, List.getElem_toArray, List.getElem_cons_zero, List.getElem_cons_succ]
  refine any_take (i := 4) (v := (.bool false)) #[true, true, true, true, false, false, false, false, false, false, false, false, false, false, false, false, false, false, false, false, false, false, false, false, false, false, false, false, false, false, false, false, false, false, false] rfl (by kernel_rfl) (by kernel_rfl) (by kernel_rfl) (by kernel_rfl) (fun _ _ _ h => h) (.inl ⟨by kernel_rfl, fun x_ hu => by have e := key_diff (n := V) (m := 0) hVr (by omega) (unhide hn0); go_simp⟩) ⟨(hB.get 1 (x := ⟨g1_3, (kc (digs (V : Int) 32)), 23⟩) rfl), trivial⟩ ?_
  simp only [Act.put, List.setIfInBounds_toArray, List.set_cons_zero, List.set_cons_succ, List.getElem_toArray, List.getElem_cons_zero, List.getElem_cons_succ]
  refine any_take (i := 5) (v := (.bool false)) #[true, true, true, true, true, false, false, false, false, false, false, false, false, false, false, false, false, false, false, false, false, false, false, false, false, false, false, false, false, false, false, false, false, false, false] rfl (by kernel_rfl) (by kernel_rfl) (by kernel_rfl) (by kernel_rfl) (fun _ _ _ h => h) (.inl ⟨by kernel_rfl, fun x_ hu => by kernel_rfl⟩) ⟨(hB.get 1 (x := ⟨g1_3, (kc (digs (V : Int) 32)), 23⟩) rfl), trivial⟩ ?_
  simp only [Act.put, List.setIfInBounds_toArray, List.set_cons_zero, List.set_cons_succ, List.getElem_toArray, List.getElem_cons_zero, List.getElem_cons_succ]
  refine any_take (i := 6) (v := (.agg (kc (digs (V : Int) 32)))) #[true, true, true, true, true, true, false, false, false, false, false, false, false, false, false, false, false, false, false, false, false, false, false, false, false, false, false, false, false, false, false, false, false, false, false] rfl (by kernel_rfl) (by kernel_rfl) (by kernel_rfl) (by kernel_rfl) (fun _ _ _ h => h) (.inl ⟨by kernel_rfl, fun x_ hu => exec_arr x_ 23 (.tmp 3) rfl g1_3 (by kernel_rfl) (kc (digs (V : Int) 32)) 23 _ hu.1 Tryd.underlying23 rfl (by rw [Tryd.infoKey, kc32])⟩) ⟨(hB.get 1 (x := ⟨g1_3, (kc (digs (V : Int) 32)), 23⟩) rfl), trivial⟩ ?_
  simp only [Act.put, List.setIfInBounds_toArray, List.set_cons_zero, List.set_cons_succ, List.getElem_toArray, List.getElem_cons_zero, List.getElem_cons_succ]
  refine any_take (i := 7) (v := (.agg (kc (digs ((1 : Nat) : Int) 32)))) #[true, true, true, true, true, true, true, false, false, false, false, false, false, false, false, false, false, false, false, false, false, false, false, false, false, false, false, false, false, false, false, false, false, false, false] rfl (by kernel_rfl) (by kernel_rfl) (by kernel_rfl) (by kernel_rfl) (fun _ _ _ h => h) (.inl ⟨by kernel_rfl, fun x_ hu => by kernel_rfl⟩) ⟨(hB.get 1 (x := ⟨g1_3, (kc (digs (V : Int) 32)), 23⟩) rfl), trivial⟩ ?_
  simp only [Act.put, List.setIfInBounds_toArray, List.set_cons_zero, List.set_cons_succ, List.getElem_toArray, List.getElem_cons_zero, List.getElem_cons_succ]
  refine any_one (i := 8) (by kernel_rfl) rfl (fun K hK => ?_)
  refine step_callw (by kernel_rfl) 14 #[.agg (kc (digs ((1 : Nat) : Int) 32))] (by kernel_rfl) ((rFrom_ok 1 (by decide) _).mono ?_)
  rintro r v9_ ⟨c3, rfl, hc3, hg⟩
  refine ⟨_, rfl, ?_⟩
  replace hc3 : NC 1 c3 := NC.same hc3 rfl
  replace hB := hB.more hg
  clear hg
  refine hK.out _ _ ⟨(hB.get 1 (x := ⟨g1_3, (kc (digs (V : Int) 32)), 23⟩) rfl), trivial⟩ (fun _ => ?_)
  clear hK K
  simp only [Act.put, List.setIfInBounds_toArray, List.set_cons_zero, List.set_cons_succ, List.getElem_toArray, List.getElem_cons_zero, List.getElem_cons_succ]
  refine any_one (i := 9) (by kernel_rfl) rfl (fun K hK => ?_)
  refine step_callw (by kernel_rfl) 20 #[.agg c3] (by kernel_rfl) ((nbytes_nc hc3 _).mono ?_)
  rintro r v10_ ⟨rfl, hg⟩
  refine ⟨_, rfl, ?_⟩
  rw [show (1 : Int) % pp = 1 from by decide]
  replace hB := hB.more hg
  clear hg
  refine hK.out _ _ ⟨(hB.get 1 (x := ⟨g1_3, (kc (digs (V : Int) 32)), 23⟩) rfl), trivial⟩ (fun _ => ?_)
  clear hK K
  simp only [Act.put, List.setIfInBounds_toArray, List.set_cons_zero, List.set_cons_succ, List.getElem_toArray, List.getElem_cons_zero, List.getElem_cons_succ]
  refine any_take (i := 10) (v := (.bool false)) #[true, true, true, true, true, true, true, true, true, true, false, false, false, false, false, false, false, false, false, false, false, false, false, false, false, false, false, false, false, false, false, false, false, false, false] rfl (by kernel_rfl) (by kernel_rfl) (by kernel_rfl) (by kernel_rfl) (fun _ _ _ h => h) (.inl ⟨by kernel_rfl, fun x_ hu => by have e := key_diff (n := V) (m := 1) hVr (by omega) (unhide hn1); go_simp⟩) ⟨(hB.get 1 (x := ⟨g1_3, (kc (digs (V : Int) 32)), 23⟩) rfl), trivial⟩ ?_
  simp only [Act.put, List.setIfInBounds_toArray, List.set_cons_zero, List.set_cons_succ, List.getElem_toArray, List.getElem_cons_zero, List.getElem_cons_succ]
  refine any_take (i := 11) (v := (.bool false)) #[true, true, true, true, true, true, true, true, true, true, true, false, false, false, false, false, false, false, false, false, false, false, false, false, false, false, false, false, false, false, false, false, false, false, false] rfl (by kernel_rfl) (by kernel_rfl) (by kernel_rfl) (by kernel_rfl) (fun _ _ _ h => h) (.inl ⟨by kernel_rfl, fun x_ hu => by kernel_rfl⟩) ⟨(hB.get 1 (x := ⟨g1_3, (kc (digs (V : Int) 32)), 23⟩) rfl), trivial⟩ ?_
  simp only [Act.put, List.setIfInBounds_toArray, List.set_cons_zero, List.set_cons_succ, List.getElem_toArray, List.getElem_cons_zero, List.getElem_cons_succ]
  refine any_take (i := 12) (v := (.bool false)) #[true, true, true, true, true, true, true, true, true, true, true, true, false, false, false, false, false, false, false, false, false, false, false, false, false, false, false, false, false, false, false, false, false, false, false] rfl (by kernel_rfl) (by kernel_rfl) (by kernel_rfl) (by kernel_rfl) (fun _ _ _ h => h) (.inl ⟨by kernel_rfl, fun x_ hu => by kernel_rfl⟩) ⟨(hB.get 1 (x := ⟨g1_3, (kc (digs (V : Int) 32)), 23⟩) rfl), trivial⟩ ?_
  simp only [Act.put, List.setIfInBounds_toArray, List.set_cons_zero, List.set_cons_succ, List.getElem_toArray, List.getElem_cons_zero, List.getElem_cons_succ]
  refine any_take (i := 13) (v := (.agg (kc (digs (V : Int) 32)))) #[true, true, true, true, true, true, true, true, true, true, true, true, true, false, false, false, false, false, false, false, false, false, false, false, false, false, false, false, false, false, false, false, false, false, false] rfl (by kernel_rfl) (by kernel_rfl) (by kernel_rfl) (by kernel_rfl) (fun _ _ _ h => h) (.inl ⟨by kernel_rfl, fun x_ hu => exec_arr x_ 23 (.tmp 3) rfl g1_3 (by kernel_rfl) (kc (digs (V : Int) 32)) 23 _ hu.1 Tryd.underlying23 rfl (by rw [Tryd.infoKey, kc32])⟩) ⟨(hB.get 1 (x := ⟨g1_3, (kc (digs (V : Int) 32)), 23⟩) rfl), trivial⟩ ?_
  simp only [Act.put, List.setIfInBounds_toArray, List.set_cons_zero, List.set_cons_succ, List.getElem_toArray, List.getElem_cons_zero, List.getElem_cons_succ]
  refine any_take (i := 14) (v := (.agg (kc (digs ((0 : Nat) : Int) 32)))) #[true, true, true, true, true, true, true, true, true, true, true, true, true, true, false, false, false, false, false, false, false, false, false, false, false, false, false, false, false, false, false, false, false, false, false] rfl (by kernel_rfl) (by kernel_rfl) (by kernel_rfl) (by kernel_rfl) (fun _ _ _ h => h) (.inl ⟨by kernel_rfl, fun x_ hu => by kernel_rfl⟩) ⟨(hB.get 1 (x := ⟨g1_3, (kc (digs (V : Int) 32)), 23⟩) rfl), trivial⟩ ?_
  simp only [Act.put, List.setIfInBounds_toArray, List.set_cons_zero, List.set_cons_succ, List.getElem_toArray, List.getElem_cons_zero, List.getElem_cons_succ]
  refine any_take (i := 16) (v := (.agg (kc (digs ((1 : Nat) : Int) 32)))) #[true, true, true, true, true, true, true, true, true, true, true, true, true, true, true, false, false, false, false, false, false, false, false, false, false, false, false, false, false, false, false, false, false, false, false] rfl (by kernel_rfl) (by kernel_rfl) (by kernel_rfl) (by kernel_rfl) (fun _ _ _ h => h) (.inl ⟨by kernel_rfl, fun x_ hu => by kernel_rfl⟩) ⟨(hB.get 1 (x := ⟨g1_3, (kc (digs (V : Int) 32)), 23⟩) rfl), trivial⟩ ?_
  simp only [Act.put, List.setIfInBounds_toArray, List.set_cons_zero, List.set_cons_succ, List.getElem_toArray, List.getElem_cons_zero, List.getElem_cons_succ]
  refine any_one (i := 15) (by kernel_rfl) rfl (fun K hK => ?_)
  refine step_callw (by kernel_rfl) 14 #[.agg (kc (digs ((0 : Nat) : Int) 32))] (by kernel_rfl) ((rFrom_ok 0 (by decide) _).mono ?_)
  rintro r v11_ ⟨c4, rfl, hc4, hg⟩
  refine ⟨_, rfl, ?_⟩
  replace hc4 : NC 0 c4 := NC.same hc4 rfl
  replace hB := hB.more hg
  clear hg
  refine hK.out _ _ ⟨(hB.get 1 (x := ⟨g1_3, (kc (digs (V : Int) 32)), 23⟩) rfl), trivial⟩ (fun _ => ?_)
  clear hK K
  simp only [Act.put, List.setIfInBounds_toArray, List.set_cons_zero, List.set_cons_succ, List.getElem_toArray, List.getElem_cons_zero, List.getElem_cons_succ]
  refine any_one (i := 17) (by kernel_rfl) rfl (fun K hK => ?_)
  refine step_callw (by kernel_rfl) 14 #[.agg (kc (digs ((1 : Nat) : Int) 32))] (by kernel_rfl) ((rFrom_ok 1 (by decide) _).mono ?_)
  rintro r v12_ ⟨c5, rfl, hc5, hg⟩
  refine ⟨_, rfl, ?_⟩
  replace hc5 : NC 1 c5 := NC.same hc5 rfl
  replace hB := hB.more hg
  clear hg
  refine hK.out _ _ ⟨(hB.get 1 (x := ⟨g1_3, (kc (digs (V : Int) 32)), 23⟩) rfl), trivial⟩ (fun _ => ?_)
  clear hK K
  simp only [Act.put, List.setIfInBounds_toArray, List.set_cons_zero, List.set_cons_succ, List.getElem_toArray, List.getElem_cons_zero, List.getElem_cons_succ]
  refine any_one (i := 18) (by kernel_rfl) rfl (fun K hK => ?_)
  refine step_callw (by kernel_rfl) 16 #[.agg c4, .agg c5] (by kernel_rfl) ((nsub_nc hc4 hc5 _).mono ?_)
  rintro r v13_ ⟨c6, rfl, hc6, hg⟩
  refine ⟨_, rfl, ?_⟩
  replace hc6 : NC 57896044618658097711785492504343953926634992332820282019728792003956564819948 c6 := NC.same hc6 (by decide)
  replace hB := hB.more hg
  clear hg
  refine hK.out _ _ ⟨(hB.get 1 (x := ⟨g1_3, (kc (digs (V : Int) 32)), 23⟩) rfl), trivial⟩ (fun _ => ?_)
  clear hK K
  simp only [Act.put, List.setIfInBounds_toArray, List.set_cons_zero, List.set_cons_succ, List.getElem_toArray, List.getElem_cons_zero, List.getElem_cons_succ]
  refine any_one (i := 19) (by kernel_rfl) rfl (fun K hK => ?_)
  refine step_callw (by kernel_rfl) 20 #[.agg c6] (by kernel_rfl) ((nbytes_nc hc6 _).mono ?_)
  rintro r v14_ ⟨rfl, hg⟩
  refine ⟨_, rfl, ?_⟩
  rw [show (57896044618658097711785492504343953926634992332820282019728792003956564819948 : Int) % pp = 57896044618658097711785492504343953926634992332820282019728792003956564819948 from by decide]
  replace hB := hB.more hg
  clear hg
  refine hK.out _ _ ⟨(hB.get 1 (x := ⟨g1_3, (kc (digs (V : Int) 32)), 23⟩) rfl), trivial⟩ (fun _ => ?_)
  clear hK K
  simp only [Act.put, List.setIfInBounds_toArray, List.set_cons_zero, List.set_cons_succ, List.getElem_toArray, List.getElem_cons_zero, List.getElem_cons_succ]
  refine any_take (i := 20) (v := (.bool false)) #[true, true, true, true, true, true, true, true, true, true, true, true, true, true, true, true, true, true, true, true, false, false, false, false, false, false, false, false, false, false, false, false, false, false, false] rfl (by kernel_rfl) (by kernel_rfl) (by kernel_rfl) (by kernel_rfl) (fun _ _ _ h => h) (.inl ⟨by kernel_rfl, fun x_ hu => by have e := key_diff (n := V) (m := 57896044618658097711785492504343953926634992332820282019728792003956564819948) hVr (by omega) (unhide hn2); go_simp⟩) ⟨(hB.get 1 (x := ⟨g1_3, (kc (digs (V : Int) 32)), 23⟩) rfl), trivial⟩ ?_
  simp only [Act.put, List.setIfInBounds_toArray, List.set_cons_zero, List.set_cons_succ, List.getElem_toArray, List.getElem_cons_zero, List.getElem_cons_succ]
  refine any_take (i := 21) (v := (.bool false)) #[true, true, true, true, true, true, true, true, true, true, true, true, true, true, true, true, true, true, true, true, true, false, false, false, false, false, false, false, false, false, false, false, false, false, false] rfl (by kernel_rfl) (by kernel_rfl) (by kernel_rfl) (by kernel_rfl) (fun _ _ _ h => h) (.inl ⟨by kernel_rfl, fun x_ hu => by kernel_rfl⟩) ⟨(hB.get 1 (x := ⟨g1_3, (kc (digs (V : Int) 32)), 23⟩) rfl), trivial⟩ ?_
  simp only [Act.put, List.setIfInBounds_toArray, List.set_cons_zero, List.set_cons_succ, List.getElem_toArray, List.getElem_cons_zero, List.getElem_cons_succ]
  refine any_take (i := 22) (v := (.bool false)) #[true, true, true, true, true, true, true, true, true, true, true, true, true, true, true, true, true, true, true, true, true, true, false, false, false, false, false, false, false, false, false, false, false, false, false] rfl (by kernel_rfl) (by kernel_rfl) (by kernel_rfl) (by kernel_rfl) (fun _ _ _ h => h) (.inl ⟨by kernel_rfl, fun x_ hu => by kernel_rfl⟩) ⟨(hB.get 1 (x := ⟨g1_3, (kc (digs (V : Int) 32)), 23⟩) rfl), trivial⟩ ?_
  simp only [Act.put, List.setIfInBounds_toArray, List.set_cons_zero, List.set_cons_succ, List.getElem_toArray, List.getElem_cons_zero, List.getElem_cons_succ]
  refine any_take (i := 23) (v := (.agg (kc (digs (V : Int) 32)))) #[true, true, true, true, true, true, true, true, true, true, true, true, true, true, true, true, true, true, true, true, true, true, true, false, false, false, false, false, false, false, false, false, false, false, false] rfl (by kernel_rfl) (by kernel_rfl) (by kernel_rfl) (by kernel_rfl) (fun _ _ _ h => h) (.inl ⟨by kernel_rfl, fun x_ hu => exec_arr x_ 23 (.tmp 3) rfl g1_3 (by kernel_rfl) (kc (digs (V : Int) 32)) 23 _ hu.1 Tryd.underlying23 rfl (by rw [Tryd.infoKey, kc32])⟩) ⟨(hB.get 1 (x := ⟨g1_3, (kc (digs (V : Int) 32)), 23⟩) rfl), trivial⟩ ?_
  simp only [Act.put, List.setIfInBounds_toArray, List.set_cons_zero, List.set_cons_succ, List.getElem_toArray, List.getElem_cons_zero, List.getElem_cons_succ]
  refine any_one (i := 24) (by kernel_rfl) rfl (fun K hK => ?_)
  refine step_callw (by kernel_rfl) 23 #[.string s8] (by kernel_rfl) ((dig8_ok _).mono ?_)
  rintro r v15_ ⟨c7, rfl, hc7, hg⟩
  refine ⟨_, rfl, ?_⟩
  replace hB := hB.more hg
  clear hg
  refine hK.out _ _ ⟨(hB.get 1 (x := ⟨g1_3, (kc (digs (V : Int) 32)), 23⟩) rfl), trivial⟩ (fun _ => ?_)
  clear hK K
  simp only [Act.put, List.setIfInBounds_toArray, List.set_cons_zero, List.set_cons_succ, List.getElem_toArray, List.getElem_cons_zero, List.getElem_cons_succ]
  refine any_one (i := 25) (by kernel_rfl) rfl (fun K hK => ?_)
  refine step_callw (by kernel_rfl) 20 #[.agg c7] (by kernel_rfl) ((nbytes_nc hc7 _).mono ?_)
  rintro r v16_ ⟨rfl, hg⟩
  refine ⟨_, rfl, ?_⟩
  rw [show (325606250916557431795983626356110631294008115727848805560023387167927233504 : Int) % pp = 325606250916557431795983626356110631294008115727848805560023387167927233504 from by decide]
  replace hB := hB.more hg
  clear hg
  refine hK.out _ _ ⟨(hB.get 1 (x := ⟨g1_3, (kc (digs (V : Int) 32)), 23⟩) rfl), trivial⟩ (fun _ => ?_)
  clear hK K
  simp only [Act.put, List.setIfInBounds_toArray, List.set_cons_zero, List.set_cons_succ, List.getElem_toArray, List.getElem_cons_zero, List.getElem_cons_succ]
  refine any_take (i := 26) (v := (.bool false)) #[true, true, true, true, true, true, true, true, true, true, true, true, true, true, true, true, true, true, true, true, true, true, true, true, true, true, false, false, false, false, false, false, false, false, false] rfl (by kernel_rfl) (by kernel_rfl) (by kernel_rfl) (by kernel_rfl) (fun _ _ _ h => h) (.inl ⟨by kernel_rfl, fun x_ hu => by have e := key_diff (n := V) (m := 325606250916557431795983626356110631294008115727848805560023387167927233504) hVr (by omega) (unhide hn3); go_simp⟩) ⟨(hB.get 1 (x := ⟨g1_3, (kc (digs (V : Int) 32)), 23⟩) rfl), trivial⟩ ?_
  simp only [Act.put, List.setIfInBounds_toArray, List.set_cons_zero, List.set_cons_succ, List.getElem_toArray, List.getElem_cons_zero, List.getElem_cons_succ]
  refine any_take (i := 27) (v := (.bool false)) #[true, true, true, true, true, true, true, true, true, true, true, true, true, true, true, true, true, true, true, true, true, true, true, true, true, true, true, false, false, false, false, false, false, false, false] rfl (by kernel_rfl) (by kernel_rfl) (by kernel_rfl) (by kernel_rfl) (fun _ _ _ h => h) (.inl ⟨by kernel_rfl, fun x_ hu => by kernel_rfl⟩) ⟨(hB.get 1 (x := ⟨g1_3, (kc (digs (V : Int) 32)), 23⟩) rfl), trivial⟩ ?_
  simp only [Act.put, List.setIfInBounds_toArray, List.set_cons_zero, List.set_cons_succ, List.getElem_toArray, List.getElem_cons_zero, List.getElem_cons_succ]
  refine any_take (i := 28) (v := (.bool false)) #[true, true, true, true, true, true, true, true, true, true, true, true, true, true, true, true, true, true, true, true, true, true, true, true, true, true, true, true, false, false, false, false, false, false, false] rfl (by kernel_rfl) (by kernel_rfl) (by kernel_rfl) (by kernel_rfl) (fun _ _ _ h => h) (.inl ⟨by kernel_rfl, fun x_ hu => by kernel_rfl⟩) ⟨(hB.get 1 (x := ⟨g1_3, (kc (digs (V : Int) 32)), 23⟩) rfl), trivial⟩ ?_
  simp only [Act.put, List.setIfInBounds_toArray, List.set_cons_zero, List.set_cons_succ, List.getElem_toArray, List.getElem_cons_zero, List.getElem_cons_succ]
  refine any_take (i := 29) (v := (.agg (kc (digs (V : Int) 32)))) #[true, true, true, true, true, true, true, true, true, true, true, true, true, true, true, true, true, true, true, true, true, true, true, true, true, true, true, true, true, false, false, false, false, false, false] rfl (by kernel_rfl) (by kernel_rfl) (by kernel_rfl) (by kernel_rfl) (fun _ _ _ h => h) (.inl ⟨by kernel_rfl, fun x_ hu => exec_arr x_ 23 (.tmp 3) rfl g1_3 (by kernel_rfl) (kc (digs (V : Int) 32)) 23 _ hu.1 Tryd.underlying23 rfl (by rw [Tryd.infoKey, kc32])⟩) ⟨(hB.get 1 (x := ⟨g1_3, (kc (digs (V : Int) 32)), 23⟩) rfl), trivial⟩ ?_
  simp only [Act.put, List.setIfInBounds_toArray, List.set_cons_zero, List.set_cons_succ, List.getElem_toArray, List.getElem_cons_zero, List.getElem_cons_succ]
  refine any_one (i := 30) (by kernel_rfl) rfl (fun K hK => ?_)
  refine step_callw (by kernel_rfl) 23 #[.string s9] (by kernel_rfl) ((dig9_ok _).mono ?_)
  rintro r v17_ ⟨c8, rfl, hc8, hg⟩
  refine ⟨_, rfl, ?_⟩
  replace hB := hB.more hg
  clear hg
  refine hK.out _ _ ⟨(hB.get 1 (x := ⟨g1_3, (kc (digs (V : Int) 32)), 23⟩) rfl), trivial⟩ (fun _ => ?_)
  clear hK K
  simp only [Act.put, List.setIfInBounds_toArray, List.set_cons_zero, List.set_cons_succ, List.getElem_toArray, List.getElem_cons_zero, List.getElem_cons_succ]
  refine any_one (i := 31) (by kernel_rfl) rfl (fun K hK => ?_)
  refine step_callw (by kernel_rfl) 20 #[.agg c8] (by kernel_rfl) ((nbytes_nc hc8 _).mono ?_)
  rintro r v18_ ⟨rfl, hg⟩
  refine ⟨_, rfl, ?_⟩
  rw [show (39382357235489614581723060781553021112529911719440698176882885853963445705823 : Int) % pp = 39382357235489614581723060781553021112529911719440698176882885853963445705823 from by decide]
  replace hB := hB.more hg
  clear hg
  refine hK.out _ _ ⟨(hB.get 1 (x := ⟨g1_3, (kc (digs (V : Int) 32)), 23⟩) rfl), trivial⟩ (fun _ => ?_)
  clear hK K
  simp only [Act.put, List.setIfInBounds_toArray, List.set_cons_zero, List.set_cons_succ, List.getElem_toArray, List.getElem_cons_zero, List.getElem_cons_succ]
  refine any_take (i := 32) (v := (.bool false)) #[true, true, true, true, true, true, true, true, true, true, true, true, true, true, true, true, true, true, true, true, true, true, true, true, true, true, true, true, true, true, true, true, false, false, false] rfl (by kernel_rfl) (by kernel_rfl) (by kernel_rfl) (by kernel_rfl) (fun _ _ _ h => h) (.inl ⟨by kernel_rfl, fun x_ hu => by have e := key_diff (n := V) (m := 39382357235489614581723060781553021112529911719440698176882885853963445705823) hVr (by omega) (unhide hn4); go_simp⟩) ⟨(hB.get 1 (x := ⟨g1_3, (kc (digs (V : Int) 32)), 23⟩) rfl), trivial⟩ ?_
  simp only [Act.put, List.setIfInBounds_toArray, List.set_cons_zero, List.set_cons_succ, List.getElem_toArray, List.getElem_cons_zero, List.getElem_cons_succ]
  refine any_take (i := 33) (v := (.bool false)) #[true, true, true, true, true, true, true, true, true, true, true, true, true, true, true, true, true, true, true, true, true, true, true, true, true, true, true, true, true, true, true, true, true, false, false] rfl (by kernel_rfl) (by kernel_rfl) (by kernel_rfl) (by kernel_rfl) (fun _ _ _ h => h) (.inl ⟨by kernel_rfl, fun x_ hu => by kernel_rfl⟩) ⟨(hB.get 1 (x := ⟨g1_3, (kc (digs (V : Int) 32)), 23⟩) rfl), trivial⟩ ?_
  simp only [Act.put, List.setIfInBounds_toArray, List.set_cons_zero, List.set_cons_succ, List.getElem_toArray, List.getElem_cons_zero, List.getElem_cons_succ]
  refine any_one (i := 34) (by kernel_rfl) rfl (fun K hK => ?_)
  replace hK := hide hK
  go_simp
  refine (unhide hK).out _ _ ⟨(hB.get 1 (x := ⟨g1_3, (kc (digs (V : Int) 32)), 23⟩) rfl), trivial⟩ (fun _ => ?_)
  clear hK K
  refine any_done (by kernel_rfl) ?_
  have hG := hide hB.gr
  clear hB
  go_wp2_with fail
  refine bodyPost_ret (v := .bool false) ?_ rfl ⟨rfl, unhide hG⟩
  simp [results, Tryd.results11, go_sem]

/-- the five low places, as numbers below the prime -/
def Lw (v : Int) : Prop := v = 0 ∨ v = 1 ∨ v = 57896044618658097711785492504343953926634992332820282019728792003956564819948 ∨ v = 325606250916557431795983626356110631294008115727848805560023387167927233504 ∨ v = 39382357235489614581723060781553021112529911719440698176882885853963445705823
theorem rlow_yes (U : Nat) (hU : U < 115792089237316195423570985008687907853269984665640564039457584007913129639936) (h : Lw ((U : Int) % 57896044618658097711785492504343953926634992332820282019728792003956564819968 % pp)) (w : World) : Calls Tryd.prog 11 #[.agg (kc (digs (U : Int) 32))] w (fun r w' => r = .returned (.bool true) ∧ Gr w w') := by
  rcases h with h | h | h | h | h
  · exact rlow_0 U hU h w
  · exact rlow_1 U hU h w
  · exact rlow_2 U hU h w
  · exact rlow_3 U hU h w
  · exact rlow_4 U hU h w
theorem rlow_no (U : Nat) (hU : U < 115792089237316195423570985008687907853269984665640564039457584007913129639936) (h : ¬ Lw ((U : Int) % 57896044618658097711785492504343953926634992332820282019728792003956564819968 % pp)) (w : World) : Calls Tryd.prog 11 #[.agg (kc (digs (U : Int) 32))] w (fun r w' => r = .returned (.bool false) ∧ Gr w w') := by
  refine rlow_5 U hU _ rfl ⟨Int.emod_nonneg _ (by decide), ?_⟩ (fun e => h (.inl e)) (fun e => h (.inr (.inl e))) (fun e => h (.inr (.inr (.inl e)))) (fun e => h (.inr (.inr (.inr (.inl e))))) (fun e => h (.inr (.inr (.inr (.inr e))))) w
  have := Int.emod_lt_of_pos ((U : Int) % 57896044618658097711785492504343953926634992332820282019728792003956564819968) (show 0 < pp by decide)
  unfold pp at *
  omega
end Go.Proofs.YtebgmneffpeahaaDoor
