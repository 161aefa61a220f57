/-
  Layer 14: of which kind bytes are.
-/
import Derived.Test.YtfmocneoffkmpaaFN
namespace Go.Proofs.Ytfmocneoffkmpaa
open Go.RowKit
set_option maxRecDepth 100000
set_option linter.unusedSimpArgs false
set_option linter.unusedVariables false
def aG (L : List Int) : Bool := decide (L.length = 106) && anE L
def uG (L : List Int) : Bool := onS ((L.length : Int) - 11) && (decide (L.getD 0 0 = 2) && pkE L)
def dG (L : List Int) : Bool := rpS ((L.length : Int) - 11) && (decide (L.getD 0 0 = 3) && pkE L)
def kindO (L : List Int) : Int := if aG L = true then 1 else if uG L = true then 2 else if dG L = true then 3 else 0
/-- what a Get answers, whatever it is -/
def Gan (k : Nat) (good : Bool) (w : World) (r : Ending) (w' : World) : Prop := ∃ (x : Array Value) (e : Int), r = .returned (.tuple #[.agg x, .int .i64 e]) ∧ x.size = k ∧ x.all (·.oneCell') = true ∧ decide (e = 0) = good ∧ Gr w w'
theorem geta_any (L : List Int) (a : Option Addr) (n c : Nat) (w : World) (h : Lb w a n c L) : Calls Try.prog 34 #[.slice a n c] w (Gan 2 (aG L) w) := by
  by_cases hn : n = 106
  · subst hn
    cases hE : anE L
    · refine (fgeta_bad L a c w h hE).mono ?_
      rintro r u ⟨rfl, hg⟩
      exact ⟨_, _, rfl, rfl, by simp [Value.oneCell'], by unfold aG; rw [hE]; simp, hg⟩
    · refine (fgeta_ok L a c w h hE).mono ?_
      rintro r u ⟨a2, c2, rfl, _, hg⟩
      exact ⟨_, _, rfl, rfl, by simp [Value.oneCell'], by unfold aG; rw [hE, h.len]; rfl, hg⟩
  · refine (fgeta_no a n c hn w).mono ?_
    rintro r u ⟨rfl, hg⟩
    exact ⟨_, _, rfl, rfl, by simp [Value.oneCell'], by unfold aG; rw [h.len, decide_eq_false hn]; rfl, hg⟩
theorem getup_any (L : List Int) (a : Option Addr) (n c : Nat) (w : World) (h : Lb w a n c L) : Calls Try.prog 42 #[.slice a n c] w (Gan 4 (uG L) w) := by
  have hl := h.len
  have hm : n < 9223372036854775808 := Nat.lt_of_le_of_lt h.cap h.max
  cases hS : onS ((n : Int) - 11)
  · refine (fgetup_no a n c hm hS w).mono ?_
    rintro r u ⟨rfl, hg⟩
    exact ⟨_, _, rfl, rfl, by simp [Value.oneCell'], by unfold uG; rw [hl, hS]; rfl, hg⟩
  · by_cases hF : L.getD 0 0 = 2
    · cases hE : pkE L
      · refine (fgetup_bad L a n c hS (.inr hE) w h).mono ?_
        rintro r u ⟨rfl, hg⟩
        exact ⟨_, _, rfl, rfl, by simp [Value.oneCell'], by unfold uG; rw [hE]; simp, hg⟩
      · refine (fgetup_ok L a n c hS hF hE w h).mono ?_
        rintro r u ⟨v, rfl, hO, hg⟩
        obtain ⟨va, vc, rfl, _⟩ := ob_lb hO (isB_drop h.isB 11) rfl
        exact ⟨_, _, rfl, rfl, by simp [pkv, Value.oneCell'], by unfold uG; rw [hl, hS, hE, decide_eq_true hF]; rfl, hg⟩
    · refine (fgetup_bad L a n c hS (.inl hF) w h).mono ?_
      rintro r u ⟨rfl, hg⟩
      exact ⟨_, _, rfl, rfl, by simp [Value.oneCell'], by unfold uG; rw [decide_eq_false hF]; simp, hg⟩
theorem getdn_any (L : List Int) (a : Option Addr) (n c : Nat) (w : World) (h : Lb w a n c L) : Calls Try.prog 43 #[.slice a n c] w (Gan 4 (dG L) w) := by
  have hl := h.len
  have hm : n < 9223372036854775808 := Nat.lt_of_le_of_lt h.cap h.max
  cases hS : rpS ((n : Int) - 11)
  · refine (fgetdn_no a n c hm hS w).mono ?_
    rintro r u ⟨rfl, hg⟩
    exact ⟨_, _, rfl, rfl, by simp [Value.oneCell'], by unfold dG; rw [hl, hS]; rfl, hg⟩
  · by_cases hF : L.getD 0 0 = 3
    · cases hE : pkE L
      · refine (fgetdn_bad L a n c hS (.inr hE) w h).mono ?_
        rintro r u ⟨rfl, hg⟩
        exact ⟨_, _, rfl, rfl, by simp [Value.oneCell'], by unfold dG; rw [hE]; simp, hg⟩
      · refine (fgetdn_ok L a n c hS hF hE w h).mono ?_
        rintro r u ⟨v, rfl, hO, hg⟩
        obtain ⟨va, vc, rfl, _⟩ := ob_lb hO (isB_drop h.isB 11) rfl
        exact ⟨_, _, rfl, rfl, by simp [pkv, Value.oneCell'], by unfold dG; rw [hl, hS, hE, decide_eq_true hF]; rfl, hg⟩
    · refine (fgetdn_bad L a n c hS (.inl hF) w h).mono ?_
      rintro r u ⟨rfl, hg⟩
      exact ⟨_, _, rfl, rfl, by simp [Value.oneCell'], by unfold dG; rw [decide_eq_false hF]; simp, hg⟩
set_option maxHeartbeats 4000000 in
theorem freadsA_ok (L : List Int) (a : Option Addr) (n c : Nat) (w : World) (h : Lb w a n c L) : Calls Try.prog 70 #[.func (.func 34) #[] #[], .slice a n c] w (Vl (.bool (aG L)) w) := by
  obtain ⟨T, hT⟩ : ∃ T, T = Vl (.bool (aG L)) w := ⟨_, rfl⟩
  rw [← hT]
  replace hT := hide hT
  replace h := hide h
  go_enter Try.func70, Try.ntmps70
  go_upto_region 1 with fail
  refine wp_region_lit ?_
  refine list_val (.func (.func 34) #[] #[]) (by kernel_rfl) (by kernel_rfl) ?_
  simp only [Act.put, List.setIfInBounds_toArray, List.set_cons_zero, List.set_cons_succ, List.getElem_toArray, List.getElem_cons_zero, List.getElem_cons_succ]
  refine list_val (.slice a n c) (by kernel_rfl) (by kernel_rfl) ?_
  simp only [Act.put, List.setIfInBounds_toArray, List.set_cons_zero, List.set_cons_succ, List.getElem_toArray, List.getElem_cons_zero, List.getElem_cons_succ]
  refine list_call 34 #[.slice a n c] (by kernel_rfl) (by kernel_rfl) ((geta_any L a n c w (unhide h)).mono ?_)
  rintro r u1 ⟨x, e, rfl, hxs, hxo, hge, hg1⟩
  rw [← hge] at hT
  obtain ⟨y, hy⟩ : ∃ y, y = decide (e = 0) := ⟨_, rfl⟩
  rw [← hy] at hT
  replace hge := hide hge; replace hy := hide hy; replace hg1 := hide hg1
  refine ⟨_, rfl, ?_⟩
  simp only [Act.put, List.setIfInBounds_toArray, List.set_cons_zero, List.set_cons_succ, List.getElem_toArray, List.getElem_cons_zero, List.getElem_cons_succ]
  refine list_val (.tuple #[.agg x, .int .i64 e]) (by kernel_rfl) (by kernel_rfl) ?_
  simp only [Act.put, List.setIfInBounds_toArray, List.set_cons_zero, List.set_cons_succ, List.getElem_toArray, List.getElem_cons_zero, List.getElem_cons_succ]
  refine list_val (.agg x) (by kernel_rfl) (by kernel_rfl) ?_
  simp only [Act.put, List.setIfInBounds_toArray, List.set_cons_zero, List.set_cons_succ, List.getElem_toArray, List.getElem_cons_zero, List.getElem_cons_succ]
  refine list_val (.int .i64 e) (by kernel_rfl) (by kernel_rfl) ?_
  simp only [Act.put, List.setIfInBounds_toArray, List.set_cons_zero, List.set_cons_succ, List.getElem_toArray, List.getElem_cons_zero, List.getElem_cons_succ]
  refine list_valw (.pointer (some ⟨u1.heap.size, 0, none⟩)) (u1.alloc (.cells #[.int .u64 0, .slice none 0 0] 67 (0, 0))) (by kernel_rfl) (by kernel_rfl) ?_
  have hB := (Bl.nil u1).new #[.int .u64 0, .slice none 0 0] 67
  simp only [List.nil_append] at hB
  generalize World.alloc _ _ = u2 at *
  generalize u1.heap.size = q4 at *
  replace hB : Bl u1 [⟨q4, #[.int .u64 0, .slice none 0 0], 67⟩] u2 := hB
  simp only [Act.put, List.setIfInBounds_toArray, List.set_cons_zero, List.set_cons_succ, List.getElem_toArray, List.getElem_cons_zero, List.getElem_cons_succ]
  refine list_store 67 (.tmp 5) (.tmp 11) q4 x 67 #[.int .u64 0, .slice none 0 0] (by kernel_rfl) rfl (by kernel_rfl) (by kernel_rfl) (hB.get 0 (x := ⟨q4, #[.int .u64 0, .slice none 0 0], 67⟩) rfl) (by rw [Try.infoA, hxs]) (by rw [hxs]; rfl) hxo ?_
  replace hB := hB.set 0 (x := ⟨q4, #[.int .u64 0, .slice none 0 0], 67⟩) rfl x
  generalize World.setRow _ _ _ = u3 at *
  replace hg1 := hide ((unhide hg1).trans hB.gr)
  clear hB
  simp only [Act.put, List.setIfInBounds_toArray, List.set_cons_zero, List.set_cons_succ, List.getElem_toArray, List.getElem_cons_zero, List.getElem_cons_succ]
  (refine wpList_step fun K hK => ?_; replace hK := hide hK; go_simp; refine unhide hK _ _ ?_; clear hK K)
  refine wpList_nil ?_
  go_upto_region 2 with fail
  refine wp_region_lit ?_
  refine list_val (.int .i64 e) (by kernel_rfl) (by kernel_rfl) ?_
  simp only [Act.put, List.setIfInBounds_toArray, List.set_cons_zero, List.set_cons_succ, List.getElem_toArray, List.getElem_cons_zero, List.getElem_cons_succ]
  refine list_val (.bool y) (by kernel_rfl) (by rw [unhide hy]; go_simp; rw [Bool.eq_iff_iff, beq_iff_eq, decide_eq_true_iff]) ?_
  simp only [Act.put, List.setIfInBounds_toArray, List.set_cons_zero, List.set_cons_succ, List.getElem_toArray, List.getElem_cons_zero, List.getElem_cons_succ]
  (refine wpList_step fun K hK => ?_; replace hK := hide hK; go_simp; refine unhide hK _ _ ?_; clear hK K)
  refine wpList_nil ?_
  have hZ : Hid (Vl (.bool y) w (.returned (.bool y)) u3) := ⟨rfl, unhide hg1⟩
  go_wp2_with fail
  rw [unhide hT]
  exact unhide hZ
set_option maxHeartbeats 4000000 in
theorem freadsU_ok (L : List Int) (a : Option Addr) (n c : Nat) (w : World) (h : Lb w a n c L) : Calls Try.prog 71 #[.func (.func 42) #[] #[], .slice a n c] w (Vl (.bool (uG L)) w) := by
  obtain ⟨T, hT⟩ : ∃ T, T = Vl (.bool (uG L)) w := ⟨_, rfl⟩
  rw [← hT]
  replace hT := hide hT
  replace h := hide h
  go_enter Try.func71, Try.ntmps71
  go_upto_region 1 with fail
  refine wp_region_lit ?_
  refine list_val (.func (.func 42) #[] #[]) (by kernel_rfl) (by kernel_rfl) ?_
  simp only [Act.put, List.setIfInBounds_toArray, List.set_cons_zero, List.set_cons_succ, List.getElem_toArray, List.getElem_cons_zero, List.getElem_cons_succ]
  refine list_val (.slice a n c) (by kernel_rfl) (by kernel_rfl) ?_
  simp only [Act.put, List.setIfInBounds_toArray, List.set_cons_zero, List.set_cons_succ, List.getElem_toArray, List.getElem_cons_zero, List.getElem_cons_succ]
  refine list_call 42 #[.slice a n c] (by kernel_rfl) (by kernel_rfl) ((getup_any L a n c w (unhide h)).mono ?_)
  rintro r u1 ⟨x, e, rfl, hxs, hxo, hge, hg1⟩
  rw [← hge] at hT
  obtain ⟨y, hy⟩ : ∃ y, y = decide (e = 0) := ⟨_, rfl⟩
  rw [← hy] at hT
  replace hge := hide hge; replace hy := hide hy; replace hg1 := hide hg1
  refine ⟨_, rfl, ?_⟩
  simp only [Act.put, List.setIfInBounds_toArray, List.set_cons_zero, List.set_cons_succ, List.getElem_toArray, List.getElem_cons_zero, List.getElem_cons_succ]
  refine list_val (.tuple #[.agg x, .int .i64 e]) (by kernel_rfl) (by kernel_rfl) ?_
  simp only [Act.put, List.setIfInBounds_toArray, List.set_cons_zero, List.set_cons_succ, List.getElem_toArray, List.getElem_cons_zero, List.getElem_cons_succ]
  refine list_val (.agg x) (by kernel_rfl) (by kernel_rfl) ?_
  simp only [Act.put, List.setIfInBounds_toArray, List.set_cons_zero, List.set_cons_succ, List.getElem_toArray, List.getElem_cons_zero, List.getElem_cons_succ]
  refine list_val (.int .i64 e) (by kernel_rfl) (by kernel_rfl) ?_
  simp only [Act.put, List.setIfInBounds_toArray, List.set_cons_zero, List.set_cons_succ, List.getElem_toArray, List.getElem_cons_zero, List.getElem_cons_succ]
  refine list_valw (.pointer (some ⟨u1.heap.size, 0, none⟩)) (u1.alloc (.cells #[.int .i64 0, .int .i64 0, .int .u64 0, .slice none 0 0] 78 (0, 0))) (by kernel_rfl) (by kernel_rfl) ?_
  have hB := (Bl.nil u1).new #[.int .i64 0, .int .i64 0, .int .u64 0, .slice none 0 0] 78
  simp only [List.nil_append] at hB
  generalize World.alloc _ _ = u2 at *
  generalize u1.heap.size = q4 at *
  replace hB : Bl u1 [⟨q4, #[.int .i64 0, .int .i64 0, .int .u64 0, .slice none 0 0], 78⟩] u2 := hB
  simp only [Act.put, List.setIfInBounds_toArray, List.set_cons_zero, List.set_cons_succ, List.getElem_toArray, List.getElem_cons_zero, List.getElem_cons_succ]
  refine list_store 78 (.tmp 5) (.tmp 11) q4 x 78 #[.int .i64 0, .int .i64 0, .int .u64 0, .slice none 0 0] (by kernel_rfl) rfl (by kernel_rfl) (by kernel_rfl) (hB.get 0 (x := ⟨q4, #[.int .i64 0, .int .i64 0, .int .u64 0, .slice none 0 0], 78⟩) rfl) (by rw [Try.infoU, hxs]) (by rw [hxs]; rfl) hxo ?_
  replace hB := hB.set 0 (x := ⟨q4, #[.int .i64 0, .int .i64 0, .int .u64 0, .slice none 0 0], 78⟩) rfl x
  generalize World.setRow _ _ _ = u3 at *
  replace hg1 := hide ((unhide hg1).trans hB.gr)
  clear hB
  simp only [Act.put, List.setIfInBounds_toArray, List.set_cons_zero, List.set_cons_succ, List.getElem_toArray, List.getElem_cons_zero, List.getElem_cons_succ]
  (refine wpList_step fun K hK => ?_; replace hK := hide hK; go_simp; refine unhide hK _ _ ?_; clear hK K)
  refine wpList_nil ?_
  go_upto_region 2 with fail
  refine wp_region_lit ?_
  refine list_val (.int .i64 e) (by kernel_rfl) (by kernel_rfl) ?_
  simp only [Act.put, List.setIfInBounds_toArray, List.set_cons_zero, List.set_cons_succ, List.getElem_toArray, List.getElem_cons_zero, List.getElem_cons_succ]
  refine list_val (.bool y) (by kernel_rfl) (by rw [unhide hy]; go_simp; rw [Bool.eq_iff_iff, beq_iff_eq, decide_eq_true_iff]) ?_
  simp only [Act.put, List.setIfInBounds_toArray, List.set_cons_zero, List.set_cons_succ, List.getElem_toArray, List.getElem_cons_zero, List.getElem_cons_succ]
  (refine wpList_step fun K hK => ?_; replace hK := hide hK; go_simp; refine unhide hK _ _ ?_; clear hK K)
  refine wpList_nil ?_
  have hZ : Hid (Vl (.bool y) w (.returned (.bool y)) u3) := ⟨rfl, unhide hg1⟩
  go_wp2_with fail
  rw [unhide hT]
  exact unhide hZ
set_option maxHeartbeats 4000000 in
theorem freadsD_ok (L : List Int) (a : Option Addr) (n c : Nat) (w : World) (h : Lb w a n c L) : Calls Try.prog 72 #[.func (.func 43) #[] #[], .slice a n c] w (Vl (.bool (dG L)) w) := by
  obtain ⟨T, hT⟩ : ∃ T, T = Vl (.bool (dG L)) w := ⟨_, rfl⟩
  rw [← hT]
  replace hT := hide hT
  replace h := hide h
  go_enter Try.func72, Try.ntmps72
  go_upto_region 1 with fail
  refine wp_region_lit ?_
  refine list_val (.func (.func 43) #[] #[]) (by kernel_rfl) (by kernel_rfl) ?_
  simp only [Act.put, List.setIfInBounds_toArray, List.set_cons_zero, List.set_cons_succ, List.getElem_toArray, List.getElem_cons_zero, List.getElem_cons_succ]
  refine list_val (.slice a n c) (by kernel_rfl) (by kernel_rfl) ?_
  simp only [Act.put, List.setIfInBounds_toArray, List.set_cons_zero, List.set_cons_succ, List.getElem_toArray, List.getElem_cons_zero, List.getElem_cons_succ]
  refine list_call 43 #[.slice a n c] (by kernel_rfl) (by kernel_rfl) ((getdn_any L a n c w (unhide h)).mono ?_)
  rintro r u1 ⟨x, e, rfl, hxs, hxo, hge, hg1⟩
  rw [← hge] at hT
  obtain ⟨y, hy⟩ : ∃ y, y = decide (e = 0) := ⟨_, rfl⟩
  rw [← hy] at hT
  replace hge := hide hge; replace hy := hide hy; replace hg1 := hide hg1
  refine ⟨_, rfl, ?_⟩
  simp only [Act.put, List.setIfInBounds_toArray, List.set_cons_zero, List.set_cons_succ, List.getElem_toArray, List.getElem_cons_zero, List.getElem_cons_succ]
  refine list_val (.tuple #[.agg x, .int .i64 e]) (by kernel_rfl) (by kernel_rfl) ?_
  simp only [Act.put, List.setIfInBounds_toArray, List.set_cons_zero, List.set_cons_succ, List.getElem_toArray, List.getElem_cons_zero, List.getElem_cons_succ]
  refine list_val (.agg x) (by kernel_rfl) (by kernel_rfl) ?_
  simp only [Act.put, List.setIfInBounds_toArray, List.set_cons_zero, List.set_cons_succ, List.getElem_toArray, List.getElem_cons_zero, List.getElem_cons_succ]
  refine list_val (.int .i64 e) (by kernel_rfl) (by kernel_rfl) ?_
  simp only [Act.put, List.setIfInBounds_toArray, List.set_cons_zero, List.set_cons_succ, List.getElem_toArray, List.getElem_cons_zero, List.getElem_cons_succ]
  refine list_valw (.pointer (some ⟨u1.heap.size, 0, none⟩)) (u1.alloc (.cells #[.int .i64 0, .int .i64 0, .int .u64 0, .slice none 0 0] 80 (0, 0))) (by kernel_rfl) (by kernel_rfl) ?_
  have hB := (Bl.nil u1).new #[.int .i64 0, .int .i64 0, .int .u64 0, .slice none 0 0] 80
  simp only [List.nil_append] at hB
  generalize World.alloc _ _ = u2 at *
  generalize u1.heap.size = q4 at *
  replace hB : Bl u1 [⟨q4, #[.int .i64 0, .int .i64 0, .int .u64 0, .slice none 0 0], 80⟩] u2 := hB
  simp only [Act.put, List.setIfInBounds_toArray, List.set_cons_zero, List.set_cons_succ, List.getElem_toArray, List.getElem_cons_zero, List.getElem_cons_succ]
  refine list_store 80 (.tmp 5) (.tmp 11) q4 x 80 #[.int .i64 0, .int .i64 0, .int .u64 0, .slice none 0 0] (by kernel_rfl) rfl (by kernel_rfl) (by kernel_rfl) (hB.get 0 (x := ⟨q4, #[.int .i64 0, .int .i64 0, .int .u64 0, .slice none 0 0], 80⟩) rfl) (by rw [Try.infoD, hxs]) (by rw [hxs]; rfl) hxo ?_
  replace hB := hB.set 0 (x := ⟨q4, #[.int .i64 0, .int .i64 0, .int .u64 0, .slice none 0 0], 80⟩) rfl x
  generalize World.setRow _ _ _ = u3 at *
  replace hg1 := hide ((unhide hg1).trans hB.gr)
  clear hB
  simp only [Act.put, List.setIfInBounds_toArray, List.set_cons_zero, List.set_cons_succ, List.getElem_toArray, List.getElem_cons_zero, List.getElem_cons_succ]
  (refine wpList_step fun K hK => ?_; replace hK := hide hK; go_simp; refine unhide hK _ _ ?_; clear hK K)
  refine wpList_nil ?_
  go_upto_region 2 with fail
  refine wp_region_lit ?_
  refine list_val (.int .i64 e) (by kernel_rfl) (by kernel_rfl) ?_
  simp only [Act.put, List.setIfInBounds_toArray, List.set_cons_zero, List.set_cons_succ, List.getElem_toArray, List.getElem_cons_zero, List.getElem_cons_succ]
  refine list_val (.bool y) (by kernel_rfl) (by rw [unhide hy]; go_simp; rw [Bool.eq_iff_iff, beq_iff_eq, decide_eq_true_iff]) ?_
  simp only [Act.put, List.setIfInBounds_toArray, List.set_cons_zero, List.set_cons_succ, List.getElem_toArray, List.getElem_cons_zero, List.getElem_cons_succ]
  (refine wpList_step fun K hK => ?_; replace hK := hide hK; go_simp; refine unhide hK _ _ ?_; clear hK K)
  refine wpList_nil ?_
  have hZ : Hid (Vl (.bool y) w (.returned (.bool y)) u3) := ⟨rfl, unhide hg1⟩
  go_wp2_with fail
  rw [unhide hT]
  exact unhide hZ
set_option maxHeartbeats 4000000 in
theorem fkind_ok (L : List Int) (a : Option Addr) (n c : Nat) (w : World) (h : Lb w a n c L) : Calls Try.prog 44 #[.slice a n c] w (Vl (.int .i64 (kindO L)) w) := by
  obtain ⟨T, hT⟩ : ∃ T, T = Vl (.int .i64 (kindO L)) w := ⟨_, rfl⟩
  rw [← hT]
  replace hT := hide hT
  have hG := Gr.refl w
  replace h := hide h; replace hG := hide hG
  go_enter Try.func44, Try.ntmps44
  go_upto_region 1 with fail
  cases hA : aG L
  · skip
    refine wp_region_lit ?_
    refine list_val (.slice a n c) (by kernel_rfl) (by kernel_rfl) ?_
    simp only [Act.put, List.setIfInBounds_toArray, List.set_cons_zero, List.set_cons_succ, List.getElem_toArray, List.getElem_cons_zero, List.getElem_cons_succ]
    refine list_call 70 #[.func (.func 34) #[] #[], .slice a n c] (by kernel_rfl) (by kernel_rfl) ((freadsA_ok L a n c w ((unhide h).gr (unhide hG))).mono ?_)
    rintro r u1 ⟨rfl, hg1⟩
    rw [hA]
    replace hG := hide ((unhide hG).trans hg1)
    clear hg1
    refine ⟨_, rfl, ?_⟩
    simp only [Act.put, List.setIfInBounds_toArray, List.set_cons_zero, List.set_cons_succ, List.getElem_toArray, List.getElem_cons_zero, List.getElem_cons_succ]
    (refine wpList_step fun K hK => ?_; replace hK := hide hK; go_simp; refine unhide hK _ _ ?_; clear hK K)
    refine wpList_nil ?_
    go_upto_region 3 with fail
    cases hU : uG L
    · skip
      refine wp_region_lit ?_
      refine list_val (.slice a n c) (by kernel_rfl) (by kernel_rfl) ?_
      simp only [Act.put, List.setIfInBounds_toArray, List.set_cons_zero, List.set_cons_succ, List.getElem_toArray, List.getElem_cons_zero, List.getElem_cons_succ]
      refine list_call 71 #[.func (.func 42) #[] #[], .slice a n c] (by kernel_rfl) (by kernel_rfl) ((freadsU_ok L a n c u1 ((unhide h).gr (unhide hG))).mono ?_)
      rintro r u2 ⟨rfl, hg1⟩
      rw [hU]
      replace hG := hide ((unhide hG).trans hg1)
      clear hg1
      refine ⟨_, rfl, ?_⟩
      simp only [Act.put, List.setIfInBounds_toArray, List.set_cons_zero, List.set_cons_succ, List.getElem_toArray, List.getElem_cons_zero, List.getElem_cons_succ]
      (refine wpList_step fun K hK => ?_; replace hK := hide hK; go_simp; refine unhide hK _ _ ?_; clear hK K)
      refine wpList_nil ?_
      go_upto_region 5 with fail
      cases hD : dG L
      · skip
        refine wp_region_lit ?_
        refine list_val (.slice a n c) (by kernel_rfl) (by kernel_rfl) ?_
        simp only [Act.put, List.setIfInBounds_toArray, List.set_cons_zero, List.set_cons_succ, List.getElem_toArray, List.getElem_cons_zero, List.getElem_cons_succ]
        refine list_call 72 #[.func (.func 43) #[] #[], .slice a n c] (by kernel_rfl) (by kernel_rfl) ((freadsD_ok L a n c u2 ((unhide h).gr (unhide hG))).mono ?_)
        rintro r u3 ⟨rfl, hg1⟩
        rw [hD]
        replace hG := hide ((unhide hG).trans hg1)
        clear hg1
        refine ⟨_, rfl, ?_⟩
        simp only [Act.put, List.setIfInBounds_toArray, List.set_cons_zero, List.set_cons_succ, List.getElem_toArray, List.getElem_cons_zero, List.getElem_cons_succ]
        (refine wpList_step fun K hK => ?_; replace hK := hide hK; go_simp; refine unhide hK _ _ ?_; clear hK K)
        refine wpList_nil ?_
        have hK : kindO L = 0 := by unfold kindO; simp [hA, hU, hD]
        rw [hK] at hT
        have hZ : Hid (Vl (.int .i64 0) w (.returned (.int .i64 0)) u3) := ⟨rfl, unhide hG⟩
        go_wp2_with fail
        rw [unhide hT]
        exact unhide hZ
      · skip
        refine wp_region_lit ?_
        refine list_val (.slice a n c) (by kernel_rfl) (by kernel_rfl) ?_
        simp only [Act.put, List.setIfInBounds_toArray, List.set_cons_zero, List.set_cons_succ, List.getElem_toArray, List.getElem_cons_zero, List.getElem_cons_succ]
        refine list_call 72 #[.func (.func 43) #[] #[], .slice a n c] (by kernel_rfl) (by kernel_rfl) ((freadsD_ok L a n c u2 ((unhide h).gr (unhide hG))).mono ?_)
        rintro r u3 ⟨rfl, hg1⟩
        rw [hD]
        replace hG := hide ((unhide hG).trans hg1)
        clear hg1
        refine ⟨_, rfl, ?_⟩
        simp only [Act.put, List.setIfInBounds_toArray, List.set_cons_zero, List.set_cons_succ, List.getElem_toArray, List.getElem_cons_zero, List.getElem_cons_succ]
        (refine wpList_step fun K hK => ?_; replace hK := hide hK; go_simp; refine unhide hK _ _ ?_; clear hK K)
        refine wpList_nil ?_
        have hK : kindO L = 3 := by unfold kindO; simp [hA, hU, hD]
        rw [hK] at hT
        have hZ : Hid (Vl (.int .i64 3) w (.returned (.int .i64 3)) u3) := ⟨rfl, unhide hG⟩
        go_wp2_with fail
        rw [unhide hT]
        exact unhide hZ
    · skip
      refine wp_region_lit ?_
      refine list_val (.slice a n c) (by kernel_rfl) (by kernel_rfl) ?_
      simp only [Act.put, List.setIfInBounds_toArray, List.set_cons_zero, List.set_cons_succ, List.getElem_toArray, List.getElem_cons_zero, List.getElem_cons_succ]
      refine list_call 71 #[.func (.func 42) #[] #[], .slice a n c] (by kernel_rfl) (by kernel_rfl) ((freadsU_ok L a n c u1 ((unhide h).gr (unhide hG))).mono ?_)
      rintro r u2 ⟨rfl, hg1⟩
      rw [hU]
      replace hG := hide ((unhide hG).trans hg1)
      clear hg1
      refine ⟨_, rfl, ?_⟩
      simp only [Act.put, List.setIfInBounds_toArray, List.set_cons_zero, List.set_cons_succ, List.getElem_toArray, List.getElem_cons_zero, List.getElem_cons_succ]
      (refine wpList_step fun K hK => ?_; replace hK := hide hK; go_simp; refine unhide hK _ _ ?_; clear hK K)
      refine wpList_nil ?_
      have hK : kindO L = 2 := by unfold kindO; simp [hA, hU]
      rw [hK] at hT
      have hZ : Hid (Vl (.int .i64 2) w (.returned (.int .i64 2)) u2) := ⟨rfl, unhide hG⟩
      go_wp2_with fail
      rw [unhide hT]
      exact unhide hZ
  · skip
    refine wp_region_lit ?_
    refine list_val (.slice a n c) (by kernel_rfl) (by kernel_rfl) ?_
    simp only [Act.put, List.setIfInBounds_toArray, List.set_cons_zero, List.set_cons_succ, List.getElem_toArray, List.getElem_cons_zero, List.getElem_cons_succ]
    refine list_call 70 #[.func (.func 34) #[] #[], .slice a n c] (by kernel_rfl) (by kernel_rfl) ((freadsA_ok L a n c w ((unhide h).gr (unhide hG))).mono ?_)
    rintro r u1 ⟨rfl, hg1⟩
    rw [hA]
    replace hG := hide ((unhide hG).trans hg1)
    clear hg1
    refine ⟨_, rfl, ?_⟩
    simp only [Act.put, List.setIfInBounds_toArray, List.set_cons_zero, List.set_cons_succ, List.getElem_toArray, List.getElem_cons_zero, List.getElem_cons_succ]
    (refine wpList_step fun K hK => ?_; replace hK := hide hK; go_simp; refine unhide hK _ _ ?_; clear hK K)
    refine wpList_nil ?_
    have hK : kindO L = 1 := by unfold kindO; simp [hA]
    rw [hK] at hT
    have hZ : Hid (Vl (.int .i64 1) w (.returned (.int .i64 1)) u1) := ⟨rfl, unhide hG⟩
    go_wp2_with fail
    rw [unhide hT]
    exact unhide hZ
end Go.Proofs.Ytfmocneoffkmpaa
