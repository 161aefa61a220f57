/-
  Layer 14: how long onions and replies are; packets.
-/
import Derived.Test.YtfmocneoffkmpaaFG
namespace Go.Proofs.Ytfmocneoffkmpaa
open Go.RowKit
set_option maxRecDepth 100000
set_option linter.unusedSimpArgs false
set_option linter.unusedVariables false
def onz (h : Int) : Int := if 1 ≤ h ∧ h ≤ 3 then 146 + 48 * h else 0
def rpz (h : Int) : Int := if 1 ≤ h ∧ h ≤ 3 then 130 + 16 * h else 0
def onS (n : Int) : Bool := decide (n = 194 ∨ n = 242 ∨ n = 290)
def rpS (n : Int) : Bool := decide (n = 146 ∨ n = 162 ∨ n = 178)
def ends (c s r : Int) : Bool := decide ((0 ≤ c ∧ c < 4) ∧ (0 ≤ s ∧ s < 3) ∧ 0 < r)
/-- the bytes of a packet -/
def pkB (k c s r : Int) (B : List Int) : List Int := ([k, c, s] ++ lowL r 8) ++ B
set_option maxHeartbeats 1000000 in
theorem grown_on (h : Int) (w : World) : Calls Try.prog 73 #[.int .i64 146, .int .i64 48, .int .i64 h] w (fun r w' => r = .returned (.int .i64 (onz h)) ∧ w' = w) := by
  obtain ⟨T, hT⟩ : ∃ T : Ending → World → Prop, T = (fun r w' => r = .returned (.int .i64 (onz h)) ∧ w' = w) := ⟨_, rfl⟩
  rw [← hT]
  replace hT := hide hT
  by_cases h1 : h < 1
  · have hZ : Hid (T (.returned (.int .i64 0)) w) := by rw [unhide hT]; exact ⟨by unfold onz; rw [if_neg (by omega)], rfl⟩
    go_enter Try.func73, Try.ntmps73
    go_wp2_with fail
    exact unhide hZ
  · by_cases h2 : 3 < h
    · have hZ : Hid (T (.returned (.int .i64 0)) w) := by rw [unhide hT]; exact ⟨by unfold onz; rw [if_neg (by omega)], rfl⟩
      go_enter Try.func73, Try.ntmps73
      go_wp2_with fail
      exact unhide hZ
    · obtain rfl | rfl | rfl : h = 1 ∨ h = 2 ∨ h = 3 := by omega
      · have hZ : Hid (T (.returned (.int .i64 194)) w) := by rw [unhide hT]; exact ⟨rfl, rfl⟩
        clear h1 h2
        go_enter Try.func73, Try.ntmps73
        go_wp2_with fail
        exact unhide hZ
      · have hZ : Hid (T (.returned (.int .i64 242)) w) := by rw [unhide hT]; exact ⟨rfl, rfl⟩
        clear h1 h2
        go_enter Try.func73, Try.ntmps73
        go_wp2_with fail
        exact unhide hZ
      · have hZ : Hid (T (.returned (.int .i64 290)) w) := by rw [unhide hT]; exact ⟨rfl, rfl⟩
        clear h1 h2
        go_enter Try.func73, Try.ntmps73
        go_wp2_with fail
        exact unhide hZ
set_option maxHeartbeats 1000000 in
theorem grown_rp (h : Int) (w : World) : Calls Try.prog 73 #[.int .i64 130, .int .i64 16, .int .i64 h] w (fun r w' => r = .returned (.int .i64 (rpz h)) ∧ w' = w) := by
  obtain ⟨T, hT⟩ : ∃ T : Ending → World → Prop, T = (fun r w' => r = .returned (.int .i64 (rpz h)) ∧ w' = w) := ⟨_, rfl⟩
  rw [← hT]
  replace hT := hide hT
  by_cases h1 : h < 1
  · have hZ : Hid (T (.returned (.int .i64 0)) w) := by rw [unhide hT]; exact ⟨by unfold rpz; rw [if_neg (by omega)], rfl⟩
    go_enter Try.func73, Try.ntmps73
    go_wp2_with fail
    exact unhide hZ
  · by_cases h2 : 3 < h
    · have hZ : Hid (T (.returned (.int .i64 0)) w) := by rw [unhide hT]; exact ⟨by unfold rpz; rw [if_neg (by omega)], rfl⟩
      go_enter Try.func73, Try.ntmps73
      go_wp2_with fail
      exact unhide hZ
    · obtain rfl | rfl | rfl : h = 1 ∨ h = 2 ∨ h = 3 := by omega
      · have hZ : Hid (T (.returned (.int .i64 146)) w) := by rw [unhide hT]; exact ⟨rfl, rfl⟩
        clear h1 h2
        go_enter Try.func73, Try.ntmps73
        go_wp2_with fail
        exact unhide hZ
      · have hZ : Hid (T (.returned (.int .i64 162)) w) := by rw [unhide hT]; exact ⟨rfl, rfl⟩
        clear h1 h2
        go_enter Try.func73, Try.ntmps73
        go_wp2_with fail
        exact unhide hZ
      · have hZ : Hid (T (.returned (.int .i64 178)) w) := by rw [unhide hT]; exact ⟨rfl, rfl⟩
        clear h1 h2
        go_enter Try.func73, Try.ntmps73
        go_wp2_with fail
        exact unhide hZ
set_option maxHeartbeats 4000000 in
theorem fon_ok (h : Int) (w : World) : Calls Try.prog 48 #[.int .i64 h] w (Vl (.int .i64 (onz h)) w) := by
  obtain ⟨T, hT⟩ : ∃ T, T = Vl (.int .i64 (onz h)) w := ⟨_, rfl⟩
  rw [← hT]
  replace hT := hide hT
  go_enter Try.func48, Try.ntmps48
  go_upto_region 1 with fail
  refine wp_region_lit ?_
  refine list_val (.int .i64 h) (by kernel_rfl) (by kernel_rfl) ?_
  simp only [Act.put, List.setIfInBounds_toArray, List.set_cons_zero, List.set_cons_succ, List.getElem_toArray, List.getElem_cons_zero, List.getElem_cons_succ]
  refine list_call 73 #[.int .i64 146, .int .i64 48, .int .i64 h] (by kernel_rfl) (by kernel_rfl) ((grown_on h w).mono ?_)
  rintro r u ⟨rfl, rfl⟩
  generalize onz h = x at *
  refine ⟨_, rfl, ?_⟩
  simp only [Act.put, List.setIfInBounds_toArray, List.set_cons_zero, List.set_cons_succ, List.getElem_toArray, List.getElem_cons_zero, List.getElem_cons_succ]
  (refine wpList_step fun K hK => ?_; replace hK := hide hK; go_simp; refine unhide hK _ _ ?_; clear hK K)
  refine wpList_nil ?_
  have hZ : Hid (Vl (.int .i64 x) u (.returned (.int .i64 x)) u) := ⟨rfl, Gr.refl u⟩
  go_wp2_with fail
  rw [unhide hT]
  exact unhide hZ
set_option maxHeartbeats 4000000 in
theorem frp_ok (h : Int) (w : World) : Calls Try.prog 49 #[.int .i64 h] w (Vl (.int .i64 (rpz h)) w) := by
  obtain ⟨T, hT⟩ : ∃ T, T = Vl (.int .i64 (rpz h)) w := ⟨_, rfl⟩
  rw [← hT]
  replace hT := hide hT
  go_enter Try.func49, Try.ntmps49
  go_upto_region 1 with fail
  refine wp_region_lit ?_
  refine list_val (.int .i64 h) (by kernel_rfl) (by kernel_rfl) ?_
  simp only [Act.put, List.setIfInBounds_toArray, List.set_cons_zero, List.set_cons_succ, List.getElem_toArray, List.getElem_cons_zero, List.getElem_cons_succ]
  refine list_call 73 #[.int .i64 130, .int .i64 16, .int .i64 h] (by kernel_rfl) (by kernel_rfl) ((grown_rp h w).mono ?_)
  rintro r u ⟨rfl, rfl⟩
  generalize rpz h = x at *
  refine ⟨_, rfl, ?_⟩
  simp only [Act.put, List.setIfInBounds_toArray, List.set_cons_zero, List.set_cons_succ, List.getElem_toArray, List.getElem_cons_zero, List.getElem_cons_succ]
  (refine wpList_step fun K hK => ?_; replace hK := hide hK; go_simp; refine unhide hK _ _ ?_; clear hK K)
  refine wpList_nil ?_
  have hZ : Hid (Vl (.int .i64 x) u (.returned (.int .i64 x)) u) := ⟨rfl, Gr.refl u⟩
  go_wp2_with fail
  rw [unhide hT]
  exact unhide hZ
set_option maxHeartbeats 4000000 in
theorem some_on (n : Int) (w : World) : Calls Try.prog 80 #[.func (.func 48) #[] #[], .int .i64 n] w (Vl (.bool (onS n)) w) := by
  obtain ⟨T, hT⟩ : ∃ T, T = Vl (.bool (onS n)) w := ⟨_, rfl⟩
  rw [← hT]
  replace hT := hide hT
  have hI0 : Hid ((∀ i : Int, 1 ≤ i → i ≤ (0 : Nat) → n ≠ onz i) ∧ Gr w w) := ⟨fun i h1 h2 => by omega, Gr.refl w⟩
  go_enter Try.func80, Try.ntmps80
  go_wp2_with fail
  go_loopw [5] (fun i wr => ∃ j : Nat, j ≤ 3 ∧ i = .int .i64 ((j : Int) + 1) ∧ Hid ((∀ i : Int, 1 ≤ i → i ≤ (j : Nat) → n ≠ onz i) ∧ Gr w wr)) (fun i _ => 4 - (intOf i).toNat)
  case atStart => exact ⟨0, by omega, rfl, hI0⟩
  case round =>
  clear hI0
  obtain ⟨j, hj, rfl, hA⟩ := hrel
  obtain ⟨hA1, hG⟩ := unhide hA
  clear hA
  by_cases hlt : j < 3
  · skip
    obtain ⟨i, hi⟩ : ∃ i : Int, i = (j : Int) + 1 := ⟨_, rfl⟩
    rw [← hi]
    have hi3 : i ≤ 3 := by omega
    have hiw : IntKind.i64.wrap (i + 1) = ((j + 1 : Nat) : Int) + 1 := by rw [IntKind.wrap_i64]; omega
    obtain ⟨x, hx⟩ : ∃ x, x = onz i := ⟨_, rfl⟩
    replace hA1 := hide hA1; replace hG := hide hG; replace hi := hide hi; replace hx := hide hx
    go_upto_region 4 with fail
    by_cases hxn : x = n
    · skip
      subst hxn
      refine wp_region_lit ?_
      refine list_val (.func (.func 48) #[] #[]) (by kernel_rfl) (by kernel_rfl) ?_
      simp only [Act.put, List.setIfInBounds_toArray, List.set_cons_zero, List.set_cons_succ, List.getElem_toArray, List.getElem_cons_zero, List.getElem_cons_succ]
      refine list_val (.int .i64 i) (by kernel_rfl) (by kernel_rfl) ?_
      simp only [Act.put, List.setIfInBounds_toArray, List.set_cons_zero, List.set_cons_succ, List.getElem_toArray, List.getElem_cons_zero, List.getElem_cons_succ]
      refine list_call 48 #[.int .i64 i] (by kernel_rfl) (by kernel_rfl) ((fon_ok i wr).mono ?_)
      rintro r y3 ⟨rfl, hg3⟩
      replace hG := hide ((unhide hG).trans hg3)
      clear hg3
      rw [← unhide hx]
      refine ⟨_, rfl, ?_⟩
      simp only [Act.put, List.setIfInBounds_toArray, List.set_cons_zero, List.set_cons_succ, List.getElem_toArray, List.getElem_cons_zero, List.getElem_cons_succ]
      refine list_val (.int .i64 x) (by kernel_rfl) (by kernel_rfl) ?_
      simp only [Act.put, List.setIfInBounds_toArray, List.set_cons_zero, List.set_cons_succ, List.getElem_toArray, List.getElem_cons_zero, List.getElem_cons_succ]
      refine list_val (.bool true) (by kernel_rfl) (by go_simp) ?_
      simp only [Act.put, List.setIfInBounds_toArray, List.set_cons_zero, List.set_cons_succ, List.getElem_toArray, List.getElem_cons_zero, List.getElem_cons_succ]
      refine wpList_nil ?_
      have hZ : Hid (Vl (.bool (onS x)) w (.returned (.bool true)) y3) := ⟨by
        have hi := unhide hi; have hx := unhide hx
        obtain rfl | rfl | rfl : j = 0 ∨ j = 1 ∨ j = 2 := by omega
        all_goals (subst hi; subst hx; rfl), unhide hG⟩
      go_wp2_with fail
      rw [unhide hT]
      exact unhide hZ
    · skip
      refine wp_region_lit ?_
      refine list_val (.func (.func 48) #[] #[]) (by kernel_rfl) (by kernel_rfl) ?_
      simp only [Act.put, List.setIfInBounds_toArray, List.set_cons_zero, List.set_cons_succ, List.getElem_toArray, List.getElem_cons_zero, List.getElem_cons_succ]
      refine list_val (.int .i64 i) (by kernel_rfl) (by kernel_rfl) ?_
      simp only [Act.put, List.setIfInBounds_toArray, List.set_cons_zero, List.set_cons_succ, List.getElem_toArray, List.getElem_cons_zero, List.getElem_cons_succ]
      refine list_call 48 #[.int .i64 i] (by kernel_rfl) (by kernel_rfl) ((fon_ok i wr).mono ?_)
      rintro r y3 ⟨rfl, hg3⟩
      replace hG := hide ((unhide hG).trans hg3)
      clear hg3
      rw [← unhide hx]
      refine ⟨_, rfl, ?_⟩
      simp only [Act.put, List.setIfInBounds_toArray, List.set_cons_zero, List.set_cons_succ, List.getElem_toArray, List.getElem_cons_zero, List.getElem_cons_succ]
      refine list_val (.int .i64 n) (by kernel_rfl) (by kernel_rfl) ?_
      simp only [Act.put, List.setIfInBounds_toArray, List.set_cons_zero, List.set_cons_succ, List.getElem_toArray, List.getElem_cons_zero, List.getElem_cons_succ]
      refine list_val (.bool false) (by kernel_rfl) (by go_simp) ?_
      simp only [Act.put, List.setIfInBounds_toArray, List.set_cons_zero, List.set_cons_succ, List.getElem_toArray, List.getElem_cons_zero, List.getElem_cons_succ]
      refine wpList_nil ?_
      have hI2 : Hid ((∀ i : Int, 1 ≤ i → i ≤ ((j + 1 : Nat) : Int) → n ≠ onz i) ∧ Gr w y3) := by
        refine ⟨fun m h1 h2 => ?_, unhide hG⟩
        by_cases hm : m ≤ (j : Int)
        · exact (unhide hA1) m h1 hm
        · obtain rfl : m = i := by have := unhide hi; omega
          intro e
          exact hxn (by rw [e]; exact unhide hx)
      clear hxn
      go_wp2_with fail
      go_roundw
      case rel => exact ⟨j + 1, by omega, by rw [show (((j + 1 : Nat) : Int)) = (j : Int) + 1 from by omega], hI2⟩
      case measure => have hi := unhide hi; simp only [intOf]; omega
  · skip
    obtain rfl : j = 3 := by omega
    have hS : onS n = false := by
      unfold onS
      rw [decide_eq_false_iff_not]
      have e1 := hA1 1 (by omega) (by omega)
      have e2 := hA1 2 (by omega) (by omega)
      have e3 := hA1 3 (by omega) (by omega)
      simp only [onz] at e1 e2 e3
      simp at e1 e2 e3
      omega
    rw [hS] at hT
    have hZ : Hid (Vl (.bool false) w (.returned (.bool false)) wr) := ⟨rfl, hG⟩
    clear hA1 hG hS
    go_wp2_with fail
    rw [unhide hT]
    exact unhide hZ
set_option maxHeartbeats 4000000 in
theorem some_rp (n : Int) (w : World) : Calls Try.prog 80 #[.func (.func 49) #[] #[], .int .i64 n] w (Vl (.bool (rpS n)) w) := by
  obtain ⟨T, hT⟩ : ∃ T, T = Vl (.bool (rpS n)) w := ⟨_, rfl⟩
  rw [← hT]
  replace hT := hide hT
  have hI0 : Hid ((∀ i : Int, 1 ≤ i → i ≤ (0 : Nat) → n ≠ rpz i) ∧ Gr w w) := ⟨fun i h1 h2 => by omega, Gr.refl w⟩
  go_enter Try.func80, Try.ntmps80
  go_wp2_with fail
  go_loopw [5] (fun i wr => ∃ j : Nat, j ≤ 3 ∧ i = .int .i64 ((j : Int) + 1) ∧ Hid ((∀ i : Int, 1 ≤ i → i ≤ (j : Nat) → n ≠ rpz i) ∧ Gr w wr)) (fun i _ => 4 - (intOf i).toNat)
  case atStart => exact ⟨0, by omega, rfl, hI0⟩
  case round =>
  clear hI0
  obtain ⟨j, hj, rfl, hA⟩ := hrel
  obtain ⟨hA1, hG⟩ := unhide hA
  clear hA
  by_cases hlt : j < 3
  · skip
    obtain ⟨i, hi⟩ : ∃ i : Int, i = (j : Int) + 1 := ⟨_, rfl⟩
    rw [← hi]
    have hi3 : i ≤ 3 := by omega
    have hiw : IntKind.i64.wrap (i + 1) = ((j + 1 : Nat) : Int) + 1 := by rw [IntKind.wrap_i64]; omega
    obtain ⟨x, hx⟩ : ∃ x, x = rpz i := ⟨_, rfl⟩
    replace hA1 := hide hA1; replace hG := hide hG; replace hi := hide hi; replace hx := hide hx
    go_upto_region 4 with fail
    by_cases hxn : x = n
    · skip
      subst hxn
      refine wp_region_lit ?_
      refine list_val (.func (.func 49) #[] #[]) (by kernel_rfl) (by kernel_rfl) ?_
      simp only [Act.put, List.setIfInBounds_toArray, List.set_cons_zero, List.set_cons_succ, List.getElem_toArray, List.getElem_cons_zero, List.getElem_cons_succ]
      refine list_val (.int .i64 i) (by kernel_rfl) (by kernel_rfl) ?_
      simp only [Act.put, List.setIfInBounds_toArray, List.set_cons_zero, List.set_cons_succ, List.getElem_toArray, List.getElem_cons_zero, List.getElem_cons_succ]
      refine list_call 49 #[.int .i64 i] (by kernel_rfl) (by kernel_rfl) ((frp_ok i wr).mono ?_)
      rintro r y3 ⟨rfl, hg3⟩
      replace hG := hide ((unhide hG).trans hg3)
      clear hg3
      rw [← unhide hx]
      refine ⟨_, rfl, ?_⟩
      simp only [Act.put, List.setIfInBounds_toArray, List.set_cons_zero, List.set_cons_succ, List.getElem_toArray, List.getElem_cons_zero, List.getElem_cons_succ]
      refine list_val (.int .i64 x) (by kernel_rfl) (by kernel_rfl) ?_
      simp only [Act.put, List.setIfInBounds_toArray, List.set_cons_zero, List.set_cons_succ, List.getElem_toArray, List.getElem_cons_zero, List.getElem_cons_succ]
      refine list_val (.bool true) (by kernel_rfl) (by go_simp) ?_
      simp only [Act.put, List.setIfInBounds_toArray, List.set_cons_zero, List.set_cons_succ, List.getElem_toArray, List.getElem_cons_zero, List.getElem_cons_succ]
      refine wpList_nil ?_
      have hZ : Hid (Vl (.bool (rpS x)) w (.returned (.bool true)) y3) := ⟨by
        have hi := unhide hi; have hx := unhide hx
        obtain rfl | rfl | rfl : j = 0 ∨ j = 1 ∨ j = 2 := by omega
        all_goals (subst hi; subst hx; rfl), unhide hG⟩
      go_wp2_with fail
      rw [unhide hT]
      exact unhide hZ
    · skip
      refine wp_region_lit ?_
      refine list_val (.func (.func 49) #[] #[]) (by kernel_rfl) (by kernel_rfl) ?_
      simp only [Act.put, List.setIfInBounds_toArray, List.set_cons_zero, List.set_cons_succ, List.getElem_toArray, List.getElem_cons_zero, List.getElem_cons_succ]
      refine list_val (.int .i64 i) (by kernel_rfl) (by kernel_rfl) ?_
      simp only [Act.put, List.setIfInBounds_toArray, List.set_cons_zero, List.set_cons_succ, List.getElem_toArray, List.getElem_cons_zero, List.getElem_cons_succ]
      refine list_call 49 #[.int .i64 i] (by kernel_rfl) (by kernel_rfl) ((frp_ok i wr).mono ?_)
      rintro r y3 ⟨rfl, hg3⟩
      replace hG := hide ((unhide hG).trans hg3)
      clear hg3
      rw [← unhide hx]
      refine ⟨_, rfl, ?_⟩
      simp only [Act.put, List.setIfInBounds_toArray, List.set_cons_zero, List.set_cons_succ, List.getElem_toArray, List.getElem_cons_zero, List.getElem_cons_succ]
      refine list_val (.int .i64 n) (by kernel_rfl) (by kernel_rfl) ?_
      simp only [Act.put, List.setIfInBounds_toArray, List.set_cons_zero, List.set_cons_succ, List.getElem_toArray, List.getElem_cons_zero, List.getElem_cons_succ]
      refine list_val (.bool false) (by kernel_rfl) (by go_simp) ?_
      simp only [Act.put, List.setIfInBounds_toArray, List.set_cons_zero, List.set_cons_succ, List.getElem_toArray, List.getElem_cons_zero, List.getElem_cons_succ]
      refine wpList_nil ?_
      have hI2 : Hid ((∀ i : Int, 1 ≤ i → i ≤ ((j + 1 : Nat) : Int) → n ≠ rpz i) ∧ Gr w y3) := by
        refine ⟨fun m h1 h2 => ?_, unhide hG⟩
        by_cases hm : m ≤ (j : Int)
        · exact (unhide hA1) m h1 hm
        · obtain rfl : m = i := by have := unhide hi; omega
          intro e
          exact hxn (by rw [e]; exact unhide hx)
      clear hxn
      go_wp2_with fail
      go_roundw
      case rel => exact ⟨j + 1, by omega, by rw [show (((j + 1 : Nat) : Int)) = (j : Int) + 1 from by omega], hI2⟩
      case measure => have hi := unhide hi; simp only [intOf]; omega
  · skip
    obtain rfl : j = 3 := by omega
    have hS : rpS n = false := by
      unfold rpS
      rw [decide_eq_false_iff_not]
      have e1 := hA1 1 (by omega) (by omega)
      have e2 := hA1 2 (by omega) (by omega)
      have e3 := hA1 3 (by omega) (by omega)
      simp only [rpz] at e1 e2 e3
      simp at e1 e2 e3
      omega
    rw [hS] at hT
    have hZ : Hid (Vl (.bool false) w (.returned (.bool false)) wr) := ⟨rfl, hG⟩
    clear hA1 hG hS
    go_wp2_with fail
    rw [unhide hT]
    exact unhide hZ
set_option maxHeartbeats 1000000 in
theorem below_ok (n e : Int) (w : World) : Calls Try.prog 82 #[.int .i64 n, .int .i64 e] w (fun r w' => r = .returned (.bool (decide (0 ≤ n ∧ n < e))) ∧ w' = w) := by
  obtain ⟨T, hT⟩ : ∃ T : Ending → World → Prop, T = (fun r w' => r = .returned (.bool (decide (0 ≤ n ∧ n < e))) ∧ w' = w) := ⟨_, rfl⟩
  rw [← hT]
  replace hT := hide hT
  by_cases h1 : 0 ≤ n
  · by_cases h2 : n < e
    · have hZ : Hid (T (.returned (.bool true)) w) := by rw [unhide hT]; exact ⟨by rw [decide_eq_true ⟨h1, h2⟩], rfl⟩
      go_enter Try.func82, Try.ntmps82
      go_wp2_with fail
      exact unhide hZ
    · have hZ : Hid (T (.returned (.bool false)) w) := by rw [unhide hT]; exact ⟨by rw [decide_eq_false (by omega)], rfl⟩
      go_enter Try.func82, Try.ntmps82
      go_wp2_with fail
      exact unhide hZ
  · have hZ : Hid (T (.returned (.bool false)) w) := by rw [unhide hT]; exact ⟨by rw [decide_eq_false (by omega)], rfl⟩
    go_enter Try.func82, Try.ntmps82
    go_wp2_with fail
    exact unhide hZ
theorem Try.infoP : (Try.prog.info? 113).map (·.size) = some 4 := by kernel_rfl
theorem Try.infoU : (Try.prog.info? 78).map (·.size) = some 4 := by kernel_rfl
theorem Try.infoD : (Try.prog.info? 80).map (·.size) = some 4 := by kernel_rfl
set_option maxHeartbeats 4000000 in
theorem fpm_ok (c s r : Int) (a : Option Addr) (n k : Nat) (w : World) : Calls Try.prog 79 #[.agg #[.int .i64 c, .int .i64 s, .int .u64 r, .slice a n k]] w (Vl (.bool (ends c s r)) w) := by
  obtain ⟨T, hT⟩ : ∃ T, T = Vl (.bool (ends c s r)) w := ⟨_, rfl⟩
  rw [← hT]
  replace hT := hide hT
  go_enter Try.func79, Try.ntmps79
  go_upto_region 1 with fail
  have hB := ((Bl.nil w).new #[.int .i64 c, .int .i64 s, .int .u64 r, .slice a n k] 113)
  simp only [size_alloc, List.nil_append, List.cons_append] at hB
  generalize World.alloc _ _ = u at *
  replace hB : Bl w [⟨w.heap.size, #[.int .i64 c, .int .i64 s, .int .u64 r, .slice a n k], 113⟩] u := hB
  by_cases h1 : (0 ≤ c ∧ c < 4)
  · skip
    by_cases h2 : (0 ≤ s ∧ s < 3)
    · skip
      by_cases h3 : 0 < r
      · skip
        refine wp_region_lit ?_
        refine list_val (.pointer (some ⟨w.heap.size, 0, none⟩)) (by kernel_rfl) (by kernel_rfl) ?_
        simp only [Act.put, List.setIfInBounds_toArray, List.set_cons_zero, List.set_cons_succ, List.getElem_toArray, List.getElem_cons_zero, List.getElem_cons_succ]
        refine list_val (.int .i64 c) (by kernel_rfl) (exec_i64 _ (.tmp 3) rfl (w.heap.size) 0 (by kernel_rfl) c (cell_of (hB.get 0 (x := ⟨w.heap.size, #[.int .i64 c, .int .i64 s, .int .u64 r, .slice a n k], 113⟩) rfl) (i := 0) rfl)) ?_
        simp only [Act.put, List.setIfInBounds_toArray, List.set_cons_zero, List.set_cons_succ, List.getElem_toArray, List.getElem_cons_zero, List.getElem_cons_succ]
        refine list_call 82 #[.int .i64 c, .int .i64 4] (by kernel_rfl) (by kernel_rfl) ((below_ok c 4 _).mono ?_)
        rintro r_ u_ ⟨rfl, rfl⟩
        rw [decide_eq_true h1]
        refine ⟨_, rfl, ?_⟩
        simp only [Act.put, List.setIfInBounds_toArray, List.set_cons_zero, List.set_cons_succ, List.getElem_toArray, List.getElem_cons_zero, List.getElem_cons_succ]
        refine list_val (.bool true) (by kernel_rfl) (by kernel_rfl) ?_
        simp only [Act.put, List.setIfInBounds_toArray, List.set_cons_zero, List.set_cons_succ, List.getElem_toArray, List.getElem_cons_zero, List.getElem_cons_succ]
        refine list_val (.pointer (some ⟨w.heap.size, 1, none⟩)) (by kernel_rfl) (by kernel_rfl) ?_
        simp only [Act.put, List.setIfInBounds_toArray, List.set_cons_zero, List.set_cons_succ, List.getElem_toArray, List.getElem_cons_zero, List.getElem_cons_succ]
        refine list_val (.int .i64 s) (by kernel_rfl) (exec_i64 _ (.tmp 7) rfl (w.heap.size) 1 (by kernel_rfl) s (cell_of (hB.get 0 (x := ⟨w.heap.size, #[.int .i64 c, .int .i64 s, .int .u64 r, .slice a n k], 113⟩) rfl) (i := 1) rfl)) ?_
        simp only [Act.put, List.setIfInBounds_toArray, List.set_cons_zero, List.set_cons_succ, List.getElem_toArray, List.getElem_cons_zero, List.getElem_cons_succ]
        refine list_call 82 #[.int .i64 s, .int .i64 3] (by kernel_rfl) (by kernel_rfl) ((below_ok s 3 _).mono ?_)
        rintro r_ u_ ⟨rfl, rfl⟩
        rw [decide_eq_true h2]
        refine ⟨_, rfl, ?_⟩
        simp only [Act.put, List.setIfInBounds_toArray, List.set_cons_zero, List.set_cons_succ, List.getElem_toArray, List.getElem_cons_zero, List.getElem_cons_succ]
        refine list_val (.bool true) (by kernel_rfl) (by kernel_rfl) ?_
        simp only [Act.put, List.setIfInBounds_toArray, List.set_cons_zero, List.set_cons_succ, List.getElem_toArray, List.getElem_cons_zero, List.getElem_cons_succ]
        refine list_val (.bool true) (by kernel_rfl) (by kernel_rfl) ?_
        simp only [Act.put, List.setIfInBounds_toArray, List.set_cons_zero, List.set_cons_succ, List.getElem_toArray, List.getElem_cons_zero, List.getElem_cons_succ]
        refine list_val (.pointer (some ⟨w.heap.size, 2, none⟩)) (by kernel_rfl) (by kernel_rfl) ?_
        simp only [Act.put, List.setIfInBounds_toArray, List.set_cons_zero, List.set_cons_succ, List.getElem_toArray, List.getElem_cons_zero, List.getElem_cons_succ]
        refine list_val (.int .u64 r) (by kernel_rfl) (exec_u64 _ (.tmp 12) rfl (w.heap.size) 2 (by kernel_rfl) r (cell_of (hB.get 0 (x := ⟨w.heap.size, #[.int .i64 c, .int .i64 s, .int .u64 r, .slice a n k], 113⟩) rfl) (i := 2) rfl)) ?_
        simp only [Act.put, List.setIfInBounds_toArray, List.set_cons_zero, List.set_cons_succ, List.getElem_toArray, List.getElem_cons_zero, List.getElem_cons_succ]
        refine list_val (.bool true) (by kernel_rfl) (by go_simp) ?_
        simp only [Act.put, List.setIfInBounds_toArray, List.set_cons_zero, List.set_cons_succ, List.getElem_toArray, List.getElem_cons_zero, List.getElem_cons_succ]
        refine list_val (.bool true) (by kernel_rfl) (by kernel_rfl) ?_
        simp only [Act.put, List.setIfInBounds_toArray, List.set_cons_zero, List.set_cons_succ, List.getElem_toArray, List.getElem_cons_zero, List.getElem_cons_succ]
        (refine wpList_step fun K hK => ?_; replace hK := hide hK; go_simp; refine unhide hK _ _ ?_; clear hK K)
        refine wpList_nil ?_
        have hE : ends c s r = true := by unfold ends; rw [decide_eq_true_iff]; omega
        rw [hE] at hT
        have hZ : Hid (Vl (.bool true) w (.returned (.bool true)) u_) := ⟨rfl, hB.gr⟩
        clear hB
        go_wp2_with fail
        rw [unhide hT]
        exact unhide hZ
      · skip
        refine wp_region_lit ?_
        refine list_val (.pointer (some ⟨w.heap.size, 0, none⟩)) (by kernel_rfl) (by kernel_rfl) ?_
        simp only [Act.put, List.setIfInBounds_toArray, List.set_cons_zero, List.set_cons_succ, List.getElem_toArray, List.getElem_cons_zero, List.getElem_cons_succ]
        refine list_val (.int .i64 c) (by kernel_rfl) (exec_i64 _ (.tmp 3) rfl (w.heap.size) 0 (by kernel_rfl) c (cell_of (hB.get 0 (x := ⟨w.heap.size, #[.int .i64 c, .int .i64 s, .int .u64 r, .slice a n k], 113⟩) rfl) (i := 0) rfl)) ?_
        simp only [Act.put, List.setIfInBounds_toArray, List.set_cons_zero, List.set_cons_succ, List.getElem_toArray, List.getElem_cons_zero, List.getElem_cons_succ]
        refine list_call 82 #[.int .i64 c, .int .i64 4] (by kernel_rfl) (by kernel_rfl) ((below_ok c 4 _).mono ?_)
        rintro r_ u_ ⟨rfl, rfl⟩
        rw [decide_eq_true h1]
        refine ⟨_, rfl, ?_⟩
        simp only [Act.put, List.setIfInBounds_toArray, List.set_cons_zero, List.set_cons_succ, List.getElem_toArray, List.getElem_cons_zero, List.getElem_cons_succ]
        refine list_val (.bool true) (by kernel_rfl) (by kernel_rfl) ?_
        simp only [Act.put, List.setIfInBounds_toArray, List.set_cons_zero, List.set_cons_succ, List.getElem_toArray, List.getElem_cons_zero, List.getElem_cons_succ]
        refine list_val (.pointer (some ⟨w.heap.size, 1, none⟩)) (by kernel_rfl) (by kernel_rfl) ?_
        simp only [Act.put, List.setIfInBounds_toArray, List.set_cons_zero, List.set_cons_succ, List.getElem_toArray, List.getElem_cons_zero, List.getElem_cons_succ]
        refine list_val (.int .i64 s) (by kernel_rfl) (exec_i64 _ (.tmp 7) rfl (w.heap.size) 1 (by kernel_rfl) s (cell_of (hB.get 0 (x := ⟨w.heap.size, #[.int .i64 c, .int .i64 s, .int .u64 r, .slice a n k], 113⟩) rfl) (i := 1) rfl)) ?_
        simp only [Act.put, List.setIfInBounds_toArray, List.set_cons_zero, List.set_cons_succ, List.getElem_toArray, List.getElem_cons_zero, List.getElem_cons_succ]
        refine list_call 82 #[.int .i64 s, .int .i64 3] (by kernel_rfl) (by kernel_rfl) ((below_ok s 3 _).mono ?_)
        rintro r_ u_ ⟨rfl, rfl⟩
        rw [decide_eq_true h2]
        refine ⟨_, rfl, ?_⟩
        simp only [Act.put, List.setIfInBounds_toArray, List.set_cons_zero, List.set_cons_succ, List.getElem_toArray, List.getElem_cons_zero, List.getElem_cons_succ]
        refine list_val (.bool true) (by kernel_rfl) (by kernel_rfl) ?_
        simp only [Act.put, List.setIfInBounds_toArray, List.set_cons_zero, List.set_cons_succ, List.getElem_toArray, List.getElem_cons_zero, List.getElem_cons_succ]
        refine list_val (.bool true) (by kernel_rfl) (by kernel_rfl) ?_
        simp only [Act.put, List.setIfInBounds_toArray, List.set_cons_zero, List.set_cons_succ, List.getElem_toArray, List.getElem_cons_zero, List.getElem_cons_succ]
        refine list_val (.pointer (some ⟨w.heap.size, 2, none⟩)) (by kernel_rfl) (by kernel_rfl) ?_
        simp only [Act.put, List.setIfInBounds_toArray, List.set_cons_zero, List.set_cons_succ, List.getElem_toArray, List.getElem_cons_zero, List.getElem_cons_succ]
        refine list_val (.int .u64 r) (by kernel_rfl) (exec_u64 _ (.tmp 12) rfl (w.heap.size) 2 (by kernel_rfl) r (cell_of (hB.get 0 (x := ⟨w.heap.size, #[.int .i64 c, .int .i64 s, .int .u64 r, .slice a n k], 113⟩) rfl) (i := 2) rfl)) ?_
        simp only [Act.put, List.setIfInBounds_toArray, List.set_cons_zero, List.set_cons_succ, List.getElem_toArray, List.getElem_cons_zero, List.getElem_cons_succ]
        refine list_val (.bool false) (by kernel_rfl) (by go_simp) ?_
        simp only [Act.put, List.setIfInBounds_toArray, List.set_cons_zero, List.set_cons_succ, List.getElem_toArray, List.getElem_cons_zero, List.getElem_cons_succ]
        refine list_val (.bool false) (by kernel_rfl) (by kernel_rfl) ?_
        simp only [Act.put, List.setIfInBounds_toArray, List.set_cons_zero, List.set_cons_succ, List.getElem_toArray, List.getElem_cons_zero, List.getElem_cons_succ]
        (refine wpList_step fun K hK => ?_; replace hK := hide hK; go_simp; refine unhide hK _ _ ?_; clear hK K)
        refine wpList_nil ?_
        have hE : ends c s r = false := by unfold ends; rw [decide_eq_false_iff_not]; omega
        rw [hE] at hT
        have hZ : Hid (Vl (.bool false) w (.returned (.bool false)) u_) := ⟨rfl, hB.gr⟩
        clear hB
        go_wp2_with fail
        rw [unhide hT]
        exact unhide hZ
    · skip
      refine wp_region_lit ?_
      refine list_val (.pointer (some ⟨w.heap.size, 0, none⟩)) (by kernel_rfl) (by kernel_rfl) ?_
      simp only [Act.put, List.setIfInBounds_toArray, List.set_cons_zero, List.set_cons_succ, List.getElem_toArray, List.getElem_cons_zero, List.getElem_cons_succ]
      refine list_val (.int .i64 c) (by kernel_rfl) (exec_i64 _ (.tmp 3) rfl (w.heap.size) 0 (by kernel_rfl) c (cell_of (hB.get 0 (x := ⟨w.heap.size, #[.int .i64 c, .int .i64 s, .int .u64 r, .slice a n k], 113⟩) rfl) (i := 0) rfl)) ?_
      simp only [Act.put, List.setIfInBounds_toArray, List.set_cons_zero, List.set_cons_succ, List.getElem_toArray, List.getElem_cons_zero, List.getElem_cons_succ]
      refine list_call 82 #[.int .i64 c, .int .i64 4] (by kernel_rfl) (by kernel_rfl) ((below_ok c 4 _).mono ?_)
      rintro r_ u_ ⟨rfl, rfl⟩
      rw [decide_eq_true h1]
      refine ⟨_, rfl, ?_⟩
      simp only [Act.put, List.setIfInBounds_toArray, List.set_cons_zero, List.set_cons_succ, List.getElem_toArray, List.getElem_cons_zero, List.getElem_cons_succ]
      refine list_val (.bool true) (by kernel_rfl) (by kernel_rfl) ?_
      simp only [Act.put, List.setIfInBounds_toArray, List.set_cons_zero, List.set_cons_succ, List.getElem_toArray, List.getElem_cons_zero, List.getElem_cons_succ]
      refine list_val (.pointer (some ⟨w.heap.size, 1, none⟩)) (by kernel_rfl) (by kernel_rfl) ?_
      simp only [Act.put, List.setIfInBounds_toArray, List.set_cons_zero, List.set_cons_succ, List.getElem_toArray, List.getElem_cons_zero, List.getElem_cons_succ]
      refine list_val (.int .i64 s) (by kernel_rfl) (exec_i64 _ (.tmp 7) rfl (w.heap.size) 1 (by kernel_rfl) s (cell_of (hB.get 0 (x := ⟨w.heap.size, #[.int .i64 c, .int .i64 s, .int .u64 r, .slice a n k], 113⟩) rfl) (i := 1) rfl)) ?_
      simp only [Act.put, List.setIfInBounds_toArray, List.set_cons_zero, List.set_cons_succ, List.getElem_toArray, List.getElem_cons_zero, List.getElem_cons_succ]
      refine list_call 82 #[.int .i64 s, .int .i64 3] (by kernel_rfl) (by kernel_rfl) ((below_ok s 3 _).mono ?_)
      rintro r_ u_ ⟨rfl, rfl⟩
      rw [decide_eq_false h2]
      refine ⟨_, rfl, ?_⟩
      simp only [Act.put, List.setIfInBounds_toArray, List.set_cons_zero, List.set_cons_succ, List.getElem_toArray, List.getElem_cons_zero, List.getElem_cons_succ]
      refine list_val (.bool false) (by kernel_rfl) (by kernel_rfl) ?_
      simp only [Act.put, List.setIfInBounds_toArray, List.set_cons_zero, List.set_cons_succ, List.getElem_toArray, List.getElem_cons_zero, List.getElem_cons_succ]
      refine list_val (.bool false) (by kernel_rfl) (by kernel_rfl) ?_
      simp only [Act.put, List.setIfInBounds_toArray, List.set_cons_zero, List.set_cons_succ, List.getElem_toArray, List.getElem_cons_zero, List.getElem_cons_succ]
      refine wpList_step fun K hK => ?_
      rw [if_neg (ne_true_of_eq_false (by kernel_rfl))]
      refine hK _ _ ?_
      clear hK K
      simp only [Act.put, List.setIfInBounds_toArray, List.set_cons_zero, List.set_cons_succ, List.getElem_toArray, List.getElem_cons_zero, List.getElem_cons_succ]
      refine wpList_step fun K hK => ?_
      rw [if_neg (ne_true_of_eq_false (by kernel_rfl))]
      refine hK _ _ ?_
      clear hK K
      simp only [Act.put, List.setIfInBounds_toArray, List.set_cons_zero, List.set_cons_succ, List.getElem_toArray, List.getElem_cons_zero, List.getElem_cons_succ]
      refine wpList_step fun K hK => ?_
      rw [if_neg (ne_true_of_eq_false (by kernel_rfl))]
      refine hK _ _ ?_
      clear hK K
      simp only [Act.put, List.setIfInBounds_toArray, List.set_cons_zero, List.set_cons_succ, List.getElem_toArray, List.getElem_cons_zero, List.getElem_cons_succ]
      refine list_val (.bool false) (by kernel_rfl) (by kernel_rfl) ?_
      simp only [Act.put, List.setIfInBounds_toArray, List.set_cons_zero, List.set_cons_succ, List.getElem_toArray, List.getElem_cons_zero, List.getElem_cons_succ]
      (refine wpList_step fun K hK => ?_; replace hK := hide hK; go_simp; refine unhide hK _ _ ?_; clear hK K)
      refine wpList_nil ?_
      have hE : ends c s r = false := by unfold ends; rw [decide_eq_false_iff_not]; omega
      rw [hE] at hT
      have hZ : Hid (Vl (.bool false) w (.returned (.bool false)) u_) := ⟨rfl, hB.gr⟩
      clear hB
      go_wp2_with fail
      rw [unhide hT]
      exact unhide hZ
  · skip
    refine wp_region_lit ?_
    refine list_val (.pointer (some ⟨w.heap.size, 0, none⟩)) (by kernel_rfl) (by kernel_rfl) ?_
    simp only [Act.put, List.setIfInBounds_toArray, List.set_cons_zero, List.set_cons_succ, List.getElem_toArray, List.getElem_cons_zero, List.getElem_cons_succ]
    refine list_val (.int .i64 c) (by kernel_rfl) (exec_i64 _ (.tmp 3) rfl (w.heap.size) 0 (by kernel_rfl) c (cell_of (hB.get 0 (x := ⟨w.heap.size, #[.int .i64 c, .int .i64 s, .int .u64 r, .slice a n k], 113⟩) rfl) (i := 0) rfl)) ?_
    simp only [Act.put, List.setIfInBounds_toArray, List.set_cons_zero, List.set_cons_succ, List.getElem_toArray, List.getElem_cons_zero, List.getElem_cons_succ]
    refine list_call 82 #[.int .i64 c, .int .i64 4] (by kernel_rfl) (by kernel_rfl) ((below_ok c 4 _).mono ?_)
    rintro r_ u_ ⟨rfl, rfl⟩
    rw [decide_eq_false h1]
    refine ⟨_, rfl, ?_⟩
    simp only [Act.put, List.setIfInBounds_toArray, List.set_cons_zero, List.set_cons_succ, List.getElem_toArray, List.getElem_cons_zero, List.getElem_cons_succ]
    refine list_val (.bool false) (by kernel_rfl) (by kernel_rfl) ?_
    simp only [Act.put, List.setIfInBounds_toArray, List.set_cons_zero, List.set_cons_succ, List.getElem_toArray, List.getElem_cons_zero, List.getElem_cons_succ]
    refine wpList_step fun K hK => ?_
    rw [if_neg (ne_true_of_eq_false (by kernel_rfl))]
    refine hK _ _ ?_
    clear hK K
    simp only [Act.put, List.setIfInBounds_toArray, List.set_cons_zero, List.set_cons_succ, List.getElem_toArray, List.getElem_cons_zero, List.getElem_cons_succ]
    refine wpList_step fun K hK => ?_
    rw [if_neg (ne_true_of_eq_false (by kernel_rfl))]
    refine hK _ _ ?_
    clear hK K
    simp only [Act.put, List.setIfInBounds_toArray, List.set_cons_zero, List.set_cons_succ, List.getElem_toArray, List.getElem_cons_zero, List.getElem_cons_succ]
    refine wpList_step fun K hK => ?_
    rw [if_neg (ne_true_of_eq_false (by kernel_rfl))]
    refine hK _ _ ?_
    clear hK K
    simp only [Act.put, List.setIfInBounds_toArray, List.set_cons_zero, List.set_cons_succ, List.getElem_toArray, List.getElem_cons_zero, List.getElem_cons_succ]
    refine list_val (.bool false) (by kernel_rfl) (by kernel_rfl) ?_
    simp only [Act.put, List.setIfInBounds_toArray, List.set_cons_zero, List.set_cons_succ, List.getElem_toArray, List.getElem_cons_zero, List.getElem_cons_succ]
    refine list_val (.bool false) (by kernel_rfl) (by kernel_rfl) ?_
    simp only [Act.put, List.setIfInBounds_toArray, List.set_cons_zero, List.set_cons_succ, List.getElem_toArray, List.getElem_cons_zero, List.getElem_cons_succ]
    refine wpList_step fun K hK => ?_
    rw [if_neg (ne_true_of_eq_false (by kernel_rfl))]
    refine hK _ _ ?_
    clear hK K
    simp only [Act.put, List.setIfInBounds_toArray, List.set_cons_zero, List.set_cons_succ, List.getElem_toArray, List.getElem_cons_zero, List.getElem_cons_succ]
    refine wpList_step fun K hK => ?_
    rw [if_neg (ne_true_of_eq_false (by kernel_rfl))]
    refine hK _ _ ?_
    clear hK K
    simp only [Act.put, List.setIfInBounds_toArray, List.set_cons_zero, List.set_cons_succ, List.getElem_toArray, List.getElem_cons_zero, List.getElem_cons_succ]
    refine wpList_step fun K hK => ?_
    rw [if_neg (ne_true_of_eq_false (by kernel_rfl))]
    refine hK _ _ ?_
    clear hK K
    simp only [Act.put, List.setIfInBounds_toArray, List.set_cons_zero, List.set_cons_succ, List.getElem_toArray, List.getElem_cons_zero, List.getElem_cons_succ]
    refine list_val (.bool false) (by kernel_rfl) (by kernel_rfl) ?_
    simp only [Act.put, List.setIfInBounds_toArray, List.set_cons_zero, List.set_cons_succ, List.getElem_toArray, List.getElem_cons_zero, List.getElem_cons_succ]
    (refine wpList_step fun K hK => ?_; replace hK := hide hK; go_simp; refine unhide hK _ _ ?_; clear hK K)
    refine wpList_nil ?_
    have hE : ends c s r = false := by unfold ends; rw [decide_eq_false_iff_not]; omega
    rw [hE] at hT
    have hZ : Hid (Vl (.bool false) w (.returned (.bool false)) u_) := ⟨rfl, hB.gr⟩
    clear hB
    go_wp2_with fail
    rw [unhide hT]
    exact unhide hZ
end Go.Proofs.Ytfmocneoffkmpaa
