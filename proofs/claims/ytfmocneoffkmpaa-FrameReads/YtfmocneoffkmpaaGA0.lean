/-
  Layer 14: the reference: of which kind bytes are.
-/
import Derived.Test.YtfmocneoffkmpaaFY0
import Derived.Test.YtfmocneoffkmpaaFZ0
namespace Go.Proofs.Ytfmocneoffkmpaa
open Go.RowKit
set_option maxRecDepth 100000
set_option linter.unusedSimpArgs false
set_option linter.unusedVariables false
/-- what the reference's Get answers, whatever it is -/
def Gab (k : Nat) (good : Bool) (w : World) (r : Ending) (w' : World) : Prop := ∃ x : Array Value, r = .returned (.tuple #[.agg x, .bool good]) ∧ x.size = k ∧ x.all (·.oneCell') = true ∧ Gr w w'
theorem qgeta_any (L : List Int) (p0 q0 c0 : Nat) (w : World) (h : Lb w (some ⟨p0, q0, none⟩) 106 c0 L) : Calls Try.prog 35 #[.slice (some ⟨p0, q0, none⟩) 106 c0] w (Gab 2 (anE L) w) := by
  have e : anE L = (anQ L && allZ (L.drop (10 + 32 * anN L))) := rfl
  cases hQ : anQ L
  · refine (qgeta_no L p0 q0 c0 w h hQ).mono ?_
    rintro r u ⟨rfl, hg⟩
    exact ⟨_, by rw [e, hQ]; rfl, rfl, by simp [Value.oneCell'], hg⟩
  · refine (qgeta_ok L p0 q0 c0 w h hQ).mono ?_
    rintro r u ⟨a, c', rfl, _, hg⟩
    exact ⟨_, by rw [e, hQ, Bool.true_and], rfl, by simp [Value.oneCell'], hg⟩
theorem qgetup_any (L : List Int) (p0 q0 m c0 : Nat) (hm1 : 11 < m) (hm2 : m ≤ 1000) (w : World) (h : Lb w (some ⟨p0, q0, none⟩) m c0 L) : Calls Try.prog 46 #[.slice (some ⟨p0, q0, none⟩) m c0] w (Gab 4 (decide (L.getD 0 0 = 2) && pkE L) w) := by
  refine (qgetup_ok L p0 q0 m c0 hm1 hm2 w h).mono ?_
  rintro r u ⟨va, vc, rfl, _, hg⟩
  exact ⟨_, rfl, rfl, by unfold pkv; simp [Value.oneCell'], hg⟩
theorem qgetdn_any (L : List Int) (p0 q0 m c0 : Nat) (hm1 : 11 < m) (hm2 : m ≤ 1000) (w : World) (h : Lb w (some ⟨p0, q0, none⟩) m c0 L) : Calls Try.prog 47 #[.slice (some ⟨p0, q0, none⟩) m c0] w (Gab 4 (decide (L.getD 0 0 = 3) && pkE L) w) := by
  refine (qgetdn_ok L p0 q0 m c0 hm1 hm2 w h).mono ?_
  rintro r u ⟨va, vc, rfl, _, hg⟩
  exact ⟨_, rfl, rfl, by unfold pkv; simp [Value.oneCell'], hg⟩
set_option maxHeartbeats 4000000 in
theorem qkind_Aa (L : List Int) (a : Option Addr) (n c : Nat) (hn : n ≤ 1000) (w : World) (lb : Lb w a n c L) (h6 : n = 106) (hE : anE L = true) : Calls Try.prog 45 #[.slice a n c] w (Vl (.int .i64 (kindO L)) w) := by
  obtain ⟨T, hT⟩ : ∃ T, T = Vl (.int .i64 (kindO L)) w := ⟨_, rfl⟩
  rw [← hT]
  replace hT := hide hT
  subst h6
  have hL := lb.len
  obtain ⟨p0, q0, rfl, lb⟩ := lb.some (by omega)
  have hV := hide (Gr.refl w)
  replace lb := hide lb
  obtain ⟨x, hx⟩ : ∃ x : Int, x = (106 : Int) - 11 := ⟨_, rfl⟩
  have hwx : IntKind.i64.wrap ((106 : Int) - 11) = x := by rw [IntKind.wrap_i64]; omega
  have ea : aG L = true := by unfold aG; rw [hL, hE]; rfl
  have eu : uG L = false := by unfold uG; rw [hL, show onS (((106 : Nat) : Int) - 11) = false from by decide, Bool.false_and]
  have ed : dG L = false := by unfold dG; rw [hL, show rpS (((106 : Nat) : Int) - 11) = false from by decide, Bool.false_and]
  have hk : kindO L = 1 := by unfold kindO; rw [ea, eu, ed]; rfl
  rw [hk] at hT
  clear hk ea eu ed
  have hO : onS 95 = false := by decide
  have hR : rpS 95 = false := by decide
  replace hx := hide hx
  go_enter Try.func45, Try.ntmps45
  go_upto_region 1 with fail
  refine wp_region_lit ?_
  refine list_val (.slice (some ⟨p0, q0, none⟩) 106 c) (by kernel_rfl) (by kernel_rfl) ?_
  simp only [Act.put, List.setIfInBounds_toArray, List.set_cons_zero, List.set_cons_succ, List.getElem_toArray, List.getElem_cons_zero, List.getElem_cons_succ]
  refine list_val (.int .i64 106) (by kernel_rfl) (by kernel_rfl) ?_
  simp only [Act.put, List.setIfInBounds_toArray, List.set_cons_zero, List.set_cons_succ, List.getElem_toArray, List.getElem_cons_zero, List.getElem_cons_succ]
  refine list_val (.bool true) (by kernel_rfl) (by kernel_rfl) ?_
  simp only [Act.put, List.setIfInBounds_toArray, List.set_cons_zero, List.set_cons_succ, List.getElem_toArray, List.getElem_cons_zero, List.getElem_cons_succ]
  refine wpList_nil ?_
  go_upto_region 2 with fail
  refine wp_region_lit ?_
  refine list_val (.slice (some ⟨p0, q0, none⟩) 106 c) (by kernel_rfl) (by kernel_rfl) ?_
  simp only [Act.put, List.setIfInBounds_toArray, List.set_cons_zero, List.set_cons_succ, List.getElem_toArray, List.getElem_cons_zero, List.getElem_cons_succ]
  refine list_call 35 #[.slice (some ⟨p0, q0, none⟩) 106 c] (by kernel_rfl) (by kernel_rfl) ((qgeta_any L p0 q0 c w ((unhide lb).gr (unhide hV))).mono ?_)
  rintro r_ v2a ⟨y, rfl, hy1, hy2, hg⟩
  rw [hE]
  replace hV := hide ((unhide hV).trans hg)
  clear hg
  refine ⟨_, rfl, ?_⟩
  simp only [Act.put, List.setIfInBounds_toArray, List.set_cons_zero, List.set_cons_succ, List.getElem_toArray, List.getElem_cons_zero, List.getElem_cons_succ]
  refine list_val (.tuple #[.agg y, .bool true]) (by kernel_rfl) (by kernel_rfl) ?_
  simp only [Act.put, List.setIfInBounds_toArray, List.set_cons_zero, List.set_cons_succ, List.getElem_toArray, List.getElem_cons_zero, List.getElem_cons_succ]
  refine list_val (.agg y) (by kernel_rfl) (by kernel_rfl) ?_
  simp only [Act.put, List.setIfInBounds_toArray, List.set_cons_zero, List.set_cons_succ, List.getElem_toArray, List.getElem_cons_zero, List.getElem_cons_succ]
  refine list_val (.bool true) (by kernel_rfl) (by kernel_rfl) ?_
  simp only [Act.put, List.setIfInBounds_toArray, List.set_cons_zero, List.set_cons_succ, List.getElem_toArray, List.getElem_cons_zero, List.getElem_cons_succ]
  have hB := Bl.nil v2a
  refine list_valw (.pointer (some ⟨v2a.heap.size, 0, none⟩)) (v2a.alloc (.cells #[.int .u64 0, .slice none 0 0] 67 (0, 0))) (by kernel_rfl) (by kernel_rfl) ?_
  replace hB := hB.new #[.int .u64 0, .slice none 0 0] 67
  simp only [List.nil_append, List.cons_append] at hB
  generalize World.alloc _ _ = v2b at *
  obtain ⟨qk, hqk⟩ : ∃ x, x = v2a.heap.size := ⟨_, rfl⟩
  rw [← hqk] at hB ⊢
  clear hqk
  simp only [Act.put, List.setIfInBounds_toArray, List.set_cons_zero, List.set_cons_succ, List.getElem_toArray, List.getElem_cons_zero, List.getElem_cons_succ]
  refine list_store 67 (.tmp 3) (.tmp 15) qk y 67 #[.int .u64 0, .slice none 0 0] (by kernel_rfl) rfl (by kernel_rfl) (by kernel_rfl) (hB.get 0 (x := ⟨qk, #[.int .u64 0, .slice none 0 0], 67⟩) rfl) (by rw [Try.infoA, hy1]) (by rw [hy1]; rfl) hy2 ?_
  replace hB := hB.set 0 (x := ⟨qk, #[.int .u64 0, .slice none 0 0], 67⟩) rfl y
  generalize World.setRow _ _ _ = v2c at *
  replace hV := hide ((unhide hV).trans hB.gr)
  clear hB
  simp only [Act.put, List.setIfInBounds_toArray, List.set_cons_zero, List.set_cons_succ, List.getElem_toArray, List.getElem_cons_zero, List.getElem_cons_succ]
  (refine wpList_step fun K hK => ?_; replace hK := hide hK; go_simp; refine unhide hK _ _ ?_; clear hK K)
  refine wpList_nil ?_
  clear hy1 hy2
  have hZ : Hid (T (.returned (.int .i64 1)) v2c) := by rw [unhide hT]; exact ⟨rfl, unhide hV⟩
  go_wp2_with fail
  exact unhide hZ
set_option maxHeartbeats 4000000 in
theorem qkind_An (L : List Int) (a : Option Addr) (n c : Nat) (hn : n ≤ 1000) (w : World) (lb : Lb w a n c L) (h6 : n = 106) (hE : anE L = false) : Calls Try.prog 45 #[.slice a n c] w (Vl (.int .i64 (kindO L)) w) := by
  obtain ⟨T, hT⟩ : ∃ T, T = Vl (.int .i64 (kindO L)) w := ⟨_, rfl⟩
  rw [← hT]
  replace hT := hide hT
  subst h6
  have hL := lb.len
  obtain ⟨p0, q0, rfl, lb⟩ := lb.some (by omega)
  have hV := hide (Gr.refl w)
  replace lb := hide lb
  obtain ⟨x, hx⟩ : ∃ x : Int, x = (106 : Int) - 11 := ⟨_, rfl⟩
  have hwx : IntKind.i64.wrap ((106 : Int) - 11) = x := by rw [IntKind.wrap_i64]; omega
  have ea : aG L = false := by unfold aG; rw [hL, hE]; rfl
  have eu : uG L = false := by unfold uG; rw [hL, show onS (((106 : Nat) : Int) - 11) = false from by decide, Bool.false_and]
  have ed : dG L = false := by unfold dG; rw [hL, show rpS (((106 : Nat) : Int) - 11) = false from by decide, Bool.false_and]
  have hk : kindO L = 0 := by unfold kindO; rw [ea, eu, ed]; rfl
  rw [hk] at hT
  clear hk ea eu ed
  have hO : onS 95 = false := by decide
  have hR : rpS 95 = false := by decide
  replace hx := hide hx
  go_enter Try.func45, Try.ntmps45
  go_upto_region 1 with fail
  refine wp_region_lit ?_
  refine list_val (.slice (some ⟨p0, q0, none⟩) 106 c) (by kernel_rfl) (by kernel_rfl) ?_
  simp only [Act.put, List.setIfInBounds_toArray, List.set_cons_zero, List.set_cons_succ, List.getElem_toArray, List.getElem_cons_zero, List.getElem_cons_succ]
  refine list_val (.int .i64 106) (by kernel_rfl) (by kernel_rfl) ?_
  simp only [Act.put, List.setIfInBounds_toArray, List.set_cons_zero, List.set_cons_succ, List.getElem_toArray, List.getElem_cons_zero, List.getElem_cons_succ]
  refine list_val (.bool true) (by kernel_rfl) (by kernel_rfl) ?_
  simp only [Act.put, List.setIfInBounds_toArray, List.set_cons_zero, List.set_cons_succ, List.getElem_toArray, List.getElem_cons_zero, List.getElem_cons_succ]
  refine wpList_nil ?_
  go_upto_region 2 with fail
  refine wp_region_lit ?_
  refine list_val (.slice (some ⟨p0, q0, none⟩) 106 c) (by kernel_rfl) (by kernel_rfl) ?_
  simp only [Act.put, List.setIfInBounds_toArray, List.set_cons_zero, List.set_cons_succ, List.getElem_toArray, List.getElem_cons_zero, List.getElem_cons_succ]
  refine list_call 35 #[.slice (some ⟨p0, q0, none⟩) 106 c] (by kernel_rfl) (by kernel_rfl) ((qgeta_any L p0 q0 c w ((unhide lb).gr (unhide hV))).mono ?_)
  rintro r_ v2a ⟨y, rfl, hy1, hy2, hg⟩
  rw [hE]
  replace hV := hide ((unhide hV).trans hg)
  clear hg
  refine ⟨_, rfl, ?_⟩
  simp only [Act.put, List.setIfInBounds_toArray, List.set_cons_zero, List.set_cons_succ, List.getElem_toArray, List.getElem_cons_zero, List.getElem_cons_succ]
  refine list_val (.tuple #[.agg y, .bool false]) (by kernel_rfl) (by kernel_rfl) ?_
  simp only [Act.put, List.setIfInBounds_toArray, List.set_cons_zero, List.set_cons_succ, List.getElem_toArray, List.getElem_cons_zero, List.getElem_cons_succ]
  refine list_val (.agg y) (by kernel_rfl) (by kernel_rfl) ?_
  simp only [Act.put, List.setIfInBounds_toArray, List.set_cons_zero, List.set_cons_succ, List.getElem_toArray, List.getElem_cons_zero, List.getElem_cons_succ]
  refine list_val (.bool false) (by kernel_rfl) (by kernel_rfl) ?_
  simp only [Act.put, List.setIfInBounds_toArray, List.set_cons_zero, List.set_cons_succ, List.getElem_toArray, List.getElem_cons_zero, List.getElem_cons_succ]
  have hB := Bl.nil v2a
  refine list_valw (.pointer (some ⟨v2a.heap.size, 0, none⟩)) (v2a.alloc (.cells #[.int .u64 0, .slice none 0 0] 67 (0, 0))) (by kernel_rfl) (by kernel_rfl) ?_
  replace hB := hB.new #[.int .u64 0, .slice none 0 0] 67
  simp only [List.nil_append, List.cons_append] at hB
  generalize World.alloc _ _ = v2b at *
  obtain ⟨qk, hqk⟩ : ∃ x, x = v2a.heap.size := ⟨_, rfl⟩
  rw [← hqk] at hB ⊢
  clear hqk
  simp only [Act.put, List.setIfInBounds_toArray, List.set_cons_zero, List.set_cons_succ, List.getElem_toArray, List.getElem_cons_zero, List.getElem_cons_succ]
  refine list_store 67 (.tmp 3) (.tmp 15) qk y 67 #[.int .u64 0, .slice none 0 0] (by kernel_rfl) rfl (by kernel_rfl) (by kernel_rfl) (hB.get 0 (x := ⟨qk, #[.int .u64 0, .slice none 0 0], 67⟩) rfl) (by rw [Try.infoA, hy1]) (by rw [hy1]; rfl) hy2 ?_
  replace hB := hB.set 0 (x := ⟨qk, #[.int .u64 0, .slice none 0 0], 67⟩) rfl y
  generalize World.setRow _ _ _ = v2c at *
  replace hV := hide ((unhide hV).trans hB.gr)
  clear hB
  simp only [Act.put, List.setIfInBounds_toArray, List.set_cons_zero, List.set_cons_succ, List.getElem_toArray, List.getElem_cons_zero, List.getElem_cons_succ]
  (refine wpList_step fun K hK => ?_; replace hK := hide hK; go_simp; refine unhide hK _ _ ?_; clear hK K)
  refine wpList_nil ?_
  clear hy1 hy2
  go_upto_region 5 with fail
  refine wp_region_lit ?_
  refine list_val (.slice (some ⟨p0, q0, none⟩) 106 c) (by kernel_rfl) (by kernel_rfl) ?_
  simp only [Act.put, List.setIfInBounds_toArray, List.set_cons_zero, List.set_cons_succ, List.getElem_toArray, List.getElem_cons_zero, List.getElem_cons_succ]
  refine list_val (.int .i64 (106 : Int)) (by kernel_rfl) (by kernel_rfl) ?_
  simp only [Act.put, List.setIfInBounds_toArray, List.set_cons_zero, List.set_cons_succ, List.getElem_toArray, List.getElem_cons_zero, List.getElem_cons_succ]
  refine list_val (.int .i64 95) (by kernel_rfl) (by kernel_rfl) ?_
  simp only [Act.put, List.setIfInBounds_toArray, List.set_cons_zero, List.set_cons_succ, List.getElem_toArray, List.getElem_cons_zero, List.getElem_cons_succ]
  refine list_call 39 #[.int .i64 95] (by kernel_rfl) (by kernel_rfl) ((qon_ok 95 v2c).mono ?_)
  rintro r_ v5a ⟨h5, rfl, hh5, rfl⟩
  rw [hO, decide_eq_false_iff_not] at hh5
  refine ⟨_, rfl, ?_⟩
  simp only [Act.put, List.setIfInBounds_toArray, List.set_cons_zero, List.set_cons_succ, List.getElem_toArray, List.getElem_cons_zero, List.getElem_cons_succ]
  refine list_val (.bool false) (by kernel_rfl) (by go_simp) ?_
  simp only [Act.put, List.setIfInBounds_toArray, List.set_cons_zero, List.set_cons_succ, List.getElem_toArray, List.getElem_cons_zero, List.getElem_cons_succ]
  refine wpList_nil ?_
  go_upto_region 9 with fail
  refine wp_region_lit ?_
  refine list_val (.slice (some ⟨p0, q0, none⟩) 106 c) (by kernel_rfl) (by kernel_rfl) ?_
  simp only [Act.put, List.setIfInBounds_toArray, List.set_cons_zero, List.set_cons_succ, List.getElem_toArray, List.getElem_cons_zero, List.getElem_cons_succ]
  refine list_val (.int .i64 (106 : Int)) (by kernel_rfl) (by kernel_rfl) ?_
  simp only [Act.put, List.setIfInBounds_toArray, List.set_cons_zero, List.set_cons_succ, List.getElem_toArray, List.getElem_cons_zero, List.getElem_cons_succ]
  refine list_val (.int .i64 95) (by kernel_rfl) (by kernel_rfl) ?_
  simp only [Act.put, List.setIfInBounds_toArray, List.set_cons_zero, List.set_cons_succ, List.getElem_toArray, List.getElem_cons_zero, List.getElem_cons_succ]
  refine list_call 41 #[.int .i64 95] (by kernel_rfl) (by kernel_rfl) ((qrp_ok 95 v5a).mono ?_)
  rintro r_ v9a ⟨h9, rfl, hh9, rfl⟩
  rw [hR, decide_eq_false_iff_not] at hh9
  refine ⟨_, rfl, ?_⟩
  simp only [Act.put, List.setIfInBounds_toArray, List.set_cons_zero, List.set_cons_succ, List.getElem_toArray, List.getElem_cons_zero, List.getElem_cons_succ]
  refine list_val (.bool false) (by kernel_rfl) (by go_simp) ?_
  simp only [Act.put, List.setIfInBounds_toArray, List.set_cons_zero, List.set_cons_succ, List.getElem_toArray, List.getElem_cons_zero, List.getElem_cons_succ]
  refine wpList_nil ?_
  have hZ : Hid (T (.returned (.int .i64 0)) v9a) := by rw [unhide hT]; exact ⟨rfl, unhide hV⟩
  go_wp2_with fail
  exact unhide hZ
set_option maxHeartbeats 4000000 in
theorem qkind_Ua (L : List Int) (a : Option Addr) (n c : Nat) (hn : n ≤ 1000) (w : World) (lb : Lb w a n c L) (h6 : ¬ n = 106) (hO : onS ((n : Int) - 11) = true) (hR : rpS ((n : Int) - 11) = false) (hE : (decide (L.getD 0 0 = 2) && pkE L) = true) : Calls Try.prog 45 #[.slice a n c] w (Vl (.int .i64 (kindO L)) w) := by
  obtain ⟨T, hT⟩ : ∃ T, T = Vl (.int .i64 (kindO L)) w := ⟨_, rfl⟩
  rw [← hT]
  replace hT := hide hT
  have hL := lb.len
  have hn12 : 11 < n := by unfold onS at hO; rw [decide_eq_true_iff] at hO; omega
  obtain ⟨p0, q0, rfl, lb⟩ := lb.some (by omega)
  have hV := hide (Gr.refl w)
  replace lb := hide lb
  obtain ⟨x, hx⟩ : ∃ x : Int, x = (n : Int) - 11 := ⟨_, rfl⟩
  have hwx : IntKind.i64.wrap ((n : Int) - 11) = x := by rw [IntKind.wrap_i64]; omega
  have ea : aG L = false := by unfold aG; rw [hL, decide_eq_false h6, Bool.false_and]
  have eu : uG L = true := by unfold uG; rw [hL, hO, hE]; rfl
  have ed : dG L = false := by unfold dG; rw [hL, hR, Bool.false_and]
  have hk : kindO L = 2 := by unfold kindO; rw [ea, eu, ed]; rfl
  rw [hk] at hT
  clear hk ea eu ed
  rw [← hx] at hO hR
  have i6 : ¬ (n : Int) = 106 := by omega
  replace hx := hide hx
  go_enter Try.func45, Try.ntmps45
  go_upto_region 1 with fail
  refine wp_region_lit ?_
  refine list_val (.slice (some ⟨p0, q0, none⟩) n c) (by kernel_rfl) (by kernel_rfl) ?_
  simp only [Act.put, List.setIfInBounds_toArray, List.set_cons_zero, List.set_cons_succ, List.getElem_toArray, List.getElem_cons_zero, List.getElem_cons_succ]
  refine list_val (.int .i64 n) (by kernel_rfl) (by kernel_rfl) ?_
  simp only [Act.put, List.setIfInBounds_toArray, List.set_cons_zero, List.set_cons_succ, List.getElem_toArray, List.getElem_cons_zero, List.getElem_cons_succ]
  refine list_val (.bool false) (by kernel_rfl) (by go_simp) ?_
  simp only [Act.put, List.setIfInBounds_toArray, List.set_cons_zero, List.set_cons_succ, List.getElem_toArray, List.getElem_cons_zero, List.getElem_cons_succ]
  refine wpList_nil ?_
  go_upto_region 5 with fail
  refine wp_region_lit ?_
  refine list_val (.slice (some ⟨p0, q0, none⟩) n c) (by kernel_rfl) (by kernel_rfl) ?_
  simp only [Act.put, List.setIfInBounds_toArray, List.set_cons_zero, List.set_cons_succ, List.getElem_toArray, List.getElem_cons_zero, List.getElem_cons_succ]
  refine list_val (.int .i64 (n : Int)) (by kernel_rfl) (by kernel_rfl) ?_
  simp only [Act.put, List.setIfInBounds_toArray, List.set_cons_zero, List.set_cons_succ, List.getElem_toArray, List.getElem_cons_zero, List.getElem_cons_succ]
  refine list_val (.int .i64 x) (by kernel_rfl) (by go_simp) ?_
  simp only [Act.put, List.setIfInBounds_toArray, List.set_cons_zero, List.set_cons_succ, List.getElem_toArray, List.getElem_cons_zero, List.getElem_cons_succ]
  refine list_call 39 #[.int .i64 x] (by kernel_rfl) (by kernel_rfl) ((qon_ok x w).mono ?_)
  rintro r_ v5a ⟨h5, rfl, hh5, rfl⟩
  rw [hO, decide_eq_true_iff] at hh5
  refine ⟨_, rfl, ?_⟩
  simp only [Act.put, List.setIfInBounds_toArray, List.set_cons_zero, List.set_cons_succ, List.getElem_toArray, List.getElem_cons_zero, List.getElem_cons_succ]
  refine list_val (.bool true) (by kernel_rfl) (by go_simp) ?_
  simp only [Act.put, List.setIfInBounds_toArray, List.set_cons_zero, List.set_cons_succ, List.getElem_toArray, List.getElem_cons_zero, List.getElem_cons_succ]
  refine wpList_nil ?_
  go_upto_region 6 with fail
  refine wp_region_lit ?_
  refine list_val (.slice (some ⟨p0, q0, none⟩) n c) (by kernel_rfl) (by kernel_rfl) ?_
  simp only [Act.put, List.setIfInBounds_toArray, List.set_cons_zero, List.set_cons_succ, List.getElem_toArray, List.getElem_cons_zero, List.getElem_cons_succ]
  refine list_call 46 #[.slice (some ⟨p0, q0, none⟩) n c] (by kernel_rfl) (by kernel_rfl) ((qgetup_any L p0 q0 n c hn12 hn v5a ((unhide lb).gr (unhide hV))).mono ?_)
  rintro r_ v6a ⟨y, rfl, hy1, hy2, hg⟩
  rw [hE]
  replace hV := hide ((unhide hV).trans hg)
  clear hg
  refine ⟨_, rfl, ?_⟩
  simp only [Act.put, List.setIfInBounds_toArray, List.set_cons_zero, List.set_cons_succ, List.getElem_toArray, List.getElem_cons_zero, List.getElem_cons_succ]
  refine list_val (.tuple #[.agg y, .bool true]) (by kernel_rfl) (by kernel_rfl) ?_
  simp only [Act.put, List.setIfInBounds_toArray, List.set_cons_zero, List.set_cons_succ, List.getElem_toArray, List.getElem_cons_zero, List.getElem_cons_succ]
  refine list_val (.agg y) (by kernel_rfl) (by kernel_rfl) ?_
  simp only [Act.put, List.setIfInBounds_toArray, List.set_cons_zero, List.set_cons_succ, List.getElem_toArray, List.getElem_cons_zero, List.getElem_cons_succ]
  refine list_val (.bool true) (by kernel_rfl) (by kernel_rfl) ?_
  simp only [Act.put, List.setIfInBounds_toArray, List.set_cons_zero, List.set_cons_succ, List.getElem_toArray, List.getElem_cons_zero, List.getElem_cons_succ]
  have hB := Bl.nil v6a
  refine list_valw (.pointer (some ⟨v6a.heap.size, 0, none⟩)) (v6a.alloc (.cells #[.int .i64 0, .int .i64 0, .int .u64 0, .slice none 0 0] 78 (0, 0))) (by kernel_rfl) (by kernel_rfl) ?_
  replace hB := hB.new #[.int .i64 0, .int .i64 0, .int .u64 0, .slice none 0 0] 78
  simp only [List.nil_append, List.cons_append] at hB
  generalize World.alloc _ _ = v6b at *
  obtain ⟨qk, hqk⟩ : ∃ x, x = v6a.heap.size := ⟨_, rfl⟩
  rw [← hqk] at hB ⊢
  clear hqk
  simp only [Act.put, List.setIfInBounds_toArray, List.set_cons_zero, List.set_cons_succ, List.getElem_toArray, List.getElem_cons_zero, List.getElem_cons_succ]
  refine list_store 78 (.tmp 5) (.tmp 26) qk y 78 #[.int .i64 0, .int .i64 0, .int .u64 0, .slice none 0 0] (by kernel_rfl) rfl (by kernel_rfl) (by kernel_rfl) (hB.get 0 (x := ⟨qk, #[.int .i64 0, .int .i64 0, .int .u64 0, .slice none 0 0], 78⟩) rfl) (by rw [Try.infoU, hy1]) (by rw [hy1]; rfl) hy2 ?_
  replace hB := hB.set 0 (x := ⟨qk, #[.int .i64 0, .int .i64 0, .int .u64 0, .slice none 0 0], 78⟩) rfl y
  generalize World.setRow _ _ _ = v6c at *
  replace hV := hide ((unhide hV).trans hB.gr)
  clear hB
  simp only [Act.put, List.setIfInBounds_toArray, List.set_cons_zero, List.set_cons_succ, List.getElem_toArray, List.getElem_cons_zero, List.getElem_cons_succ]
  (refine wpList_step fun K hK => ?_; replace hK := hide hK; go_simp; refine unhide hK _ _ ?_; clear hK K)
  refine wpList_nil ?_
  clear hy1 hy2
  have hZ : Hid (T (.returned (.int .i64 2)) v6c) := by rw [unhide hT]; exact ⟨rfl, unhide hV⟩
  go_wp2_with fail
  exact unhide hZ
set_option maxHeartbeats 4000000 in
theorem qkind_Un (L : List Int) (a : Option Addr) (n c : Nat) (hn : n ≤ 1000) (w : World) (lb : Lb w a n c L) (h6 : ¬ n = 106) (hO : onS ((n : Int) - 11) = true) (hR : rpS ((n : Int) - 11) = false) (hE : (decide (L.getD 0 0 = 2) && pkE L) = false) : Calls Try.prog 45 #[.slice a n c] w (Vl (.int .i64 (kindO L)) w) := by
  obtain ⟨T, hT⟩ : ∃ T, T = Vl (.int .i64 (kindO L)) w := ⟨_, rfl⟩
  rw [← hT]
  replace hT := hide hT
  have hL := lb.len
  have hn12 : 11 < n := by unfold onS at hO; rw [decide_eq_true_iff] at hO; omega
  obtain ⟨p0, q0, rfl, lb⟩ := lb.some (by omega)
  have hV := hide (Gr.refl w)
  replace lb := hide lb
  obtain ⟨x, hx⟩ : ∃ x : Int, x = (n : Int) - 11 := ⟨_, rfl⟩
  have hwx : IntKind.i64.wrap ((n : Int) - 11) = x := by rw [IntKind.wrap_i64]; omega
  have ea : aG L = false := by unfold aG; rw [hL, decide_eq_false h6, Bool.false_and]
  have eu : uG L = false := by unfold uG; rw [hL, hO, hE]; rfl
  have ed : dG L = false := by unfold dG; rw [hL, hR, Bool.false_and]
  have hk : kindO L = 0 := by unfold kindO; rw [ea, eu, ed]; rfl
  rw [hk] at hT
  clear hk ea eu ed
  rw [← hx] at hO hR
  have i6 : ¬ (n : Int) = 106 := by omega
  replace hx := hide hx
  go_enter Try.func45, Try.ntmps45
  go_upto_region 1 with fail
  refine wp_region_lit ?_
  refine list_val (.slice (some ⟨p0, q0, none⟩) n c) (by kernel_rfl) (by kernel_rfl) ?_
  simp only [Act.put, List.setIfInBounds_toArray, List.set_cons_zero, List.set_cons_succ, List.getElem_toArray, List.getElem_cons_zero, List.getElem_cons_succ]
  refine list_val (.int .i64 n) (by kernel_rfl) (by kernel_rfl) ?_
  simp only [Act.put, List.setIfInBounds_toArray, List.set_cons_zero, List.set_cons_succ, List.getElem_toArray, List.getElem_cons_zero, List.getElem_cons_succ]
  refine list_val (.bool false) (by kernel_rfl) (by go_simp) ?_
  simp only [Act.put, List.setIfInBounds_toArray, List.set_cons_zero, List.set_cons_succ, List.getElem_toArray, List.getElem_cons_zero, List.getElem_cons_succ]
  refine wpList_nil ?_
  go_upto_region 5 with fail
  refine wp_region_lit ?_
  refine list_val (.slice (some ⟨p0, q0, none⟩) n c) (by kernel_rfl) (by kernel_rfl) ?_
  simp only [Act.put, List.setIfInBounds_toArray, List.set_cons_zero, List.set_cons_succ, List.getElem_toArray, List.getElem_cons_zero, List.getElem_cons_succ]
  refine list_val (.int .i64 (n : Int)) (by kernel_rfl) (by kernel_rfl) ?_
  simp only [Act.put, List.setIfInBounds_toArray, List.set_cons_zero, List.set_cons_succ, List.getElem_toArray, List.getElem_cons_zero, List.getElem_cons_succ]
  refine list_val (.int .i64 x) (by kernel_rfl) (by go_simp) ?_
  simp only [Act.put, List.setIfInBounds_toArray, List.set_cons_zero, List.set_cons_succ, List.getElem_toArray, List.getElem_cons_zero, List.getElem_cons_succ]
  refine list_call 39 #[.int .i64 x] (by kernel_rfl) (by kernel_rfl) ((qon_ok x w).mono ?_)
  rintro r_ v5a ⟨h5, rfl, hh5, rfl⟩
  rw [hO, decide_eq_true_iff] at hh5
  refine ⟨_, rfl, ?_⟩
  simp only [Act.put, List.setIfInBounds_toArray, List.set_cons_zero, List.set_cons_succ, List.getElem_toArray, List.getElem_cons_zero, List.getElem_cons_succ]
  refine list_val (.bool true) (by kernel_rfl) (by go_simp) ?_
  simp only [Act.put, List.setIfInBounds_toArray, List.set_cons_zero, List.set_cons_succ, List.getElem_toArray, List.getElem_cons_zero, List.getElem_cons_succ]
  refine wpList_nil ?_
  go_upto_region 6 with fail
  refine wp_region_lit ?_
  refine list_val (.slice (some ⟨p0, q0, none⟩) n c) (by kernel_rfl) (by kernel_rfl) ?_
  simp only [Act.put, List.setIfInBounds_toArray, List.set_cons_zero, List.set_cons_succ, List.getElem_toArray, List.getElem_cons_zero, List.getElem_cons_succ]
  refine list_call 46 #[.slice (some ⟨p0, q0, none⟩) n c] (by kernel_rfl) (by kernel_rfl) ((qgetup_any L p0 q0 n c hn12 hn v5a ((unhide lb).gr (unhide hV))).mono ?_)
  rintro r_ v6a ⟨y, rfl, hy1, hy2, hg⟩
  rw [hE]
  replace hV := hide ((unhide hV).trans hg)
  clear hg
  refine ⟨_, rfl, ?_⟩
  simp only [Act.put, List.setIfInBounds_toArray, List.set_cons_zero, List.set_cons_succ, List.getElem_toArray, List.getElem_cons_zero, List.getElem_cons_succ]
  refine list_val (.tuple #[.agg y, .bool false]) (by kernel_rfl) (by kernel_rfl) ?_
  simp only [Act.put, List.setIfInBounds_toArray, List.set_cons_zero, List.set_cons_succ, List.getElem_toArray, List.getElem_cons_zero, List.getElem_cons_succ]
  refine list_val (.agg y) (by kernel_rfl) (by kernel_rfl) ?_
  simp only [Act.put, List.setIfInBounds_toArray, List.set_cons_zero, List.set_cons_succ, List.getElem_toArray, List.getElem_cons_zero, List.getElem_cons_succ]
  refine list_val (.bool false) (by kernel_rfl) (by kernel_rfl) ?_
  simp only [Act.put, List.setIfInBounds_toArray, List.set_cons_zero, List.set_cons_succ, List.getElem_toArray, List.getElem_cons_zero, List.getElem_cons_succ]
  have hB := Bl.nil v6a
  refine list_valw (.pointer (some ⟨v6a.heap.size, 0, none⟩)) (v6a.alloc (.cells #[.int .i64 0, .int .i64 0, .int .u64 0, .slice none 0 0] 78 (0, 0))) (by kernel_rfl) (by kernel_rfl) ?_
  replace hB := hB.new #[.int .i64 0, .int .i64 0, .int .u64 0, .slice none 0 0] 78
  simp only [List.nil_append, List.cons_append] at hB
  generalize World.alloc _ _ = v6b at *
  obtain ⟨qk, hqk⟩ : ∃ x, x = v6a.heap.size := ⟨_, rfl⟩
  rw [← hqk] at hB ⊢
  clear hqk
  simp only [Act.put, List.setIfInBounds_toArray, List.set_cons_zero, List.set_cons_succ, List.getElem_toArray, List.getElem_cons_zero, List.getElem_cons_succ]
  refine list_store 78 (.tmp 5) (.tmp 26) qk y 78 #[.int .i64 0, .int .i64 0, .int .u64 0, .slice none 0 0] (by kernel_rfl) rfl (by kernel_rfl) (by kernel_rfl) (hB.get 0 (x := ⟨qk, #[.int .i64 0, .int .i64 0, .int .u64 0, .slice none 0 0], 78⟩) rfl) (by rw [Try.infoU, hy1]) (by rw [hy1]; rfl) hy2 ?_
  replace hB := hB.set 0 (x := ⟨qk, #[.int .i64 0, .int .i64 0, .int .u64 0, .slice none 0 0], 78⟩) rfl y
  generalize World.setRow _ _ _ = v6c at *
  replace hV := hide ((unhide hV).trans hB.gr)
  clear hB
  simp only [Act.put, List.setIfInBounds_toArray, List.set_cons_zero, List.set_cons_succ, List.getElem_toArray, List.getElem_cons_zero, List.getElem_cons_succ]
  (refine wpList_step fun K hK => ?_; replace hK := hide hK; go_simp; refine unhide hK _ _ ?_; clear hK K)
  refine wpList_nil ?_
  clear hy1 hy2
  go_upto_region 9 with fail
  refine wp_region_lit ?_
  refine list_val (.slice (some ⟨p0, q0, none⟩) n c) (by kernel_rfl) (by kernel_rfl) ?_
  simp only [Act.put, List.setIfInBounds_toArray, List.set_cons_zero, List.set_cons_succ, List.getElem_toArray, List.getElem_cons_zero, List.getElem_cons_succ]
  refine list_val (.int .i64 (n : Int)) (by kernel_rfl) (by kernel_rfl) ?_
  simp only [Act.put, List.setIfInBounds_toArray, List.set_cons_zero, List.set_cons_succ, List.getElem_toArray, List.getElem_cons_zero, List.getElem_cons_succ]
  refine list_val (.int .i64 x) (by kernel_rfl) (by go_simp) ?_
  simp only [Act.put, List.setIfInBounds_toArray, List.set_cons_zero, List.set_cons_succ, List.getElem_toArray, List.getElem_cons_zero, List.getElem_cons_succ]
  refine list_call 41 #[.int .i64 x] (by kernel_rfl) (by kernel_rfl) ((qrp_ok x v6c).mono ?_)
  rintro r_ v9a ⟨h9, rfl, hh9, rfl⟩
  rw [hR, decide_eq_false_iff_not] at hh9
  refine ⟨_, rfl, ?_⟩
  simp only [Act.put, List.setIfInBounds_toArray, List.set_cons_zero, List.set_cons_succ, List.getElem_toArray, List.getElem_cons_zero, List.getElem_cons_succ]
  refine list_val (.bool false) (by kernel_rfl) (by go_simp) ?_
  simp only [Act.put, List.setIfInBounds_toArray, List.set_cons_zero, List.set_cons_succ, List.getElem_toArray, List.getElem_cons_zero, List.getElem_cons_succ]
  refine wpList_nil ?_
  have hZ : Hid (T (.returned (.int .i64 0)) v9a) := by rw [unhide hT]; exact ⟨rfl, unhide hV⟩
  go_wp2_with fail
  exact unhide hZ
set_option maxHeartbeats 4000000 in
theorem qkind_Da (L : List Int) (a : Option Addr) (n c : Nat) (hn : n ≤ 1000) (w : World) (lb : Lb w a n c L) (h6 : ¬ n = 106) (hO : onS ((n : Int) - 11) = false) (hR : rpS ((n : Int) - 11) = true) (hE : (decide (L.getD 0 0 = 3) && pkE L) = true) : Calls Try.prog 45 #[.slice a n c] w (Vl (.int .i64 (kindO L)) w) := by
  obtain ⟨T, hT⟩ : ∃ T, T = Vl (.int .i64 (kindO L)) w := ⟨_, rfl⟩
  rw [← hT]
  replace hT := hide hT
  have hL := lb.len
  have hn12 : 11 < n := by unfold rpS at hR; rw [decide_eq_true_iff] at hR; omega
  obtain ⟨p0, q0, rfl, lb⟩ := lb.some (by omega)
  have hV := hide (Gr.refl w)
  replace lb := hide lb
  obtain ⟨x, hx⟩ : ∃ x : Int, x = (n : Int) - 11 := ⟨_, rfl⟩
  have hwx : IntKind.i64.wrap ((n : Int) - 11) = x := by rw [IntKind.wrap_i64]; omega
  have ea : aG L = false := by unfold aG; rw [hL, decide_eq_false h6, Bool.false_and]
  have eu : uG L = false := by unfold uG; rw [hL, hO, Bool.false_and]
  have ed : dG L = true := by unfold dG; rw [hL, hR, hE]; rfl
  have hk : kindO L = 3 := by unfold kindO; rw [ea, eu, ed]; rfl
  rw [hk] at hT
  clear hk ea eu ed
  rw [← hx] at hO hR
  have i6 : ¬ (n : Int) = 106 := by omega
  replace hx := hide hx
  go_enter Try.func45, Try.ntmps45
  go_upto_region 1 with fail
  refine wp_region_lit ?_
  refine list_val (.slice (some ⟨p0, q0, none⟩) n c) (by kernel_rfl) (by kernel_rfl) ?_
  simp only [Act.put, List.setIfInBounds_toArray, List.set_cons_zero, List.set_cons_succ, List.getElem_toArray, List.getElem_cons_zero, List.getElem_cons_succ]
  refine list_val (.int .i64 n) (by kernel_rfl) (by kernel_rfl) ?_
  simp only [Act.put, List.setIfInBounds_toArray, List.set_cons_zero, List.set_cons_succ, List.getElem_toArray, List.getElem_cons_zero, List.getElem_cons_succ]
  refine list_val (.bool false) (by kernel_rfl) (by go_simp) ?_
  simp only [Act.put, List.setIfInBounds_toArray, List.set_cons_zero, List.set_cons_succ, List.getElem_toArray, List.getElem_cons_zero, List.getElem_cons_succ]
  refine wpList_nil ?_
  go_upto_region 5 with fail
  refine wp_region_lit ?_
  refine list_val (.slice (some ⟨p0, q0, none⟩) n c) (by kernel_rfl) (by kernel_rfl) ?_
  simp only [Act.put, List.setIfInBounds_toArray, List.set_cons_zero, List.set_cons_succ, List.getElem_toArray, List.getElem_cons_zero, List.getElem_cons_succ]
  refine list_val (.int .i64 (n : Int)) (by kernel_rfl) (by kernel_rfl) ?_
  simp only [Act.put, List.setIfInBounds_toArray, List.set_cons_zero, List.set_cons_succ, List.getElem_toArray, List.getElem_cons_zero, List.getElem_cons_succ]
  refine list_val (.int .i64 x) (by kernel_rfl) (by go_simp) ?_
  simp only [Act.put, List.setIfInBounds_toArray, List.set_cons_zero, List.set_cons_succ, List.getElem_toArray, List.getElem_cons_zero, List.getElem_cons_succ]
  refine list_call 39 #[.int .i64 x] (by kernel_rfl) (by kernel_rfl) ((qon_ok x w).mono ?_)
  rintro r_ v5a ⟨h5, rfl, hh5, rfl⟩
  rw [hO, decide_eq_false_iff_not] at hh5
  refine ⟨_, rfl, ?_⟩
  simp only [Act.put, List.setIfInBounds_toArray, List.set_cons_zero, List.set_cons_succ, List.getElem_toArray, List.getElem_cons_zero, List.getElem_cons_succ]
  refine list_val (.bool false) (by kernel_rfl) (by go_simp) ?_
  simp only [Act.put, List.setIfInBounds_toArray, List.set_cons_zero, List.set_cons_succ, List.getElem_toArray, List.getElem_cons_zero, List.getElem_cons_succ]
  refine wpList_nil ?_
  go_upto_region 9 with fail
  refine wp_region_lit ?_
  refine list_val (.slice (some ⟨p0, q0, none⟩) n c) (by kernel_rfl) (by kernel_rfl) ?_
  simp only [Act.put, List.setIfInBounds_toArray, List.set_cons_zero, List.set_cons_succ, List.getElem_toArray, List.getElem_cons_zero, List.getElem_cons_succ]
  refine list_val (.int .i64 (n : Int)) (by kernel_rfl) (by kernel_rfl) ?_
  simp only [Act.put, List.setIfInBounds_toArray, List.set_cons_zero, List.set_cons_succ, List.getElem_toArray, List.getElem_cons_zero, List.getElem_cons_succ]
  refine list_val (.int .i64 x) (by kernel_rfl) (by go_simp) ?_
  simp only [Act.put, List.setIfInBounds_toArray, List.set_cons_zero, List.set_cons_succ, List.getElem_toArray, List.getElem_cons_zero, List.getElem_cons_succ]
  refine list_call 41 #[.int .i64 x] (by kernel_rfl) (by kernel_rfl) ((qrp_ok x v5a).mono ?_)
  rintro r_ v9a ⟨h9, rfl, hh9, rfl⟩
  rw [hR, decide_eq_true_iff] at hh9
  refine ⟨_, rfl, ?_⟩
  simp only [Act.put, List.setIfInBounds_toArray, List.set_cons_zero, List.set_cons_succ, List.getElem_toArray, List.getElem_cons_zero, List.getElem_cons_succ]
  refine list_val (.bool true) (by kernel_rfl) (by go_simp) ?_
  simp only [Act.put, List.setIfInBounds_toArray, List.set_cons_zero, List.set_cons_succ, List.getElem_toArray, List.getElem_cons_zero, List.getElem_cons_succ]
  refine wpList_nil ?_
  go_upto_region 10 with fail
  refine wp_region_lit ?_
  refine list_val (.slice (some ⟨p0, q0, none⟩) n c) (by kernel_rfl) (by kernel_rfl) ?_
  simp only [Act.put, List.setIfInBounds_toArray, List.set_cons_zero, List.set_cons_succ, List.getElem_toArray, List.getElem_cons_zero, List.getElem_cons_succ]
  refine list_call 47 #[.slice (some ⟨p0, q0, none⟩) n c] (by kernel_rfl) (by kernel_rfl) ((qgetdn_any L p0 q0 n c hn12 hn v9a ((unhide lb).gr (unhide hV))).mono ?_)
  rintro r_ v10a ⟨y, rfl, hy1, hy2, hg⟩
  rw [hE]
  replace hV := hide ((unhide hV).trans hg)
  clear hg
  refine ⟨_, rfl, ?_⟩
  simp only [Act.put, List.setIfInBounds_toArray, List.set_cons_zero, List.set_cons_succ, List.getElem_toArray, List.getElem_cons_zero, List.getElem_cons_succ]
  refine list_val (.tuple #[.agg y, .bool true]) (by kernel_rfl) (by kernel_rfl) ?_
  simp only [Act.put, List.setIfInBounds_toArray, List.set_cons_zero, List.set_cons_succ, List.getElem_toArray, List.getElem_cons_zero, List.getElem_cons_succ]
  refine list_val (.agg y) (by kernel_rfl) (by kernel_rfl) ?_
  simp only [Act.put, List.setIfInBounds_toArray, List.set_cons_zero, List.set_cons_succ, List.getElem_toArray, List.getElem_cons_zero, List.getElem_cons_succ]
  refine list_val (.bool true) (by kernel_rfl) (by kernel_rfl) ?_
  simp only [Act.put, List.setIfInBounds_toArray, List.set_cons_zero, List.set_cons_succ, List.getElem_toArray, List.getElem_cons_zero, List.getElem_cons_succ]
  have hB := Bl.nil v10a
  refine list_valw (.pointer (some ⟨v10a.heap.size, 0, none⟩)) (v10a.alloc (.cells #[.int .i64 0, .int .i64 0, .int .u64 0, .slice none 0 0] 80 (0, 0))) (by kernel_rfl) (by kernel_rfl) ?_
  replace hB := hB.new #[.int .i64 0, .int .i64 0, .int .u64 0, .slice none 0 0] 80
  simp only [List.nil_append, List.cons_append] at hB
  generalize World.alloc _ _ = v10b at *
  obtain ⟨qk, hqk⟩ : ∃ x, x = v10a.heap.size := ⟨_, rfl⟩
  rw [← hqk] at hB ⊢
  clear hqk
  simp only [Act.put, List.setIfInBounds_toArray, List.set_cons_zero, List.set_cons_succ, List.getElem_toArray, List.getElem_cons_zero, List.getElem_cons_succ]
  refine list_store 80 (.tmp 7) (.tmp 37) qk y 80 #[.int .i64 0, .int .i64 0, .int .u64 0, .slice none 0 0] (by kernel_rfl) rfl (by kernel_rfl) (by kernel_rfl) (hB.get 0 (x := ⟨qk, #[.int .i64 0, .int .i64 0, .int .u64 0, .slice none 0 0], 80⟩) rfl) (by rw [Try.infoD, hy1]) (by rw [hy1]; rfl) hy2 ?_
  replace hB := hB.set 0 (x := ⟨qk, #[.int .i64 0, .int .i64 0, .int .u64 0, .slice none 0 0], 80⟩) rfl y
  generalize World.setRow _ _ _ = v10c at *
  replace hV := hide ((unhide hV).trans hB.gr)
  clear hB
  simp only [Act.put, List.setIfInBounds_toArray, List.set_cons_zero, List.set_cons_succ, List.getElem_toArray, List.getElem_cons_zero, List.getElem_cons_succ]
  (refine wpList_step fun K hK => ?_; replace hK := hide hK; go_simp; refine unhide hK _ _ ?_; clear hK K)
  refine wpList_nil ?_
  clear hy1 hy2
  have hZ : Hid (T (.returned (.int .i64 3)) v10c) := by rw [unhide hT]; exact ⟨rfl, unhide hV⟩
  go_wp2_with fail
  exact unhide hZ
set_option maxHeartbeats 4000000 in
theorem qkind_Dn (L : List Int) (a : Option Addr) (n c : Nat) (hn : n ≤ 1000) (w : World) (lb : Lb w a n c L) (h6 : ¬ n = 106) (hO : onS ((n : Int) - 11) = false) (hR : rpS ((n : Int) - 11) = true) (hE : (decide (L.getD 0 0 = 3) && pkE L) = false) : Calls Try.prog 45 #[.slice a n c] w (Vl (.int .i64 (kindO L)) w) := by
  obtain ⟨T, hT⟩ : ∃ T, T = Vl (.int .i64 (kindO L)) w := ⟨_, rfl⟩
  rw [← hT]
  replace hT := hide hT
  have hL := lb.len
  have hn12 : 11 < n := by unfold rpS at hR; rw [decide_eq_true_iff] at hR; omega
  obtain ⟨p0, q0, rfl, lb⟩ := lb.some (by omega)
  have hV := hide (Gr.refl w)
  replace lb := hide lb
  obtain ⟨x, hx⟩ : ∃ x : Int, x = (n : Int) - 11 := ⟨_, rfl⟩
  have hwx : IntKind.i64.wrap ((n : Int) - 11) = x := by rw [IntKind.wrap_i64]; omega
  have ea : aG L = false := by unfold aG; rw [hL, decide_eq_false h6, Bool.false_and]
  have eu : uG L = false := by unfold uG; rw [hL, hO, Bool.false_and]
  have ed : dG L = false := by unfold dG; rw [hL, hR, hE]; rfl
  have hk : kindO L = 0 := by unfold kindO; rw [ea, eu, ed]; rfl
  rw [hk] at hT
  clear hk ea eu ed
  rw [← hx] at hO hR
  have i6 : ¬ (n : Int) = 106 := by omega
  replace hx := hide hx
  go_enter Try.func45, Try.ntmps45
  go_upto_region 1 with fail
  refine wp_region_lit ?_
  refine list_val (.slice (some ⟨p0, q0, none⟩) n c) (by kernel_rfl) (by kernel_rfl) ?_
  simp only [Act.put, List.setIfInBounds_toArray, List.set_cons_zero, List.set_cons_succ, List.getElem_toArray, List.getElem_cons_zero, List.getElem_cons_succ]
  refine list_val (.int .i64 n) (by kernel_rfl) (by kernel_rfl) ?_
  simp only [Act.put, List.setIfInBounds_toArray, List.set_cons_zero, List.set_cons_succ, List.getElem_toArray, List.getElem_cons_zero, List.getElem_cons_succ]
  refine list_val (.bool false) (by kernel_rfl) (by go_simp) ?_
  simp only [Act.put, List.setIfInBounds_toArray, List.set_cons_zero, List.set_cons_succ, List.getElem_toArray, List.getElem_cons_zero, List.getElem_cons_succ]
  refine wpList_nil ?_
  go_upto_region 5 with fail
  refine wp_region_lit ?_
  refine list_val (.slice (some ⟨p0, q0, none⟩) n c) (by kernel_rfl) (by kernel_rfl) ?_
  simp only [Act.put, List.setIfInBounds_toArray, List.set_cons_zero, List.set_cons_succ, List.getElem_toArray, List.getElem_cons_zero, List.getElem_cons_succ]
  refine list_val (.int .i64 (n : Int)) (by kernel_rfl) (by kernel_rfl) ?_
  simp only [Act.put, List.setIfInBounds_toArray, List.set_cons_zero, List.set_cons_succ, List.getElem_toArray, List.getElem_cons_zero, List.getElem_cons_succ]
  refine list_val (.int .i64 x) (by kernel_rfl) (by go_simp) ?_
  simp only [Act.put, List.setIfInBounds_toArray, List.set_cons_zero, List.set_cons_succ, List.getElem_toArray, List.getElem_cons_zero, List.getElem_cons_succ]
  refine list_call 39 #[.int .i64 x] (by kernel_rfl) (by kernel_rfl) ((qon_ok x w).mono ?_)
  rintro r_ v5a ⟨h5, rfl, hh5, rfl⟩
  rw [hO, decide_eq_false_iff_not] at hh5
  refine ⟨_, rfl, ?_⟩
  simp only [Act.put, List.setIfInBounds_toArray, List.set_cons_zero, List.set_cons_succ, List.getElem_toArray, List.getElem_cons_zero, List.getElem_cons_succ]
  refine list_val (.bool false) (by kernel_rfl) (by go_simp) ?_
  simp only [Act.put, List.setIfInBounds_toArray, List.set_cons_zero, List.set_cons_succ, List.getElem_toArray, List.getElem_cons_zero, List.getElem_cons_succ]
  refine wpList_nil ?_
  go_upto_region 9 with fail
  refine wp_region_lit ?_
  refine list_val (.slice (some ⟨p0, q0, none⟩) n c) (by kernel_rfl) (by kernel_rfl) ?_
  simp only [Act.put, List.setIfInBounds_toArray, List.set_cons_zero, List.set_cons_succ, List.getElem_toArray, List.getElem_cons_zero, List.getElem_cons_succ]
  refine list_val (.int .i64 (n : Int)) (by kernel_rfl) (by kernel_rfl) ?_
  simp only [Act.put, List.setIfInBounds_toArray, List.set_cons_zero, List.set_cons_succ, List.getElem_toArray, List.getElem_cons_zero, List.getElem_cons_succ]
  refine list_val (.int .i64 x) (by kernel_rfl) (by go_simp) ?_
  simp only [Act.put, List.setIfInBounds_toArray, List.set_cons_zero, List.set_cons_succ, List.getElem_toArray, List.getElem_cons_zero, List.getElem_cons_succ]
  refine list_call 41 #[.int .i64 x] (by kernel_rfl) (by kernel_rfl) ((qrp_ok x v5a).mono ?_)
  rintro r_ v9a ⟨h9, rfl, hh9, rfl⟩
  rw [hR, decide_eq_true_iff] at hh9
  refine ⟨_, rfl, ?_⟩
  simp only [Act.put, List.setIfInBounds_toArray, List.set_cons_zero, List.set_cons_succ, List.getElem_toArray, List.getElem_cons_zero, List.getElem_cons_succ]
  refine list_val (.bool true) (by kernel_rfl) (by go_simp) ?_
  simp only [Act.put, List.setIfInBounds_toArray, List.set_cons_zero, List.set_cons_succ, List.getElem_toArray, List.getElem_cons_zero, List.getElem_cons_succ]
  refine wpList_nil ?_
  go_upto_region 10 with fail
  refine wp_region_lit ?_
  refine list_val (.slice (some ⟨p0, q0, none⟩) n c) (by kernel_rfl) (by kernel_rfl) ?_
  simp only [Act.put, List.setIfInBounds_toArray, List.set_cons_zero, List.set_cons_succ, List.getElem_toArray, List.getElem_cons_zero, List.getElem_cons_succ]
  refine list_call 47 #[.slice (some ⟨p0, q0, none⟩) n c] (by kernel_rfl) (by kernel_rfl) ((qgetdn_any L p0 q0 n c hn12 hn v9a ((unhide lb).gr (unhide hV))).mono ?_)
  rintro r_ v10a ⟨y, rfl, hy1, hy2, hg⟩
  rw [hE]
  replace hV := hide ((unhide hV).trans hg)
  clear hg
  refine ⟨_, rfl, ?_⟩
  simp only [Act.put, List.setIfInBounds_toArray, List.set_cons_zero, List.set_cons_succ, List.getElem_toArray, List.getElem_cons_zero, List.getElem_cons_succ]
  refine list_val (.tuple #[.agg y, .bool false]) (by kernel_rfl) (by kernel_rfl) ?_
  simp only [Act.put, List.setIfInBounds_toArray, List.set_cons_zero, List.set_cons_succ, List.getElem_toArray, List.getElem_cons_zero, List.getElem_cons_succ]
  refine list_val (.agg y) (by kernel_rfl) (by kernel_rfl) ?_
  simp only [Act.put, List.setIfInBounds_toArray, List.set_cons_zero, List.set_cons_succ, List.getElem_toArray, List.getElem_cons_zero, List.getElem_cons_succ]
  refine list_val (.bool false) (by kernel_rfl) (by kernel_rfl) ?_
  simp only [Act.put, List.setIfInBounds_toArray, List.set_cons_zero, List.set_cons_succ, List.getElem_toArray, List.getElem_cons_zero, List.getElem_cons_succ]
  have hB := Bl.nil v10a
  refine list_valw (.pointer (some ⟨v10a.heap.size, 0, none⟩)) (v10a.alloc (.cells #[.int .i64 0, .int .i64 0, .int .u64 0, .slice none 0 0] 80 (0, 0))) (by kernel_rfl) (by kernel_rfl) ?_
  replace hB := hB.new #[.int .i64 0, .int .i64 0, .int .u64 0, .slice none 0 0] 80
  simp only [List.nil_append, List.cons_append] at hB
  generalize World.alloc _ _ = v10b at *
  obtain ⟨qk, hqk⟩ : ∃ x, x = v10a.heap.size := ⟨_, rfl⟩
  rw [← hqk] at hB ⊢
  clear hqk
  simp only [Act.put, List.setIfInBounds_toArray, List.set_cons_zero, List.set_cons_succ, List.getElem_toArray, List.getElem_cons_zero, List.getElem_cons_succ]
  refine list_store 80 (.tmp 7) (.tmp 37) qk y 80 #[.int .i64 0, .int .i64 0, .int .u64 0, .slice none 0 0] (by kernel_rfl) rfl (by kernel_rfl) (by kernel_rfl) (hB.get 0 (x := ⟨qk, #[.int .i64 0, .int .i64 0, .int .u64 0, .slice none 0 0], 80⟩) rfl) (by rw [Try.infoD, hy1]) (by rw [hy1]; rfl) hy2 ?_
  replace hB := hB.set 0 (x := ⟨qk, #[.int .i64 0, .int .i64 0, .int .u64 0, .slice none 0 0], 80⟩) rfl y
  generalize World.setRow _ _ _ = v10c at *
  replace hV := hide ((unhide hV).trans hB.gr)
  clear hB
  simp only [Act.put, List.setIfInBounds_toArray, List.set_cons_zero, List.set_cons_succ, List.getElem_toArray, List.getElem_cons_zero, List.getElem_cons_succ]
  (refine wpList_step fun K hK => ?_; replace hK := hide hK; go_simp; refine unhide hK _ _ ?_; clear hK K)
  refine wpList_nil ?_
  clear hy1 hy2
  have hZ : Hid (T (.returned (.int .i64 0)) v10c) := by rw [unhide hT]; exact ⟨rfl, unhide hV⟩
  go_wp2_with fail
  exact unhide hZ
set_option maxHeartbeats 4000000 in
theorem qkind_no (L : List Int) (a : Option Addr) (n c : Nat) (hn : n ≤ 1000) (w : World) (lb : Lb w a n c L) (h6 : ¬ n = 106) (hO : onS ((n : Int) - 11) = false) (hR : rpS ((n : Int) - 11) = false) : Calls Try.prog 45 #[.slice a n c] w (Vl (.int .i64 (kindO L)) w) := by
  obtain ⟨T, hT⟩ : ∃ T, T = Vl (.int .i64 (kindO L)) w := ⟨_, rfl⟩
  rw [← hT]
  replace hT := hide hT
  have hL := lb.len
  have hV := hide (Gr.refl w)
  replace lb := hide lb
  obtain ⟨x, hx⟩ : ∃ x : Int, x = (n : Int) - 11 := ⟨_, rfl⟩
  have hwx : IntKind.i64.wrap ((n : Int) - 11) = x := by rw [IntKind.wrap_i64]; omega
  have ea : aG L = false := by unfold aG; rw [hL, decide_eq_false h6, Bool.false_and]
  have eu : uG L = false := by unfold uG; rw [hL, hO, Bool.false_and]
  have ed : dG L = false := by unfold dG; rw [hL, hR, Bool.false_and]
  have hk : kindO L = 0 := by unfold kindO; rw [ea, eu, ed]; rfl
  rw [hk] at hT
  clear hk ea eu ed
  rw [← hx] at hO hR
  have i6 : ¬ (n : Int) = 106 := by omega
  replace hx := hide hx
  go_enter Try.func45, Try.ntmps45
  go_upto_region 1 with fail
  refine wp_region_lit ?_
  refine list_val (.slice a n c) (by kernel_rfl) (by kernel_rfl) ?_
  simp only [Act.put, List.setIfInBounds_toArray, List.set_cons_zero, List.set_cons_succ, List.getElem_toArray, List.getElem_cons_zero, List.getElem_cons_succ]
  refine list_val (.int .i64 n) (by kernel_rfl) (by kernel_rfl) ?_
  simp only [Act.put, List.setIfInBounds_toArray, List.set_cons_zero, List.set_cons_succ, List.getElem_toArray, List.getElem_cons_zero, List.getElem_cons_succ]
  refine list_val (.bool false) (by kernel_rfl) (by go_simp) ?_
  simp only [Act.put, List.setIfInBounds_toArray, List.set_cons_zero, List.set_cons_succ, List.getElem_toArray, List.getElem_cons_zero, List.getElem_cons_succ]
  refine wpList_nil ?_
  go_upto_region 5 with fail
  refine wp_region_lit ?_
  refine list_val (.slice a n c) (by kernel_rfl) (by kernel_rfl) ?_
  simp only [Act.put, List.setIfInBounds_toArray, List.set_cons_zero, List.set_cons_succ, List.getElem_toArray, List.getElem_cons_zero, List.getElem_cons_succ]
  refine list_val (.int .i64 (n : Int)) (by kernel_rfl) (by kernel_rfl) ?_
  simp only [Act.put, List.setIfInBounds_toArray, List.set_cons_zero, List.set_cons_succ, List.getElem_toArray, List.getElem_cons_zero, List.getElem_cons_succ]
  refine list_val (.int .i64 x) (by kernel_rfl) (by go_simp) ?_
  simp only [Act.put, List.setIfInBounds_toArray, List.set_cons_zero, List.set_cons_succ, List.getElem_toArray, List.getElem_cons_zero, List.getElem_cons_succ]
  refine list_call 39 #[.int .i64 x] (by kernel_rfl) (by kernel_rfl) ((qon_ok x w).mono ?_)
  rintro r_ v5a ⟨h5, rfl, hh5, rfl⟩
  rw [hO, decide_eq_false_iff_not] at hh5
  refine ⟨_, rfl, ?_⟩
  simp only [Act.put, List.setIfInBounds_toArray, List.set_cons_zero, List.set_cons_succ, List.getElem_toArray, List.getElem_cons_zero, List.getElem_cons_succ]
  refine list_val (.bool false) (by kernel_rfl) (by go_simp) ?_
  simp only [Act.put, List.setIfInBounds_toArray, List.set_cons_zero, List.set_cons_succ, List.getElem_toArray, List.getElem_cons_zero, List.getElem_cons_succ]
  refine wpList_nil ?_
  go_upto_region 9 with fail
  refine wp_region_lit ?_
  refine list_val (.slice a n c) (by kernel_rfl) (by kernel_rfl) ?_
  simp only [Act.put, List.setIfInBounds_toArray, List.set_cons_zero, List.set_cons_succ, List.getElem_toArray, List.getElem_cons_zero, List.getElem_cons_succ]
  refine list_val (.int .i64 (n : Int)) (by kernel_rfl) (by kernel_rfl) ?_
  simp only [Act.put, List.setIfInBounds_toArray, List.set_cons_zero, List.set_cons_succ, List.getElem_toArray, List.getElem_cons_zero, List.getElem_cons_succ]
  refine list_val (.int .i64 x) (by kernel_rfl) (by go_simp) ?_
  simp only [Act.put, List.setIfInBounds_toArray, List.set_cons_zero, List.set_cons_succ, List.getElem_toArray, List.getElem_cons_zero, List.getElem_cons_succ]
  refine list_call 41 #[.int .i64 x] (by kernel_rfl) (by kernel_rfl) ((qrp_ok x v5a).mono ?_)
  rintro r_ v9a ⟨h9, rfl, hh9, rfl⟩
  rw [hR, decide_eq_false_iff_not] at hh9
  refine ⟨_, rfl, ?_⟩
  simp only [Act.put, List.setIfInBounds_toArray, List.set_cons_zero, List.set_cons_succ, List.getElem_toArray, List.getElem_cons_zero, List.getElem_cons_succ]
  refine list_val (.bool false) (by kernel_rfl) (by go_simp) ?_
  simp only [Act.put, List.setIfInBounds_toArray, List.set_cons_zero, List.set_cons_succ, List.getElem_toArray, List.getElem_cons_zero, List.getElem_cons_succ]
  refine wpList_nil ?_
  have hZ : Hid (T (.returned (.int .i64 0)) v9a) := by rw [unhide hT]; exact ⟨rfl, unhide hV⟩
  go_wp2_with fail
  exact unhide hZ
theorem on_rp {x : Int} (h : onS x = true) : rpS x = false := by
  unfold onS at h
  unfold rpS
  rw [decide_eq_true_iff] at h
  rw [decide_eq_false_iff_not]
  omega
theorem qkind_ok (L : List Int) (a : Option Addr) (n c : Nat) (hn : n ≤ 1000) (w : World) (lb : Lb w a n c L) : Calls Try.prog 45 #[.slice a n c] w (Vl (.int .i64 (kindO L)) w) := by
  by_cases h6 : n = 106
  · cases hE : anE L
    · exact qkind_An L a n c hn w lb h6 hE
    · exact qkind_Aa L a n c hn w lb h6 hE
  · cases hO : onS ((n : Int) - 11)
    · cases hR : rpS ((n : Int) - 11)
      · exact qkind_no L a n c hn w lb h6 hO hR
      · cases hE : (decide (L.getD 0 0 = 3) && pkE L)
        · exact qkind_Dn L a n c hn w lb h6 hO hR hE
        · exact qkind_Da L a n c hn w lb h6 hO hR hE
    · cases hE : (decide (L.getD 0 0 = 2) && pkE L)
      · exact qkind_Un L a n c hn w lb h6 hO (on_rp hO) hE
      · exact qkind_Ua L a n c hn w lb h6 hO (on_rp hO) hE
end Go.Proofs.Ytfmocneoffkmpaa
