/-
  The reference: sums of rows.
-/
import Derived.Test.YtdekjbdkpchbjaaChaRX
namespace Go.Proofs.Ytdekjbdkpchbjaa
open Go.RowKit
set_option maxRecDepth 100000
set_option linter.unusedSimpArgs false
set_option linter.unusedVariables false
theorem plus_step (P VL c x y s d c2 X Y : Nat) (h : VL + P * c = X + Y) (hs : s = x + y + c) (hd : d = s % 256) (hc : c2 = s / 256) : VL + P * d + P * 256 * c2 = X + P * x + (Y + P * y) := by
  have e : s = d + 256 * c2 := by omega
  have e2 : P * s = P * d + P * 256 * c2 := by rw [e, Nat.mul_add, Nat.mul_assoc]
  have e3 : P * s = P * x + P * y + P * c := by rw [hs, Nat.mul_add, Nat.mul_add]
  omega
def PlusP (A B L : List Nat) : Prop := AllB L ∧ V L = V A + V B ∧ L.length ≤ max A.length B.length + 1
set_option maxHeartbeats 4000000 in
theorem rplus_ok (A B : List Nat) (hA : AllB A) (hB : AllB B) (a b : Option Addr) (n m ca cb : Nat) (hbn : n ≤ 100000) (hbm : m ≤ 100000) (w : World) (la : Li w a n ca A) (lb : Li w b m cb B) : Calls Try.prog 53 #[.slice a n ca, .slice b m cb] w (Ri (PlusP A B) w) := by
  obtain ⟨T, hT⟩ : ∃ T, T = Ri (PlusP A B) w := ⟨_, rfl⟩
  rw [← hT]
  unfold Ri at hT
  replace hT := hide hT
  have hn := hide la.len
  have hm := hide lb.len
  replace la := hide la
  replace lb := hide lb
  replace hA := hide hA
  replace hB := hide hB
  have hG : Hid (Gr w w) := Gr.refl w
  go_enter Try.func53, Try.ntmps53
  go_wp2_with fail
  go_loopw [7, 5, 6] (fun i o e wr => ∃ i' : Nat, ∃ v : Value, ∃ L : List Nat, ∃ c : Nat, i' ≤ max n m + 1 ∧ i = .int .i64 i' ∧ v = o ∧ e = .int .i64 c ∧ Hid (L.length = i') ∧ Hid (AllB L) ∧ Hid (V L + 256 ^ i' * c = V (A.take i') + V (B.take i')) ∧ c ≤ 1 ∧ (max n m < i' → c = 0) ∧ Hid (Oi w.heap.size wr v L) ∧ Hid (Gr w wr)) (fun i _ _ _ => max n m + 1 - (intOf i).toNat)
  case atStart => exact ⟨0, _, [], 0, by omega, rfl, rfl, rfl, rfl, (fun x hx => by cases hx), (show V [] + 256 ^ 0 * 0 = V (A.take 0) + V (B.take 0) from by simp [V]), by omega, by omega, Oi.nil _ _, hG⟩
  case round =>
  clear hG
  obtain ⟨i, v, L, c, hi, rfl, rfl, rfl, hL, hLB, hV, hc, hcm, ob, hG⟩ := hrel
  obtain ⟨x, hx⟩ : ∃ x, x = A.getD i 0 := ⟨_, rfl⟩
  obtain ⟨y, hy⟩ : ∃ y, y = B.getD i 0 := ⟨_, rfl⟩
  obtain ⟨xy, hxy⟩ : ∃ z, z = x + y := ⟨_, rfl⟩
  obtain ⟨s, hs⟩ : ∃ s, s = x + y + c := ⟨_, rfl⟩
  obtain ⟨d, hd⟩ : ∃ d, d = s % 256 := ⟨_, rfl⟩
  obtain ⟨c2, hc2⟩ : ∃ c2, c2 = s / 256 := ⟨_, rfl⟩
  have hx2 : x < 256 := by rw [hx]; exact (unhide hA).at_ i
  have hy2 : y < 256 := by rw [hy]; exact (unhide hB).at_ i
  have hx0 : n ≤ i → x = 0 := fun h => by rw [hx, List.getD_eq_getElem?_getD, List.getElem?_eq_none (by rw [unhide hn]; exact h)]; rfl
  have hy0 : m ≤ i → y = 0 := fun h => by rw [hy, List.getD_eq_getElem?_getD, List.getElem?_eq_none (by rw [unhide hm]; exact h)]; rfl
  have hc3 : c2 ≤ 1 ∧ (max n m ≤ i → c2 = 0) := by
    refine ⟨by omega, fun h => ?_⟩
    have := hx0 (by omega)
    have := hy0 (by omega)
    omega
  have e1 : (x : Int) + (y : Int) = (xy : Int) := by omega
  have e2 : (xy : Int) + (c : Int) = (s : Int) := by omega
  have e3 : (s : Int).tmod 256 = (d : Int) := by rw [Int.tmod_eq_emod_of_nonneg (by omega)]; omega
  have e4 : (s : Int).tdiv 256 = (c2 : Int) := by rw [Int.tdiv_eq_ediv_of_nonneg (by omega)]; omega
  have g1' : IntKind.i64.wrap (xy : Int) = (xy : Int) := by rw [IntKind.wrap_i64]; omega
  have g2' : IntKind.i64.wrap (s : Int) = (s : Int) := by rw [IntKind.wrap_i64]; omega
  have g3' : IntKind.i64.wrap (d : Int) = (d : Int) := by rw [IntKind.wrap_i64]; omega
  have g4' : IntKind.i64.wrap (c2 : Int) = (c2 : Int) := by rw [IntKind.wrap_i64]; omega
  have hL2 : Hid ((L ++ [d]).length = i + 1) := by rw [List.length_append, unhide hL]; exact rfl
  have hB2 : Hid (AllB (L ++ [d])) := (unhide hLB).snoc (by omega)
  have hV2 : Hid (V (L ++ [d]) + 256 ^ (i + 1) * c2 = V (A.take (i + 1)) + V (B.take (i + 1))) := by
    rw [V_snoc, V_take_succ, V_take_succ, unhide hL, ← hx, ← hy, Nat.pow_succ]
    exact plus_step (256 ^ i) (V L) c x y s d c2 _ _ (unhide hV) hs hd hc2
  have hLl : L.length ≤ 1000000 := by rw [unhide hL]; omega
  clear hx0 hy0
  replace hx := hide hx
  replace hy := hide hy
  replace hxy := hide hxy
  replace hs := hide hs
  replace hd := hide hd
  replace hc2 := hide hc2
  by_cases h1 : i < n
  · have f1 : (i : Int) < (n : Int) := by omega
    go_upto_region 6 with fail
    replace hG := unhide hG
    replace ob := unhide ob
    refine wp_region_lit ?_
    refine list_val (.slice a n ca) (by kernel_rfl) (by kernel_rfl) ?_
    simp only [Act.put, List.setIfInBounds_toArray, List.set_cons_zero, List.set_cons_succ, List.getElem_toArray, List.getElem_cons_zero, List.getElem_cons_succ]
    refine list_val (.int .i64 i) (by kernel_rfl) (by kernel_rfl) ?_
    simp only [Act.put, List.setIfInBounds_toArray, List.set_cons_zero, List.set_cons_succ, List.getElem_toArray, List.getElem_cons_zero, List.getElem_cons_succ]
    refine list_call 54 #[.slice a n ca, .int .i64 i] (by kernel_rfl) (by kernel_rfl) ((rat_ok A a n ca i _ ((unhide la).gr hG)).mono ?_)
    rintro r wq ⟨rfl, rfl⟩
    refine ⟨_, rfl, ?_⟩
    rw [← unhide hx]
    simp only [Act.put, List.setIfInBounds_toArray, List.set_cons_zero, List.set_cons_succ, List.getElem_toArray, List.getElem_cons_zero, List.getElem_cons_succ]
    refine list_val (.slice b m cb) (by kernel_rfl) (by kernel_rfl) ?_
    simp only [Act.put, List.setIfInBounds_toArray, List.set_cons_zero, List.set_cons_succ, List.getElem_toArray, List.getElem_cons_zero, List.getElem_cons_succ]
    refine list_val (.int .i64 i) (by kernel_rfl) (by kernel_rfl) ?_
    simp only [Act.put, List.setIfInBounds_toArray, List.set_cons_zero, List.set_cons_succ, List.getElem_toArray, List.getElem_cons_zero, List.getElem_cons_succ]
    refine list_call 54 #[.slice b m cb, .int .i64 i] (by kernel_rfl) (by kernel_rfl) ((rat_ok B b m cb i _ ((unhide lb).gr hG)).mono ?_)
    rintro r wq ⟨rfl, rfl⟩
    refine ⟨_, rfl, ?_⟩
    rw [← unhide hy]
    simp only [Act.put, List.setIfInBounds_toArray, List.set_cons_zero, List.set_cons_succ, List.getElem_toArray, List.getElem_cons_zero, List.getElem_cons_succ]
    refine list_val (.int .i64 xy) (by kernel_rfl) (by go_simp) ?_
    simp only [Act.put, List.setIfInBounds_toArray, List.set_cons_zero, List.set_cons_succ, List.getElem_toArray, List.getElem_cons_zero, List.getElem_cons_succ]
    refine list_val (.int .i64 c) (by kernel_rfl) (by kernel_rfl) ?_
    simp only [Act.put, List.setIfInBounds_toArray, List.set_cons_zero, List.set_cons_succ, List.getElem_toArray, List.getElem_cons_zero, List.getElem_cons_succ]
    refine list_val (.int .i64 s) (by kernel_rfl) (by go_simp) ?_
    simp only [Act.put, List.setIfInBounds_toArray, List.set_cons_zero, List.set_cons_succ, List.getElem_toArray, List.getElem_cons_zero, List.getElem_cons_succ]
    (refine wpList_step fun K hK => ?_; replace hK := hide hK; go_simp; refine unhide hK _ _ ?_; clear hK K)
    refine wpList_nil ?_
    replace hG := hide hG
    replace ob := hide ob
    go_upto_region 7 with fail
    replace hG := unhide hG
    replace ob := unhide ob
    refine wp_region_lit ?_
    refine list_val v (by kernel_rfl) (by kernel_rfl) ?_
    simp only [Act.put, List.setIfInBounds_toArray, List.set_cons_zero, List.set_cons_succ, List.getElem_toArray, List.getElem_cons_zero, List.getElem_cons_succ]
    refine list_val (.int .i64 s) (by kernel_rfl) (by kernel_rfl) ?_
    simp only [Act.put, List.setIfInBounds_toArray, List.set_cons_zero, List.set_cons_succ, List.getElem_toArray, List.getElem_cons_zero, List.getElem_cons_succ]
    refine list_val (.int .i64 d) (by kernel_rfl) (by go_simp) ?_
    simp only [Act.put, List.setIfInBounds_toArray, List.set_cons_zero, List.set_cons_succ, List.getElem_toArray, List.getElem_cons_zero, List.getElem_cons_succ]
    refine list_valw (.slice (some ⟨wq.heap.size, 0, none⟩) 1 1) (wq.alloc (.cells #[.int .i64 (d : Int)] 3 (0, 0))) (by kernel_rfl) (by kernel_rfl) ?_
    simp only [Act.put, List.setIfInBounds_toArray, List.set_cons_zero, List.set_cons_succ, List.getElem_toArray, List.getElem_cons_zero, List.getElem_cons_succ]
    have hnew := blk_new wq (.cells #[.int .i64 (d : Int)] 3 (0, 0))
    have hgx := (Gr.refl wq).alloc (.cells #[.int .i64 (d : Int)] 3 (0, 0))
    replace hG := hG.trans hgx
    replace ob := ob.gr hgx
    clear hgx
    generalize World.alloc _ _ = w1 at *
    generalize wq.heap.size = g1 at *
    refine app_int rfl (.tmp 34) (.tmp 37) rfl w.heap.size v L rfl ob g1 d _ rfl hnew (by omega) hG.size ?_
    intro v2 w2 ob2 hgr
    simp only [Act.put, List.setIfInBounds_toArray, List.set_cons_zero, List.set_cons_succ, List.getElem_toArray, List.getElem_cons_zero, List.getElem_cons_succ]
    replace hG := Oi.grown ob (Nat.le_refl _) hG hgr
    clear hgr hnew ob
    (refine wpList_step fun K hK => ?_; replace hK := hide hK; go_simp; refine unhide hK _ _ ?_; clear hK K)
    refine wpList_nil ?_
    replace hG := hide hG
    replace ob2 := hide ob2
    go_wp2_with fail
    go_roundw
    case rel => exact ⟨i + 1, v2, _, c2, by omega, by go_num, rfl, rfl, hL2, hB2, hV2, by omega, by omega, ob2, hG⟩
    case measure => simp [intOf]; omega
  by_cases h2 : i < m
  · have f1 : ¬ (i : Int) < (n : Int) := by omega
    have f2 : (i : Int) < (m : Int) := by omega
    go_upto_region 6 with fail
    replace hG := unhide hG
    replace ob := unhide ob
    refine wp_region_lit ?_
    refine list_val (.slice a n ca) (by kernel_rfl) (by kernel_rfl) ?_
    simp only [Act.put, List.setIfInBounds_toArray, List.set_cons_zero, List.set_cons_succ, List.getElem_toArray, List.getElem_cons_zero, List.getElem_cons_succ]
    refine list_val (.int .i64 i) (by kernel_rfl) (by kernel_rfl) ?_
    simp only [Act.put, List.setIfInBounds_toArray, List.set_cons_zero, List.set_cons_succ, List.getElem_toArray, List.getElem_cons_zero, List.getElem_cons_succ]
    refine list_call 54 #[.slice a n ca, .int .i64 i] (by kernel_rfl) (by kernel_rfl) ((rat_ok A a n ca i _ ((unhide la).gr hG)).mono ?_)
    rintro r wq ⟨rfl, rfl⟩
    refine ⟨_, rfl, ?_⟩
    rw [← unhide hx]
    simp only [Act.put, List.setIfInBounds_toArray, List.set_cons_zero, List.set_cons_succ, List.getElem_toArray, List.getElem_cons_zero, List.getElem_cons_succ]
    refine list_val (.slice b m cb) (by kernel_rfl) (by kernel_rfl) ?_
    simp only [Act.put, List.setIfInBounds_toArray, List.set_cons_zero, List.set_cons_succ, List.getElem_toArray, List.getElem_cons_zero, List.getElem_cons_succ]
    refine list_val (.int .i64 i) (by kernel_rfl) (by kernel_rfl) ?_
    simp only [Act.put, List.setIfInBounds_toArray, List.set_cons_zero, List.set_cons_succ, List.getElem_toArray, List.getElem_cons_zero, List.getElem_cons_succ]
    refine list_call 54 #[.slice b m cb, .int .i64 i] (by kernel_rfl) (by kernel_rfl) ((rat_ok B b m cb i _ ((unhide lb).gr hG)).mono ?_)
    rintro r wq ⟨rfl, rfl⟩
    refine ⟨_, rfl, ?_⟩
    rw [← unhide hy]
    simp only [Act.put, List.setIfInBounds_toArray, List.set_cons_zero, List.set_cons_succ, List.getElem_toArray, List.getElem_cons_zero, List.getElem_cons_succ]
    refine list_val (.int .i64 xy) (by kernel_rfl) (by go_simp) ?_
    simp only [Act.put, List.setIfInBounds_toArray, List.set_cons_zero, List.set_cons_succ, List.getElem_toArray, List.getElem_cons_zero, List.getElem_cons_succ]
    refine list_val (.int .i64 c) (by kernel_rfl) (by kernel_rfl) ?_
    simp only [Act.put, List.setIfInBounds_toArray, List.set_cons_zero, List.set_cons_succ, List.getElem_toArray, List.getElem_cons_zero, List.getElem_cons_succ]
    refine list_val (.int .i64 s) (by kernel_rfl) (by go_simp) ?_
    simp only [Act.put, List.setIfInBounds_toArray, List.set_cons_zero, List.set_cons_succ, List.getElem_toArray, List.getElem_cons_zero, List.getElem_cons_succ]
    (refine wpList_step fun K hK => ?_; replace hK := hide hK; go_simp; refine unhide hK _ _ ?_; clear hK K)
    refine wpList_nil ?_
    replace hG := hide hG
    replace ob := hide ob
    go_upto_region 7 with fail
    replace hG := unhide hG
    replace ob := unhide ob
    refine wp_region_lit ?_
    refine list_val v (by kernel_rfl) (by kernel_rfl) ?_
    simp only [Act.put, List.setIfInBounds_toArray, List.set_cons_zero, List.set_cons_succ, List.getElem_toArray, List.getElem_cons_zero, List.getElem_cons_succ]
    refine list_val (.int .i64 s) (by kernel_rfl) (by kernel_rfl) ?_
    simp only [Act.put, List.setIfInBounds_toArray, List.set_cons_zero, List.set_cons_succ, List.getElem_toArray, List.getElem_cons_zero, List.getElem_cons_succ]
    refine list_val (.int .i64 d) (by kernel_rfl) (by go_simp) ?_
    simp only [Act.put, List.setIfInBounds_toArray, List.set_cons_zero, List.set_cons_succ, List.getElem_toArray, List.getElem_cons_zero, List.getElem_cons_succ]
    refine list_valw (.slice (some ⟨wq.heap.size, 0, none⟩) 1 1) (wq.alloc (.cells #[.int .i64 (d : Int)] 3 (0, 0))) (by kernel_rfl) (by kernel_rfl) ?_
    simp only [Act.put, List.setIfInBounds_toArray, List.set_cons_zero, List.set_cons_succ, List.getElem_toArray, List.getElem_cons_zero, List.getElem_cons_succ]
    have hnew := blk_new wq (.cells #[.int .i64 (d : Int)] 3 (0, 0))
    have hgx := (Gr.refl wq).alloc (.cells #[.int .i64 (d : Int)] 3 (0, 0))
    replace hG := hG.trans hgx
    replace ob := ob.gr hgx
    clear hgx
    generalize World.alloc _ _ = w1 at *
    generalize wq.heap.size = g1 at *
    refine app_int rfl (.tmp 34) (.tmp 37) rfl w.heap.size v L rfl ob g1 d _ rfl hnew (by omega) hG.size ?_
    intro v2 w2 ob2 hgr
    simp only [Act.put, List.setIfInBounds_toArray, List.set_cons_zero, List.set_cons_succ, List.getElem_toArray, List.getElem_cons_zero, List.getElem_cons_succ]
    replace hG := Oi.grown ob (Nat.le_refl _) hG hgr
    clear hgr hnew ob
    (refine wpList_step fun K hK => ?_; replace hK := hide hK; go_simp; refine unhide hK _ _ ?_; clear hK K)
    refine wpList_nil ?_
    replace hG := hide hG
    replace ob2 := hide ob2
    go_wp2_with fail
    go_roundw
    case rel => exact ⟨i + 1, v2, _, c2, by omega, by go_num, rfl, rfl, hL2, hB2, hV2, by omega, by omega, ob2, hG⟩
    case measure => simp [intOf]; omega
  by_cases h3 : 0 < c
  · have f1 : ¬ (i : Int) < (n : Int) := by omega
    have f2 : ¬ (i : Int) < (m : Int) := by omega
    have f3 : 0 < (c : Int) := by omega
    go_upto_region 6 with fail
    replace hG := unhide hG
    replace ob := unhide ob
    refine wp_region_lit ?_
    refine list_val (.slice a n ca) (by kernel_rfl) (by kernel_rfl) ?_
    simp only [Act.put, List.setIfInBounds_toArray, List.set_cons_zero, List.set_cons_succ, List.getElem_toArray, List.getElem_cons_zero, List.getElem_cons_succ]
    refine list_val (.int .i64 i) (by kernel_rfl) (by kernel_rfl) ?_
    simp only [Act.put, List.setIfInBounds_toArray, List.set_cons_zero, List.set_cons_succ, List.getElem_toArray, List.getElem_cons_zero, List.getElem_cons_succ]
    refine list_call 54 #[.slice a n ca, .int .i64 i] (by kernel_rfl) (by kernel_rfl) ((rat_ok A a n ca i _ ((unhide la).gr hG)).mono ?_)
    rintro r wq ⟨rfl, rfl⟩
    refine ⟨_, rfl, ?_⟩
    rw [← unhide hx]
    simp only [Act.put, List.setIfInBounds_toArray, List.set_cons_zero, List.set_cons_succ, List.getElem_toArray, List.getElem_cons_zero, List.getElem_cons_succ]
    refine list_val (.slice b m cb) (by kernel_rfl) (by kernel_rfl) ?_
    simp only [Act.put, List.setIfInBounds_toArray, List.set_cons_zero, List.set_cons_succ, List.getElem_toArray, List.getElem_cons_zero, List.getElem_cons_succ]
    refine list_val (.int .i64 i) (by kernel_rfl) (by kernel_rfl) ?_
    simp only [Act.put, List.setIfInBounds_toArray, List.set_cons_zero, List.set_cons_succ, List.getElem_toArray, List.getElem_cons_zero, List.getElem_cons_succ]
    refine list_call 54 #[.slice b m cb, .int .i64 i] (by kernel_rfl) (by kernel_rfl) ((rat_ok B b m cb i _ ((unhide lb).gr hG)).mono ?_)
    rintro r wq ⟨rfl, rfl⟩
    refine ⟨_, rfl, ?_⟩
    rw [← unhide hy]
    simp only [Act.put, List.setIfInBounds_toArray, List.set_cons_zero, List.set_cons_succ, List.getElem_toArray, List.getElem_cons_zero, List.getElem_cons_succ]
    refine list_val (.int .i64 xy) (by kernel_rfl) (by go_simp) ?_
    simp only [Act.put, List.setIfInBounds_toArray, List.set_cons_zero, List.set_cons_succ, List.getElem_toArray, List.getElem_cons_zero, List.getElem_cons_succ]
    refine list_val (.int .i64 c) (by kernel_rfl) (by kernel_rfl) ?_
    simp only [Act.put, List.setIfInBounds_toArray, List.set_cons_zero, List.set_cons_succ, List.getElem_toArray, List.getElem_cons_zero, List.getElem_cons_succ]
    refine list_val (.int .i64 s) (by kernel_rfl) (by go_simp) ?_
    simp only [Act.put, List.setIfInBounds_toArray, List.set_cons_zero, List.set_cons_succ, List.getElem_toArray, List.getElem_cons_zero, List.getElem_cons_succ]
    (refine wpList_step fun K hK => ?_; replace hK := hide hK; go_simp; refine unhide hK _ _ ?_; clear hK K)
    refine wpList_nil ?_
    replace hG := hide hG
    replace ob := hide ob
    go_upto_region 7 with fail
    replace hG := unhide hG
    replace ob := unhide ob
    refine wp_region_lit ?_
    refine list_val v (by kernel_rfl) (by kernel_rfl) ?_
    simp only [Act.put, List.setIfInBounds_toArray, List.set_cons_zero, List.set_cons_succ, List.getElem_toArray, List.getElem_cons_zero, List.getElem_cons_succ]
    refine list_val (.int .i64 s) (by kernel_rfl) (by kernel_rfl) ?_
    simp only [Act.put, List.setIfInBounds_toArray, List.set_cons_zero, List.set_cons_succ, List.getElem_toArray, List.getElem_cons_zero, List.getElem_cons_succ]
    refine list_val (.int .i64 d) (by kernel_rfl) (by go_simp) ?_
    simp only [Act.put, List.setIfInBounds_toArray, List.set_cons_zero, List.set_cons_succ, List.getElem_toArray, List.getElem_cons_zero, List.getElem_cons_succ]
    refine list_valw (.slice (some ⟨wq.heap.size, 0, none⟩) 1 1) (wq.alloc (.cells #[.int .i64 (d : Int)] 3 (0, 0))) (by kernel_rfl) (by kernel_rfl) ?_
    simp only [Act.put, List.setIfInBounds_toArray, List.set_cons_zero, List.set_cons_succ, List.getElem_toArray, List.getElem_cons_zero, List.getElem_cons_succ]
    have hnew := blk_new wq (.cells #[.int .i64 (d : Int)] 3 (0, 0))
    have hgx := (Gr.refl wq).alloc (.cells #[.int .i64 (d : Int)] 3 (0, 0))
    replace hG := hG.trans hgx
    replace ob := ob.gr hgx
    clear hgx
    generalize World.alloc _ _ = w1 at *
    generalize wq.heap.size = g1 at *
    refine app_int rfl (.tmp 34) (.tmp 37) rfl w.heap.size v L rfl ob g1 d _ rfl hnew (by omega) hG.size ?_
    intro v2 w2 ob2 hgr
    simp only [Act.put, List.setIfInBounds_toArray, List.set_cons_zero, List.set_cons_succ, List.getElem_toArray, List.getElem_cons_zero, List.getElem_cons_succ]
    replace hG := Oi.grown ob (Nat.le_refl _) hG hgr
    clear hgr hnew ob
    (refine wpList_step fun K hK => ?_; replace hK := hide hK; go_simp; refine unhide hK _ _ ?_; clear hK K)
    refine wpList_nil ?_
    replace hG := hide hG
    replace ob2 := hide ob2
    go_wp2_with fail
    go_roundw
    case rel => exact ⟨i + 1, v2, _, c2, by omega, by go_num, rfl, rfl, hL2, hB2, hV2, by omega, by omega, ob2, hG⟩
    case measure => simp [intOf]; omega
  have f1 : ¬ (i : Int) < (n : Int) := by omega
  have f2 : ¬ (i : Int) < (m : Int) := by omega
  have f3 : ¬ 0 < (c : Int) := by omega
  have hP : Hid (∃ v' L, Ending.returned v = .returned v' ∧ Oi w.heap.size wr v' L ∧ PlusP A B L ∧ Gr w wr) := by
    refine ⟨v, L, rfl, unhide ob, ⟨unhide hLB, ?_, by rw [unhide hL, unhide hn, unhide hm]; exact hi⟩, unhide hG⟩
    have h := unhide hV
    rw [show c = 0 from by omega, V_take_all A i (by rw [unhide hn]; omega), V_take_all B i (by rw [unhide hm]; omega)] at h
    exact h
  clear ob hG hL hLB hV hL2 hB2 hV2
  go_wp2_with fail
  rw [unhide hT]
  exact unhide hP
end Go.Proofs.Ytdekjbdkpchbjaa
