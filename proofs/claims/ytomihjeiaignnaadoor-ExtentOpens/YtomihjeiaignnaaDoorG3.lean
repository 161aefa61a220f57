/-
  Of layer 11: what the proofs lean on.
-/
import Derived.Lib.SlBytesConst
import Derived.Laws.IdiomStrings
import Derived.Test.YtomihjeiaignnaaDoorG2
namespace Go.Proofs.YtomihjeiaignnaaDoor
open Go.RowKit
set_option maxRecDepth 100000
set_option linter.unusedSimpArgs false
set_option linter.unusedVariables false
theorem Lb.cellAt {w : World} {a : Option Addr} {n c : Nat} {B : List Int} (h : Lb w a n c B) {k : Nat} (hk : k < n) : ∃ p o, a = some ⟨p, o, none⟩ ∧ w.cell? ⟨p, o + k, none⟩ = some (.int .u8 (B.getD k 0)) := by
  have hl := h.len
  rcases h.sl with h1 | ⟨p, o, h1, h2⟩
  · rw [h1] at hl; simp at hl; omega
  · exact ⟨p, o, h1, h2 k (by omega)⟩
theorem take_next (B : List Int) (k : Nat) (h : k < B.length) : B.take (k + 1) = B.take k ++ [B.getD k 0] := by
  rw [List.take_add_one, List.getElem?_eq_getElem h]
  simp [h]
set_option maxHeartbeats 2000000 in
theorem both_ok (A B : List Int) (a b : Option Addr) (n c m d : Nat) (hb : n + m ≤ 140737488355328) (w : World) (hA : Lb w a n c A) (hB : Lb w b m d B) : Calls Tryd.prog 44 #[.slice a n c, .slice b m d] w (Infd (A ++ B) w) := by
  obtain ⟨T, hT⟩ : ∃ T, T = Infd (A ++ B) w := ⟨_, rfl⟩
  rw [← hT]
  have la := hide hA.len
  have lb := hide hB.len
  replace hT := hide hT
  replace hA := hide hA
  replace hB := hide hB
  have w1 : IntKind.i64.wrap ((n : Int) + (m : Int)) = (n : Int) + (m : Int) := by rw [IntKind.wrap_i64]; omega
  have w2 : (0 : Int) ≤ (n : Int) + (m : Int) := by omega
  go_enter Tryd.func44, Tryd.ntmps44
  go_upto_region 1 with fail
  refine wp_region_lit ?_
  iterate 5 (refine wpList_step fun K hK => ?_; replace hK := hide hK; go_simp; refine unhide hK _ _ ?_; clear hK K)
  refine wpList_make_room w rfl (.const (.int .i64 0)) (.tmp 12) rfl 0 ((n : Int) + (m : Int)) 0 (n + m) (by kernel_rfl) (by kernel_rfl) (by omega) (by omega) (by omega) (by omega) ?_
  have hO : Ob w.heap.size (w.alloc (.cells (kc (List.replicate (n + m) 0)) 5 (0, 0))) (.slice (some ⟨w.heap.size, 0, none⟩) 0 (n + m)) (A.take 0) :=
    ⟨rfl, .inr ⟨w.heap.size, n + m, _, rfl, Nat.le_refl _, blk_new _ _, by simp, by unfold maxLen; omega, by rw [kc_size]; simp, by simp⟩⟩
  have hG := (Gr.refl w).alloc (.cells (kc (List.replicate (n + m) 0)) 5 (0, 0))
  generalize World.alloc _ _ = u at *
  simp only [Act.put, List.setIfInBounds_toArray, List.set_cons_zero, List.set_cons_succ, List.getElem_toArray, List.getElem_cons_zero, List.getElem_cons_succ]
  replace hO := hide hO
  replace hG := hide hG
  iterate 1 (refine wpList_step fun K hK => ?_; replace hK := hide hK; go_simp; refine unhide hK _ _ ?_; clear hK K)
  refine wpList_nil ?_
  go_wp2_with fail
  go_loopw [6, 5] (fun i x wr => ∃ (k : Nat) (a5 : Option Addr) (c5 : Nat), k ≤ n ∧ i = .int .i64 k ∧ x = .slice a5 k c5 ∧ Hid (Ob w.heap.size wr (.slice a5 k c5) (A.take k)) ∧ Hid (Gr w wr)) (fun i _ _ => n - (intOf i).toNat)
  case atStart => exact ⟨0, _, n + m, by omega, rfl, rfl, hO, hG⟩
  case round =>
  clear hO hG
  obtain ⟨k, a5, c5, hk, rfl, rfl, hO, hG⟩ := hrel
  by_cases hl : k < n
  · have kI : (k : Int) < (n : Int) := by omega
    have kJ : 0 ≤ (k : Int) ∧ (k : Int) < (n : Int) := by omega
    have kw : IntKind.i64.wrap ((k : Int) + 1) = (k : Int) + 1 := by rw [IntKind.wrap_i64]; omega
    obtain ⟨p, o, rfl, cc⟩ := ((unhide hA).gr (unhide hG)).cellAt hl
    have hnx := hide (take_next A k (by rw [unhide la]; exact hl))
    have htl : Hid ((A.take k).length = k) := by rw [List.length_take, unhide la]; exact Nat.min_eq_left (by omega)
    generalize A.getD k 0 = x at *
    go_upto_region 5 with fail
    refine wp_region_lit ?_
    iterate 6 (refine wpList_step fun K hK => ?_; replace hK := hide hK; go_simp; refine unhide hK _ _ ?_; clear hK K)
    have hO2 := (unhide hO).gr ((Gr.refl wr).alloc (.cells #[.int .u8 x] 5))
    refine app_bs (by kernel_rfl) (.tmp 20) (.tmp 25) rfl w.heap.size (.slice a5 k c5) (A.take k) (by kernel_rfl) hO2 (some ⟨wr.heap.size, 0, none⟩) 1 1 [x] (by kernel_rfl) rfl (.inr ⟨_, 0, rfl, kc_at (l := [x]) (blk_new _ _)⟩) (by rw [unhide htl]; omega) (by have := (unhide hG).size; simp only [size_alloc]; omega) ?_
    intro v' w2 hO3 hgb
    have hG4 := hO2.grown (Nat.le_refl _) ((unhide hG).alloc _) hgb
    rw [← unhide hnx] at hO3
    obtain ⟨a6, c6, hv', _, _, _⟩ := hO3.slice
    have hl2 : (A.take (k + 1)).length = k + 1 := by rw [List.length_take, unhide la]; omega
    rw [hl2] at hv'
    subst hv'
    clear hO hG hO2 hgb hl2 htl hnx
    replace hO3 := hide hO3
    replace hG4 := hide hG4
    simp only [Act.put, List.setIfInBounds_toArray, List.set_cons_zero, List.set_cons_succ, List.getElem_toArray, List.getElem_cons_zero, List.getElem_cons_succ]
    iterate 1 (refine wpList_step fun K hK => ?_; replace hK := hide hK; go_simp; refine unhide hK _ _ ?_; clear hK K)
    refine wpList_nil ?_
    go_wp2_with fail
    exact ⟨⟨k + 1, a6, c6, by omega, by congr 1, rfl, hO3, hG4⟩, by show n - ((k : Int) + 1).toNat < n - (k : Int).toNat; omega⟩
  · have e : k = n := by omega
    subst e
    have hO2 : Hid (Ob w.heap.size wr (.slice a5 (k + 0) c5) (A ++ B.take 0)) := by
      have h := unhide hO
      rw [List.take_of_length_le (by rw [unhide la]; omega)] at h
      rw [List.take_zero, List.append_nil]
      exact h
    clear hO hl
    go_wp2_with fail
    go_loopw [7, 5] (fun i x wr => ∃ (j : Nat) (a5 : Option Addr) (c5 : Nat), j ≤ m ∧ i = .int .i64 j ∧ x = .slice a5 (k + j) c5 ∧ Hid (Ob w.heap.size wr (.slice a5 (k + j) c5) (A ++ B.take j)) ∧ Hid (Gr w wr)) (fun i _ _ => m - (intOf i).toNat)
    case atStart => exact ⟨0, a5, c5, by omega, rfl, rfl, hO2, hG⟩
    case round =>
    clear hO2 hG
    obtain ⟨j, a5, c5, hj, rfl, rfl, hO, hG⟩ := hrel
    by_cases hl : j < m
    · have kI : (j : Int) < (m : Int) := by omega
      have kJ : 0 ≤ (j : Int) ∧ (j : Int) < (m : Int) := by omega
      have kw : IntKind.i64.wrap ((j : Int) + 1) = (j : Int) + 1 := by rw [IntKind.wrap_i64]; omega
      obtain ⟨p, o, rfl, cc⟩ := ((unhide hB).gr (unhide hG)).cellAt hl
      have hnx := hide (take_next B j (by rw [unhide lb]; exact hl))
      have htl : Hid ((A ++ B.take j).length = k + j) := by rw [List.length_append, List.length_take, unhide la, unhide lb, Nat.min_eq_left (by omega)]; exact rfl
      generalize B.getD j 0 = x at *
      go_upto_region 9 with fail
      refine wp_region_lit ?_
      iterate 6 (refine wpList_step fun K hK => ?_; replace hK := hide hK; go_simp; refine unhide hK _ _ ?_; clear hK K)
      have hO2 := (unhide hO).gr ((Gr.refl wr).alloc (.cells #[.int .u8 x] 5))
      refine app_bs (by kernel_rfl) (.tmp 33) (.tmp 38) rfl w.heap.size (.slice a5 (k + j) c5) (A ++ B.take j) (by kernel_rfl) hO2 (some ⟨wr.heap.size, 0, none⟩) 1 1 [x] (by kernel_rfl) rfl (.inr ⟨_, 0, rfl, kc_at (l := [x]) (blk_new _ _)⟩) (by rw [unhide htl]; omega) (by have := (unhide hG).size; simp only [size_alloc]; omega) ?_
      intro v' w2 hO3 hgb
      have hG4 := hO2.grown (Nat.le_refl _) ((unhide hG).alloc _) hgb
      rw [List.append_assoc, ← unhide hnx] at hO3
      obtain ⟨a6, c6, hv', _, _, _⟩ := hO3.slice
      have hl2 : (A ++ B.take (j + 1)).length = k + (j + 1) := by rw [List.length_append, List.length_take, unhide la, unhide lb]; omega
      rw [hl2] at hv'
      subst hv'
      clear hO hG hO2 hgb hl2 htl hnx
      replace hO3 := hide hO3
      replace hG4 := hide hG4
      simp only [Act.put, List.setIfInBounds_toArray, List.set_cons_zero, List.set_cons_succ, List.getElem_toArray, List.getElem_cons_zero, List.getElem_cons_succ]
      iterate 1 (refine wpList_step fun K hK => ?_; replace hK := hide hK; go_simp; refine unhide hK _ _ ?_; clear hK K)
      refine wpList_nil ?_
      go_wp2_with fail
      exact ⟨⟨j + 1, a6, c6, by omega, by congr 1, rfl, hO3, hG4⟩, by show m - ((j : Int) + 1).toNat < m - (j : Int).toNat; omega⟩
    · have e : j = m := by omega
      subst e
      have hP : Hid (Infd (A ++ B) w (.returned (.slice a5 (k + j) c5)) wr) := by
        have h := unhide hO
        rw [List.take_of_length_le (by rw [unhide lb]; omega)] at h
        exact ⟨_, rfl, h, unhide hG⟩
      clear hO hG hl
      go_wp2_with fail
      rw [unhide hT]
      exact unhide hP
def lfz (X : Nat) (n k : Nat) : List Int := lowL (X : Int) k ++ List.replicate (n - k) 0
theorem lfz_len (X n k : Nat) (h : k ≤ n) : (lfz X n k).length = n := by unfold lfz; simp [lowL_len]; omega
theorem lfz_set (X n k : Nat) (h : k < n) : (lfz X n k).set k ((X : Int) / 256 ^ k % 256) = lfz X n (k + 1) := by
  unfold lfz
  rw [List.set_append_right _ _ (by rw [lowL_len]; exact Nat.le_refl _), lowL_len, Nat.sub_self, lowL_snoc, show n - k = (n - (k + 1)) + 1 from by omega, List.replicate_succ, List.set_cons_zero, List.append_assoc]
  rfl
theorem lfz_all (X n : Nat) : lfz X n n = lowL (X : Int) n := by unfold lfz; simp
def Nwb (L : List Int) (n : Nat) (w : World) (r : Ending) (w' : World) : Prop := ∃ g, r = .returned (.slice (some ⟨g, 0, none⟩) n n) ∧ w.heap.size ≤ g ∧ w'.heap[g]? = some (.cells (kc L) 5 (0, 0)) ∧ Gr w w'
set_option maxHeartbeats 2000000 in
theorem rlow_ok (X n : Nat) (hX : X < 18446744073709551616) (hn : n ≤ 8) (w : World) : Calls Tryd.prog 49 #[.int .u64 X, .int .i64 n] w (Nwb (lowL (X : Int) n) n w) := by
  obtain ⟨T, hT⟩ : ∃ T, T = Nwb (lowL (X : Int) n) n w := ⟨_, rfl⟩
  rw [← hT]
  replace hT := hide hT
  go_enter Tryd.func49, Tryd.ntmps49
  go_upto_region 1 with fail
  refine wp_region_lit ?_
  iterate 1 (refine wpList_step fun K hK => ?_; replace hK := hide hK; go_simp; refine unhide hK _ _ ?_; clear hK K)
  refine wpList_make_room w rfl (.tmp 7) (.tmp 7) rfl n n n n (by kernel_rfl) (by kernel_rfl) (by omega) (by omega) (by omega) (by omega) ?_
  have hv := blk_new w (.cells (kc (List.replicate n 0)) 5 (0, 0))
  have hg := (Gr.refl w).alloc (.cells (kc (List.replicate n 0)) 5 (0, 0))
  generalize World.alloc _ _ = u1 at *
  simp only [Act.put, List.setIfInBounds_toArray, List.set_cons_zero, List.set_cons_succ, List.getElem_toArray, List.getElem_cons_zero, List.getElem_cons_succ]
  have hz : lfz X n 0 = List.replicate n 0 := by unfold lfz; simp [lowL]
  rw [← hz] at hv
  clear hz
  replace hv := hide hv
  replace hg := hide hg
  iterate 1 (refine wpList_step fun K hK => ?_; replace hK := hide hK; go_simp; refine unhide hK _ _ ?_; clear hK K)
  refine wpList_nil ?_
  go_wp2_with fail
  go_loopw [6, 0] (fun i x wr => ∃ k : Nat, k ≤ n ∧ i = .int .i64 (k : Int) ∧ x = .int .u64 ((X / 256 ^ k : Nat) : Int) ∧ Hid (wr.heap[w.heap.size]? = some (.cells (kc (lfz X n k)) 5 (0, 0))) ∧ Hid (Gr w wr)) (fun i _ _ => n - (intOf i).toNat)
  case atStart => exact ⟨0, by omega, rfl, by simp, hv, hg⟩
  case round =>
  clear hv hg
  obtain ⟨k, hk, rfl, rfl, hv, hg⟩ := hrel
  by_cases hlt : k < n
  · obtain ⟨Y, hY⟩ : ∃ Y, Y = X / 256 ^ k := ⟨_, rfl⟩
    obtain ⟨y, hy⟩ : ∃ y : Int, y = ((Y % 256 : Nat) : Int) := ⟨_, rfl⟩
    have hYb : Y < 18446744073709551616 := by rw [hY]; exact Nat.lt_of_le_of_lt (Nat.div_le_self _ _) hX
    have q1 : (k : Int) < (n : Int) := by omega
    have q3 : 0 ≤ (k : Int) ∧ (k : Int) < (n : Int) := by omega
    have q4 : IntKind.i64.wrap ((k : Int) + 1) = (k : Int) + 1 := by rw [IntKind.wrap_i64]; omega
    obtain ⟨Z, hZ⟩ : ∃ Z, Z = X / 256 ^ (k + 1) := ⟨_, rfl⟩
    have e2 : (Y : Int) / 256 = (Z : Int) := by rw [hZ, hY, Nat.pow_succ, ← Nat.div_div_eq_div_mul]; omega
    have e3 : (Y : Int).tdiv 256 = (Z : Int) := by rw [Int.tdiv_eq_ediv_of_nonneg (by omega)]; exact e2
    have e4 : (Y : Int).tmod 256 = y := by rw [Int.tmod_eq_emod_of_nonneg (by omega), hy]; omega
    have e5 : (Y : Int) % 256 = y := by rw [hy]; omega
    have e6 : IntKind.u64.wrap y = y := by rw [IntKind.wrap_u64]; omega
    have e7 : IntKind.u8.wrap y = y := by rw [IntKind.wrap_u8']; omega
    have e8 : IntKind.u64.wrap (Z : Int) = (Z : Int) := by rw [IntKind.wrap_u64]; omega
    have cs := kc_cell (unhide hv) k (by rw [lfz_len _ _ _ (by omega)]; omega)
    have fs := froz_of (i := k) (unhide hv)
    have hv2 := heap_setCell_same wr w.heap.size k _ _ (.int .u8 y) (unhide hv)
    rw [kc_set] at hv2
    have hnx : (lfz X n k).set k y = lfz X n (k + 1) := by
      have h := lfz_set X n k hlt
      have e9 : (X : Int) / 256 ^ k % 256 = y := by rw [hy, hY]; simp
      rw [e9] at h
      exact h
    rw [hnx] at hv2
    have hg2 := (setCells_bt [.int .u8 y] wr w.heap.size k).gr (unhide hg) (Nat.le_refl _)
    replace hg2 : Hid (Gr w (wr.setCell ⟨w.heap.size, k, none⟩ (.int .u8 y))) := hg2
    replace hv2 := hide hv2
    clear hv hg hnx
    rw [← hY]
    replace hZ := hide hZ; replace hY := hide hY; replace hy := hide hy
    generalize (lfz X n k).getD k 0 = z at cs
    go_wp2_with fail
    go_roundw
    case rel => exact ⟨k + 1, by omega, by go_num, by rw [← unhide hZ], hv2, hg2⟩
    case measure => simp [intOf]; omega
  · have e : k = n := by omega
    subst e
    have q1 : ¬ (k : Int) < (k : Int) := by omega
    have hP : Hid (Nwb (lowL (X : Int) k) k w (.returned (.slice (some ⟨w.heap.size, 0, none⟩) k k)) wr) := by
      have h := unhide hv
      rw [lfz_all] at h
      exact ⟨_, rfl, Nat.le_refl _, h, unhide hg⟩
    clear hv hg
    go_wp2_with fail
    rw [unhide hT]
    exact unhide hP
set_option maxHeartbeats 1000000 in
theorem rsame_ok (A B : List Int) (a b : Option Addr) (n m c d : Nat) (w : World) (ha : Lb w a n c A) (hb : Lb w b m d B) (hn : n < 4611686018427387904) : Calls Tryd.prog 19 #[.slice a n c, .slice b m d] w (Vl (.bool (decide (A = B))) w) := by
  obtain ⟨T, hT⟩ : ∃ T, T = Vl (.bool (decide (A = B))) w := ⟨_, rfl⟩
  rw [← hT]
  replace hT := hide hT
  have hla := ha.len
  have hlb := hb.len
  replace ha := hide ha; replace hb := hide hb; replace hla := hide hla; replace hlb := hide hlb
  go_enter Tryd.func19, Tryd.ntmps19
  by_cases hnm : n = m
  case neg =>
    have nI : ¬ (n : Int) = (m : Int) := by omega
    have hP : Hid (Vl (.bool (decide (A = B))) w (.returned (.bool false)) w) := by
      have hne : ¬ A = B := fun e => hnm (by rw [← unhide hla, ← unhide hlb, e])
      refine ⟨?_, Gr.refl w⟩
      rw [decide_eq_false hne]
    go_wp2_with fail
    rw [unhide hT]
    exact unhide hP
  case pos =>
    subst hnm
    go_wp2_with fail
    go_loopw [5] (fun i wr => ∃ k : Nat, k ≤ n ∧ i = .int .i64 k ∧ Hid (A.take k = B.take k) ∧ Hid (Gr w wr)) (fun i _ => n - (intOf i).toNat)
    case atStart => exact ⟨0, by omega, rfl, by show A.take 0 = B.take 0; simp, Gr.refl w⟩
    case round =>
    obtain ⟨k, hk, rfl, hpre, hG⟩ := hrel
    by_cases hl : k < n
    · have kI : (k : Int) < (n : Int) := by omega
      have kJ : 0 ≤ (k : Int) ∧ (k : Int) < (n : Int) := by omega
      have kw : IntKind.i64.wrap ((k : Int) + 1) = (k : Int) + 1 := by rw [IntKind.wrap_i64]; omega
      obtain ⟨p, o, rfl, h1⟩ := ((unhide ha).gr (unhide hG)).cellAt hl
      obtain ⟨p2, o2, rfl, h2⟩ := ((unhide hb).gr (unhide hG)).cellAt hl
      have ta := take_next A k (by rw [unhide hla]; exact hl)
      have tb := take_next B k (by rw [unhide hlb]; exact hl)
      have hgA : Hid (A[k]? = some (A.getD k 0)) := by show A[k]? = _; rw [List.getD_eq_getElem?_getD, List.getElem?_eq_getElem (by rw [unhide hla]; exact hl)]; rfl
      have hgB : Hid (B[k]? = some (B.getD k 0)) := by show B[k]? = _; rw [List.getD_eq_getElem?_getD, List.getElem?_eq_getElem (by rw [unhide hlb]; exact hl)]; rfl
      generalize A.getD k 0 = x at *
      generalize B.getD k 0 = y at *
      replace ta := hide ta; replace tb := hide tb
      by_cases hxy : x = y
      · subst hxy
        have hp2 : Hid (A.take (k + 1) = B.take (k + 1)) := by show A.take (k + 1) = B.take (k + 1); rw [unhide ta, unhide tb, unhide hpre]
        go_wp2_with fail
        go_quiet (fail)
        replace hG := hide ((unhide hG).drewN nq)
        clear h1 h2
        generalize World.drewN _ _ = v at *
        go_wp2_with fail
        go_roundw
        case rel => exact ⟨k + 1, by omega, by go_num, hp2, hG⟩
        case measure => simp [intOf]; omega
      · have hne : Hid (¬ A = B) := fun e => hxy (by
          have h3 := unhide hgA
          rw [e, unhide hgB] at h3
          exact (Option.some.inj h3).symm)
        go_wp2_with fail
        go_quiet (fail)
        replace hG := hide ((unhide hG).drewN nq)
        clear h1 h2
        generalize World.drewN _ _ = v at *
        have hP : Hid (Vl (.bool (decide (A = B))) w (.returned (.bool false)) v) := by
          refine ⟨?_, unhide hG⟩
          rw [decide_eq_false (unhide hne)]
        go_wp2_with fail
        rw [unhide hT]
        exact unhide hP
    · have kI : ¬ (k : Int) < (n : Int) := by omega
      have hP : Hid (Vl (.bool (decide (A = B))) w (.returned (.bool true)) wr) := by
        have h := unhide hpre
        rw [List.take_of_length_le (by rw [unhide hla]; omega), List.take_of_length_le (by rw [unhide hlb]; omega)] at h
        refine ⟨?_, unhide hG⟩
        rw [decide_eq_true h]
      go_wp2_with fail
      rw [unhide hT]
      exact unhide hP
set_option maxHeartbeats 4000000 in
theorem rshort_ok (B : List Int) (a : Option Addr) (n c : Nat) (w : World) (hB : Lb w a n c B) (hn : n ≤ 170000000000000) : Calls Tryd.prog 45 #[.slice a n c] w (Infd (sh16 B) w) := by
  obtain ⟨T, hT⟩ : ∃ T, T = Infd (sh16 B) w := ⟨_, rfl⟩
  rw [← hT]
  replace hT := hide hT
  replace hB := hide hB
  go_enter Tryd.func45, Tryd.ntmps45
  go_upto_region 1 with fail
  refine wp_region_lit ?_
  refine list_val (.slice a n c) (by kernel_rfl) (by kernel_rfl) ?_
  simp only [Act.put, List.setIfInBounds_toArray, List.set_cons_zero, List.set_cons_succ, List.getElem_toArray, List.getElem_cons_zero, List.getElem_cons_succ]
  refine list_call 64 #[.slice a n c] (by kernel_rfl) (by kernel_rfl) ((rsum_ok B (unhide hB).isB n (unhide hB).len (by omega) a c _ (unhide hB).sl).mono ?_)
  rintro r u1 ⟨rfl, hg⟩
  refine ⟨_, rfl, ?_⟩
  have hXl := sumL_len B
  have hXb := sumL_isB B
  have hX16 : Hid (sh16 B = (sumL B).take 16) := rfl
  generalize sumL B = X at *
  have hB2 := (Bl.nil w).more hg
  clear hg
  replace hXb := hide hXb
  simp only [Act.put, List.setIfInBounds_toArray, List.set_cons_zero, List.set_cons_succ, List.getElem_toArray, List.getElem_cons_zero, List.getElem_cons_succ]
  refine list_valw (.pointer (some ⟨u1.heap.size, 0, none⟩)) (u1.alloc (.cells (kc (List.replicate 32 0)) 113 (0, 0))) (by kernel_rfl) (by kernel_rfl) ?_
  replace hB2 := hB2.new (kc (List.replicate 32 0)) 113
  simp only [List.nil_append, List.cons_append] at hB2
  generalize World.alloc _ _ = u2 at *
  generalize u1.heap.size = gk at *
  simp only [Act.put, List.setIfInBounds_toArray, List.set_cons_zero, List.set_cons_succ, List.getElem_toArray, List.getElem_cons_zero, List.getElem_cons_succ]
  refine list_store 113 (.tmp 3) (.tmp 5) gk (kc X) 113 (kc (List.replicate 32 0)) (by kernel_rfl) rfl (by kernel_rfl) (by kernel_rfl) (hB2.get 0 (x := ⟨gk, kc (List.replicate 32 0), 113⟩) rfl) (by rw [Tryd.infoKy, kc_size, hXl]) ((show (kc (List.replicate 32 0)).size = 32 from rfl).trans ((kc_size _).trans hXl).symm) (kc_one _) ?_
  replace hB2 := hB2.set 0 (x := ⟨gk, kc (List.replicate 32 0), 113⟩) rfl (kc X)
  simp only [List.set_cons_zero, List.set_cons_succ] at hB2
  generalize World.setRow _ _ _ = u3 at *
  simp only [Act.put, List.setIfInBounds_toArray, List.set_cons_zero, List.set_cons_succ, List.getElem_toArray, List.getElem_cons_zero, List.getElem_cons_succ]
  refine wpList_nil ?_
  replace hB2 := hide hB2
  go_upto_region 2 with fail
  replace hB2 := unhide hB2
  refine wp_region_lit ?_
  refine list_val (.slice (some ⟨gk, 0, none⟩) 16 32) (by kernel_rfl) (by kernel_rfl) ?_
  simp only [Act.put, List.setIfInBounds_toArray, List.set_cons_zero, List.set_cons_succ, List.getElem_toArray, List.getElem_cons_zero, List.getElem_cons_succ]
  have hL16 : Lb u3 (some ⟨gk, 0, none⟩) 16 32 (X.take 16) := by
    have h := kc_at (hB2.get 0 (x := ⟨gk, kc X, 113⟩) rfl)
    refine ⟨by rw [List.length_take, hXl]; rfl, fun x hx => unhide hXb x (List.mem_of_mem_take hx), .inr ⟨gk, 0, rfl, fun j hj => ?_⟩, by omega, by omega⟩
    rw [List.length_take] at hj
    have hj2 : j < X.length := by omega
    rw [h j hj2, List.getD_eq_getElem?_getD, List.getD_eq_getElem?_getD, List.getElem?_take, if_pos (by omega)]
  refine list_call 44 #[.slice (some ⟨gk, 0, none⟩) 16 32, .slice none 0 0] (by kernel_rfl) (by kernel_rfl) ((both_ok (X.take 16) [] (some ⟨gk, 0, none⟩) none 16 32 0 0 (by omega) _ hL16 (Lb.nil _)).mono ?_)
  rintro r u4 ⟨v4, rfl, hO, hg⟩
  refine ⟨_, rfl, ?_⟩
  rw [List.append_nil] at hO
  simp only [Act.put, List.setIfInBounds_toArray, List.set_cons_zero, List.set_cons_succ, List.getElem_toArray, List.getElem_cons_zero, List.getElem_cons_succ]
  (refine wpList_step fun K hK => ?_; replace hK := hide hK; go_simp; refine unhide hK _ _ ?_; clear hK K)
  refine wpList_nil ?_
  have hZ : Hid (Infd (sh16 B) w (.returned v4) u4) := by
    refine ⟨v4, rfl, ?_, hB2.gr.trans hg⟩
    rw [unhide hX16]
    exact ob_base hO hB2.gr.size
  clear hO hg hB2 hL16
  go_wp2_with fail
  rw [unhide hT]
  exact unhide hZ
def lenOf : Value → Nat
  | .slice _ n _ => n
  | _ => 0
theorem sp_whole (C L : List Value) (h : C.length = L.length) : sp C 0 L = L := by
  apply List.ext_getElem?
  intro i
  rw [sp_get L C 0 i (by omega)]
  by_cases hi : i < L.length
  · rw [if_pos ⟨Nat.zero_le _, by omega⟩, Nat.sub_zero]
  · rw [if_neg (by omega), List.getElem?_eq_none (by omega), List.getElem?_eq_none (by omega)]
theorem Bl.grownB {w v v' : World} {L : List Blk} (h : Bl w L v) {x : Value} {R : List Int} (ho : Ob w.heap.size v x R) (g : v.grownBy v' x.ownBlock) (ht : ∀ y ∈ L, y.t ≠ 5) : Bl w L v' := by
  refine ⟨ho.grown (Nat.le_refl _) h.gr g, fun y hy => ⟨?_, (h.at_ y hy).2⟩, h.ne⟩
  have h1 := (h.at_ y hy).1
  rw [g.block y.g (lt_of_block h1) ?_]
  · exact h1
  · intro e2
    rcases ho.2 with ⟨rfl, _⟩ | ⟨p, cap, cur, rfl, _, h4, _⟩
    · simp [Value.ownBlock] at e2
    · have e3 : y.g = p := by simpa [Value.ownBlock] using e2
      rw [e3, h4] at h1
      have := Option.some.inj h1
      unfold Blk.obj at this
      injection this with _ h6 _
      exact ht y hy h6.symm
theorem lowN_drop {B : List Int} {j : Nat} (h : j < B.length) : lowN (B.drop j) = B.getD j 0 + 256 * lowN (B.drop (j + 1)) := by
  rw [List.drop_eq_getElem_cons h, lowN, List.getD_eq_getElem?_getD, List.getElem?_eq_getElem h]
  rfl
theorem lowN_small {B : List Int} (h : IsB B) (hn : B.length ≤ 8) {j : Nat} (hj : 1 ≤ j) : 0 ≤ lowN (B.drop j) ∧ lowN (B.drop j) < 72057594037927936 := by
  have h1 := lowN_bd _ (isB_drop h j)
  rw [List.length_drop] at h1
  refine ⟨h1.1, Int.lt_of_lt_of_le h1.2 ?_⟩
  have e : B.length - j = 0 ∨ B.length - j = 1 ∨ B.length - j = 2 ∨ B.length - j = 3 ∨ B.length - j = 4 ∨ B.length - j = 5 ∨ B.length - j = 6 ∨ B.length - j = 7 := by omega
  rcases e with e | e | e | e | e | e | e | e <;> rw [e] <;> decide
set_option maxHeartbeats 2000000 in
theorem rhigh_ok (B : List Int) (a : Option Addr) (n c : Nat) (w : World) (hB : Lb w a n c B) (hn : n ≤ 8) : Calls Tryd.prog 68 #[.slice a n c] w (Vl (.int .u64 (lowN B)) w) := by
  obtain ⟨T, hT⟩ : ∃ T, T = Vl (.int .u64 (lowN B)) w := ⟨_, rfl⟩
  rw [← hT]
  replace hT := hide hT
  have hl := hB.len
  have hb := hB.isB
  have z8 : lowN (B.drop 8) = 0 := by rw [List.drop_eq_nil_of_le (by omega)]; rfl
  replace hB := hide hB; replace hl := hide hl; replace hb := hide hb
  go_enter Tryd.func68, Tryd.ntmps68
  go_wp2_with fail
  go_loopw [3, 4] (fun x i wr => ∃ (j : Nat) (q X : Int), j ≤ 8 ∧ i = .int .i64 q ∧ q = (j : Int) - 1 ∧ x = .int .u64 X ∧ Hid (X = lowN (B.drop j)) ∧ Hid (Gr w wr)) (fun _ i _ => (intOf i + 1).toNat)
  case atStart => exact ⟨8, 7, 0, by omega, rfl, by omega, rfl, z8.symm, Gr.refl w⟩
  case round =>
  obtain ⟨j, q, X, hj, rfl, hq, rfl, hX, hG⟩ := hrel
  rcases j with _ | j
  · obtain rfl : q = -1 := by omega
    clear hq
    have hP : Hid (Vl (.int .u64 (lowN B)) w (.returned (.int .u64 X)) wr) := by
      refine ⟨?_, unhide hG⟩
      rw [unhide hX, List.drop_zero]
    go_wp2_with fail
    rw [unhide hT]
    exact unhide hP
  · obtain rfl : q = (j : Int) := by omega
    clear hq
    have j0 : 0 ≤ (j : Int) := by omega
    have hbd := lowN_small (unhide hb) (by rw [unhide hl]; exact hn) (j := j + 1) (by omega)
    rw [← unhide hX] at hbd
    have e1 : IntKind.u64.wrap (X * 256) = X * 256 := by rw [IntKind.wrap_u64]; omega
    obtain ⟨q9, hq9⟩ : ∃ q : Int, q = (j : Int) - 1 := ⟨_, rfl⟩
    have hq8 : IntKind.i64.wrap ((j : Int) - 1) = q9 := by rw [IntKind.wrap_i64]; omega
    by_cases hjn : j < n
    · have jI : (j : Int) < (n : Int) := by omega
      have jJ : 0 ≤ (j : Int) ∧ (j : Int) < (n : Int) := by omega
      obtain ⟨p, o, rfl, h1⟩ := ((unhide hB).gr (unhide hG)).cellAt hjn
      have hd := lowN_drop (B := B) (j := j) (by rw [unhide hl]; exact hjn)
      have hx := (unhide hb) (B.getD j 0) (by rw [List.getD_eq_getElem?_getD, List.getElem?_eq_getElem (by rw [unhide hl]; exact hjn)]; exact List.getElem_mem _)
      rw [← unhide hX] at hd
      generalize B.getD j 0 = y at *
      obtain ⟨Z, hZ⟩ : ∃ Z : Int, Z = X * 256 + y := ⟨_, rfl⟩
      have e2 : IntKind.u64.wrap y = y := by rw [IntKind.wrap_u64]; omega
      have e3 : IntKind.u64.wrap (X * 256 + y) = Z := by rw [IntKind.wrap_u64]; omega
      have hX2 : Hid (Z = lowN (B.drop j)) := by show Z = _; rw [hd, hZ]; omega
      replace hd := hide hd; replace hZ := hide hZ
      clear hX
      go_wp2_with fail
      go_roundw
      case rel => exact ⟨j, q9, Z, by omega, by rw [hq9], hq9, by first | rfl | rw [unhide hZ], hX2, hG⟩
      case measure => simp [intOf] <;> omega
    · have jI : ¬ (j : Int) < (n : Int) := by omega
      have hz1 : lowN (B.drop (j + 1)) = 0 := by rw [List.drop_eq_nil_of_le (by rw [unhide hl]; omega)]; rfl
      have hz2 : lowN (B.drop j) = 0 := by rw [List.drop_eq_nil_of_le (by rw [unhide hl]; omega)]; rfl
      obtain rfl : X = 0 := by rw [unhide hX]; exact hz1
      have hX2 : Hid (0 = lowN (B.drop j)) := hz2.symm
      clear hX hz1 hz2 e1
      go_wp2_with fail
      go_roundw
      case rel => exact ⟨j, q9, 0, by omega, by rw [hq9], hq9, by first | rfl | go_num, hX2, hG⟩
      case measure => simp [intOf] <;> omega
theorem Tryd.infoRd11 : (Tryd.prog.info? 38).map (·.size) = some 1 := by kernel_rfl
set_option maxHeartbeats 1000000 in
theorem rhalf_ok (a : Option Addr) (n c : Nat) (h2 : 2 ≤ n) (hn : n ≤ 1000000) (w : World) : Calls Tryd.prog 43 #[.agg #[.slice a n c]] w (Vl (.int .i64 (((n - 2) / 4 : Nat) : Int)) w) := by
  obtain ⟨T, hT⟩ : ∃ T, T = Vl (.int .i64 (((n - 2) / 4 : Nat) : Int)) w := ⟨_, rfl⟩
  rw [← hT]
  replace hT := hide hT
  obtain ⟨h, hh⟩ : ∃ h, h = (n - 2) / 4 := ⟨_, rfl⟩
  obtain ⟨m, hm⟩ : ∃ m, m = n - 2 := ⟨_, rfl⟩
  have e1 : IntKind.i64.wrap ((n : Int) - 2) = (m : Int) := by rw [IntKind.wrap_i64]; omega
  have e2 : IntKind.i64.wrap ((m : Int).tdiv 4) = (h : Int) := by rw [Int.tdiv_eq_ediv_of_nonneg (by omega), IntKind.wrap_i64]; omega
  have e4 : IntKind.i64.wrap (h : Int) = (h : Int) := by rw [IntKind.wrap_i64]; omega
  have e3 : (m : Int).tdiv 4 = (h : Int) := by rw [Int.tdiv_eq_ediv_of_nonneg (by omega)]; omega
  replace hh := hide hh; replace hm := hide hm
  go_enter Tryd.func43, Tryd.ntmps43
  go_upto_region 1 with fail
  have hB := ((Bl.nil w).new #[.slice a n c] 38)
  simp only [size_alloc, List.nil_append, List.cons_append] at hB
  generalize World.alloc _ _ = u at *
  replace hB : Bl w [⟨w.heap.size, #[.slice a n c], 38⟩] u := hB
  refine wp_region_lit ?_
  refine list_val (.pointer (some ⟨w.heap.size, 0, none⟩)) (by kernel_rfl) (by kernel_rfl) ?_
  simp only [Act.put, List.setIfInBounds_toArray, List.set_cons_zero, List.set_cons_succ, List.getElem_toArray, List.getElem_cons_zero, List.getElem_cons_succ]
  refine list_val (.slice a n c) (by kernel_rfl) (exec_sb _ (.tmp 3) rfl (w.heap.size) 0 (by kernel_rfl) a n c (cell_of (hB.get 0 (x := ⟨w.heap.size, #[.slice a n c], 38⟩) rfl) (i := 0) rfl)) ?_
  simp only [Act.put, List.setIfInBounds_toArray, List.set_cons_zero, List.set_cons_succ, List.getElem_toArray, List.getElem_cons_zero, List.getElem_cons_succ]
  refine list_val (.int .i64 n) (by kernel_rfl) (by kernel_rfl) ?_
  simp only [Act.put, List.setIfInBounds_toArray, List.set_cons_zero, List.set_cons_succ, List.getElem_toArray, List.getElem_cons_zero, List.getElem_cons_succ]
  refine list_val (.int .i64 m) (by kernel_rfl) (by go_simp) ?_
  simp only [Act.put, List.setIfInBounds_toArray, List.set_cons_zero, List.set_cons_succ, List.getElem_toArray, List.getElem_cons_zero, List.getElem_cons_succ]
  refine list_val (.int .i64 h) (by kernel_rfl) (by go_simp) ?_
  simp only [Act.put, List.setIfInBounds_toArray, List.set_cons_zero, List.set_cons_succ, List.getElem_toArray, List.getElem_cons_zero, List.getElem_cons_succ]
  (refine wpList_step fun K hK => ?_; replace hK := hide hK; go_simp; refine unhide hK _ _ ?_; clear hK K)
  refine wpList_nil ?_
  have hZ : Hid (Vl (.int .i64 (((n - 2) / 4 : Nat) : Int)) w (.returned (.int .i64 h)) u) := ⟨by rw [unhide hh], hB.gr⟩
  replace hB := hide hB
  go_wp2_with fail
  rw [unhide hT]
  exact unhide hZ
set_option maxHeartbeats 4000000 in
theorem rblock_ok (p t : Nat) (hp : p < 2) (ht : t < 18446744073709551616) (L : List Int) (a : Option Addr) (n c : Nat) (w : World) (hL : Lb w a n c L) (hn : n ≤ 170000000000000) : Calls Tryd.prog 22 #[.int .i64 p, .int .u64 t, .slice a n c] w (Vl (.agg (kc (Sup.blk ⟨p, t, n, sh16 L⟩))) w) := by
  obtain ⟨T, hT⟩ : ∃ T, T = Vl (.agg (kc (Sup.blk ⟨p, t, n, sh16 L⟩))) w := ⟨_, rfl⟩
  rw [← hT]
  replace hT := hide hT
  have hpw : IntKind.u8.wrap (p : Int) = (p : Int) := by rw [IntKind.wrap_u8']; omega
  have hnw : IntKind.u64.wrap (n : Int) = (n : Int) := by rw [IntKind.wrap_u64]; omega
  have hsl := sh16_len L
  have hsb := sh16_isB L (sumL_isB L)
  obtain ⟨S, hS⟩ : ∃ S, S = sh16 L := ⟨_, rfl⟩
  rw [← hS] at hsl hsb
  replace hL := hide hL; replace hS := hide hS; replace hsb := hide hsb
  obtain ⟨C, hC⟩ : ∃ C, C = Sup.b48 ⟨p, t, n, S⟩ := ⟨_, rfl⟩
  have hCe : C = (((htr ++ [(p : Int), 0]) ++ lowL (t : Int) 8) ++ lowL (n : Int) 4) ++ S ++ List.replicate 8 0 := by
    rw [hC]
    unfold Sup.b48
    simp only [List.append_assoc]
  have hCl : C.length = 48 := by rw [hC]; exact Sup.b48_len _ hsl
  have hT2 : Hid (T = Vl (.agg (kc (C ++ sh16 C))) w) := by
    show T = _
    rw [unhide hT, ← unhide hS, hC]
    rfl
  replace hC := hide hC; replace hCe := hide hCe
  go_enter Tryd.func22, Tryd.ntmps22
  go_upto_region 1 with fail
  have hB := ((Bl.nil w).new #[.int .u8 0, .int .u8 0, .int .u8 0, .int .u8 0, .int .u8 0, .int .u8 0, .int .u8 0, .int .u8 0, .int .u8 0, .int .u8 0, .int .u8 0, .int .u8 0, .int .u8 0, .int .u8 0, .int .u8 0, .int .u8 0, .int .u8 0, .int .u8 0, .int .u8 0, .int .u8 0, .int .u8 0, .int .u8 0, .int .u8 0, .int .u8 0, .int .u8 0, .int .u8 0, .int .u8 0, .int .u8 0, .int .u8 0, .int .u8 0, .int .u8 0, .int .u8 0, .int .u8 0, .int .u8 0, .int .u8 0, .int .u8 0, .int .u8 0, .int .u8 0, .int .u8 0, .int .u8 0, .int .u8 0, .int .u8 0, .int .u8 0, .int .u8 0, .int .u8 0, .int .u8 0, .int .u8 0, .int .u8 0, .int .u8 0, .int .u8 0, .int .u8 0, .int .u8 0, .int .u8 0, .int .u8 0, .int .u8 0, .int .u8 0, .int .u8 0, .int .u8 0, .int .u8 0, .int .u8 0, .int .u8 0, .int .u8 0, .int .u8 0, .int .u8 0] 50)
  simp only [size_alloc, List.nil_append, List.cons_append] at hB
  generalize World.alloc _ _ = u at *
  replace hB : Bl w [⟨w.heap.size, kc ZB, 50⟩] u := hB
  refine wp_region_lit ?_
  refine list_valw (.slice (some ⟨u.heap.size, 0, none⟩) 10 10) (u.alloc (.cells (kc htr) 5 (0, 0))) (by kernel_rfl) (by kernel_rfl) ?_
  simp only [Act.put, List.setIfInBounds_toArray, List.set_cons_zero, List.set_cons_succ, List.getElem_toArray, List.getElem_cons_zero, List.getElem_cons_succ]
  refine list_valw (.slice (some ⟨u.heap.size, 0, none⟩) 10 10) (u.alloc (.cells (kc htr) 5 ((kc htr).size, (kc htr).size + 1))) (by kernel_rfl) (exec_const u (.tmp 9) rfl (kc htr) 10 10 (by kernel_rfl)) ?_
  simp only [Act.put, List.setIfInBounds_toArray, List.set_cons_zero, List.set_cons_succ, List.getElem_toArray, List.getElem_cons_zero, List.getElem_cons_succ]
  have hg := (Gr.refl u).alloc (.cells (kc htr) 5 ((kc htr).size, (kc htr).size + 1))
  have l1 : Lb (u.alloc (.cells (kc htr) 5 ((kc htr).size, (kc htr).size + 1))) (some ⟨u.heap.size, 0, none⟩) 10 10 htr := ⟨rfl, htr_isB, .inr ⟨_, 0, rfl, fun j hj => by rw [Nat.zero_add]; exact cell_of (blk_new _ _) (kc_get htr j hj)⟩, by omega, by omega⟩
  replace hB := hB.more hg
  clear hg
  generalize World.alloc _ _ = u1 at *
  generalize u.heap.size = h1 at *
  refine list_val (.int .i64 p) (by kernel_rfl) (by kernel_rfl) ?_
  simp only [Act.put, List.setIfInBounds_toArray, List.set_cons_zero, List.set_cons_succ, List.getElem_toArray, List.getElem_cons_zero, List.getElem_cons_succ]
  refine list_val (.int .u8 p) (by kernel_rfl) (by go_simp) ?_
  simp only [Act.put, List.setIfInBounds_toArray, List.set_cons_zero, List.set_cons_succ, List.getElem_toArray, List.getElem_cons_zero, List.getElem_cons_succ]
  refine list_valw (.slice (some ⟨u1.heap.size, 0, none⟩) 2 2) (u1.alloc (.cells (kc [(p : Int), 0]) 5 (0, 0))) (by kernel_rfl) (by kernel_rfl) ?_
  have l2 : Lb (u1.alloc (.cells (kc [(p : Int), 0]) 5 (0, 0))) (some ⟨u1.heap.size, 0, none⟩) 2 2 [(p : Int), 0] := nw_lb (blk_new _ _) (by intro x hx; simp at hx; omega) rfl (by omega)
  have hg := (Gr.refl u1).alloc (.cells (kc [(p : Int), 0]) 5 (0, 0))
  replace l1 := l1.gr hg
  replace hB := hB.more hg
  clear hg
  generalize World.alloc _ _ = u2 at *
  generalize u1.heap.size = h2 at *
  simp only [Act.put, List.setIfInBounds_toArray, List.set_cons_zero, List.set_cons_succ, List.getElem_toArray, List.getElem_cons_zero, List.getElem_cons_succ]
  refine list_call 44 #[.slice (some ⟨h1, 0, none⟩) 10 10, .slice (some ⟨h2, 0, none⟩) 2 2] (by kernel_rfl) (by kernel_rfl) ((both_ok htr [(p : Int), 0] _ _ 10 10 2 2 (by omega) _ l1 l2).mono ?_)
  rintro r u3 ⟨vv, rfl, hO, hg⟩
  refine ⟨_, rfl, ?_⟩
  replace hB := hB.more hg
  have hI : IsB (htr ++ [(p : Int), 0]) := isB_app htr_isB (by intro x hx; simp at hx; omega)
  obtain ⟨xa, xc, rfl, xl⟩ := ob_lb hO hI (n := 12) (by rfl)
  clear hO hg hI
  clear l1 l2
  simp only [Act.put, List.setIfInBounds_toArray, List.set_cons_zero, List.set_cons_succ, List.getElem_toArray, List.getElem_cons_zero, List.getElem_cons_succ]
  (refine wpList_step fun K hK => ?_; replace hK := hide hK; go_simp; refine unhide hK _ _ ?_; clear hK K)
  refine wpList_nil ?_
  replace xl := hide xl
  replace hB := hide hB
  go_upto_region 2 with fail
  replace hB := unhide hB
  replace xl := unhide xl
  refine wp_region_lit ?_
  refine list_val (.slice xa 12 xc) (by kernel_rfl) (by kernel_rfl) ?_
  simp only [Act.put, List.setIfInBounds_toArray, List.set_cons_zero, List.set_cons_succ, List.getElem_toArray, List.getElem_cons_zero, List.getElem_cons_succ]
  refine list_val (.int .u64 t) (by kernel_rfl) (by kernel_rfl) ?_
  simp only [Act.put, List.setIfInBounds_toArray, List.set_cons_zero, List.set_cons_succ, List.getElem_toArray, List.getElem_cons_zero, List.getElem_cons_succ]
  refine list_call 49 #[.int .u64 t, .int .i64 8] (by kernel_rfl) (by kernel_rfl) ((rlow_ok t 8 (by omega) (by omega) _).mono ?_)
  rintro r u4 ⟨g4, rfl, hgn, hgb, hg⟩
  refine ⟨_, rfl, ?_⟩
  replace hB := hB.more hg
  replace xl := xl.gr hg
  have lz := nw_lb hgb (lowL_isB _ _) (lowL_len _ _) (by omega)
  clear hg hgb hgn
  simp only [Act.put, List.setIfInBounds_toArray, List.set_cons_zero, List.set_cons_succ, List.getElem_toArray, List.getElem_cons_zero, List.getElem_cons_succ]
  refine list_call 44 #[.slice xa 12 xc, .slice (some ⟨g4, 0, none⟩) 8 8] (by kernel_rfl) (by kernel_rfl) ((both_ok (htr ++ [(p : Int), 0]) (lowL (t : Int) 8) _ _ 12 xc 8 8 (by omega) _ xl lz).mono ?_)
  rintro r u5 ⟨vv, rfl, hO, hg⟩
  refine ⟨_, rfl, ?_⟩
  replace hB := hB.more hg
  have hI : IsB (((htr ++ [(p : Int), 0]) ++ lowL (t : Int) 8)) := (isB_app (isB_app htr_isB (by intro x hx; simp at hx; omega)) (lowL_isB _ _))
  obtain ⟨ya, yc, rfl, yl⟩ := ob_lb hO hI (n := 20) (by rw [List.length_append, lowL_len]; rfl)
  clear hO hg hI
  clear xl lz
  simp only [Act.put, List.setIfInBounds_toArray, List.set_cons_zero, List.set_cons_succ, List.getElem_toArray, List.getElem_cons_zero, List.getElem_cons_succ]
  (refine wpList_step fun K hK => ?_; replace hK := hide hK; go_simp; refine unhide hK _ _ ?_; clear hK K)
  refine wpList_nil ?_
  replace yl := hide yl
  replace hB := hide hB
  go_upto_region 3 with fail
  replace hB := unhide hB
  replace yl := unhide yl
  refine wp_region_lit ?_
  refine list_val (.slice ya 20 yc) (by kernel_rfl) (by kernel_rfl) ?_
  simp only [Act.put, List.setIfInBounds_toArray, List.set_cons_zero, List.set_cons_succ, List.getElem_toArray, List.getElem_cons_zero, List.getElem_cons_succ]
  refine list_val (.slice a n c) (by kernel_rfl) (by kernel_rfl) ?_
  simp only [Act.put, List.setIfInBounds_toArray, List.set_cons_zero, List.set_cons_succ, List.getElem_toArray, List.getElem_cons_zero, List.getElem_cons_succ]
  refine list_val (.int .i64 n) (by kernel_rfl) (by kernel_rfl) ?_
  simp only [Act.put, List.setIfInBounds_toArray, List.set_cons_zero, List.set_cons_succ, List.getElem_toArray, List.getElem_cons_zero, List.getElem_cons_succ]
  refine list_val (.int .u64 n) (by kernel_rfl) (by go_simp) ?_
  simp only [Act.put, List.setIfInBounds_toArray, List.set_cons_zero, List.set_cons_succ, List.getElem_toArray, List.getElem_cons_zero, List.getElem_cons_succ]
  refine list_call 49 #[.int .u64 n, .int .i64 4] (by kernel_rfl) (by kernel_rfl) ((rlow_ok n 4 (by omega) (by omega) _).mono ?_)
  rintro r u6 ⟨g6, rfl, hgn, hgb, hg⟩
  refine ⟨_, rfl, ?_⟩
  replace hB := hB.more hg
  replace yl := yl.gr hg
  have lz := nw_lb hgb (lowL_isB _ _) (lowL_len _ _) (by omega)
  clear hg hgb hgn
  simp only [Act.put, List.setIfInBounds_toArray, List.set_cons_zero, List.set_cons_succ, List.getElem_toArray, List.getElem_cons_zero, List.getElem_cons_succ]
  refine list_call 44 #[.slice ya 20 yc, .slice (some ⟨g6, 0, none⟩) 4 4] (by kernel_rfl) (by kernel_rfl) ((both_ok ((htr ++ [(p : Int), 0]) ++ lowL (t : Int) 8) (lowL (n : Int) 4) _ _ 20 yc 4 4 (by omega) _ yl lz).mono ?_)
  rintro r u7 ⟨vv, rfl, hO, hg⟩
  refine ⟨_, rfl, ?_⟩
  replace hB := hB.more hg
  have hI : IsB ((((htr ++ [(p : Int), 0]) ++ lowL (t : Int) 8) ++ lowL (n : Int) 4)) := (isB_app (isB_app (isB_app htr_isB (by intro x hx; simp at hx; omega)) (lowL_isB _ _)) (lowL_isB _ _))
  obtain ⟨za, zc, rfl, zl⟩ := ob_lb hO hI (n := 24) (by rw [List.length_append, List.length_append, lowL_len, lowL_len]; rfl)
  clear hO hg hI
  clear yl lz
  simp only [Act.put, List.setIfInBounds_toArray, List.set_cons_zero, List.set_cons_succ, List.getElem_toArray, List.getElem_cons_zero, List.getElem_cons_succ]
  (refine wpList_step fun K hK => ?_; replace hK := hide hK; go_simp; refine unhide hK _ _ ?_; clear hK K)
  refine wpList_nil ?_
  replace zl := hide zl
  replace hB := hide hB
  go_upto_region 4 with fail
  replace hB := unhide hB
  replace zl := unhide zl
  refine wp_region_lit ?_
  refine list_val (.slice za 24 zc) (by kernel_rfl) (by kernel_rfl) ?_
  simp only [Act.put, List.setIfInBounds_toArray, List.set_cons_zero, List.set_cons_succ, List.getElem_toArray, List.getElem_cons_zero, List.getElem_cons_succ]
  refine list_val (.slice a n c) (by kernel_rfl) (by kernel_rfl) ?_
  simp only [Act.put, List.setIfInBounds_toArray, List.set_cons_zero, List.set_cons_succ, List.getElem_toArray, List.getElem_cons_zero, List.getElem_cons_succ]
  refine list_call 45 #[.slice a n c] (by kernel_rfl) (by kernel_rfl) ((rshort_ok L a n c _ ((unhide hL).gr hB.gr) (by omega)).mono ?_)
  rintro r u8 ⟨v8, rfl, hO, hg⟩
  refine ⟨_, rfl, ?_⟩
  rw [← unhide hS] at hO
  replace hB := hB.more hg
  replace zl := zl.gr hg
  obtain ⟨sa, sc, rfl, ls⟩ := ob_lb hO (unhide hsb) hsl
  clear hO hg
  simp only [Act.put, List.setIfInBounds_toArray, List.set_cons_zero, List.set_cons_succ, List.getElem_toArray, List.getElem_cons_zero, List.getElem_cons_succ]
  refine list_call 44 #[.slice za 24 zc, .slice sa 16 sc] (by kernel_rfl) (by kernel_rfl) ((both_ok (((htr ++ [(p : Int), 0]) ++ lowL (t : Int) 8) ++ lowL (n : Int) 4) S _ _ 24 zc 16 sc (by omega) _ zl ls).mono ?_)
  rintro r u9 ⟨v9, rfl, hO, hg⟩
  refine ⟨_, rfl, ?_⟩
  have hO9 : Ob w.heap.size u9 v9 ((((htr ++ [(p : Int), 0]) ++ lowL (t : Int) 8) ++ lowL (n : Int) 4) ++ S) := ob_base hO hB.gr.size
  replace hB := hB.more hg
  clear hO hg zl ls
  simp only [Act.put, List.setIfInBounds_toArray, List.set_cons_zero, List.set_cons_succ, List.getElem_toArray, List.getElem_cons_zero, List.getElem_cons_succ]
  (refine wpList_step fun K hK => ?_; replace hK := hide hK; go_simp; refine unhide hK _ _ ?_; clear hK K)
  refine wpList_nil ?_
  have hP4 : ((((htr ++ [(p : Int), 0]) ++ lowL (t : Int) 8) ++ lowL (n : Int) 4) ++ S).length = 40 := by rw [List.length_append, List.length_append, List.length_append, lowL_len, lowL_len, hsl]; rfl
  have hI4 : IsB ((((htr ++ [(p : Int), 0]) ++ lowL (t : Int) 8) ++ lowL (n : Int) 4) ++ S) := (isB_app (isB_app (isB_app (isB_app htr_isB (by intro x hx; simp at hx; omega)) (lowL_isB _ _)) (lowL_isB _ _)) (unhide hsb))
  obtain ⟨P4, hP4e⟩ : ∃ P, P = ((((htr ++ [(p : Int), 0]) ++ lowL (t : Int) 8) ++ lowL (n : Int) 4) ++ S) := ⟨_, rfl⟩
  rw [← hP4e] at hO9 hP4 hI4
  replace hP4e := hide hP4e; replace hI4 := hide hI4
  replace hO9 : Hid (Ob w.heap.size u9 v9 (P4 ++ List.replicate 0 0)) := by show Ob _ _ _ (P4 ++ []); rw [List.append_nil]; exact hO9
  replace hB := hide hB
  go_wp2_with fail
  go_loopw [7] (fun v wr => ∃ k : Nat, k ≤ 8 ∧ Hid (Ob w.heap.size wr v (P4 ++ List.replicate k 0)) ∧ Hid (Bl w [⟨w.heap.size, kc ZB, 50⟩] wr)) (fun v _ => 48 - lenOf v)
  case atStart => exact ⟨0, by omega, hO9, hB⟩
  case round =>
  clear hO9 hB
  obtain ⟨k, hk, hO, hB⟩ := hrel
  obtain ⟨ka, kc_, rfl, kl⟩ := ob_lb (unhide hO) (isB_app (unhide hI4) (isB_rep k)) (n := 40 + k) (by rw [List.length_append, hP4, List.length_replicate])
  replace kl := hide kl
  by_cases hk8 : k < 8
  · skip
    have kI : ((40 + k : Nat) : Int) < 48 := by omega
    replace hB := hB
    go_upto_region 6 with fail
    replace hB := unhide hB
    refine wp_region_lit ?_
    refine list_val (.slice ka (40 + k) kc_) (by kernel_rfl) (by kernel_rfl) ?_
    simp only [Act.put, List.setIfInBounds_toArray, List.set_cons_zero, List.set_cons_succ, List.getElem_toArray, List.getElem_cons_zero, List.getElem_cons_succ]
    refine list_valw (.slice (some ⟨wr.heap.size, 0, none⟩) 1 1) (wr.alloc (.cells (kc [0]) 5 (0, 0))) (by kernel_rfl) (by kernel_rfl) ?_
    have l0 : Sl (wr.alloc (.cells (kc [0]) 5 (0, 0))) (some ⟨wr.heap.size, 0, none⟩) [0] := .inr ⟨_, 0, rfl, kc_at (blk_new _ _)⟩
    have hg := (Gr.refl wr).alloc (.cells (kc [0]) 5 (0, 0))
    have hO2 := (unhide hO).gr hg
    replace hB := hB.more hg
    clear hg hO
    generalize World.alloc _ _ = y1 at *
    generalize wr.heap.size = gz at *
    simp only [Act.put, List.setIfInBounds_toArray, List.set_cons_zero, List.set_cons_succ, List.getElem_toArray, List.getElem_cons_zero, List.getElem_cons_succ]
    refine app_bs (by kernel_rfl) (.tmp 32) (.tmp 33) rfl w.heap.size _ _ rfl hO2 (some ⟨gz, 0, none⟩) 1 1 [0] rfl rfl l0 (by rw [List.length_append, hP4, List.length_replicate]; omega) hB.gr.size ?_
    intro v2 y2 hO3 hgr
    replace hB := Bl.grownB hB hO2 hgr (by intro y hy; rw [List.mem_singleton] at hy; rw [hy]; show (50 : Nat) ≠ 5; decide)
    have hO4 : Hid (Ob w.heap.size y2 v2 (P4 ++ List.replicate (k + 1) 0)) := by
      show Ob _ _ _ _
      rw [List.replicate_succ', ← List.append_assoc]
      exact hO3
    obtain ⟨kb, kd, rfl, -⟩ := ob_lb (unhide hO4) (isB_app (unhide hI4) (isB_rep (k + 1))) (n := 40 + (k + 1)) (by rw [List.length_append, hP4, List.length_replicate])
    clear hO2 hO3 hgr l0
    simp only [Act.put, List.setIfInBounds_toArray, List.set_cons_zero, List.set_cons_succ, List.getElem_toArray, List.getElem_cons_zero, List.getElem_cons_succ]
    (refine wpList_step fun K hK => ?_; replace hK := hide hK; go_simp; refine unhide hK _ _ ?_; clear hK K)
    refine wpList_nil ?_
    replace hB := hide hB
    go_wp2_with fail
    go_roundw
    case rel => exact ⟨k + 1, by omega, hO4, hB⟩
    case measure => simp [lenOf]; omega
  have kI : ¬ ((40 + k : Nat) : Int) < 48 := by omega
  obtain rfl : k = 8 := by omega
  have hO8 : Hid (Lb wr ka 48 kc_ C) := by
    show Lb wr ka 48 kc_ C
    rw [unhide hCe, ← unhide hP4e]
    exact unhide kl
  have hCb : Hid (IsB C) := (unhide hO8).isB
  clear hO kl
  go_upto_region 7 with fail
  replace hB := unhide hB
  refine wp_region_lit ?_
  refine list_val (.slice ka (40 + 8) kc_) (by kernel_rfl) (by kernel_rfl) ?_
  simp only [Act.put, List.setIfInBounds_toArray, List.set_cons_zero, List.set_cons_succ, List.getElem_toArray, List.getElem_cons_zero, List.getElem_cons_succ]
  refine list_val (.slice ka (40 + 8) kc_) (by kernel_rfl) (by kernel_rfl) ?_
  simp only [Act.put, List.setIfInBounds_toArray, List.set_cons_zero, List.set_cons_succ, List.getElem_toArray, List.getElem_cons_zero, List.getElem_cons_succ]
  refine list_call 45 #[.slice ka 48 kc_] (by kernel_rfl) (by kernel_rfl) ((rshort_ok C ka 48 kc_ _ (unhide hO8) (by omega)).mono ?_)
  rintro r q1 ⟨v1, rfl, hO, hg⟩
  refine ⟨_, rfl, ?_⟩
  replace hB := hB.more hg
  replace hO8 := hide ((unhide hO8).gr hg)
  obtain ⟨sa, sc, rfl, ls⟩ := ob_lb hO (sh16_isB C (sumL_isB C)) (sh16_len C)
  clear hO hg
  simp only [Act.put, List.setIfInBounds_toArray, List.set_cons_zero, List.set_cons_succ, List.getElem_toArray, List.getElem_cons_zero, List.getElem_cons_succ]
  refine list_call 44 #[.slice ka 48 kc_, .slice sa 16 sc] (by kernel_rfl) (by kernel_rfl) ((both_ok C (sh16 C) _ _ 48 kc_ 16 sc (by omega) _ (unhide hO8) ls).mono ?_)
  rintro r q2 ⟨v2, rfl, hO, hg⟩
  refine ⟨_, rfl, ?_⟩
  replace hB := hB.more hg
  obtain ⟨fa, fc, rfl, fl⟩ := ob_lb hO (isB_app (unhide hCb) (sh16_isB C (sumL_isB C))) (n := 64) (by rw [List.length_append, hCl, sh16_len])
  clear hO hg ls hO8
  simp only [Act.put, List.setIfInBounds_toArray, List.set_cons_zero, List.set_cons_succ, List.getElem_toArray, List.getElem_cons_zero, List.getElem_cons_succ]
  (refine wpList_step fun K hK => ?_; replace hK := hide hK; go_simp; refine unhide hK _ _ ?_; clear hK K)
  refine wpList_nil ?_
  have hDl : (C ++ sh16 C).length = 64 := by rw [List.length_append, hCl, sh16_len]
  obtain ⟨D, hD⟩ : ∃ D, D = C ++ sh16 C := ⟨_, rfl⟩
  rw [← hD] at fl hDl hT2
  replace hD := hide hD; replace fl := hide fl
  replace hB := hide hB
  go_upto_region 8 with fail
  replace hB := unhide hB
  refine wp_region_lit ?_
  refine list_valw (.pointer (some ⟨q2.heap.size, 0, none⟩)) (q2.alloc (.cells (kc ZB) 50 (0, 0))) (by kernel_rfl) (by kernel_rfl) ?_
  have hgq := (Gr.refl q2).alloc (.cells (kc ZB) 50 (0, 0))
  replace hB := hB.new (kc ZB) 50
  simp only [List.nil_append, List.cons_append] at hB
  generalize World.alloc _ _ = q3 at *
  generalize q2.heap.size = g8 at *
  replace hB : Bl w [⟨w.heap.size, kc ZB, 50⟩, ⟨g8, kc ZB, 50⟩] q3 := hB
  simp only [Act.put, List.setIfInBounds_toArray, List.set_cons_zero, List.set_cons_succ, List.getElem_toArray, List.getElem_cons_zero, List.getElem_cons_succ]
  refine wpList_nil ?_
  replace fl := hide ((unhide fl).gr hgq)
  clear hgq
  replace hB := hide hB
  go_upto_region 9 with fail
  replace hB := unhide hB
  refine wp_region_lit ?_
  refine list_val (.slice (some ⟨g8, 0, none⟩) 64 64) (by kernel_rfl) (by kernel_rfl) ?_
  simp only [Act.put, List.setIfInBounds_toArray, List.set_cons_zero, List.set_cons_succ, List.getElem_toArray, List.getElem_cons_zero, List.getElem_cons_succ]
  refine list_val (.slice fa 64 fc) (by kernel_rfl) (by kernel_rfl) ?_
  simp only [Act.put, List.setIfInBounds_toArray, List.set_cons_zero, List.set_cons_succ, List.getElem_toArray, List.getElem_cons_zero, List.getElem_cons_succ]
  refine wpList_step fun K_ hQ => ?_
  rw [if_pos (by kernel_rfl)]
  have hg8 := (hB.get 1 (x := ⟨g8, kc ZB, 50⟩) rfl)
  dsimp only at hg8
  refine copy_wp (.tmp 39) (.tmp 40) rfl g8 0 64 64 fa 64 fc rfl rfl (bv ZB) 50 hg8 D (by rw [hDl]; rfl) (unhide fl).sl (by rw [hDl, bv_len]; exact Nat.le_refl _) ?_
  refine hQ _ _ ?_
  clear hQ K_
  have hbs := setCells_bt (D.map (Value.int .u8)) q3 g8 0
  have hcl := setCells_heap (D.map (Value.int .u8)) q3 g8 0 (bv ZB) 50 hg8
  have e9 : sp (bv ZB) 0 (D.map (Value.int .u8)) = bv D := sp_whole _ _ (by rw [bv_len, List.length_map, hDl]; rfl)
  rw [e9] at hcl
  have hB4 := hB.but hbs 1 (x := ⟨g8, kc ZB, 50⟩) rfl rfl hcl
  simp only [List.set_cons_zero, List.set_cons_succ] at hB4
  replace hB4 : Bl w [⟨w.heap.size, kc ZB, 50⟩, ⟨g8, kc D, 50⟩] _ := hB4
  clear hB hcl hbs hg8 e9
  generalize World.setCells _ _ _ _ = q4 at *
  have hB := hB4
  clear hB4
  simp only [Act.put, List.setIfInBounds_toArray, List.set_cons_zero, List.set_cons_succ, List.getElem_toArray, List.getElem_cons_zero, List.getElem_cons_succ]
  refine wpList_nil ?_
  replace hB := hide hB
  go_upto_region 10 with fail
  replace hB := unhide hB
  refine wp_region_lit ?_
  refine list_val (.agg (kc D)) (by kernel_rfl) (exec_arr _ 50 (.tmp 8) rfl (g8) (by kernel_rfl) (kc D) 50 _ (hB.get 1 (x := ⟨g8, kc D, 50⟩) rfl) Tryd.underlying50 rfl (by rw [Tryd.infoB, kc_size, hDl])) ?_
  simp only [Act.put, List.setIfInBounds_toArray, List.set_cons_zero, List.set_cons_succ, List.getElem_toArray, List.getElem_cons_zero, List.getElem_cons_succ]
  refine list_store 50 (.tmp 6) (.tmp 42) (w.heap.size) (kc D) 50 (kc ZB) (by kernel_rfl) rfl (by kernel_rfl) (by kernel_rfl) (hB.get 0 (x := ⟨w.heap.size, kc ZB, 50⟩) rfl) (by rw [Tryd.infoB, kc_size, hDl]) ((show (kc ZB).size = 64 from rfl).trans ((kc_size _).trans hDl).symm) (kc_one _) ?_
  replace hB := hB.set 0 (x := ⟨w.heap.size, kc ZB, 50⟩) rfl (kc D)
  simp only [List.set_cons_zero, List.set_cons_succ] at hB
  generalize World.setRow _ _ _ = q5 at *
  replace hB : Bl w [⟨w.heap.size, kc D, 50⟩, ⟨g8, kc D, 50⟩] q5 := hB
  simp only [Act.put, List.setIfInBounds_toArray, List.set_cons_zero, List.set_cons_succ, List.getElem_toArray, List.getElem_cons_zero, List.getElem_cons_succ]
  refine wpList_nil ?_
  replace hB := hide hB
  go_wp2_with fail
  replace hB := unhide hB
  rw [unhide hT2]
  exact bodyPost_ret (v := .agg (kc D)) (results_cell_row Tryd.results22 _ _ (w.heap.size) 50 (kc D) (0, 0) _ rfl (hB.get 0 (x := ⟨w.heap.size, kc D, 50⟩) rfl) Tryd.underlying50 rfl (by rw [Tryd.infoB, kc_size, hDl])) rfl ⟨rfl, hB.gr⟩
def svl (s : Sup) (ha : Option Addr) (hc : Nat) (r : Bool) : Array Value := #[.int .i64 (s.place : Int), .int .u64 (s.turn : Int), .int .i64 (s.size : Int), .slice ha 16 hc, .bool r]
theorem svl_one (s : Sup) (ha : Option Addr) (hc : Nat) (r : Bool) : (svl s ha hc r).all (·.oneCell') = true := by unfold svl; simp [Value.oneCell']
def ZSu : Array Value := #[.int .i64 0, .int .u64 0, .int .i64 0, .slice none 0 0, .bool false]
theorem Tryd.infoSu : (Tryd.prog.info? 62).map (·.size) = some 5 := by kernel_rfl
def NS (b : Nat) (u : World) (q : Value) : Prop := ∃ g, q = .pointer (some ⟨g, 0, none⟩) ∧ b ≤ g ∧ u.heap[g]? = some (.cells ZSu 62 (0, 0))
theorem NS.gr {b : Nat} {u v : World} {q : Value} (h : NS b u q) (k : Gr u v) : NS b v q := by
  obtain ⟨g, h1, h2, h3⟩ := h
  exact ⟨g, h1, h2, k.blk h3⟩
def Rsu (b : List Int) (w : World) (r : Ending) (w' : World) : Prop := ∃ ha hc, r = .returned (.agg (svl (supOf b) ha hc (rightB b))) ∧ Ob w.heap.size w' (.slice ha 16 hc) (supOf b).hash ∧ Gr w w'
theorem ob_fr {w u : World} {b : Nat} {a : Option Addr} {n c : Nat} {L : List Int} (h : Ob b u (.slice a n c) L) (hb : w.heap.size ≤ b) : Fr2 w none a := by
  rcases h.2 with ⟨h1, _⟩ | ⟨g, cap, cur, h1, h2, _⟩
  · injection h1 with h1 _ _
    rw [h1]
    exact Fr2.refl _ _
  · injection h1 with h1 _ _
    rw [h1]
    exact Fr2.new none (Nat.le_trans hb h2)
theorem exec_txt {a : Act} {o : Oper} (w : World) (x : Operand) (ho : o.op = .convert 32 9 x) (g c : Nat) (b : List Int) (hb : IsB b) (hl : b.length = 10) (t : TypeId) (B : List Int) (hB : w.heap[g]? = some (.cells (kc B) t (0, 0))) (hBb : B.take 10 = b) (hx : a.eval x = .slice (some ⟨g, 0, none⟩) 10 c) :
    (execOp a.eval o).run Tryd.prog w = .ok (.value (.string ⟨(b.map fun y => UInt8.ofNat y.toNat).toArray⟩)) w := by
  have h := run_convert_bytes_back (P := Tryd.prog) w 32 9 5 ⟨g, 0, none⟩ c (b.map fun y => UInt8.ofNat y.toNat) Tryd.underlying32 Tryd.underlying5 Tryd.underlying9 (fun j hj => by
    rw [List.length_map, hl] at hj
    have hBl : j < B.length := by
      have h2 : (B.take 10).length = 10 := by rw [hBb, hl]
      rw [List.length_take] at h2
      omega
    rw [Addr.add_mid, Nat.zero_add, kc_cell hB j hBl, List.getElem_map]
    have e : B.getD j 0 = b[j]'(by omega) := by
      have h3 : (B.take 10)[j]? = b[j]? := by rw [hBb]
      rw [List.getElem?_take, if_pos hj, List.getElem?_eq_getElem hBl, List.getElem?_eq_getElem (by omega)] at h3
      rw [List.getD_eq_getElem?_getD, List.getElem?_eq_getElem hBl]
      exact Option.some.inj h3
    have hx2 := hb (b[j]'(by omega)) (List.getElem_mem _)
    rw [e]
    congr 2
    rw [UInt8.toNat_ofNat']
    omega)
  rw [List.length_map, hl] at h
  unfold execOp
  simp only [ho, hx, Sem.run_bind, h, Result.andThen_ok, Sem.run_pure]
theorem bytes_back : ∀ (l : List Int), IsB l → (l.map fun y => UInt8.ofNat y.toNat).map (fun z => (z.toNat : Int)) = l
  | [], _ => rfl
  | x :: r, h => by
    have hx := h x List.mem_cons_self
    rw [List.map_cons, List.map_cons, bytes_back r (fun y hy => h y (List.mem_cons_of_mem _ hy))]
    congr 1
    rw [UInt8.toNat_ofNat']
    omega
theorem exec_eqs {a : Act} {o : Oper} (w : World) (x : Operand) (b : List Int) (hb : IsB b) (ho : o.op = .binOp .eql 9 x (.const (.string ⟨#[104, 111, 108, 108, 111, 119, 116, 114, 101, 101]⟩)) 9) (hx : a.eval x = .string ⟨(b.map fun y => UInt8.ofNat y.toNat).toArray⟩) :
    (execOp a.eval o).run Tryd.prog w = .ok (.value (.bool (decide (b = htr)))) w := by
  have h : ((b.map fun y => UInt8.ofNat y.toNat) == [104, 111, 108, 108, 111, 119, 116, 114, 101, 101]) = decide (b = htr) := by
    by_cases e : b = htr
    · rw [e]
      rfl
    · rw [decide_eq_false e]
      apply beq_eq_false_iff_ne.2
      intro h
      apply e
      rw [← bytes_back b hb, h]
      rfl
  unfold execOp
  simp only [ho, hx]
  go_simp
end Go.Proofs.YtomihjeiaignnaaDoor
