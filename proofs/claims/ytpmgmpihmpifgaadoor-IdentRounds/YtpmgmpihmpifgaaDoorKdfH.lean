/-
  Small functions of the reference and of the laws: bytes behind bytes, the same bytes, parts joined, how many there are, parts copied.
-/
import Derived.Test.YtpmgmpihmpifgaaDoorKdfOpen
namespace Go.Proofs.YtpmgmpihmpifgaaDoor
open Go.RowKit
set_option maxRecDepth 100000
set_option linter.unusedSimpArgs false
set_option linter.unusedVariables false

theorem Lb.cellAt {w : World} {a : Option Addr} {n c : Nat} {B : List Int} (h : Lb w a n c B) {k : Nat} (hk : k < n) : ∃ p o, a = some ⟨p, o, none⟩ ∧ w.cell? ⟨p, o + k, none⟩ = some (.int .u8 (B.getD k 0)) := by
  have hl := h.len
  rcases h.sl with h1 | ⟨p, o, h1, h2⟩
  · rw [h1] at hl; simp at hl; omega
  · exact ⟨p, o, h1, h2 k (by omega)⟩
theorem take_next (B : List Int) (k : Nat) (h : k < B.length) : B.take (k + 1) = B.take k ++ [B.getD k 0] := by
  rw [List.take_add_one, List.getElem?_eq_getElem h]
  simp [h]
set_option maxHeartbeats 2000000 in
theorem both_ok (A B : List Int) (a b : Option Addr) (n c m d : Nat) (hb : n + m ≤ 140737488355328) (w : World) (hA : Lb w a n c A) (hB : Lb w b m d B) : Calls Tryd.prog 93 #[.slice a n c, .slice b m d] w (Infd (A ++ B) w) := by
  obtain ⟨T, hT⟩ : ∃ T, T = Infd (A ++ B) w := ⟨_, rfl⟩
  rw [← hT]
  have la := hide hA.len
  have lb := hide hB.len
  replace hT := hide hT
  replace hA := hide hA
  replace hB := hide hB
  have w1 : IntKind.i64.wrap ((n : Int) + (m : Int)) = (n : Int) + (m : Int) := by rw [IntKind.wrap_i64]; omega
  have w2 : (0 : Int) ≤ (n : Int) + (m : Int) := by omega
  go_enter Tryd.func93, Tryd.ntmps93
  go_upto_region 1 with fail
  refine wp_region_lit ?_
  iterate 5 (refine wpList_step fun K hK => ?_; replace hK := hide hK; go_simp; refine unhide hK _ _ ?_; clear hK K)
  refine wpList_make_room w rfl (.const (.int .i64 0)) (.tmp 12) rfl 0 ((n : Int) + (m : Int)) 0 (n + m) (by kernel_rfl) (by kernel_rfl) (by omega) (by omega) (by omega) (by omega) ?_
  have hO : Ob w.heap.size (w.alloc (.cells (kc (List.replicate (n + m) 0)) 5 (0, 0))) (.slice (some ⟨w.heap.size, 0, none⟩) 0 (n + m)) (A.take 0) :=
    ⟨rfl, .inr ⟨w.heap.size, n + m, _, rfl, Nat.le_refl _, blk_new _ _, by simp, by unfold maxLen; omega, by rw [kc_size]; simp, by simp⟩⟩
  have hG := (Gr.refl w).alloc (.cells (kc (List.replicate (n + m) 0)) 5 (0, 0))
  generalize World.alloc _ _ = u at *
  simp only [Act.put, List.setIfInBounds_toArray, List.set_cons_zero, List.set_cons_succ, List.getElem_toArray, List.getElem_cons_zero, List.getElem_cons_succ]
  replace hO := hide hO
  replace hG := hide hG
  iterate 1 (refine wpList_step fun K hK => ?_; replace hK := hide hK; go_simp; refine unhide hK _ _ ?_; clear hK K)
  refine wpList_nil ?_
  go_wp2_with fail
  go_loopw [6, 5] (fun i x wr => ∃ (k : Nat) (a5 : Option Addr) (c5 : Nat), k ≤ n ∧ i = .int .i64 k ∧ x = .slice a5 k c5 ∧ Hid (Ob w.heap.size wr (.slice a5 k c5) (A.take k)) ∧ Hid (Gr w wr)) (fun i _ _ => n - (intOf i).toNat)
  case atStart => exact ⟨0, _, n + m, by omega, rfl, rfl, hO, hG⟩
  case round =>
  clear hO hG
  obtain ⟨k, a5, c5, hk, rfl, rfl, hO, hG⟩ := hrel
  by_cases hl : k < n
  · have kI : (k : Int) < (n : Int) := by omega
    have kJ : 0 ≤ (k : Int) ∧ (k : Int) < (n : Int) := by omega
    have kw : IntKind.i64.wrap ((k : Int) + 1) = (k : Int) + 1 := by rw [IntKind.wrap_i64]; omega
    obtain ⟨p, o, rfl, cc⟩ := ((unhide hA).gr (unhide hG)).cellAt hl
    have hnx := hide (take_next A k (by rw [unhide la]; exact hl))
    have htl : Hid ((A.take k).length = k) := by rw [List.length_take, unhide la]; exact Nat.min_eq_left (by omega)
    generalize A.getD k 0 = x at *
    go_upto_region 5 with fail
    refine wp_region_lit ?_
    iterate 6 (refine wpList_step fun K hK => ?_; replace hK := hide hK; go_simp; refine unhide hK _ _ ?_; clear hK K)
    have hO2 := (unhide hO).gr ((Gr.refl wr).alloc (.cells #[.int .u8 x] 5))
    refine app_bs (by kernel_rfl) (.tmp 20) (.tmp 25) rfl w.heap.size (.slice a5 k c5) (A.take k) (by kernel_rfl) hO2 (some ⟨wr.heap.size, 0, none⟩) 1 1 [x] (by kernel_rfl) rfl (.inr ⟨_, 0, rfl, kc_at (l := [x]) (blk_new _ _)⟩) (by rw [unhide htl]; omega) (by have := (unhide hG).size; simp only [size_alloc]; omega) ?_
    intro v' w2 hO3 hgb
    have hG4 := hO2.grown (Nat.le_refl _) ((unhide hG).alloc _) hgb
    rw [← unhide hnx] at hO3
    obtain ⟨a6, c6, hv', _, _, _⟩ := hO3.slice
    have hl2 : (A.take (k + 1)).length = k + 1 := by rw [List.length_take, unhide la]; omega
    rw [hl2] at hv'
    subst hv'
    clear hO hG hO2 hgb hl2 htl hnx
    replace hO3 := hide hO3
    replace hG4 := hide hG4
    simp only [Act.put, List.setIfInBounds_toArray, List.set_cons_zero, List.set_cons_succ, List.getElem_toArray, List.getElem_cons_zero, List.getElem_cons_succ]
    iterate 1 (refine wpList_step fun K hK => ?_; replace hK := hide hK; go_simp; refine unhide hK _ _ ?_; clear hK K)
    refine wpList_nil ?_
    go_wp2_with fail
    exact ⟨⟨k + 1, a6, c6, by omega, by congr 1, rfl, hO3, hG4⟩, by show n - ((k : Int) + 1).toNat < n - (k : Int).toNat; omega⟩
  · have e : k = n := by omega
    subst e
    have hO2 : Hid (Ob w.heap.size wr (.slice a5 (k + 0) c5) (A ++ B.take 0)) := by
      have h := unhide hO
      rw [List.take_of_length_le (by rw [unhide la]; omega)] at h
      rw [List.take_zero, List.append_nil]
      exact h
    clear hO hl
    go_wp2_with fail
    go_loopw [7, 5] (fun i x wr => ∃ (j : Nat) (a5 : Option Addr) (c5 : Nat), j ≤ m ∧ i = .int .i64 j ∧ x = .slice a5 (k + j) c5 ∧ Hid (Ob w.heap.size wr (.slice a5 (k + j) c5) (A ++ B.take j)) ∧ Hid (Gr w wr)) (fun i _ _ => m - (intOf i).toNat)
    case atStart => exact ⟨0, a5, c5, by omega, rfl, rfl, hO2, hG⟩
    case round =>
    clear hO2 hG
    obtain ⟨j, a5, c5, hj, rfl, rfl, hO, hG⟩ := hrel
    by_cases hl : j < m
    · have kI : (j : Int) < (m : Int) := by omega
      have kJ : 0 ≤ (j : Int) ∧ (j : Int) < (m : Int) := by omega
      have kw : IntKind.i64.wrap ((j : Int) + 1) = (j : Int) + 1 := by rw [IntKind.wrap_i64]; omega
      obtain ⟨p, o, rfl, cc⟩ := ((unhide hB).gr (unhide hG)).cellAt hl
      have hnx := hide (take_next B j (by rw [unhide lb]; exact hl))
      have htl : Hid ((A ++ B.take j).length = k + j) := by rw [List.length_append, List.length_take, unhide la, unhide lb, Nat.min_eq_left (by omega)]; exact rfl
      generalize B.getD j 0 = x at *
      go_upto_region 9 with fail
      refine wp_region_lit ?_
      iterate 6 (refine wpList_step fun K hK => ?_; replace hK := hide hK; go_simp; refine unhide hK _ _ ?_; clear hK K)
      have hO2 := (unhide hO).gr ((Gr.refl wr).alloc (.cells #[.int .u8 x] 5))
      refine app_bs (by kernel_rfl) (.tmp 33) (.tmp 38) rfl w.heap.size (.slice a5 (k + j) c5) (A ++ B.take j) (by kernel_rfl) hO2 (some ⟨wr.heap.size, 0, none⟩) 1 1 [x] (by kernel_rfl) rfl (.inr ⟨_, 0, rfl, kc_at (l := [x]) (blk_new _ _)⟩) (by rw [unhide htl]; omega) (by have := (unhide hG).size; simp only [size_alloc]; omega) ?_
      intro v' w2 hO3 hgb
      have hG4 := hO2.grown (Nat.le_refl _) ((unhide hG).alloc _) hgb
      rw [List.append_assoc, ← unhide hnx] at hO3
      obtain ⟨a6, c6, hv', _, _, _⟩ := hO3.slice
      have hl2 : (A ++ B.take (j + 1)).length = k + (j + 1) := by rw [List.length_append, List.length_take, unhide la, unhide lb]; omega
      rw [hl2] at hv'
      subst hv'
      clear hO hG hO2 hgb hl2 htl hnx
      replace hO3 := hide hO3
      replace hG4 := hide hG4
      simp only [Act.put, List.setIfInBounds_toArray, List.set_cons_zero, List.set_cons_succ, List.getElem_toArray, List.getElem_cons_zero, List.getElem_cons_succ]
      iterate 1 (refine wpList_step fun K hK => ?_; replace hK := hide hK; go_simp; refine unhide hK _ _ ?_; clear hK K)
      refine wpList_nil ?_
      go_wp2_with fail
      exact ⟨⟨j + 1, a6, c6, by omega, by congr 1, rfl, hO3, hG4⟩, by show m - ((j : Int) + 1).toNat < m - (j : Int).toNat; omega⟩
    · have e : j = m := by omega
      subst e
      have hP : Hid (Infd (A ++ B) w (.returned (.slice a5 (k + j) c5)) wr) := by
        have h := unhide hO
        rw [List.take_of_length_le (by rw [unhide lb]; omega)] at h
        exact ⟨_, rfl, h, unhide hG⟩
      clear hO hG hl
      go_wp2_with fail
      rw [unhide hT]
      exact unhide hP
/-- how long the first k parts are, as far as it matters -/
def mn (ps : List (List Int)) (k : Nat) : Nat := min (ps.take k).flatten.length 1048576
theorem mn_next (ps : List (List Int)) (k : Nat) (h : k < ps.length) : mn ps (k + 1) = min (mn ps k + (ps.getD k []).length) 1048576 := by
  unfold mn
  rw [flat_next ps k h, List.length_append]
  omega
def Smalld (ps : List (List Int)) (w : World) (r : Ending) (w' : World) : Prop := ∃ b : Bool, r = .returned (.bool b) ∧ (b = true → ps.flatten.length ≤ 4096 ∧ ps.length ≤ 100) ∧ (ps.flatten.length ≤ 4096 → ps.length ≤ 100 → b = true) ∧ w' = w
theorem Pr.isB' {w : World} {a : Option Addr} {ps : List (List Int)} (h : Pr w a ps) (k : Nat) : IsB (ps.take k).flatten := by
  intro x hx
  obtain ⟨q, hq, hx⟩ := List.mem_flatten.1 hx
  exact h.isB q (List.mem_of_mem_take hq) x hx
end Go.Proofs.YtpmgmpihmpifgaaDoor
