/-
  The reference's filling; bytes with room behind them; Copy; what a Hash that is not there answers.
-/
import Derived.Test.YthnmebhljkccnaaDoorShaRef1
namespace Go.Proofs.YthnmebhljkccnaaDoor
open Go.RowKit
set_option maxRecDepth 100000
set_option linter.unusedSimpArgs false

theorem blk_bytes {w : World} {b : Nat} (l : List Int) (hb : b ≤ w.heap.size) (h1 : l.length ≤ maxLen) : Ob b (w.alloc (.cells (kc l) 5 (0, 0))) (.slice (some ⟨w.heap.size, 0, none⟩) l.length l.length) l :=
  ⟨by simp, .inr ⟨w.heap.size, l.length, kc l, rfl, hb, blk_new _ _, Nat.le_refl _, h1, by rw [kc_size, Nat.mul_one], by unfold kc; rw [Nat.mul_one]; exact List.take_of_length_le (by simp)⟩⟩
def slenV : Value → Nat
  | .slice _ n _ => n
  | _ => 0
/-- what the reference's Pad answers -/
def RPadded (n : Nat) (w : World) (r : Ending) (w' : World) : Prop := ∃ v, r = .returned v ∧ Ob w.heap.size w' v (padL n) ∧ Gr w w'
set_option maxHeartbeats 2000000 in
theorem rpad_ok (n : Nat) (hn : n < 1152921504606846976) (w : World) : Calls Tryd.prog 38 #[.int .i64 n] w (RPadded n w) := by
  obtain ⟨T, hT⟩ : ∃ T, T = RPadded n w := ⟨_, rfl⟩
  rw [← hT]
  replace hT := hide hT
  obtain ⟨z, hz⟩ : ∃ z, z = nz n := ⟨_, rfl⟩
  have hz2 : z = (119 - n % 64) % 64 := hz
  have e0 : ¬ (n : Int) < 0 := by omega
  replace hz := hide hz
  go_enter Tryd.func38, Tryd.ntmps38
  go_wp2_with fail
  have hO := blk_bytes (w := w) (b := w.heap.size) [128] (Nat.le_refl _) (by unfold maxLen; simp)
  replace hO : Hid (Ob w.heap.size (w.alloc (.cells #[.int .u8 128] 5 (0, 0))) (.slice (some ⟨w.heap.size, 0, none⟩) 1 1) (128 :: List.replicate 0 0)) := hO
  have hG : Hid (Gr w (w.alloc (.cells #[.int .u8 128] 5 (0, 0)))) := (Gr.refl w).alloc _
  generalize World.alloc _ _ = u at *
  go_loopw [3] (fun p wr => ∃ (k : Nat) (a : Option Addr) (c : Nat), k ≤ z ∧ p = .slice a (k + 1) c ∧ Hid (Ob w.heap.size wr (.slice a (k + 1) c) (128 :: List.replicate k 0)) ∧ Hid (Gr w wr)) (fun p _ => 65 - slenV p)
  case atStart => exact ⟨0, _, 1, by omega, rfl, hO, hG⟩
  case round =>
  clear hO hG
  obtain ⟨k, a, c, hk, rfl, hO, hG⟩ := hrel
  have e1 : IntKind.i64.wrap ((n : Int) + ((k : Int) + 1)) = (n : Int) + ((k : Int) + 1) := by rw [IntKind.wrap_i64]; omega
  have e2 : IntKind.i64.wrap ((n : Int) + ((k : Int) + 1) + 8) = (n : Int) + ((k : Int) + 1) + 8 := by rw [IntKind.wrap_i64]; omega
  have e3 : Int.tmod ((n : Int) + ((k : Int) + 1) + 8) 64 = ((n : Int) + ((k : Int) + 1) + 8) % 64 := by rw [Int.tmod_eq_emod_of_nonneg (by omega)]
  by_cases hil : k < z
  · have e4 : ¬ ((n : Int) + ((k : Int) + 1) + 8) % 64 = 0 := by omega
    replace hz2 := hide hz2
    have hsz : Hid (w.heap.size ≤ wr.heap.size) := (unhide hG).size
    go_upto_region 5 with fail
    refine wp_region_lit ?_
    iterate 2 (refine wpList_step fun K hK => ?_; replace hK := hide hK; go_simp; refine unhide hK _ _ ?_; clear hK K)
    have hO2 := (unhide hO).gr ((Gr.refl wr).alloc (.cells #[.int .u8 0] 5))
    refine app_bs (by kernel_rfl) (.tmp 16) (.tmp 17) rfl w.heap.size (.slice a (k + 1) c) (128 :: List.replicate k 0) (by kernel_rfl) hO2 (some ⟨wr.heap.size, 0, none⟩) 1 1 [0] (by kernel_rfl) rfl (.inr ⟨_, 0, rfl, fun j hj => by rw [Nat.zero_add]; exact kc_cell (l := [0]) (blk_new _ _) j hj⟩) (by simp; have := unhide hz2; omega) (by have := unhide hsz; simp only [size_alloc]; omega) ?_
    intro v' w2 hO3 hG3
    have hG4 := hO2.grown (Nat.le_refl _) ((unhide hG).alloc _) hG3
    have hl : ((128 :: List.replicate k 0) ++ [0] : List Int) = 128 :: List.replicate (k + 1) 0 := by rw [List.cons_append, ← List.replicate_succ']
    rw [hl] at hO3
    obtain ⟨a', c', hv', _, _, _⟩ := hO3.slice
    have hv2 : v' = .slice a' (k + 1 + 1) c' := by rw [hv']; simp
    rw [hv2] at hO3
    rw [hv2]
    clear hO hG hO2 hG3 hv' hv2 hl
    replace hO3 := hide hO3
    replace hG4 := hide hG4
    simp only [Act.put, List.setIfInBounds_toArray, List.set_cons_zero, List.set_cons_succ, List.getElem_toArray, List.getElem_cons_zero, List.getElem_cons_succ]
    iterate 1 (refine wpList_step fun K hK => ?_; replace hK := hide hK; go_simp; refine unhide hK _ _ ?_; clear hK K)
    refine wpList_nil ?_
    go_wp2_with fail
    exact ⟨⟨k + 1, a', c', by omega, rfl, hO3, hG4⟩, by show 65 - (k + 1 + 1) < 65 - (k + 1); have := unhide hz2; omega⟩
  · have hkz : k = z := by omega
    subst hkz
    have e4 : ((n : Int) + ((k : Int) + 1) + 8) % 64 = 0 := by omega
    have hO2 : Hid (Ob w.heap.size wr (.slice a (k + 1 + 0) c) (padH n ++ be8 (n * 8) 0)) := by
      have := unhide hO
      unfold padH be8
      rw [List.append_nil, ← unhide hz]
      exact this
    clear hO hil
    replace hz2 := hide hz2
    go_wp2_with fail
    go_loopw [5, 3] (fun s p wr => ∃ (r : Nat) (a : Option Addr) (c : Nat), r ≤ 8 ∧ s = .int .i64 (7 - (r : Int)) ∧ p = .slice a (k + 1 + r) c ∧ Hid (Ob w.heap.size wr (.slice a (k + 1 + r) c) (padH n ++ be8 (n * 8) r)) ∧ Hid (Gr w wr)) (fun s _ _ => (intOf s + 1).toNat)
    case atStart => exact ⟨0, a, c, by omega, rfl, rfl, hO2, hG⟩
    case round =>
    clear hO2 hG
    obtain ⟨r, a, c, hr, rfl, rfl, hO, hG⟩ := hrel
    by_cases hil : r < 8
    · obtain ⟨s, hs⟩ : ∃ s, s = 7 - r := ⟨_, rfl⟩
      have g0 : 7 - (r : Int) = (s : Int) := by omega
      rw [g0]
      have g1 : 0 ≤ (s : Int) := by omega
      obtain ⟨sh, hsh⟩ : ∃ sh, sh = 8 * s := ⟨_, rfl⟩
      have g2 : 8 * (s : Int) = (sh : Int) := by omega
      have g3 : 0 ≤ (sh : Int) := by omega
      have g6 : IntKind.i64.wrap (sh : Int) = (sh : Int) := by rw [IntKind.wrap_i64]; omega
      have g7 : (sh : Int) < 64 := by omega
      obtain ⟨y, hy⟩ : ∃ y : Int, y = ((n * 8 / 2 ^ (56 - 8 * r) % 256 : Nat) : Int) := ⟨_, rfl⟩
      have g4 : IntKind.u8.wrap ((n : Int) * 8 / 2 ^ sh) = y := by
        rw [IntKind.wrap_u8', hy, hsh, hs]
        have : (2 : Int) ^ (8 * (7 - r)) = ((2 ^ (56 - 8 * r) : Nat) : Int) := by
          rw [show 8 * (7 - r) = 56 - 8 * r by omega]; simp
        rw [this, show (n : Int) * 8 = ((n * 8 : Nat) : Int) by omega]
        rfl
      have g5 : IntKind.i64.wrap ((s : Int) - 1) = (s : Int) - 1 := by rw [IntKind.wrap_i64]; omega
      have g8 : IntKind.u64.wrap ((n : Int) * 8) = (n : Int) * 8 := by rw [IntKind.wrap_u64]; omega
      have hnx : Hid ((padH n ++ be8 (n * 8) r) ++ [y] = padH n ++ be8 (n * 8) (r + 1)) := by
        have h1 : be8 (n * 8) (r + 1) = be8 (n * 8) r ++ [y] := by rw [be8, hy]
        rw [h1]
        exact List.append_assoc _ _ _
      have hsz : Hid (w.heap.size ≤ wr.heap.size) := (unhide hG).size
      have hlen : (padH n ++ be8 (n * 8) r).length ≤ 100 := by
        have := padH_len n
        have h2 := be8_len (n * 8) r
        have h3 := unhide hz
        have h4 := unhide hz2
        rw [List.length_append]
        omega
      replace hsh := hide hsh
      replace hs := hide hs
      replace hy := hide hy
      go_upto_region 10 with fail
      refine wp_region_lit ?_
      iterate 7 (refine wpList_step fun K hK => ?_; replace hK := hide hK; go_simp; refine unhide hK _ _ ?_; clear hK K)
      have hO2 := (unhide hO).gr ((Gr.refl wr).alloc (.cells #[.int .u8 y] 5))
      refine app_bs (by kernel_rfl) (.tmp 26) (.tmp 32) rfl w.heap.size (.slice a (k + 1 + r) c) _ (by kernel_rfl) hO2 (some ⟨wr.heap.size, 0, none⟩) 1 1 [y] (by kernel_rfl) rfl (.inr ⟨_, 0, rfl, fun j hj => by rw [Nat.zero_add]; exact kc_cell (l := [y]) (blk_new _ _) j hj⟩) (by omega) (by have := unhide hsz; simp only [size_alloc]; omega) ?_
      intro v' w2 hO3 hG3
      have hG4 := hO2.grown (Nat.le_refl _) ((unhide hG).alloc _) hG3
      rw [unhide hnx] at hO3
      obtain ⟨a', c', hv', _, _, _⟩ := hO3.slice
      have hv2 : v' = .slice a' (k + 1 + (r + 1)) c' := by
        rw [hv', List.length_append, padH_len, be8_len, ← unhide hz]
      rw [hv2] at hO3
      rw [hv2]
      clear hO hG hO2 hG3 hv' hv2 hnx
      replace hO3 := hide hO3
      replace hG4 := hide hG4
      simp only [Act.put, List.setIfInBounds_toArray, List.set_cons_zero, List.set_cons_succ, List.getElem_toArray, List.getElem_cons_zero, List.getElem_cons_succ]
      iterate 1 (refine wpList_step fun K hK => ?_; replace hK := hide hK; go_simp; refine unhide hK _ _ ?_; clear hK K)
      refine wpList_nil ?_
      go_wp2_with fail
      have hs1 := unhide hs
      refine ⟨⟨r + 1, a', c', by omega, by congr 1; omega, rfl, hO3, hG4⟩, ?_⟩
      show ((s : Int) - 1 + 1).toNat < ((s : Int) + 1).toNat
      omega
    · have e : r = 8 := by omega
      subst e
      have hP : Hid (RPadded n w (.returned (.slice a (k + 1 + 8) c)) wr) := ⟨_, rfl, unhide hO, unhide hG⟩
      clear hil hO hG
      go_wp2_with fail
      rw [unhide hT]
      exact unhide hP
/-- a block of bytes of one's own, with seven behind them -/
structure Rm (b : Nat) (w : World) (v : Value) (n : Nat) (L : List Int) : Prop where
  ex : ∃ g cap cur, v = .slice (some ⟨g, 0, none⟩) n cap ∧ b ≤ g ∧ w.heap[g]? = some (.cells cur 5 (0, 0)) ∧ n + 1 ≤ cap ∧ cap ≤ maxLen ∧ cur.size = cap ∧ cur.toList.take (n + 1) = (L ++ [7]).map (Value.int .u8) ∧ L.length = n
theorem Rm.sl {b : Nat} {w : World} {v : Value} {n : Nat} {L : List Int} (h : Rm b w v n L) : ∃ g c, v = .slice (some ⟨g, 0, none⟩) n c ∧ b ≤ g ∧ n + 1 ≤ c ∧ c ≤ maxLen ∧ At w g 0 (L ++ [7]) ∧ At w g 0 L := by
  obtain ⟨g, cap, cur, h1, h2, h3, h4, h5, h6, h7, h8⟩ := h.ex
  have hA : At w g 0 (L ++ [7]) := by
    intro j hj
    rw [Nat.zero_add]
    refine cell_of h3 ?_
    rw [← Array.getElem?_toList]
    have e : ((L ++ [7]).map (Value.int .u8))[j]? = some (.int .u8 ((L ++ [7]).getD j 0)) := by
      rw [List.getElem?_map, List.getElem?_eq_getElem hj, List.getD_eq_getElem?_getD, List.getElem?_eq_getElem hj]
      rfl
    rw [← h7, List.getElem?_take, if_pos (by rw [List.length_append] at hj; simp at hj; omega)] at e
    exact e
  refine ⟨g, cap, h1, h2, h4, h5, hA, ?_⟩
  have := hA.take L.length
  rw [List.take_left] at this
  exact this
theorem Rm.gr {b : Nat} {w u : World} {v : Value} {n : Nat} {L : List Int} (h : Rm b w v n L) (k : Gr w u) : Rm b u v n L := by
  obtain ⟨g, cap, cur, h1, h2, h3, h4⟩ := h.ex
  exact ⟨g, cap, cur, h1, h2, k.blk h3, h4⟩

end Go.Proofs.YthnmebhljkccnaaDoor
