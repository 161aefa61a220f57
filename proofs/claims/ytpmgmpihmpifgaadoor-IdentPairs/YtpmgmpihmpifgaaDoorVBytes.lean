/-
  What Bytes answers.
-/
import Derived.Test.YtpmgmpihmpifgaaDoorVZero
import Derived.Test.YtpmgmpihmpifgaaDoorVBm
namespace Go.Proofs.YtpmgmpihmpifgaaDoor.Cv
open Go.RowKit
set_option maxRecDepth 100000

theorem Tryd.infoKey : (Tryd.prog.info? 25).map (·.size) = some 32 := by kernel_rfl

/-- the loop of Bytes: where it is -/
def BL (w wr : World) (y0 y1 y2 y3 y4 v : Int) (k : Nat) : Prop :=
  KB wr (w.heap.size + 1 + 1) (digs v k) ∧ KB wr (w.heap.size + 1) (digs v 0) ∧ wr.heap[w.heap.size + 1 + 1 + 1 + 1 + 1]? = some (.cells #[.int .u64 y0, .int .u64 y1, .int .u64 y2, .int .u64 y3, .int .u64 y4] 89 (0, 0)) ∧ Gr w wr

theorem BL.next {w wr : World} {y0 y1 y2 y3 y4 v x : Int} {k : Nat} (h : BL w wr y0 y1 y2 y3 y4 v k) (e : x = v / 256 ^ k % 256) : BL w (wr.setCell ⟨w.heap.size + 1 + 1, k, none⟩ (.int .u8 x)) y0 y1 y2 y3 y4 v (k + 1) := by
  obtain ⟨h1, h2, h3, h4⟩ := h
  refine ⟨?_, h2.other (by omega), ?_, h4.setCell (by show w.heap.size ≤ w.heap.size + 1 + 1; omega) _⟩
  · rw [← digs_set v x k e]; exact h1.set k x
  · rw [Below.heap_setCell wr _ _ _ (by show w.heap.size + 1 + 1 + 1 + 1 + 1 ≠ w.heap.size + 1 + 1; omega)]; exact h3

theorem six' (w : World) (o0 o1 o2 o3 o4 o5 : Obj) (u : World) (h : (((((w.alloc o0).alloc o1).alloc o2).alloc o3).alloc o4).alloc o5 = u) :
    u.heap[w.heap.size + 1]? = some o1 ∧ u.heap[w.heap.size + 1 + 1]? = some o2 ∧ u.heap[w.heap.size + 1 + 1 + 1 + 1 + 1]? = some o5 ∧ Gr w u := by
  rw [← h]
  refine ⟨?_, ?_, ?_, ((((((Gr.refl _).alloc _).alloc _).alloc _).alloc _).alloc _).alloc _⟩ <;> (simp only [blk_alloc, size_alloc]; repeat (first | rw [if_pos trivial] | rw [if_pos (by omega)] | rw [if_neg (by omega)]))

set_option maxHeartbeats 16000000 in
theorem bytes_ok (n a b c d e : Int) (hf : Rep n a b c d e) (w : World) :
    Calls Tryd.prog 66 #[five a b c d e] w (fun r w' => r = .returned (keyV (n % pp)) ∧ Gr w w') := by
  have hl := hide (least_al n a b c d e hf)
  clear hf
  generalize n % pp = v at hl ⊢
  unfold five
  go_enter Tryd.func66, Tryd.ntmps66
  go_wp2_with (go_at_call 85; refine (unhide hl _).mono ?_; rintro r w9 ⟨y0, y1, y2, y3, y4, rfl, hy, o1, o2, rfl⟩)
  clear hl
  have hd : Hid (Dg y0 y1 y2 y3 y4 v) := hy
  clear hy
  generalize hW : World.alloc _ _ = u
  obtain ⟨B1, B2, B5, hg0⟩ := six' w _ _ _ _ _ _ u hW
  have hS : Hid (BL w u y0 y1 y2 y3 y4 v 0) := hide ⟨B2, B1, B5, hg0⟩
  clear hW B1 B2 B5 hg0
  go_loopw [12] (fun i wr => ∃ k : Nat, k ≤ 32 ∧ i = .int .i64 k ∧ Hid (BL w wr y0 y1 y2 y3 y4 v k)) (fun i _ => 32 - (intOf i).toNat)
  case atStart => exact ⟨0, by omega, rfl, hS⟩
  case round =>
    clear hS
    obtain ⟨k, hk, rfl, hS⟩ := hrel
    by_cases h32 : k = 32
    · subst h32
      obtain ⟨h1, h2, h3, h4⟩ := unhide hS
      replace h1 := hide h1; replace h2 := hide h2; replace h3 := hide h3; replace h4 := hide h4
      go_wp2_with (first | (refine wpList_load_row rfl 25 (.tmp 3) rfl (w.heap.size + 1 + 1) rfl 25 (kc (digs v 32)) (0, 0) _ (by exact unhide h1) Tryd.underlying25 rfl (by rw [Tryd.infoKey, kc_size, digs_len]) ?_) | (refine wpList_store_row rfl 25 (.tmp 2) (.tmp 43) rfl (w.heap.size + 1) (kc (digs v 32)) rfl rfl 25 (kc (digs v 0)) (by exact unhide h2) (by rw [Tryd.infoKey, kc_size, digs_len]) (by rw [kc_size, kc_size, digs_len, digs_len]) (kc_one _) ?_))
      refine bodyPost_ret (v := keyV v) (results_cell_row Tryd.results66 _ _ (w.heap.size + 1) 25 (kc (digs v 32)) (0, 0) _ rfl (setRow_heap wr (w.heap.size + 1) _ _ 25 _ (unhide h2)) Tryd.underlying25 rfl (by rw [Tryd.infoKey, kc_size, digs_len])) rfl ⟨rfl, ?_⟩
      exact below_setRow (unhide h4) (by omega) _
    · have hlt : k < 32 := by omega
      clear h32 hk
      have hq : w.heap.size + 1 + 1 ≠ w.heap.size + 1 + 1 + 1 + 1 + 1 := by omega
      have c0 := cell_of (i := 0) (unhide hS).2.2.1 rfl
      have c1 := cell_of (i := 1) (unhide hS).2.2.1 rfl
      have c2 := cell_of (i := 2) (unhide hS).2.2.1 rfl
      have c3 := cell_of (i := 3) (unhide hS).2.2.1 rfl
      have c4 := cell_of (i := 4) (unhide hS).2.2.1 rfl
      have ck := (unhide hS).1.cell k (by rw [digs_len]; exact hlt)
      have fk := (unhide hS).1.froz k
      generalize (digs v k).getD k 0 = old at ck
      have hcases : k = 0 ∨ k = 1 ∨ k = 2 ∨ k = 3 ∨ k = 4 ∨ k = 5 ∨ k = 6 ∨ k = 7 ∨ k = 8 ∨ k = 9 ∨ k = 10 ∨ k = 11 ∨ k = 12 ∨ k = 13 ∨ k = 14 ∨ k = 15 ∨ k = 16 ∨ k = 17 ∨ k = 18 ∨ k = 19 ∨ k = 20 ∨ k = 21 ∨ k = 22 ∨ k = 23 ∨ k = 24 ∨ k = 25 ∨ k = 26 ∨ k = 27 ∨ k = 28 ∨ k = 29 ∨ k = 30 ∨ k = 31 := by omega
      rcases hcases with rfl | rfl | rfl | rfl | rfl | rfl | rfl | rfl | rfl | rfl | rfl | rfl | rfl | rfl | rfl | rfl | rfl | rfl | rfl | rfl | rfl | rfl | rfl | rfl | rfl | rfl | rfl | rfl | rfl | rfl | rfl | rfl
      · have hb := hide (bm0 (unhide hd))
        go_wp2_with fail
        go_roundw
        case rel => exact ⟨1, by omega, rfl, hide ((unhide hS).next (unhide hb))⟩
        case measure => decide
      · have hb := hide (bm1 (unhide hd))
        go_wp2_with fail
        go_roundw
        case rel => exact ⟨2, by omega, rfl, hide ((unhide hS).next (unhide hb))⟩
        case measure => decide
      · have hb := hide (bm2 (unhide hd))
        go_wp2_with fail
        go_roundw
        case rel => exact ⟨3, by omega, rfl, hide ((unhide hS).next (unhide hb))⟩
        case measure => decide
      · have hb := hide (bm3 (unhide hd))
        go_wp2_with fail
        go_roundw
        case rel => exact ⟨4, by omega, rfl, hide ((unhide hS).next (unhide hb))⟩
        case measure => decide
      · have hb := hide (bm4 (unhide hd))
        go_wp2_with fail
        go_roundw
        case rel => exact ⟨5, by omega, rfl, hide ((unhide hS).next (unhide hb))⟩
        case measure => decide
      · have hb := hide (bm5 (unhide hd))
        go_wp2_with fail
        go_roundw
        case rel => exact ⟨6, by omega, rfl, hide ((unhide hS).next (unhide hb))⟩
        case measure => decide
      · have hb := hide (bm6 (unhide hd))
        go_wp2_with fail
        go_roundw
        case rel => exact ⟨7, by omega, rfl, hide ((unhide hS).next (unhide hb))⟩
        case measure => decide
      · have hb := hide (bm7 (unhide hd))
        go_wp2_with fail
        go_roundw
        case rel => exact ⟨8, by omega, rfl, hide ((unhide hS).next (unhide hb))⟩
        case measure => decide
      · have hb := hide (bm8 (unhide hd))
        go_wp2_with fail
        go_roundw
        case rel => exact ⟨9, by omega, rfl, hide ((unhide hS).next (unhide hb))⟩
        case measure => decide
      · have hb := hide (bm9 (unhide hd))
        go_wp2_with fail
        go_roundw
        case rel => exact ⟨10, by omega, rfl, hide ((unhide hS).next (unhide hb))⟩
        case measure => decide
      · have hb := hide (bm10 (unhide hd))
        go_wp2_with fail
        go_roundw
        case rel => exact ⟨11, by omega, rfl, hide ((unhide hS).next (unhide hb))⟩
        case measure => decide
      · have hb := hide (bm11 (unhide hd))
        go_wp2_with fail
        go_roundw
        case rel => exact ⟨12, by omega, rfl, hide ((unhide hS).next (unhide hb))⟩
        case measure => decide
      · have hb := hide (bm12 (unhide hd))
        go_wp2_with fail
        go_roundw
        case rel => exact ⟨13, by omega, rfl, hide ((unhide hS).next (unhide hb))⟩
        case measure => decide
      · have hb := hide (bm13 (unhide hd))
        go_wp2_with fail
        go_roundw
        case rel => exact ⟨14, by omega, rfl, hide ((unhide hS).next (unhide hb))⟩
        case measure => decide
      · have hb := hide (bm14 (unhide hd))
        go_wp2_with fail
        go_roundw
        case rel => exact ⟨15, by omega, rfl, hide ((unhide hS).next (unhide hb))⟩
        case measure => decide
      · have hb := hide (bm15 (unhide hd))
        go_wp2_with fail
        go_roundw
        case rel => exact ⟨16, by omega, rfl, hide ((unhide hS).next (unhide hb))⟩
        case measure => decide
      · have hb := hide (bm16 (unhide hd))
        go_wp2_with fail
        go_roundw
        case rel => exact ⟨17, by omega, rfl, hide ((unhide hS).next (unhide hb))⟩
        case measure => decide
      · have hb := hide (bm17 (unhide hd))
        go_wp2_with fail
        go_roundw
        case rel => exact ⟨18, by omega, rfl, hide ((unhide hS).next (unhide hb))⟩
        case measure => decide
      · have hb := hide (bm18 (unhide hd))
        go_wp2_with fail
        go_roundw
        case rel => exact ⟨19, by omega, rfl, hide ((unhide hS).next (unhide hb))⟩
        case measure => decide
      · have hb := hide (bm19 (unhide hd))
        go_wp2_with fail
        go_roundw
        case rel => exact ⟨20, by omega, rfl, hide ((unhide hS).next (unhide hb))⟩
        case measure => decide
      · have hb := hide (bm20 (unhide hd))
        go_wp2_with fail
        go_roundw
        case rel => exact ⟨21, by omega, rfl, hide ((unhide hS).next (unhide hb))⟩
        case measure => decide
      · have hb := hide (bm21 (unhide hd))
        go_wp2_with fail
        go_roundw
        case rel => exact ⟨22, by omega, rfl, hide ((unhide hS).next (unhide hb))⟩
        case measure => decide
      · have hb := hide (bm22 (unhide hd))
        go_wp2_with fail
        go_roundw
        case rel => exact ⟨23, by omega, rfl, hide ((unhide hS).next (unhide hb))⟩
        case measure => decide
      · have hb := hide (bm23 (unhide hd))
        go_wp2_with fail
        go_roundw
        case rel => exact ⟨24, by omega, rfl, hide ((unhide hS).next (unhide hb))⟩
        case measure => decide
      · have hb := hide (bm24 (unhide hd))
        go_wp2_with fail
        go_roundw
        case rel => exact ⟨25, by omega, rfl, hide ((unhide hS).next (unhide hb))⟩
        case measure => decide
      · have hb := hide (bm25 (unhide hd))
        go_wp2_with fail
        go_roundw
        case rel => exact ⟨26, by omega, rfl, hide ((unhide hS).next (unhide hb))⟩
        case measure => decide
      · have hb := hide (bm26 (unhide hd))
        go_wp2_with fail
        go_roundw
        case rel => exact ⟨27, by omega, rfl, hide ((unhide hS).next (unhide hb))⟩
        case measure => decide
      · have hb := hide (bm27 (unhide hd))
        go_wp2_with fail
        go_roundw
        case rel => exact ⟨28, by omega, rfl, hide ((unhide hS).next (unhide hb))⟩
        case measure => decide
      · have hb := hide (bm28 (unhide hd))
        go_wp2_with fail
        go_roundw
        case rel => exact ⟨29, by omega, rfl, hide ((unhide hS).next (unhide hb))⟩
        case measure => decide
      · have hb := hide (bm29 (unhide hd))
        go_wp2_with fail
        go_roundw
        case rel => exact ⟨30, by omega, rfl, hide ((unhide hS).next (unhide hb))⟩
        case measure => decide
      · have hb := hide (bm30 (unhide hd))
        go_wp2_with fail
        go_roundw
        case rel => exact ⟨31, by omega, rfl, hide ((unhide hS).next (unhide hb))⟩
        case measure => decide
      · have hb := hide (bm31 (unhide hd))
        go_wp2_with fail
        go_roundw
        case rel => exact ⟨32, by omega, rfl, hide ((unhide hS).next (unhide hb))⟩
        case measure => decide
end Go.Proofs.YtpmgmpihmpifgaaDoor.Cv
