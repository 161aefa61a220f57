/-
  What the document's answer Both does.
-/
import Derived.Test.YtcbdjijkliknoaaRef
namespace Go.Proofs.Ytcbdjijkliknoaa
open Go.RowKit

/-- The row g, of the call's own, holds l and has room up to cap. -/
def Own (w : World) (g cap k : Nat) (l : List Int) : Prop := w.ownsRow g 5 1 (.slice (some ⟨g, 0, none⟩) k cap) k (l.map (Value.int .u8))

theorem own_step {w0 wr w1 : World} {g cap k : Nat} {l : List Int} {x : Int} (hb : Below g w0 wr) (hg : g < wr.heap.size) (h : w1.ownsRow g 5 1 (.slice (some ⟨g, 0, none⟩) (k + 1) cap) (k + 1) ((l.map (Value.int .u8)) ++ [.int .u8 x]))
    (hgrow : (wr.alloc (.cells #[.int .u8 x] 5)).grownBy w1 (some g)) : Hid (Own w1 g cap (k + 1) (l ++ [x])) ∧ Below g w0 w1 ∧ g < w1.heap.size := by
  refine ⟨?_, ?_, ?_⟩
  · show w1.ownsRow g 5 1 _ _ _
    rw [List.map_append]
    exact h
  · exact (hb.alloc (by omega) _).grown hgrow (by simp; omega) (by intro k hk; simp only [Option.some.injEq] at hk; omega)
  · have := hgrow.size
    rw [size_new] at this
    omega

/-- Both rows, in new memory. -/
def Cat (l : List Int) (w : World) (e : Ending) (w' : World) : Prop :=
  ∃ c, e = .returned (.slice (some ⟨w.heap.size, 0, none⟩) l.length c) ∧ l.length ≤ c ∧ Bs w' (some ⟨w.heap.size, 0, none⟩) l.length l ∧ Below w.heap.size w w'

set_option maxHeartbeats 1000000 in
theorem both_any (a a' : Option Addr) (n m c c' : Nat) (l r : List Int) (w : World) (hA : Bs w a n l) (hB : Bs w a' m r) (hn : n ≤ 140737488355328) (hm : m ≤ 140737488355328) :
    Calls Try.prog 10 #[.slice a n c, .slice a' m c'] w (Cat (l ++ r) w) := by
  have hl := hA.1
  have hr := hB.1
  obtain ⟨i0, hi, hz0, hz1, hz2⟩ := info_parts Try.info5
  go_enter Try.func10, Try.ntmps10
  go_wp2_with (at_make; refine wpList_make_own _ rfl _ _ 22 rfl w.heap.size 5 i0 (.int .u8 0) 1 Try.underlying22 hi hz0 hz1 .i64 .i64 _ (n + m) rfl rfl (by omega) (by rw [hz2]; omega) (by unfold maxLen; omega) (Nat.le_refl _) ?_; intro w1 ho1 hg1)
  have hO : Hid (Own w1 w.heap.size (n + m) 0 []) := ho1
  have hb1 : Below w.heap.size w w1 := (Below.refl _ _).grown hg1 (Nat.le_refl _) (by simp)
  have hz : w.heap.size < w1.heap.size := by
    rcases ho1.2 with ⟨h, _⟩ | ⟨g, cap, cur, h, _, hh, _⟩
    · simp at h
    · simp only [Value.slice.injEq, Option.some.injEq, Addr.mk.injEq] at h
      rw [← h.1.1] at hh
      exact lt_of_block hh
  clear ho1 hg1
  go_loopw [5, 6] (fun v i wr => ∃ k : Nat, k ≤ n ∧ i = .int .i64 k ∧ v = .slice (some ⟨w.heap.size, 0, none⟩) k (n + m) ∧ Hid (Own wr w.heap.size (n + m) k (l.take k)) ∧ Below w.heap.size w wr ∧ w.heap.size < wr.heap.size) (fun _ i _ => n - (intOf i).toNat)
  case atStart => exact ⟨0, Nat.zero_le _, rfl, rfl, by simpa using hO, hb1, hz⟩
  case round =>
    clear hO hb1 hz
    obtain ⟨k, hk, rfl, rfl, hO, hb1, hz⟩ := hrel
    by_cases hlt : k < n
    · obtain ⟨b, off, rfl, hc⟩ := hA.2.2 (by omega)
      have hck : wr.cell? ⟨b, off + k, none⟩ = some (.int .u8 (l.getD k 0)) := (hb1.cell (p := ⟨b, off + k, none⟩) (lt_of_cell (hc k hlt))).trans (hc k hlt)
      have hts := take_snoc_getD l k (by omega)
      obtain ⟨x, hx⟩ : ∃ x, x = l.getD k 0 := ⟨_, rfl⟩
      rw [← hx] at hck hts
      have HT := hide hts
      clear hx hts hc hA hB
      go_wp2_with (at_builtin; refine wpList_append_fits _ rfl (.tmp 20) (.tmp 25) 22 rfl w.heap.size 5 i0 1 Try.underlying22 hi hz1 w.heap.size k (n + m) ((l.take k).map (Value.int .u8)) rfl (World.ownsRow.alloc (unhide hO) _) ⟨wr.heap.size, 0, none⟩ 1 1 [.int .u8 x] rfl rfl (cell_one_new _ _ _) (by intro u hu; simp at hu; subst hu; rfl) (by omega) ?_; intro w2 ho2 hg2)
      obtain ⟨R1, R2, R3⟩ := own_step hb1 hz ho2 hg2
      rw [← unhide HT] at R1
      clear ho2 hg2 hO hb1 hz
      go_wp2
      go_roundw
      case rel => exact ⟨k + 1, by omega, by go_num, rfl, R1, R2, R3⟩
      case measure => simp [intOf]; omega
    · obtain rfl : k = n := by omega
      have hO2 : Hid (Own wr w.heap.size (k + m) (k + 0) (l ++ r.take 0)) := by
        have := unhide hO
        rw [List.take_of_length_le (by omega)] at this
        have h2 : Own wr w.heap.size (k + m) (k + 0) (l ++ r.take 0) := by simpa using this
        exact h2
      clear hO
      go_wp2
      go_loopw [5, 7] (fun v i wr => ∃ j : Nat, j ≤ m ∧ i = .int .i64 j ∧ v = .slice (some ⟨w.heap.size, 0, none⟩) (k + j) (k + m) ∧ Hid (Own wr w.heap.size (k + m) (k + j) (l ++ r.take j)) ∧ Below w.heap.size w wr ∧ w.heap.size < wr.heap.size) (fun _ i _ => m - (intOf i).toNat)
      case atStart => exact ⟨0, Nat.zero_le _, rfl, rfl, hO2, hb1, hz⟩
      case round =>
        clear hO2 hb1 hz
        obtain ⟨j, hj, rfl, rfl, hO, hb1, hz⟩ := hrel
        by_cases hlt2 : j < m
        · obtain ⟨b, off, rfl, hc⟩ := hB.2.2 (by omega)
          have hck := (hb1.cell (p := ⟨b, off + j, none⟩) (lt_of_cell (hc j hlt2))).trans (hc j hlt2)
          have hts := take_snoc_getD r j (by omega)
          obtain ⟨x, hx⟩ : ∃ x, x = r.getD j 0 := ⟨_, rfl⟩
          rw [← hx] at hck hts
          have HT : Hid (l ++ r.take (j + 1) = (l ++ r.take j) ++ [x]) := by show _ = _; rw [hts, List.append_assoc]
          clear hx hts hc hA hB
          go_wp2_with (at_builtin; refine wpList_append_fits _ rfl (.tmp 33) (.tmp 38) 22 rfl w.heap.size 5 i0 1 Try.underlying22 hi hz1 w.heap.size (k + j) (k + m) ((l ++ r.take j).map (Value.int .u8)) rfl (World.ownsRow.alloc (unhide hO) _) ⟨World.heap _ |>.size, 0, none⟩ 1 1 [.int .u8 x] rfl rfl (cell_one_new _ _ _) (by intro u hu; simp at hu; subst hu; rfl) (by omega) ?_; intro w2 ho2 hg2)
          obtain ⟨R1, R2, R3⟩ := own_step hb1 hz ho2 hg2
          rw [← unhide HT] at R1
          clear ho2 hg2 hO hb1 hz
          go_wp2
          go_roundw
          case rel => exact ⟨j + 1, by omega, by go_num, rfl, R1, R2, R3⟩
          case measure => simp [intOf]; omega
        · obtain rfl : j = m := by omega
          have hF : ∀ wr, Hid (Own wr w.heap.size (k + j) (k + j) (l ++ r.take j)) → Below w.heap.size w wr → Cat (l ++ r) w (.returned (.slice (some ⟨w.heap.size, 0, none⟩) (k + j) (k + j))) wr := by
            intro wr hO hb
            have e : (l ++ r).length = k + j := by simp; omega
            have hO' := unhide hO
            rw [List.take_of_length_le (by omega)] at hO'
            refine ⟨k + j, by rw [e], by omega, ?_, hb⟩
            rw [e]
            refine owns_bs hO' ?_ e
            intro y hy
            rcases List.mem_append.1 hy with h | h
            · exact hA.2.1 y h
            · exact hB.2.1 y h
          have HF := hide (hF _ hO hb1)
          clear hF hO hA hB
          go_wp2
          go_ret
          exact unhide HF
end Go.Proofs.Ytcbdjijkliknoaa
