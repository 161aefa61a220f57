/-
  What octet's put, Put16, Put32, Put64 do.
-/
import Derived.Test.YtcbdjijkliknoaaOwnRow
namespace Go.Proofs.Ytcbdjijkliknoaa
open Go.RowKit

/-- The low form of x, of k bytes. -/
def lowL (x : Int) : Nat → List Int
  | 0 => []
  | k + 1 => x % 256 :: lowL (x / 256) k

theorem lowL_len (x : Int) (k : Nat) : (lowL x k).length = k := by
  induction k generalizing x with
  | zero => rfl
  | succ k ih => simp [lowL, ih]
theorem lowL_mem (x : Int) (k : Nat) : ∀ y ∈ lowL x k, 0 ≤ y ∧ y < 256 := by
  induction k generalizing x with
  | zero => simp [lowL]
  | succ k ih =>
    intro y hy
    simp only [lowL, List.mem_cons] at hy
    rcases hy with rfl | hy
    · omega
    · exact ih _ y hy
theorem div_pow (x : Int) (k : Nat) : x / 256 / 256 ^ k = x / 256 ^ (k + 1) := by
  rw [Int.pow_succ, Int.mul_comm, Int.ediv_ediv_of_nonneg (by omega)]
theorem lowL_snoc (x : Int) (k : Nat) : lowL x (k + 1) = lowL x k ++ [x / 256 ^ k % 256] := by
  induction k generalizing x with
  | zero => simp [lowL]
  | succ k ih => rw [lowL, ih, lowL, List.cons_append, div_pow]

/-- The row behind k rounds. -/
def filled (l : List Int) (x : Int) (size k : Nat) : List Int := l ++ (lowL x k ++ List.replicate (size - k) 0)
theorem filled_len (l : List Int) (x : Int) (size k : Nat) (h : k ≤ size) : (filled l x size k).length = l.length + size := by simp [filled, lowL_len]; omega
theorem filled_step (l : List Int) (x : Int) (size k : Nat) (h : k < size) : (filled l x size k).set (l.length + k) (x / 256 ^ k % 256) = filled l x size (k + 1) := by
  unfold filled
  rw [List.set_append_right _ _ (by omega), Nat.add_sub_cancel_left, List.set_append_right _ _ (by rw [lowL_len]; exact Nat.le_refl _), lowL_len, Nat.sub_self, lowL_snoc]
  obtain ⟨j, hj⟩ : ∃ j, size - k = j + 1 := ⟨size - k - 1, by omega⟩
  rw [hj, show size - (k + 1) = j by omega]
  simp [List.replicate_succ]
theorem filled_mem (l : List Int) (x : Int) (size k : Nat) (hl : ∀ y ∈ l, 0 ≤ y ∧ y < 256) : ∀ y ∈ filled l x size k, 0 ≤ y ∧ y < 256 := by
  intro y hy
  simp only [filled, List.mem_append] at hy
  rcases hy with h | h | h
  · exact hl y h
  · exact lowL_mem x k y h
  · have := List.eq_of_mem_replicate h; omega

/-- New bytes l, in a block of their own. -/
def Made (l : List Int) (w : World) (e : Ending) (w' : World) : Prop :=
  e = .returned (.slice (some ⟨w.heap.size, 0, none⟩) l.length l.length) ∧ Row w' w.heap.size l ∧ Below w.heap.size w w' ∧ w'.heap.size = w.heap.size + 1

set_option maxHeartbeats 1000000 in
theorem put_any (a : Option Addr) (n c : Nat) (l : List Int) (x : Int) (size : Nat) (w : World) (h : Bs w a n l) (hn : n ≤ 140737488355328) (hs : size ≤ 8) (hx : 0 ≤ x) :
    Calls Try.prog 30 #[.slice a n c, .int .u64 x, .int .i64 size] w (Made (l ++ lowL x size) w) := by
  have hl := h.1
  go_enter Try.func30, Try.ntmps30
  go_wp2_with (first | (at_make; refine wpList_make_bytes _ rfl (.tmp 12) rfl _ (n + size) rfl (by omega) (by omega) ?_; intro w1 hr1 hb1 hz1) | (refine wpList_copy_bytes rfl (.tmp 14) (.tmp 15) rfl w.heap.size (n + size) _ _ _ l (List.replicate (n + size) 0) rfl rfl hr1 (by simp) (h.below hb1) n (by omega) ?_; intro w2 hr2 hb2 hz2))
  have hb3 : Below w.heap.size w w2 := hb1.trans hb2
  have hr3 : Hid (Row w2 w.heap.size (filled l x size 0)) := by
    have := unhide hr2
    rw [List.take_of_length_le (by omega)] at this
    have e : l ++ (List.replicate (n + size) (0 : Int)).drop n = filled l x size 0 := by simp [filled, lowL]
    rw [e] at this
    exact this
  have hz3 : w2.heap.size = w.heap.size + 1 := by omega
  clear hr1 hb1 hz1 hr2 hb2 hz2 h
  go_loopw [1, 8] (fun y i wr => ∃ k : Nat, k ≤ size ∧ y = .int .u64 (x / 256 ^ k) ∧ i = .int .i64 (n + k : Nat) ∧ Hid (Row wr w.heap.size (filled l x size k)) ∧ Below w.heap.size w wr ∧ wr.heap.size = w.heap.size + 1) (fun _ i _ => n + size - (intOf i).toNat)
  case atStart => exact ⟨0, Nat.zero_le _, by simp, rfl, hr3, hb3, hz3⟩
  case round =>
    obtain ⟨k, hk, rfl, rfl, hr, hb, hz⟩ := hrel
    have hlen := filled_len l x size k hk
    by_cases hlt : k < size
    · have hck := (unhide hr).cell (n + k) (by omega)
      have hfk := (unhide hr).frozen (n + k)
      have hy0 : 0 ≤ x / 256 ^ k := Int.ediv_nonneg hx (Int.pow_nonneg (by omega))
      have hst := filled_step l x size k hlt
      have hdv : x / 256 ^ k / 256 = x / 256 ^ (k + 1) := by rw [Int.pow_succ, Int.ediv_ediv_of_nonneg (Int.pow_nonneg (by omega))]
      generalize x / 256 ^ k = y at *
      have HS : Hid ((filled l x size k).set (n + k) (y % 256) = filled l x size (k + 1)) := by rw [← hl]; exact hst
      have HD := hide hdv
      clear hst hdv hr3 hb3 hz3 hlen hl
      go_wp2
      go_roundw
      case rel =>
        have hR : Hid (Row (wr.setCell ⟨w.heap.size, n + k, none⟩ (.int .u8 (y % 256))) w.heap.size (filled l x size (k + 1))) := by
          have := (unhide hr).set (n + k) (y % 256)
          rw [unhide HS] at this
          exact this
        exact ⟨k + 1, by omega, by rw [unhide HD], by go_num, hR, hb.setCell (Nat.le_refl _) _, by rw [← hz]; simp⟩
      case measure => simp [intOf]; omega
    · obtain rfl : k = size := by omega
      have hF : Made (l ++ lowL x k) w (.returned (.slice (some ⟨w.heap.size, 0, none⟩) (n + k) (n + k))) wr := by
        have e : filled l x k k = l ++ lowL x k := by simp [filled]
        have hr' := unhide hr
        rw [e] at hr'
        have e2 : (l ++ lowL x k).length = n + k := by simp [lowL_len]; omega
        exact ⟨by rw [e2], hr', hb, hz⟩
      have HF := hide hF
      clear hF hlen hr hr3 hb3 hz3
      go_wp2
      go_ret
      exact unhide HF

set_option maxHeartbeats 400000 in
theorem put64_any (a : Option Addr) (n c : Nat) (l : List Int) (x : Int) (w : World) (h : Bs w a n l) (hn : n ≤ 140737488355328) (hx : 0 ≤ x) :
    Calls Try.prog 13 #[.slice a n c, .int .u64 x] w (Made (l ++ lowL x 8) w) := by
  have hp := hide (put_any a n c l x 8 w h hn (by omega) hx)
  clear h
  generalize l ++ lowL x 8 = r at *
  go_enter Try.func13, Try.ntmps13
  go_wp2_with (go_at_call 30; refine (unhide hp).mono ?_; rintro e w1 ⟨rfl, h1, h2, h3⟩)
  go_ret
  exact ⟨rfl, h1, h2, h3⟩
set_option maxHeartbeats 400000 in
theorem put32_any (a : Option Addr) (n c : Nat) (l : List Int) (x : Int) (w : World) (h : Bs w a n l) (hn : n ≤ 140737488355328) (hx : 0 ≤ x) (hx' : x < 4294967296) :
    Calls Try.prog 12 #[.slice a n c, .int .u32 x] w (Made (l ++ lowL x 4) w) := by
  have hp := hide (put_any a n c l x 4 w h hn (by omega) hx)
  clear h
  generalize l ++ lowL x 4 = r at *
  go_enter Try.func12, Try.ntmps12
  go_wp2_with (go_at_call 30; refine (unhide hp).mono ?_; rintro e w1 ⟨rfl, h1, h2, h3⟩)
  go_ret
  exact ⟨rfl, h1, h2, h3⟩
set_option maxHeartbeats 400000 in
theorem put16_any (a : Option Addr) (n c : Nat) (l : List Int) (x : Int) (w : World) (h : Bs w a n l) (hn : n ≤ 140737488355328) (hx : 0 ≤ x) (hx' : x < 65536) :
    Calls Try.prog 11 #[.slice a n c, .int .u16 x] w (Made (l ++ lowL x 2) w) := by
  have hp := hide (put_any a n c l x 2 w h hn (by omega) hx)
  clear h
  generalize l ++ lowL x 2 = r at *
  go_enter Try.func11, Try.ntmps11
  go_wp2_with (go_at_call 30; refine (unhide hp).mono ?_; rintro e w1 ⟨rfl, h1, h2, h3⟩)
  go_ret
  exact ⟨rfl, h1, h2, h3⟩

theorem made_mem (l : List Int) (x : Int) (k : Nat) (hl : ∀ y ∈ l, 0 ≤ y ∧ y < 256) : ∀ y ∈ l ++ lowL x k, 0 ≤ y ∧ y < 256 := by
  intro y hy
  rcases List.mem_append.1 hy with h | h
  · exact hl y h
  · exact lowL_mem x k y h
end Go.Proofs.Ytcbdjijkliknoaa
