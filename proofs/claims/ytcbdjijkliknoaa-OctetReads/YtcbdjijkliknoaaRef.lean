/-
  What the document's answers Low, Same and High do.
-/
import Derived.Test.YtcbdjijkliknoaaPut
import Derived.BigRegion
namespace Go.Proofs.Ytcbdjijkliknoaa
open Go.RowKit

set_option maxHeartbeats 1000000 in
theorem low_any (x : Int) (size : Nat) (w : World) (hs : size ≤ 8) (hx : 0 ≤ x) (hx' : x < 18446744073709551616) :
    Calls Try.prog 15 #[.int .u64 x, .int .i64 size] w (Made (lowL x size) w) := by
  go_enter Try.func15, Try.ntmps15
  go_wp2_with (at_make; refine wpList_make_bytes _ rfl (.tmp 7) rfl _ size rfl rfl (by omega) ?_; intro w1 hr1 hb1 hz1)
  have hr3 : Hid (Row w1 w.heap.size (filled [] x size 0)) := by
    have e : List.replicate size (0 : Int) = filled [] x size 0 := by simp [filled, lowL]
    rw [e] at hr1
    exact hr1
  clear hr1
  go_loopw [0, 6] (fun y i wr => ∃ k : Nat, k ≤ size ∧ y = .int .u64 (x / 256 ^ k) ∧ i = .int .i64 k ∧ Hid (Row wr w.heap.size (filled [] x size k)) ∧ Below w.heap.size w wr ∧ wr.heap.size = w.heap.size + 1) (fun _ i _ => size - (intOf i).toNat)
  case atStart => exact ⟨0, Nat.zero_le _, by simp, rfl, hr3, hb1, hz1⟩
  case round =>
    obtain ⟨k, hk, rfl, rfl, hr, hb, hz⟩ := hrel
    have hlen := filled_len [] x size k hk
    by_cases hlt : k < size
    · have hck := (unhide hr).cell k (by simp at hlen; omega)
      have hfk := (unhide hr).frozen k
      have hy0 : 0 ≤ x / 256 ^ k := Int.ediv_nonneg hx (Int.pow_nonneg (by omega))
      have hy1 : x / 256 ^ k < 18446744073709551616 := Int.lt_of_le_of_lt (Int.ediv_le_self _ hx) hx'
      have hst := filled_step [] x size k hlt
      have hdv : x / 256 ^ k / 256 = x / 256 ^ (k + 1) := by rw [Int.pow_succ, Int.ediv_ediv_of_nonneg (Int.pow_nonneg (by omega))]
      generalize x / 256 ^ k = y at *
      have HS : Hid ((filled [] x size k).set k (y % 256) = filled [] x size (k + 1)) := by
        have : (filled [] x size k).set k (y % 256) = filled [] x size (k + 1) := by simpa using hst
        exact this
      have HD := hide hdv
      clear hst hdv hr3 hb1 hz1 hlen
      go_wp2
      go_roundw
      case rel =>
        have hR : Hid (Row (wr.setCell ⟨w.heap.size, k, none⟩ (.int .u8 (y % 256))) w.heap.size (filled [] x size (k + 1))) := by
          have := (unhide hr).set k (y % 256)
          rw [unhide HS] at this
          exact this
        exact ⟨k + 1, by omega, by rw [unhide HD], by go_num, hR, hb.setCell (Nat.le_refl _) _, by rw [← hz]; simp⟩
      case measure => simp [intOf]; omega
    · obtain rfl : k = size := by omega
      have hF : Made (lowL x k) w (.returned (.slice (some ⟨w.heap.size, 0, none⟩) k k)) wr := by
        have e : filled [] x k k = lowL x k := by simp [filled]
        have hr' := unhide hr
        rw [e] at hr'
        exact ⟨by rw [lowL_len], hr', hb, hz⟩
      have HF := hide hF
      clear hF hlen hr hr3 hb1 hz1
      go_wp2
      go_ret
      exact unhide HF

set_option maxHeartbeats 1000000 in
theorem same_some (b off b' off' n c c' : Nat) (l m : List Int) (w : World) (hl : l.length = n) (hm : m.length = n) (hn : n ≤ 281474976710656)
    (hc : ∀ i, i < n → w.cell? ⟨b, off + i, none⟩ = some (.int .u8 (l.getD i 0))) (hd : ∀ i, i < n → w.cell? ⟨b', off' + i, none⟩ = some (.int .u8 (m.getD i 0))) :
    Calls Try.prog 14 #[.slice (some ⟨b, off, none⟩) n c, .slice (some ⟨b', off', none⟩) n c'] w fun e w' => e = .returned (.bool (decide (l = m))) ∧ Still w w' := by
  go_enter Try.func14, Try.ntmps14
  go_wp2
  go_loopw [5] (fun i wr => ∃ k : Nat, k ≤ n ∧ i = .int .i64 k ∧ Hid (l.take k = m.take k) ∧ Still w wr) (fun i _ => n - (intOf i).toNat)
  case atStart => exact ⟨0, Nat.zero_le _, rfl, by show _ = _; simp, Still.refl _⟩
  case round =>
    obtain ⟨k, hk, rfl, hU, hS⟩ := hrel
    by_cases hlt : k < n
    · have hck := (hS.cell _).trans (hc k hlt)
      have hdk := (hS.cell _).trans (hd k hlt)
      have hst := take_eq_step l m k (by omega) (by omega)
      obtain ⟨x, hx⟩ : ∃ x, x = l.getD k 0 := ⟨_, rfl⟩
      obtain ⟨y, hy⟩ : ∃ y, y = m.getD k 0 := ⟨_, rfl⟩
      rw [← hx] at hck hst
      rw [← hy] at hdk hst
      have hki : (k : Int) < n := by omega
      by_cases hxy : x = y
      · have hb : (x != y) = false := by simp [hxy]
        have HS := hide (hst.2 ⟨unhide hU, hxy⟩)
        clear hxy hx hy hst hU hc hd
        go_wp2
        go_quiet (fail)
        go_wp2
        go_roundw
        case rel => exact ⟨k + 1, by omega, by go_num, HS, hS.trans (Still.drewN _ _)⟩
        case measure => simp [intOf]; omega
      · have hb : (x != y) = true := by simp [hxy]
        have HE : Hid (false = decide (l = m)) := by
          show _ = _
          symm
          rw [decide_eq_false_iff_not]
          rintro rfl
          exact hxy (hx.trans hy.symm)
        clear hxy hx hy hst hU hc hd
        go_wp2
        go_quiet (fail)
        go_wp2
        go_ret
        exact ⟨ret_bool (unhide HE), hS.trans (Still.drewN _ _)⟩
    · have HE : Hid (true = decide (l = m)) := by
        show _ = _
        symm
        rw [decide_eq_true_iff]
        have := unhide hU
        rw [List.take_of_length_le (by omega), List.take_of_length_le (by omega)] at this
        exact this
      clear hU hc hd
      go_wp2
      go_ret
      exact ⟨ret_bool (unhide HE), hS⟩

set_option maxHeartbeats 400000 in
theorem same_none (a a' : Option Addr) (c c' : Nat) (w : World) :
    Calls Try.prog 14 #[.slice a 0 c, .slice a' 0 c'] w fun e w' => e = .returned (.bool true) ∧ w' = w := by
  go_enter Try.func14, Try.ntmps14
  go_wp2
  refine wp_loop_rounds 1 ?_
  rw [rounds_succ]
  go_wp2
  go_ret
  exact ⟨rfl, rfl⟩

set_option maxHeartbeats 400000 in
theorem same_unlike (a a' : Option Addr) (n n' c c' : Nat) (w : World) (h : n ≠ n') :
    Calls Try.prog 14 #[.slice a n c, .slice a' n' c'] w fun e w' => e = .returned (.bool false) ∧ w' = w := by
  have h' : ((n : Int) != (n' : Int)) = true := by simp; omega
  clear h
  go_enter Try.func14, Try.ntmps14
  go_wp2
  go_ret
  exact ⟨rfl, rfl⟩

theorem same_any (a a' : Option Addr) (n n' c c' : Nat) (l m : List Int) (w : World) (h : Bs w a n l) (h' : Bs w a' n' m) (hn : n ≤ 281474976710656) :
    Calls Try.prog 14 #[.slice a n c, .slice a' n' c'] w fun e w' => e = .returned (.bool (decide (l = m))) ∧ Still w w' := by
  obtain ⟨h1, h2, h3⟩ := h
  obtain ⟨g1, g2, g3⟩ := h'
  by_cases hnn : n = n'
  · subst hnn
    rcases Nat.eq_zero_or_pos n with h0 | h0
    · subst h0
      obtain rfl := List.eq_nil_of_length_eq_zero h1
      obtain rfl := List.eq_nil_of_length_eq_zero g1
      exact (same_none a a' c c' w).mono fun e w' ⟨h, hw⟩ => ⟨h, by subst hw; exact Still.refl _⟩
    · obtain ⟨b, off, rfl, hc⟩ := h3 h0
      obtain ⟨b', off', rfl, hd⟩ := g3 h0
      exact same_some b off b' off' n c c' l m w h1 g1 hn hc hd
  · have e : decide (l = m) = false := by
      rw [decide_eq_false_iff_not]
      rintro rfl
      omega
    rw [e]
    exact (same_unlike a a' n n' c c' w hnn).mono fun e w' ⟨h, hw⟩ => ⟨h, by subst hw; exact Still.refl _⟩
end Go.Proofs.Ytcbdjijkliknoaa
