/-
  What octet.Reader's inner call take does.
-/
import Derived.Test.YtcbdjijkliknoaaReader
namespace Go.Proofs.Ytcbdjijkliknoaa
open Go.RowKit

set_option maxHeartbeats 400000 in
theorem take_nil (n : Int) (w : World) : Calls Try.prog 33 #[.pointer none, .int .i64 n] w fun e w' => e = .returned (.slice none 0 0) ∧ w' = w := by
  go_enter Try.func33, Try.ntmps33
  go_wp2_with (go_at_call 29; refine (err_nil _).mono ?_; rintro e w' ⟨rfl, rfl⟩)
  go_ret
  exact ⟨rfl, rfl⟩

set_option maxHeartbeats 400000 in
theorem take_err (p : Nat) (i x n : Int) (d : Value) (w : World) (h : Rd w p i x d) (hx : x ≠ 0) :
    Calls Try.prog 33 #[.pointer (some ⟨p, 0, none⟩), .int .i64 n] w fun e w' => e = .returned (.slice none 0 0) ∧ w' = w := by
  have hb : (x != 0) = true := by simpa using hx
  clear hx
  go_enter Try.func33, Try.ntmps33
  go_wp2_with (go_at_call 29; refine (err_any _ _ _ _ _ h).mono ?_; rintro e w' ⟨rfl, hw⟩; have hw2 := hw.symm; subst hw2)
  go_ret
  exact ⟨rfl, rfl⟩

set_option maxHeartbeats 400000 in
theorem take_neg (p : Nat) (i n : Int) (d : Value) (w : World) (h : Rd w p i 0 d) (hn : n < 0) :
    Calls Try.prog 33 #[.pointer (some ⟨p, 0, none⟩), .int .i64 n] w fun e w' => e = .returned (.slice none 0 0) ∧ Rd w' p i 2 d ∧ But p w w' := by
  have h1 := h.c1
  have hf := h.f 1
  go_enter Try.func33, Try.ntmps33
  go_wp2_with (go_at_call 29; refine (err_any _ _ _ _ _ h).mono ?_; rintro e w' ⟨rfl, hw⟩; have hw2 := hw.symm; subst hw2)
  go_ret
  exact ⟨rfl, three_set1 h, But.set _ _ _ _⟩

set_option maxHeartbeats 400000 in
theorem take_short (p : Nat) (i n : Int) (a : Option Addr) (m c : Nat) (w : World) (h : Rd w p i 0 (.slice a m c)) (hi : 0 ≤ i) (him : i ≤ m) (hc : m ≤ 140737488355328) (hn : m - i < n) :
    Calls Try.prog 33 #[.pointer (some ⟨p, 0, none⟩), .int .i64 n] w fun e w' => e = .returned (.slice none 0 0) ∧ Rd w' p i 110 (.slice a m c) ∧ But p w w' := by
  have hn0 : ¬ n < 0 := by omega
  go_enter Try.func33, Try.ntmps33
  go_wp2_with (first | (go_at_call 29; refine (err_any _ _ _ _ _ h).mono ?_; rintro e w' ⟨rfl, hw⟩; have hw2 := hw.symm; subst hw2) | (go_at_call 28; refine (left_any _ _ _ _ _ _ _ h hi him hc).mono ?_; rintro e w1 ⟨rfl, hs⟩; have h1 := (h.still hs).c1; have hf := (h.still hs).f 1))
  go_ret
  rename_i w1 hs _ _
  exact ⟨rfl, three_set1 (h.still hs), (hs.but p).trans (But.set _ _ _ _)⟩
end Go.Proofs.Ytcbdjijkliknoaa
