/-
  What octet.Reader's inner calls do: Err, Left, take, number.
-/
import Derived.Test.YtcbdjijkliknoaaRows
import Derived.Test.YtcbdjijkliknoaaParts
import Derived.WalkKit
import Derived.WalkSpells
import Derived.WalkLawsBesides
import Derived.Deep.QuietTactic
import Derived.BigQuiet
namespace Go.Proofs.Ytcbdjijkliknoaa
open Go.RowKit

set_option maxHeartbeats 400000 in
theorem err_nil (w : World) : Calls Try.prog 29 #[.pointer none] w fun e w' => e = .returned (.int .i64 1) ∧ w' = w := by
  go_enter Try.func29, Try.ntmps29
  go_wp2
  go_ret
  exact ⟨rfl, rfl⟩

set_option maxHeartbeats 400000 in
theorem err_any (p : Nat) (i x : Int) (d : Value) (w : World) (h : Rd w p i x d) : Calls Try.prog 29 #[.pointer (some ⟨p, 0, none⟩)] w fun e w' => e = .returned (.int .i64 x) ∧ w' = w := by
  have h1 := h.c1
  clear h
  go_enter Try.func29, Try.ntmps29
  go_wp2
  go_ret
  exact ⟨rfl, rfl⟩

set_option maxHeartbeats 400000 in
theorem left_nil (w : World) : Calls Try.prog 28 #[.pointer none] w fun e w' => e = .returned (.int .i64 0) ∧ w' = w := by
  go_enter Try.func28, Try.ntmps28
  go_wp2
  go_ret
  exact ⟨rfl, rfl⟩

set_option maxHeartbeats 400000 in
theorem left_any (p : Nat) (i x : Int) (a : Option Addr) (n c : Nat) (w : World) (h : Rd w p i x (.slice a n c)) (hi : 0 ≤ i) (hn : i ≤ n) (hc : n ≤ 140737488355328) :
    Calls Try.prog 28 #[.pointer (some ⟨p, 0, none⟩)] w fun e w' => e = .returned (.int .i64 (n - i)) ∧ Still w w' := by
  have h0 := h.c0
  have h2 := h.c2
  clear h
  go_enter Try.func28, Try.ntmps28
  go_wp2
  go_quiet (fail)
  go_wp2
  go_ret
  exact ⟨rfl, Still.drewN _ _⟩
end Go.Proofs.Ytcbdjijkliknoaa
