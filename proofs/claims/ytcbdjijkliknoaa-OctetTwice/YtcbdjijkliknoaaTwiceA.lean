/-
  The walk of OctetTwice, where the second argument is the shorter one.
-/
import Derived.Test.YtcbdjijkliknoaaTwiceWalk
namespace Go.Proofs.Ytcbdjijkliknoaa
open Go.RowKit

set_option maxHeartbeats 2000000 in
theorem twice_a (a a' : Option Addr) (n m c c' : Nat) (l r : List Int) (x : Int) (w : World) (hA : Bs w a n l) (hB : Bs w a' m r) (hn : n ≤ 140737488355328) (hm : m ≤ 140737488355328) (hnc : n ≤ c) (hx : 0 ≤ x) (hx' : x < 18446744073709551616) (h : m < n) :
    Calls Try.prog 8 #[.slice a n c, .slice a' m c', .int .u64 x] w fun e w' => e = .returned (.bool true) ∧ Below w.heap.size w w' := by
  have hmc : m ≤ c := by omega
  obtain ⟨q, hq⟩ : ∃ q, q = decide (l = r) := ⟨_, rfl⟩
  have HQ := hide hq
  clear hq
  go_enter Try.func8, Try.ntmps8
  go_wp2_with (go_at_call 9; refine (wakes_any _).mono ?_; rintro e w1 ⟨rfl, hb1⟩; have C : Two w w1.drew a a' n m l r := ⟨hb1.drew, (hA.below hb1).still (Still.refl _).drew, (hB.below hb1).still (Still.refl _).drew, hn, hm⟩)
  all_goals
    clear hA hB hb1
    go_region_with (first
      | (go_at_call_of 18 (Value.slice a n c); go_at_call_of 18 (Value.slice a' m c'); refine (tw1 c c' (by assumption)).mono ?_; rintro e w2 ⟨g, rfl, hv, C⟩)
      | (go_at_call_of 18 (Value.slice a' m c'); refine (tw2 c' _ (by assumption) (by assumption)).mono ?_; rintro e w2 ⟨g, rfl, hv, C⟩)
      | (go_at_call_of 18 (Value.slice a n c); refine (tw3 c (by assumption)).mono ?_; rintro e w2 ⟨g, rfl, hv, C⟩)
      | (go_at_call_of 16 (Value.slice a n c); go_at_call_of 16 (Value.slice a' m c'); refine (tw56 (a := a) (a' := a') (n := n) (m := m) (l := l) (r := r) c c' q HQ (by assumption) _ _ (by first | exact .inl ⟨rfl, rfl⟩ | exact .inr ⟨rfl, rfl⟩)).mono ?_; rintro e w2 ⟨rfl, hw⟩; subst hw)
      | (go_at_call 16; refine (tw4 (n := n) (m := m) (l := l) (r := r) c _ _ (by omega) (by assumption) (by assumption)).mono ?_; rintro e w2 ⟨rfl, hw⟩; subst hw)
      | (go_at_call 13; refine (tw7 x hx (by assumption)).mono ?_; rintro e w2 ⟨g, rfl, hv, C⟩)
      | (go_at_call 19; refine (tw8 x _ hx hx' (by assumption)).mono ?_; rintro e w2 ⟨rfl, hw⟩; subst hw)
      | (go_at_call 17; refine (tw9 _ (by assumption) (by assumption)).mono ?_; rintro e w2 ⟨rfl, hw⟩; subst hw))
    go_wp2
    go_ret
    exact ⟨rfl, C.bel⟩
end Go.Proofs.Ytcbdjijkliknoaa
