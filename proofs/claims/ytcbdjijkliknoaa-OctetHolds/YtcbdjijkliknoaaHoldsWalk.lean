/-
  The walk of OctetHolds.
-/
import Derived.Test.YtcbdjijkliknoaaXor
import Derived.Test.YtcbdjijkliknoaaPutsWalk
import Derived.Test.YtcbdjijkliknoaaHigh
import Derived.Test.YtcbdjijkliknoaaAppend
namespace Go.Proofs.Ytcbdjijkliknoaa
open Go.RowKit

/-- What is wanted, behind k rounds. -/
def wanted (l m : List Int) (z k : Nat) : List Int := xorL (l.take k) (m.take k) ++ List.replicate (z - k) 0
theorem wanted_len (l m : List Int) (z k : Nat) (h : z = min l.length m.length) (hk : k ≤ z) : (wanted l m z k).length = z := by simp [wanted, xorL]; omega
theorem wanted_step (l m : List Int) (z k : Nat) (x y : Int) (h : z = min l.length m.length) (hk : k < z) (hx : x = l.getD k 0) (hy : y = m.getD k 0) : (wanted l m z k).set k (xorB x y) = wanted l m z (k + 1) := by
  subst hx; subst hy
  have hlen : (xorL (l.take k) (m.take k)).length = k := by simp [xorL]; omega
  unfold wanted
  rw [List.set_append_right _ _ (by omega), hlen, Nat.sub_self, take_snoc_getD l k (by omega), take_snoc_getD m k (by omega)]
  have e : xorL (l.take k ++ [l.getD k 0]) (m.take k ++ [m.getD k 0]) = xorL (l.take k) (m.take k) ++ [xorB (l.getD k 0) (m.getD k 0)] := by
    unfold xorL
    rw [List.zipWith_append (by simp; omega)]
    rfl
  obtain ⟨j, hj⟩ : ∃ j, z - k = j + 1 := ⟨z - k - 1, by omega⟩
  rw [e, hj, show z - (k + 1) = j by omega]
  simp [List.replicate_succ]
theorem wanted_all (l m : List Int) (z : Nat) (h : z = min l.length m.length) : wanted l m z z = xorL l m := by
  unfold wanted xorL
  rw [Nat.sub_self, List.replicate_zero, List.append_nil, ← List.take_zipWith, List.take_of_length_le (by simp; omega)]
theorem wanted_zero (l m : List Int) (z : Nat) : wanted l m z 0 = List.replicate z 0 := by simp [wanted, xorL]

theorem hoequal {W : World} {a a' : Option Addr} {n m : Nat} {l r : List Int} (c c' : Nat) (q : Bool) (hq : Hid (q = decide (l = r))) (h : Bs W a n l) (h' : Bs W a' m r) (hn : n ≤ 140737488355328) :
    Calls Try.prog 16 #[.slice a n c, .slice a' m c'] W fun e W' => e = .returned (.bool q) ∧ W' = W := by
  rw [unhide hq]
  exact equal_any _ _ _ _ _ _ l r W h h' hn
theorem hosame {W : World} {a a' : Option Addr} {n m : Nat} {l r : List Int} (c c' : Nat) (q : Bool) (hq : Hid (q = decide (l = r))) (h : Bs W a n l) (h' : Bs W a' m r) (hn : n ≤ 281474976710656) :
    Calls Try.prog 14 #[.slice a n c, .slice a' m c'] W fun e W' => e = .returned (.bool q) ∧ Still W W' := by
  rw [unhide hq]
  exact same_any _ _ _ _ _ _ l r W h h' hn
theorem hozero {W : World} {a : Option Addr} {n : Nat} {l : List Int} (c : Nat) (q : Bool) (hq : Hid (q = allZ l)) (h : Bs W a n l) (hn : n ≤ 140737488355328) :
    Calls Try.prog 17 #[.slice a n c] W fun e W' => e = .returned (.bool q) ∧ W' = W := by
  rw [unhide hq]
  exact zero_any _ _ _ l W h hn

set_option maxHeartbeats 2000000 in
theorem holds_any (a a' : Option Addr) (c c' : Nat) (l r : List Int) (w : World) (hA : Bs w a l.length l) (hB : Bs w a' r.length r) (hn : l.length ≤ 140737488351232) (hm : r.length ≤ 140737488351232) (hc : l.length ≤ c) (ha : a = none → c = 0) (z : Nat) (hz : z = min l.length r.length) :
    Calls Try.prog 4 #[.slice a l.length c, .slice a' r.length c'] w fun e w' => e = .returned (.bool true) ∧ Below w.heap.size w w' := by
  have HZ := hide hz
  have hz1 : z ≤ l.length := by omega
  have hz2 : z ≤ r.length := by omega
  clear hz
  go_enter Try.func4, Try.ntmps4
  go_wp2_with (first | (go_at_call 9; refine (wakes_any _).mono ?_; rintro e w1 ⟨rfl, hb1⟩) | (at_make; refine wpList_make_bytes _ rfl (.tmp 16) rfl _ z rfl (by have := unhide HZ; omega) (by omega) ?_; intro w2 hr2 hb2 hs2))
  all_goals
    have C1 : Sees w w1 [(a, l), (a', r)] := (Sees.mk (Below.refl _ _) (by intro p hp; simp at hp; rcases hp with rfl | rfl; exact hA; exact hB) : Sees w w [(a, l), (a', r)]).step hb1
    clear hb1 hA hB
    have hr3 : Hid (Row w2 w1.heap.size (wanted l r z 0)) := by rw [wanted_zero]; exact hr2
    clear hr2
    go_loopw [20] (fun i wr => ∃ k : Nat, k ≤ z ∧ i = .int .i64 k ∧ Hid (Row wr w1.heap.size (wanted l r z k)) ∧ Below w1.heap.size w1 wr ∧ wr.heap.size = w1.heap.size + 1) (fun i _ => z - (intOf i).toNat)
    case atStart => exact ⟨0, Nat.zero_le _, rfl, hr3, hb2, hs2⟩
    case round =>
      clear hr3 hb2 hs2
      obtain ⟨k, hk, rfl, hrow, hb, hs⟩ := hrel
      by_cases hlt : k < z
      · have hlen := wanted_len l r z k (unhide HZ) hk
        have hfk := (unhide hrow).frozen k
        have hck := (unhide hrow).cell k (by omega)
        generalize (wanted l r z k).getD k 0 = old at hck
        have C2 := C1.step hb
        obtain ⟨b, off, rfl, hc1⟩ := (C2.get a l (by simp)).2.2 (by omega)
        obtain ⟨b', off', rfl, hc2⟩ := (C2.get a' r (by simp)).2.2 (by omega)
        have hxk := hc1 k (by omega)
        have hyk := hc2 k (by omega)
        obtain ⟨x, hx⟩ : ∃ x, x = l.getD k 0 := ⟨_, rfl⟩
        obtain ⟨y, hy⟩ : ∃ y, y = r.getD k 0 := ⟨_, rfl⟩
        have HS := hide (wanted_step l r z k x y (unhide HZ) hlt hx hy)
        rw [← hx] at hxk
        rw [← hy] at hyk
        have hk1 : (k : Int) < l.length := by omega
        have hk2 : (k : Int) < r.length := by omega
        clear hx hy hc1 hc2 C2 hlen
        go_wp2
        go_region
        go_wp2
        go_roundw
        case rel =>
          have hR : Hid (Row (wr.setCell ⟨w1.heap.size, k, none⟩ (.int .u8 (bits .xor .u8 x y))) w1.heap.size (wanted l r z (k + 1))) := by
            have := (unhide hrow).set k (xorB x y)
            rw [unhide HS] at this
            exact this
          exact ⟨k + 1, by omega, by go_num, (unhide hR).still (Still.refl _).drew, (hb.setCell (Nat.le_refl _) _).drew, by show (World.setCell wr _ _).heap.size = _; rw [← hs]; simp⟩
        case measure => simp [intOf]; omega
      · obtain rfl : k = z := by omega
        have hrow2 : Hid (Row wr w1.heap.size (xorL l r)) := by rw [← wanted_all l r k (unhide HZ)]; exact hrow
        have hXL : (xorL l r).length = k := by rw [xorL_len]; exact (unhide HZ).symm
        have HXL := hide hXL
        have C2 : Sees w wr [(some ⟨w1.heap.size, 0, none⟩, xorL l r), (a, l), (a', r)] := (C1.step hb).more ((unhide hrow2).bs (xorL_mem l r (C1.get a l (by simp)).2.1 (C1.get a' r (by simp)).2.1))
        clear hrow hrow2 hXL hb hs
        go_wp2
        go_loop [7, 38] (fun t i => ∃ j : Nat, j ≤ l.length ∧ i = .int .i64 j ∧ t = .bool (allZ (l.take j))) (fun _ i => l.length - (intOf i).toNat)
        case atStart => exact ⟨0, Nat.zero_le _, rfl, by simp [allZ]⟩
        case round =>
          obtain ⟨j, hj, rfl, rfl⟩ := hrel
          by_cases hlt2 : j < l.length
          · obtain ⟨b, off, rfl, hc1⟩ := (C2.get a l (by simp)).2.2 (by omega)
            have hxk := hc1 j hlt2
            have hsn := allZ_snoc l j hlt2
            generalize allZ (l.take j) = q at *
            obtain ⟨x, hx⟩ : ∃ x, x = l.getD j 0 := ⟨_, rfl⟩
            rw [← hx] at hxk hsn
            have HS := hide hsn
            have hk1 : (j : Int) < l.length := by omega
            clear hx hc1 hsn C1 C2
            cases q
            all_goals
              go_wp2
              go_round
              case rel => exact ⟨j + 1, by omega, by go_num, by rw [unhide HS]; simp⟩
              case measure => simp [intOf]; omega
          · obtain ⟨q, hq⟩ : ∃ q, q = decide (l = r) := ⟨_, rfl⟩
            obtain ⟨q2, hq2⟩ : ∃ q, q = allZ l := ⟨_, rfl⟩
            have e1 : l.take j = l := List.take_of_length_le (by omega)
            rw [e1, ← hq2]
            have HQ := hide hq
            have HQ2 := hide hq2
            have hnj : ¬ (j : Int) < l.length := by omega
            have hn2 : l.length ≤ 140737488355328 := by omega
            clear hq hq2 e1 hlt2 hj C1
            go_wp2_with fail
            refine (hoequal _ _ q HQ (C2.get a l (by simp)) (C2.get a' r (by simp)) hn2).mono ?_
            rintro e w3 ⟨rfl, hw3⟩
            subst hw3
            go_wp2_with fail
            refine (hosame _ _ q HQ (C2.get a l (by simp)) (C2.get a' r (by simp)) (by omega)).mono ?_
            rintro e w4 ⟨rfl, hst⟩
            have C3 := C2.step (hst.below _)
            clear C2 hst
            have hA4 : ∀ o, Bs (w4.alloc o) a l.length l := fun o => (C3.get a l (by simp)).below (Below.new _ o)
            have HA4 := hide hA4
            clear hA4
            go_wp2_with (first | (at_builtin; refine wpList_append_bytes (by simp [Region.wanted, yielded]) (.tmp 57) (.tmp 58) rfl w4.heap.size (.slice (some ⟨w4.heap.size, 0, none⟩) 0 0) 0 [] rfl (World.ownsRow_made w4 #[] 0 (Nat.le_refl _) (Nat.zero_le _) rfl) a l.length c l rfl ha (unhide HA4 _) (by omega) (by simp) ?_; intro a3 c3 w5 ho5 hg5) | fail)
            have hb5 : Below w4.heap.size w4 w5 := (Below.new w4 _).grown hg5 (by simp) (by intro k hk; simp [Value.ownBlock] at hk; omega)
            have hB5 : Bs w5 a3 l.length l := by
              have := unhide ho5
              rw [Nat.zero_add, List.nil_append] at this
              exact owns_bs this (C3.get a l (by simp)).2.1 rfl
            have HT : Hid (true = decide (l = l)) := by show _ = _; simp
            have C4 := C3.step hb5
            refine (hoequal _ _ true HT (C4.get a l (by simp)) hB5 hn2).mono ?_
            rintro e w6 ⟨rfl, hw6⟩
            subst hw6
            clear ho5 hg5 hb5 hB5 HT HA4 C3
            go_wp2_with fail
            refine (hozero _ q2 HQ2 (C4.get a l (by simp)) hn2).mono ?_
            rintro e w7 ⟨rfl, hw7⟩
            subst hw7
            go_wp2_with fail
            refine (xor_any _ _ _ _ _ _ l r _ (C4.get a l (by simp)) (C4.get a' r (by simp)) hn2).mono ?_
            rintro e w8 ⟨rfl, hr8, hb8, _⟩
            have C5 := (C4.step hb8).more (hr8.bs (xorL_mem l r (C4.get a l (by simp)).2.1 (C4.get a' r (by simp)).2.1))
            clear C4 hr8 hb8
            go_wp2_with fail
            have hW5 : Bs w8 (some ⟨w1.heap.size, 0, none⟩) k (xorL l r) := by
              have := C5.get (some ⟨w1.heap.size, 0, none⟩) (xorL l r) (by simp)
              rw [unhide HXL] at this
              exact this
            refine (pusame _ _ (C5.get (some ⟨_, 0, none⟩) (xorL l r) (List.mem_cons_self ..)) hW5 (by have := unhide HXL; omega)).mono ?_
            rintro e w9 ⟨rfl, hst⟩
            have C6 := C5.step (hst.below _)
            clear C5 hst hW5
            go_wp2_with fail
            refine (get64_any _ _ _ l _ (C6.get a l (by simp)) ha hn2 hc).mono ?_
            rintro e w10 ⟨rfl, hw10⟩
            subst hw10
            go_wp2_with fail
            refine (high_any _ _ _ l _ (C6.get a l (by simp)) hn2).mono ?_
            rintro e w11 ⟨rfl, hw11⟩
            subst hw11
            go_wp2
            go_ret
            exact ⟨rfl, C6.bel⟩
end Go.Proofs.Ytcbdjijkliknoaa
