/-
  The walk of OctetPuts.
-/
import Derived.Test.YtcbdjijkliknoaaBoth
namespace Go.Proofs.Ytcbdjijkliknoaa
open Go.RowKit

theorem lowL_2 (x : Int) : lowL (x % 65536) 2 = lowL x 2 := by
  simp only [lowL, List.cons.injEq, and_true]; omega
theorem lowL_4 (x : Int) : lowL (x % 4294967296) 4 = lowL x 4 := by
  simp only [lowL, List.cons.injEq, and_true]; omega

theorem pu16 {W : World} {a : Option Addr} {n : Nat} {l : List Int} (c : Nat) (x : Int) (r : List Int) (hr : Hid (r = l ++ lowL x 2)) (h : Bs W a n l) (hn : n ≤ 140737488355328) :
    Calls Try.prog 11 #[.slice a n c, .int .u16 (IntKind.u16.wrap x)] W (Made r W) := by
  rw [unhide hr, IntKind.wrap_u16, ← lowL_2]
  exact put16_any a n c l _ W h hn (by omega) (by omega)
theorem pu32 {W : World} {a : Option Addr} {n : Nat} {l : List Int} (c : Nat) (x : Int) (r : List Int) (hr : Hid (r = l ++ lowL x 4)) (h : Bs W a n l) (hn : n ≤ 140737488355328) :
    Calls Try.prog 12 #[.slice a n c, .int .u32 (x % 4294967296)] W (Made r W) := by
  rw [unhide hr, ← lowL_4]
  exact put32_any a n c l _ W h hn (by omega) (by omega)
theorem pu64 {W : World} {a : Option Addr} {n : Nat} {l : List Int} (c : Nat) (x : Int) (r : List Int) (hr : Hid (r = l ++ lowL x 8)) (h : Bs W a n l) (hn : n ≤ 140737488355328) (hx : 0 ≤ x) :
    Calls Try.prog 13 #[.slice a n c, .int .u64 x] W (Made r W) := by
  rw [unhide hr]
  exact put64_any a n c l _ W h hn hx
theorem pulow {W : World} (x : Int) (size : Nat) (s : List Int) (hs : Hid (s = lowL x size)) (h8 : size ≤ 8) (hx : 0 ≤ x) (hx' : x < 18446744073709551616) :
    Calls Try.prog 15 #[.int .u64 x, .int .i64 size] W (Made s W) := by
  rw [unhide hs]
  exact low_any x size W h8 hx hx'
theorem puboth {W : World} {a a' : Option Addr} {n m : Nat} {l s : List Int} (c c' : Nat) (r : List Int) (hr : Hid (r = l ++ s)) (h : Bs W a n l) (h' : Bs W a' m s) (hn : n ≤ 140737488355328) (hm : m ≤ 140737488355328) :
    Calls Try.prog 10 #[.slice a n c, .slice a' m c'] W (Cat r W) := by
  rw [unhide hr]
  exact both_any a a' n m c c' l s W h h' hn hm
theorem pusame {W : World} {a a' : Option Addr} {n m : Nat} {l : List Int} (c c' : Nat) (h : Bs W a n l) (h' : Bs W a' m l) (hn : n ≤ 281474976710656) :
    Calls Try.prog 14 #[.slice a n c, .slice a' m c'] W fun e w' => e = .returned (.bool true) ∧ Still W w' := by
  have := same_any a a' n m c c' l l W h h' hn
  simpa using this

/-- Where the walk is: nothing old has turned, and these lists of bytes lie where they lay. -/
structure Sees (w W : World) (vs : List (Option Addr × List Int)) : Prop where
  bel : Below w.heap.size w W
  all : ∀ p ∈ vs, Bs W p.1 p.2.length p.2
theorem Sees.get {w W : World} {vs : List (Option Addr × List Int)} (h : Sees w W vs) (a : Option Addr) (l : List Int) (hm : (a, l) ∈ vs) : Bs W a l.length l := h.all _ hm
theorem Sees.step {w W W' : World} {vs : List (Option Addr × List Int)} (h : Sees w W vs) (b : Below W.heap.size W W') : Sees w W' vs :=
  ⟨h.bel.trans (b.mono h.bel.size), fun p hp => (h.all p hp).below b⟩
theorem Sees.more {w W : World} {vs : List (Option Addr × List Int)} {a : Option Addr} {l : List Int} (h : Sees w W vs) (hb : Bs W a l.length l) : Sees w W ((a, l) :: vs) :=
  ⟨h.bel, fun p hp => by rcases List.mem_cons.1 hp with rfl | hp; exact hb; exact h.all p hp⟩
theorem Made.sees {w W W' : World} {vs : List (Option Addr × List Int)} {l : List Int} {e : Ending} (h : Sees w W vs) (m : Made l W e W') (hl : ∀ x ∈ l, 0 ≤ x ∧ x < 256) : Sees w W' ((some ⟨W.heap.size, 0, none⟩, l) :: vs) :=
  (h.step m.2.2.1).more (m.2.1.bs hl)
theorem Cat.sees {w W W' : World} {vs : List (Option Addr × List Int)} {l : List Int} {e : Ending} (h : Sees w W vs) (m : Cat l W e W') : Sees w W' ((some ⟨W.heap.size, 0, none⟩, l) :: vs) := by
  obtain ⟨_, _, _, h1, h2⟩ := m
  exact (h.step h2).more h1

set_option maxHeartbeats 2000000 in
theorem puts_any (a : Option Addr) (c : Nat) (l : List Int) (x : Int) (w : World) (hB : Bs w a l.length l) (hn : l.length ≤ 140737488351232) (hx : 0 ≤ x) (hx' : x < 18446744073709551616) :
    Calls Try.prog 3 #[.slice a l.length c, .int .u64 x] w fun e w' => e = .returned (.bool true) ∧ Below w.heap.size w w' := by
  obtain ⟨s2, hs2⟩ : ∃ s, s = lowL x 2 := ⟨_, rfl⟩
  obtain ⟨s4, hs4⟩ : ∃ s, s = lowL x 4 := ⟨_, rfl⟩
  obtain ⟨s8, hs8⟩ : ∃ s, s = lowL x 8 := ⟨_, rfl⟩
  obtain ⟨r2, hr2⟩ : ∃ s, s = l ++ s2 := ⟨_, rfl⟩
  obtain ⟨r4, hr4⟩ : ∃ s, s = l ++ s4 := ⟨_, rfl⟩
  obtain ⟨r8, hr8⟩ : ∃ s, s = l ++ s8 := ⟨_, rfl⟩
  have m2 : Hid (∀ y ∈ r2, 0 ≤ y ∧ y < 256) := by rw [hr2, hs2]; exact made_mem l x 2 hB.2.1
  have m4 : Hid (∀ y ∈ r4, 0 ≤ y ∧ y < 256) := by rw [hr4, hs4]; exact made_mem l x 4 hB.2.1
  have m8 : Hid (∀ y ∈ r8, 0 ≤ y ∧ y < 256) := by rw [hr8, hs8]; exact made_mem l x 8 hB.2.1
  have ms2 : Hid (∀ y ∈ s2, 0 ≤ y ∧ y < 256) := by rw [hs2]; exact lowL_mem x 2
  have ms4 : Hid (∀ y ∈ s4, 0 ≤ y ∧ y < 256) := by rw [hs4]; exact lowL_mem x 4
  have ms8 : Hid (∀ y ∈ s8, 0 ≤ y ∧ y < 256) := by rw [hs8]; exact lowL_mem x 8
  have ls2 : s2.length ≤ 8 := by rw [hs2, lowL_len]; omega
  have ls4 : s4.length ≤ 8 := by rw [hs4, lowL_len]; omega
  have ls8 : s8.length ≤ 8 := by rw [hs8, lowL_len]; omega
  have lr2 : r2.length ≤ 140737488355328 := by rw [hr2, List.length_append]; omega
  have lr4 : r4.length ≤ 140737488355328 := by rw [hr4, List.length_append]; omega
  have lr8 : r8.length ≤ 140737488355328 := by rw [hr8, List.length_append]; omega
  have H2 : Hid (r2 = l ++ lowL x 2) := by rw [hr2, hs2]; exact rfl
  have H4 : Hid (r4 = l ++ lowL x 4) := by rw [hr4, hs4]; exact rfl
  have H8 : Hid (r8 = l ++ lowL x 8) := by rw [hr8, hs8]; exact rfl
  have G2 := hide hr2
  have G4 := hide hr4
  have G8 := hide hr8
  have S2 := hide hs2
  have S4 := hide hs4
  have S8 := hide hs8
  have LN : Hid (l = l ++ []) := by show _ = _; simp
  clear hr2 hr4 hr8 hs2 hs4 hs8
  have C0 : Sees w w [(a, l)] := ⟨Below.refl _ _, by simpa using hB⟩
  clear hB
  have lhn : l.length ≤ 140737488355328 := by omega
  go_enter Try.func3, Try.ntmps3
  go_wp2_with fail
  refine (wakes_any _).mono ?_
  rintro e w1 ⟨rfl, hb1⟩
  have C := C0.step hb1
  clear C0 hb1
  go_wp2_with fail
  refine (puboth (s := []) _ _ l LN (C.get a l (by simp)) (Bs.nil _ _) lhn (by omega)).mono ?_
  rintro e w2 ⟨cc, rfl, hcc, hb2, hb3⟩
  replace C := (C.step hb3).more hb2
  clear hb2 hb3
  go_wp2_with fail
  refine (pu16 _ x r2 H2 (C.get a l (by simp)) lhn).mono ?_
  rintro e w3 ⟨rfl, hb2, hb3, hz⟩
  replace C := (C.step hb3).more (hb2.bs (unhide m2))
  clear hb2 hb3 hz
  go_wp2_with fail
  refine (pu32 _ x r4 H4 (C.get a l (by simp)) lhn).mono ?_
  rintro e w4 ⟨rfl, hb2, hb3, hz⟩
  replace C := (C.step hb3).more (hb2.bs (unhide m4))
  clear hb2 hb3 hz
  go_wp2_with fail
  refine (pu64 _ x r8 H8 (C.get a l (by simp)) lhn hx).mono ?_
  rintro e w5 ⟨rfl, hb2, hb3, hz⟩
  replace C := (C.step hb3).more (hb2.bs (unhide m8))
  clear hb2 hb3 hz
  go_wp2_with fail
  refine (pulow x 2 s2 S2 (by omega) hx hx').mono ?_
  rintro e w6 ⟨rfl, hb2, hb3, hz⟩
  replace C := (C.step hb3).more (hb2.bs (unhide ms2))
  clear hb2 hb3 hz
  go_wp2_with fail
  refine (puboth _ _ r2 G2 (C.get (some ⟨w1.heap.size, 0, none⟩) l (by simp)) (C.get (some ⟨w5.heap.size, 0, none⟩) s2 (by simp)) lhn (by omega)).mono ?_
  rintro e w7 ⟨c2, rfl, hcc2, hb2, hb3⟩
  replace C := (C.step hb3).more hb2
  clear hb2 hb3
  go_wp2_with fail
  refine (pusame _ _ (C.get (some ⟨w2.heap.size, 0, none⟩) r2 (by simp)) (C.get (some ⟨w6.heap.size, 0, none⟩) r2 (by simp)) (by omega)).mono ?_
  rintro e w8 ⟨rfl, hst⟩
  replace C := C.step (hst.below _)
  clear hst
  go_wp2_with fail
  refine (pulow x 4 s4 S4 (by omega) hx hx').mono ?_
  rintro e w9 ⟨rfl, hb2, hb3, hz⟩
  replace C := (C.step hb3).more (hb2.bs (unhide ms4))
  clear hb2 hb3 hz
  go_wp2_with fail
  refine (puboth _ _ r4 G4 (C.get (some ⟨w1.heap.size, 0, none⟩) l (by simp)) (C.get (some ⟨w8.heap.size, 0, none⟩) s4 (by simp)) lhn (by omega)).mono ?_
  rintro e w10 ⟨c4, rfl, hcc4, hb2, hb3⟩
  replace C := (C.step hb3).more hb2
  clear hb2 hb3
  go_wp2_with fail
  refine (pusame _ _ (C.get (some ⟨w3.heap.size, 0, none⟩) r4 (by simp)) (C.get (some ⟨w9.heap.size, 0, none⟩) r4 (by simp)) (by omega)).mono ?_
  rintro e w11 ⟨rfl, hst⟩
  replace C := C.step (hst.below _)
  clear hst
  go_wp2_with fail
  refine (pulow x 8 s8 S8 (by omega) hx hx').mono ?_
  rintro e w12 ⟨rfl, hb2, hb3, hz⟩
  replace C := (C.step hb3).more (hb2.bs (unhide ms8))
  clear hb2 hb3 hz
  go_wp2_with fail
  refine (puboth _ _ r8 G8 (C.get (some ⟨w1.heap.size, 0, none⟩) l (by simp)) (C.get (some ⟨w11.heap.size, 0, none⟩) s8 (by simp)) lhn (by omega)).mono ?_
  rintro e w13 ⟨c8, rfl, hcc8, hb2, hb3⟩
  replace C := (C.step hb3).more hb2
  clear hb2 hb3
  go_wp2_with fail
  refine (pusame _ _ (C.get (some ⟨w4.heap.size, 0, none⟩) r8 (by simp)) (C.get (some ⟨w12.heap.size, 0, none⟩) r8 (by simp)) (by omega)).mono ?_
  rintro e w14 ⟨rfl, hst⟩
  replace C := C.step (hst.below _)
  clear hst
  go_wp2_with fail
  refine (pusame _ _ (C.get a l (by simp)) (C.get (some ⟨w1.heap.size, 0, none⟩) l (by simp)) (by omega)).mono ?_
  rintro e w15 ⟨rfl, hst⟩
  replace C := C.step (hst.below _)
  go_wp2
  go_ret
  exact ⟨rfl, C.bel⟩
end Go.Proofs.Ytcbdjijkliknoaa
