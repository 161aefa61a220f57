/-
  What the walk of OctetTwice leans on.
-/
import Derived.Test.YtcbdjijkliknoaaXor
import Derived.Deep.RegionWith
namespace Go.Proofs.Ytcbdjijkliknoaa
open Go.RowKit

theorem xorB_twice (x y : Int) (hx : 0 ≤ x ∧ x < 256) (hy : 0 ≤ y ∧ y < 256) : xorB (xorB x y) y = x := by
  obtain ⟨X, rfl⟩ := Int.eq_ofNat_of_zero_le hx.1
  obtain ⟨Y, rfl⟩ := Int.eq_ofNat_of_zero_le hy.1
  unfold xorB
  have := xor_lt X Y (by omega) (by omega)
  rw [u8_xor_nat X Y (by omega) (by omega), u8_xor_nat (X ^^^ Y) Y this (by omega), Nat.xor_assoc, Nat.xor_self, Nat.xor_zero]
theorem xorB_self (x : Int) (hx : 0 ≤ x ∧ x < 256) : xorB x x = 0 := by
  obtain ⟨X, rfl⟩ := Int.eq_ofNat_of_zero_le hx.1
  unfold xorB
  rw [u8_xor_nat X X (by omega) (by omega), Nat.xor_self]
  rfl
theorem xorL_twice (l r : List Int) (hl : ∀ x ∈ l, 0 ≤ x ∧ x < 256) (hr : ∀ x ∈ r, 0 ≤ x ∧ x < 256) : xorL (xorL l r) r = l.take (min l.length r.length) := by
  induction l generalizing r with
  | nil => simp [xorL]
  | cons a l ih =>
    cases r with
    | nil => simp [xorL]
    | cons b r =>
      have := ih r (fun y hy => hl y (List.mem_cons_of_mem _ hy)) (fun y hy => hr y (List.mem_cons_of_mem _ hy))
      simp only [xorL, List.zipWith_cons_cons, List.length_cons] at this ⊢
      rw [this, xorB_twice a b (hl a (by simp)) (hr b (by simp)), Nat.succ_min_succ, List.take_succ_cons]
theorem xorL_self (l : List Int) (hl : ∀ x ∈ l, 0 ≤ x ∧ x < 256) : allZ (xorL l l) = true := by
  induction l with
  | nil => rfl
  | cons a l ih =>
    have := ih (fun y hy => hl y (List.mem_cons_of_mem _ hy))
    simp only [xorL, allZ, List.zipWith_cons_cons, List.all_cons] at this ⊢
    rw [this, xorB_self a (hl a (by simp))]
    rfl
theorem lowN_lowL (x : Int) (k : Nat) (h0 : 0 ≤ x) (h1 : x < 256 ^ k) : lowN (lowL x k) = x := by
  induction k generalizing x with
  | zero => simp [lowN, lowL]; simp at h1; omega
  | succ k ih =>
    rw [Int.pow_succ] at h1
    simp only [lowL, lowN]
    rw [ih (x / 256) (by omega) (by omega)]
    omega

/-- New bytes somewhere. -/
def Anew (l : List Int) (w : World) (e : Ending) (w' : World) : Prop :=
  ∃ g, e = .returned (.slice (some ⟨g, 0, none⟩) l.length l.length) ∧ Bs w' (some ⟨g, 0, none⟩) l.length l ∧ Below w.heap.size w w'
theorem Made.anew {l : List Int} {w : World} {e : Ending} {w' : World} (h : Made l w e w') (hl : ∀ x ∈ l, 0 ≤ x ∧ x < 256) : Anew l w e w' :=
  ⟨_, h.1, h.2.1.bs hl, h.2.2.1⟩
theorem xor_new (a a' : Option Addr) (n m c c' : Nat) (l r : List Int) (w : World) (hB : Bs w a n l) (hB' : Bs w a' m r) (hn : n ≤ 140737488355328) :
    Calls Try.prog 18 #[.slice a n c, .slice a' m c'] w (Anew (xorL l r) w) :=
  (xor_any a a' n m c c' l r w hB hB' hn).mono fun _ _ h => h.anew (xorL_mem l r hB.2.1 hB'.2.1)
theorem put64_new (a : Option Addr) (n c : Nat) (l : List Int) (x : Int) (w : World) (h : Bs w a n l) (hn : n ≤ 140737488355328) (hx : 0 ≤ x) :
    Calls Try.prog 13 #[.slice a n c, .int .u64 x] w (Anew (l ++ lowL x 8) w) :=
  (put64_any a n c l x w h hn hx).mono fun _ _ h' => h'.anew (made_mem l x 8 h.2.1)

/-- Where the walk is: nothing old has turned, both arguments hold their bytes. -/
structure Two (w W : World) (a a' : Option Addr) (n m : Nat) (l r : List Int) : Prop where
  bel : Below w.heap.size w W
  fst : Bs W a n l
  snd : Bs W a' m r
  hn : n ≤ 140737488355328
  hm : m ≤ 140737488355328
theorem Two.step {w W W' : World} {a a' : Option Addr} {n m : Nat} {l r : List Int} (h : Two w W a a' n m l r) (b : Below W.heap.size W W') : Two w W' a a' n m l r :=
  ⟨h.bel.trans (b.mono h.bel.size), h.fst.below b, h.snd.below b, h.hn, h.hm⟩

theorem tw1 {w W : World} {a a' : Option Addr} {n m : Nat} {l r : List Int} (c c' : Nat) (C : Two w W a a' n m l r) :
    Calls Try.prog 18 #[.slice a n c, .slice a' m c'] W fun e W' => ∃ g, e = .returned (.slice (some ⟨g, 0, none⟩) (xorL l r).length (xorL l r).length) ∧ Bs W' (some ⟨g, 0, none⟩) (xorL l r).length (xorL l r) ∧ Two w W' a a' n m l r :=
  (xor_new a a' n m c c' l r W C.fst C.snd C.hn).mono fun _ _ ⟨g, h1, h2, h3⟩ => ⟨g, h1, h2, C.step h3⟩
theorem tw2 {w W : World} {a a' : Option Addr} {n m : Nat} {l r : List Int} (c' g : Nat) (C : Two w W a a' n m l r) (hv : Bs W (some ⟨g, 0, none⟩) (xorL l r).length (xorL l r)) :
    Calls Try.prog 18 #[.slice (some ⟨g, 0, none⟩) (xorL l r).length (xorL l r).length, .slice a' m c'] W fun e W' => ∃ g, e = .returned (.slice (some ⟨g, 0, none⟩) (xorL (xorL l r) r).length (xorL (xorL l r) r).length) ∧ Bs W' (some ⟨g, 0, none⟩) (xorL (xorL l r) r).length (xorL (xorL l r) r) ∧ Two w W' a a' n m l r :=
  (xor_new _ a' _ m _ c' (xorL l r) r W hv C.snd (by have := C.hn; have := C.fst.1; rw [xorL_len]; omega)).mono fun _ _ ⟨g, h1, h2, h3⟩ => ⟨g, h1, h2, C.step h3⟩
theorem tw3 {w W : World} {a a' : Option Addr} {n m : Nat} {l r : List Int} (c : Nat) (C : Two w W a a' n m l r) :
    Calls Try.prog 18 #[.slice a n c, .slice a n c] W fun e W' => ∃ g, e = .returned (.slice (some ⟨g, 0, none⟩) (xorL l l).length (xorL l l).length) ∧ Bs W' (some ⟨g, 0, none⟩) (xorL l l).length (xorL l l) ∧ Two w W' a a' n m l r :=
  (xor_new a a n n c c l l W C.fst C.fst C.hn).mono fun _ _ ⟨g, h1, h2, h3⟩ => ⟨g, h1, h2, C.step h3⟩
theorem tw4 {w W : World} {a a' : Option Addr} {n m : Nat} {l r : List Int} (c : Nat) (g k : Nat) (hk : k = min n m) (C : Two w W a a' n m l r) (hv : Bs W (some ⟨g, 0, none⟩) (xorL (xorL l r) r).length (xorL (xorL l r) r)) :
    Calls Try.prog 16 #[.slice (some ⟨g, 0, none⟩) (xorL (xorL l r) r).length (xorL (xorL l r) r).length, .slice a k c] W fun e W' => e = .returned (.bool true) ∧ W' = W := by
  have e : decide (xorL (xorL l r) r = l.take k) = true := by
    rw [decide_eq_true_iff, xorL_twice l r C.fst.2.1 C.snd.2.1, C.fst.1, C.snd.1, hk]
  rw [← e]
  exact equal_any _ _ _ _ _ _ (xorL (xorL l r) r) (l.take k) W hv (C.fst.first (by omega)) (by have := C.hn; have := C.fst.1; rw [xorL_len, xorL_len]; omega)
theorem tw5 {w W : World} {a a' : Option Addr} {n m : Nat} {l r : List Int} (c c' : Nat) (q : Bool) (hq : Hid (q = decide (l = r))) (C : Two w W a a' n m l r) :
    Calls Try.prog 16 #[.slice a n c, .slice a' m c'] W fun e W' => e = .returned (.bool q) ∧ W' = W := by
  rw [unhide hq]
  exact equal_any _ _ _ _ _ _ l r W C.fst C.snd C.hn
theorem tw6 {w W : World} {a a' : Option Addr} {n m : Nat} {l r : List Int} (c c' : Nat) (q : Bool) (hq : Hid (q = decide (l = r))) (C : Two w W a a' n m l r) :
    Calls Try.prog 16 #[.slice a' m c', .slice a n c] W fun e W' => e = .returned (.bool q) ∧ W' = W := by
  have e : q = decide (r = l) := by rw [unhide hq, Bool.eq_iff_iff]; simp [eq_comm]
  rw [e]
  exact equal_any _ _ _ _ _ _ r l W C.snd C.fst C.hm
theorem tw56 {w W : World} {a a' : Option Addr} {n m : Nat} {l r : List Int} (c c' : Nat) (q : Bool) (hq : Hid (q = decide (l = r))) (C : Two w W a a' n m l r) (u v : Value) (h : (u = .slice a n c ∧ v = .slice a' m c') ∨ (u = .slice a' m c' ∧ v = .slice a n c)) :
    Calls Try.prog 16 #[u, v] W fun e W' => e = .returned (.bool q) ∧ W' = W := by
  rcases h with ⟨rfl, rfl⟩ | ⟨rfl, rfl⟩
  · exact tw5 c c' q hq C
  · exact tw6 c c' q hq C
theorem tw7 {w W : World} {a a' : Option Addr} {n m : Nat} {l r : List Int} (x : Int) (hx : 0 ≤ x) (C : Two w W a a' n m l r) :
    Calls Try.prog 13 #[.slice none 0 0, .int .u64 x] W fun e W' => ∃ g, e = .returned (.slice (some ⟨g, 0, none⟩) 8 8) ∧ Bs W' (some ⟨g, 0, none⟩) 8 (lowL x 8) ∧ Two w W' a a' n m l r := by
  refine (put64_new none 0 0 [] x W (Bs.nil _ _) (by omega) hx).mono ?_
  rintro e W' ⟨g, h1, h2, h3⟩
  rw [List.nil_append, lowL_len] at h1 h2
  exact ⟨g, h1, h2, C.step h3⟩
theorem tw8 {W : World} (x : Int) (g : Nat) (hx : 0 ≤ x) (hx' : x < 18446744073709551616) (hv : Bs W (some ⟨g, 0, none⟩) 8 (lowL x 8)) :
    Calls Try.prog 19 #[.slice (some ⟨g, 0, none⟩) 8 8] W fun e W' => e = .returned (.int .u64 x) ∧ W' = W := by
  have e : lowN ((lowL x 8).take 8) = x := by
    rw [List.take_of_length_le (by rw [lowL_len]; exact Nat.le_refl _)]
    exact lowN_lowL x 8 hx hx'
  have := get64_any (some ⟨g, 0, none⟩) 8 8 (lowL x 8) W hv (by simp) (by omega) (by omega)
  rw [e] at this
  exact this
theorem tw9 {w W : World} {a a' : Option Addr} {n m : Nat} {l r : List Int} (g : Nat) (C : Two w W a a' n m l r) (hv : Bs W (some ⟨g, 0, none⟩) (xorL l l).length (xorL l l)) :
    Calls Try.prog 17 #[.slice (some ⟨g, 0, none⟩) (xorL l l).length (xorL l l).length] W fun e W' => e = .returned (.bool true) ∧ W' = W := by
  have := zero_any _ _ (xorL l l).length (xorL l l) W hv (by have := C.hn; have := C.fst.1; rw [xorL_len]; omega)
  rw [xorL_self l C.fst.2.1] at this
  exact this

end Go.Proofs.Ytcbdjijkliknoaa
