/-
  Plain facts for OctetBack: numbers in their low forms, one behind the other, read again.
-/
import Derived.Test.YtcbdjijkliknoaaPutsWalk
import Derived.Test.YtcbdjijkliknoaaAppend
import Derived.Test.YtcbdjijkliknoaaKeyEq
namespace Go.Proofs.Ytcbdjijkliknoaa
open Go.RowKit

/-- The form of the number in place i. -/
def encAt (i : Nat) (x : Int) : List Int := if i % 3 = 0 then lowL x 8 else if i % 3 = 1 then lowL x 4 else lowL x 2
/-- The forms of the first so many numbers. -/
def encTo (f : Nat → Int) : Nat → List Int
  | 0 => []
  | j + 1 => encTo f j ++ encAt j (f j)

theorem encAt_len (i : Nat) (x : Int) : (encAt i x).length ≤ 8 := by
  unfold encAt; split
  · simp [lowL_len]
  · split <;> simp [lowL_len]
theorem encAt_mem (i : Nat) (x : Int) : ∀ y ∈ encAt i x, 0 ≤ y ∧ y < 256 := by
  unfold encAt; split
  · exact lowL_mem x 8
  · split
    · exact lowL_mem x 4
    · exact lowL_mem x 2
theorem encTo_len (f : Nat → Int) (j : Nat) : (encTo f j).length ≤ 8 * j := by
  induction j with
  | zero => simp [encTo]
  | succ j ih => have := encAt_len j (f j); simp [encTo]; omega
theorem encTo_mem (f : Nat → Int) (j : Nat) : ∀ y ∈ encTo f j, 0 ≤ y ∧ y < 256 := by
  induction j with
  | zero => simp [encTo]
  | succ j ih =>
    intro y hy
    rcases List.mem_append.1 hy with h | h
    · exact ih y h
    · exact encAt_mem _ _ y h
theorem encTo_split (f : Nat → Int) (j n : Nat) (h : j ≤ n) : ∃ r, encTo f n = encTo f j ++ r := by
  induction n with
  | zero => obtain rfl : j = 0 := by omega
            exact ⟨[], by simp⟩
  | succ n ih =>
    rcases Nat.lt_or_ge n j with h1 | h1
    · obtain rfl : j = n + 1 := by omega
      exact ⟨[], by simp⟩
    · obtain ⟨r, hr⟩ := ih h1
      exact ⟨r ++ encAt n (f n), by rw [encTo, hr, List.append_assoc]⟩
theorem takeM_mid (pre mid post : List Int) (i : Nat) (n : Int) (hi : i = pre.length) (hn : n = mid.length) : takeM (pre ++ (mid ++ post)) i 0 n = (mid, i + mid.length, 0) := by
  subst hi; subst hn
  unfold takeM
  rw [if_neg (by simp), if_neg (by omega), if_neg (by simp; omega)]
  simp

theorem back_take (f : Nat → Int) (j n : Nat) (kl : List Int) (h : j < n) (k : Int) (hk : k = (encAt j (f j)).length) :
    takeM (encTo f n ++ kl) (encTo f j).length 0 k = (encAt j (f j), (encTo f (j + 1)).length, 0) := by
  obtain ⟨r, hr⟩ := encTo_split f (j + 1) n (by omega)
  have e : encTo f n ++ kl = encTo f j ++ (encAt j (f j) ++ (r ++ kl)) := by rw [hr, encTo]; simp
  rw [e, takeM_mid _ _ _ _ _ rfl hk, encTo, List.length_append]
theorem back_last (f : Nat → Int) (n : Nat) (kl : List Int) (h : kl.length = 32) : takeM (encTo f n ++ kl) (encTo f n).length 0 32 = (kl, (encTo f n ++ kl).length, 0) := by
  have e : encTo f n ++ kl = encTo f n ++ (kl ++ []) := by simp
  have := takeM_mid (encTo f n) kl [] _ 32 rfl (by omega)
  rw [← e] at this
  rw [this, List.length_append]

theorem encAt_0 (j : Nat) (x : Int) (h : j % 3 = 0) : encAt j x = lowL x 8 := by unfold encAt; rw [if_pos h]
theorem encAt_1 (j : Nat) (x : Int) (h : j % 3 = 1) : encAt j x = lowL x 4 := by unfold encAt; rw [if_neg (by omega), if_pos h]
theorem encAt_2 (j : Nat) (x : Int) (h : j % 3 = 2) : encAt j x = lowL x 2 := by unfold encAt; rw [if_neg (by omega), if_neg (by omega)]

theorem lowN_2 (x : Int) : lowN (lowL x 2) = x % 65536 := by simp only [lowL, lowN]; omega
theorem lowN_4 (x : Int) : lowN (lowL x 4) = x % 4294967296 := by simp only [lowL, lowN]; omega
theorem lowN_8 (x : Int) (h : 0 ≤ x) (h' : x < 18446744073709551616) : lowN (lowL x 8) = x := by simp only [lowL, lowN]; omega

/-- The row g of bytes, all of it, is owned. -/
theorem Row.owns {w : World} {g B : Nat} {l : List Int} (h : Row w g l) (hB : B ≤ g) (hl : l.length ≤ maxLen) : w.ownsRow B 5 1 (.slice (some ⟨g, 0, none⟩) l.length l.length) l.length (l.map (Value.int .u8)) :=
  ⟨by simp, .inr ⟨g, l.length, _, rfl, hB, h, Nat.le_refl _, hl, by simp, by rw [Nat.mul_one]; exact List.take_of_length_le (by simp)⟩⟩

/-- The first n cells from a on hold the numbers l. -/
def Us (w : World) (a : Option Addr) (n : Nat) (l : List Int) : Prop :=
  l.length = n ∧ (∀ x ∈ l, 0 ≤ x ∧ x < 18446744073709551616) ∧ (0 < n → ∃ b off, a = some ⟨b, off, none⟩ ∧ ∀ i, i < n → w.cell? ⟨b, off + i, none⟩ = some (.int .u64 (l.getD i 0)))
theorem Us.below {w w' : World} {a : Option Addr} {n : Nat} {l : List Int} (h : Us w a n l) (s : Below w.heap.size w w') : Us w' a n l := by
  obtain ⟨h1, h2, h3⟩ := h
  refine ⟨h1, h2, fun hn => ?_⟩
  obtain ⟨b, off, ha, hc⟩ := h3 hn
  exact ⟨b, off, ha, fun i hi => by rw [s.cell (p := ⟨b, off + i, none⟩) (lt_of_cell (hc i hi))]; exact hc i hi⟩
end Go.Proofs.Ytcbdjijkliknoaa
