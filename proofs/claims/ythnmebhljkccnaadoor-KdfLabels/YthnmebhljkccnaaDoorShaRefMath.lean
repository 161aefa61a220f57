/-
  The reference's words, steps and bytes: plain facts.
-/
import Derived.Test.YthnmebhljkccnaaDoorShaWakes
namespace Go.Proofs.YthnmebhljkccnaaDoor
open Go.RowKit
set_option maxRecDepth 100000

/-- as far as n words are there: the first sixteen read, the others reckoned -/
def W12 (B : List Int) (n : Nat) : List Int := if n ≤ 16 then W1 B n else W2 B (n - 16)
theorem W12_len (B : List Int) (n : Nat) : (W12 B n).length = 64 := by
  unfold W12
  split
  · exact W1_len B n
  · exact W2_len B _
theorem W12_zero (B : List Int) : W12 B 0 = Z64 := rfl
theorem W12_lo (B : List Int) (n : Nat) (h : n < 16) : W12 B (n + 1) = (W12 B n).set n (be (B.getD (4 * n) 0) (B.getD (4 * n + 1) 0) (B.getD (4 * n + 2) 0) (B.getD (4 * n + 3) 0)) := by
  unfold W12
  rw [if_pos (by omega), if_pos (by omega), W1]
theorem W12_hi (B : List Int) (n : Nat) (h : 16 ≤ n) : W12 B (n + 1) = (W12 B n).set n (nx (W12 B n) n) := by
  obtain ⟨k, rfl⟩ : ∃ k, n = k + 16 := ⟨n - 16, by omega⟩
  have e0 : W12 B (k + 16) = W2 B k := by
    unfold W12
    split
    · have : k = 0 := by omega
      subst this
      rfl
    · rw [Nat.add_sub_cancel]
  have e1 : W12 B (k + 16 + 1) = W2 B (k + 1) := by
    unfold W12
    rw [if_neg (by omega)]
    congr 1
  rw [e0, e1, W2]
theorem W12_all (B : List Int) : W12 B 64 = wds B := rfl
/-- eight words as a list -/
def stl (q : St) : List Int := [q.a, q.b, q.c, q.d, q.e, q.f, q.g, q.h]
theorem stl_len (q : St) : (stl q).length = 8 := rfl
theorem stl_of (s : List Int) (hs : s.length = 8) : stl (.of s) = s := by
  rcases s with _ | ⟨a, _ | ⟨b, _ | ⟨c, _ | ⟨d, _ | ⟨e, _ | ⟨f, _ | ⟨g, _ | ⟨h, _ | ⟨i, s⟩⟩⟩⟩⟩⟩⟩⟩⟩ <;> simp at hs
  rfl
theorem of_stl (q : St) : St.of (stl q) = q := rfl
/-- the first n words of the state, the steps' added -/
def SA (s t : List Int) : Nat → List Int
  | 0 => s
  | n + 1 => (SA s t n).set n (ad ((SA s t n).getD n 0) (t.getD n 0))
theorem SA_len (s t : List Int) : ∀ n, (SA s t n).length = s.length
  | 0 => rfl
  | n + 1 => by rw [SA, List.length_set, SA_len s t n]
theorem SA_all (s W K : List Int) (hs : s.length = 8) : SA s (stl (rnds (.of s) W K 64)) 8 = stp s W K := by
  rcases s with _ | ⟨a, _ | ⟨b, _ | ⟨c, _ | ⟨d, _ | ⟨e, _ | ⟨f, _ | ⟨g, _ | ⟨h, _ | ⟨i, s⟩⟩⟩⟩⟩⟩⟩⟩⟩ <;> simp at hs
  generalize hq : rnds (.of [a, b, c, d, e, f, g, h]) W K 64 = q
  unfold stp
  rw [hq]
  rfl
/-- a word's byte -/
def yn (x : Int) (n : Nat) : Int := x / 2 ^ (24 - 8 * n) % 256
/-- the bytes of i words and n bytes of the next one -/
def KZ (s : List Int) (i : Nat) : Nat → List Int
  | 0 => KY s i
  | n + 1 => (KZ s i n).set (4 * i + n) (yn (s.getD i 0) n)
theorem KZ_len (s : List Int) (i : Nat) : ∀ n, (KZ s i n).length = 32
  | 0 => KY_len s i
  | n + 1 => by rw [KZ, List.length_set, KZ_len s i n]
theorem KZ_all (s : List Int) (i : Nat) : KZ s i 4 = KY s (i + 1) := by
  simp [KZ, KY, yn, y0, y1, y2, y3]
theorem nx_ref (l : List Int) (i : Nat) : nx l i = (l.getD (i - 16) 0 + sg0 (l.getD (i - 15) 0) + l.getD (i - 7) 0 + sg1 (l.getD (i - 2) 0)) % 4294967296 := by
  unfold nx
  simp only [ad_eq]
  omega
end Go.Proofs.YthnmebhljkccnaaDoor
