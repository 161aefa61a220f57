/-
  What the document's answer Do does, where bytes are taken.
-/
import Derived.Test.YtcbdjijkliknoaaDo
namespace Go.Proofs.Ytcbdjijkliknoaa
open Go.RowKit
set_option linter.unusedVariables false

set_option maxHeartbeats 1000000 in
theorem do_ok0 (b off n C : Nat) (i N : Int) (L : List Int) (w : World) (hi : 0 ≤ i) (hnC : n ≤ C) (hn : n ≤ 140737488355328) (hk : 2 ≤ (n : Int) - i) (hL : Bs w (some ⟨b, off + i.toNat, none⟩) 2 L) :
    Calls Try.prog 22 #[.agg #[.slice (some ⟨b, off, none⟩) n C, .int .i64 i, .int .i64 0], .agg #[.int .i64 0, .int .i64 N]] w fun x w' => x = .returned (.tuple #[.agg #[.slice (some ⟨b, off, none⟩) n C, .int .i64 (i + 2), .int .i64 0], .agg #[.int .u64 (lowN L), .slice none 0 0]]) ∧ Below w.heap.size w w' := by
  have hs : ¬ (n : Int) - i < 2 := by omega
  have hne : ¬ C = i.toNat := by omega
  have HH : Hid (∀ W, Below w.heap.size w W → ∀ m c, m = 2 → Calls Try.prog 20 #[.slice (some ⟨b, off + i.toNat, none⟩) m c] W fun e W' => e = .returned (.int .u64 (lowN L)) ∧ W' = W) := by
    intro W hW m c hm
    subst hm
    have := high_any (some ⟨b, off + i.toNat, none⟩) 2 c L W (hL.below hW) (by omega)
    rw [List.take_of_length_le (by have := hL.1; omega)] at this
    exact this
  clear hL
  go_enter Try.func22, Try.ntmps22
  go_wp2
  go_region_with (go_at_call 20; refine (unhide HH _ (below5 _ _ _ _ _ _) _ _ (by omega)).mono ?_; rintro e w1 ⟨rfl, hw1⟩; subst hw1)
  all_goals
    go_wp2
    exact bodyPost_ret (v := .tuple #[.agg #[.slice (some ⟨b, off, none⟩) n C, .int .i64 (i + 2), .int .i64 0], .agg #[.int .u64 (lowN L), .slice none 0 0]]) (by simp [results, Try.results22, go_sem]) rfl ⟨rfl, below5 _ _ _ _ _ _⟩

set_option maxHeartbeats 1000000 in
theorem do_ok1 (b off n C : Nat) (i N : Int) (L : List Int) (w : World) (hi : 0 ≤ i) (hnC : n ≤ C) (hn : n ≤ 140737488355328) (hk : 4 ≤ (n : Int) - i) (hL : Bs w (some ⟨b, off + i.toNat, none⟩) 4 L) :
    Calls Try.prog 22 #[.agg #[.slice (some ⟨b, off, none⟩) n C, .int .i64 i, .int .i64 0], .agg #[.int .i64 1, .int .i64 N]] w fun x w' => x = .returned (.tuple #[.agg #[.slice (some ⟨b, off, none⟩) n C, .int .i64 (i + 4), .int .i64 0], .agg #[.int .u64 (lowN L), .slice none 0 0]]) ∧ Below w.heap.size w w' := by
  have hs : ¬ (n : Int) - i < 4 := by omega
  have hne : ¬ C = i.toNat := by omega
  have HH : Hid (∀ W, Below w.heap.size w W → ∀ m c, m = 4 → Calls Try.prog 20 #[.slice (some ⟨b, off + i.toNat, none⟩) m c] W fun e W' => e = .returned (.int .u64 (lowN L)) ∧ W' = W) := by
    intro W hW m c hm
    subst hm
    have := high_any (some ⟨b, off + i.toNat, none⟩) 4 c L W (hL.below hW) (by omega)
    rw [List.take_of_length_le (by have := hL.1; omega)] at this
    exact this
  clear hL
  go_enter Try.func22, Try.ntmps22
  go_wp2
  go_region_with (go_at_call 20; refine (unhide HH _ (below5 _ _ _ _ _ _) _ _ (by omega)).mono ?_; rintro e w1 ⟨rfl, hw1⟩; subst hw1)
  all_goals
    go_wp2
    exact bodyPost_ret (v := .tuple #[.agg #[.slice (some ⟨b, off, none⟩) n C, .int .i64 (i + 4), .int .i64 0], .agg #[.int .u64 (lowN L), .slice none 0 0]]) (by simp [results, Try.results22, go_sem]) rfl ⟨rfl, below5 _ _ _ _ _ _⟩

set_option maxHeartbeats 1000000 in
theorem do_ok2 (b off n C : Nat) (i N : Int) (L : List Int) (w : World) (hi : 0 ≤ i) (hnC : n ≤ C) (hn : n ≤ 140737488355328) (hk : 8 ≤ (n : Int) - i) (hL : Bs w (some ⟨b, off + i.toNat, none⟩) 8 L) :
    Calls Try.prog 22 #[.agg #[.slice (some ⟨b, off, none⟩) n C, .int .i64 i, .int .i64 0], .agg #[.int .i64 2, .int .i64 N]] w fun x w' => x = .returned (.tuple #[.agg #[.slice (some ⟨b, off, none⟩) n C, .int .i64 (i + 8), .int .i64 0], .agg #[.int .u64 (lowN L), .slice none 0 0]]) ∧ Below w.heap.size w w' := by
  have hs : ¬ (n : Int) - i < 8 := by omega
  have hne : ¬ C = i.toNat := by omega
  have HH : Hid (∀ W, Below w.heap.size w W → ∀ m c, m = 8 → Calls Try.prog 20 #[.slice (some ⟨b, off + i.toNat, none⟩) m c] W fun e W' => e = .returned (.int .u64 (lowN L)) ∧ W' = W) := by
    intro W hW m c hm
    subst hm
    have := high_any (some ⟨b, off + i.toNat, none⟩) 8 c L W (hL.below hW) (by omega)
    rw [List.take_of_length_le (by have := hL.1; omega)] at this
    exact this
  clear hL
  go_enter Try.func22, Try.ntmps22
  go_wp2
  go_region_with (go_at_call 20; refine (unhide HH _ (below5 _ _ _ _ _ _) _ _ (by omega)).mono ?_; rintro e w1 ⟨rfl, hw1⟩; subst hw1)
  all_goals
    go_wp2
    exact bodyPost_ret (v := .tuple #[.agg #[.slice (some ⟨b, off, none⟩) n C, .int .i64 (i + 8), .int .i64 0], .agg #[.int .u64 (lowN L), .slice none 0 0]]) (by simp [results, Try.results22, go_sem]) rfl ⟨rfl, below5 _ _ _ _ _ _⟩

theorem below5n (w : World) (a b c d e : Obj) : Below w.heap.size w ((((((w.alloc a).alloc b).alloc c).alloc d).alloc e)) :=
  ((((((Below.refl _ _).alloc (Nat.le_refl _) _).alloc (by simp) _).alloc (by simp; omega) _).alloc (by simp; omega) _).alloc (by simp; omega) _)
theorem below6n (w : World) (a b c d e f : Obj) : Below w.heap.size w (((((((w.alloc a).alloc b).alloc c).alloc d).alloc e).alloc f)) :=
  (((((((Below.refl _ _).alloc (Nat.le_refl _) _).alloc (by simp) _).alloc (by simp; omega) _).alloc (by simp; omega) _).alloc (by simp; omega) _).alloc (by simp; omega) _)

set_option maxHeartbeats 1000000 in
theorem do_ok3 (b off n C : Nat) (i N : Int) (w : World) (hi : 0 ≤ i) (hnC : n ≤ C) (hn : n ≤ 140737488355328) (hN : 0 ≤ N) (hne : ¬ C = i.toNat) (hk : N ≤ (n : Int) - i) :
    Calls Try.prog 22 #[.agg #[.slice (some ⟨b, off, none⟩) n C, .int .i64 i, .int .i64 0], .agg #[.int .i64 3, .int .i64 N]] w fun x w' => x = .returned (.tuple #[.agg #[.slice (some ⟨b, off, none⟩) n C, .int .i64 (i + N), .int .i64 0], .agg #[.int .u64 0, .slice (some ⟨b, off + i.toNat, none⟩) ((i + N).toNat - i.toNat) (C - i.toNat)]]) ∧ Below w.heap.size w w' := by
  have hs : ¬ (n : Int) - i < N := by omega
  have hN1 : ¬ N < 0 := by omega
  go_enter Try.func22, Try.ntmps22
  go_wp2
  exact bodyPost_ret (v := .tuple #[.agg #[.slice (some ⟨b, off, none⟩) n C, .int .i64 (i + N), .int .i64 0], .agg #[.int .u64 0, .slice (some ⟨b, off + i.toNat, none⟩) ((i + N).toNat - i.toNat) (C - i.toNat)]]) (by simp [results, Try.results22, go_sem]) rfl ⟨by simp, below5n _ _ _ _ _ _⟩

set_option maxHeartbeats 1000000 in
theorem do_ok4 (b off n C : Nat) (i N : Int) (w : World) (hi : 0 ≤ i) (hnC : n ≤ C) (hn : n ≤ 140737488355328) (hk : 32 ≤ (n : Int) - i) :
    Calls Try.prog 22 #[.agg #[.slice (some ⟨b, off, none⟩) n C, .int .i64 i, .int .i64 0], .agg #[.int .i64 4, .int .i64 N]] w fun x w' => x = .returned (.tuple #[.agg #[.slice (some ⟨b, off, none⟩) n C, .int .i64 (i + 32), .int .i64 0], .agg #[.int .u64 0, .slice (some ⟨b, off + i.toNat, none⟩) ((i + 32).toNat - i.toNat) (C - i.toNat)]]) ∧ Below w.heap.size w w' := by
  have hs : ¬ (n : Int) - i < 32 := by omega
  have hne : ¬ C = i.toNat := by omega
  have hmk := make32
  go_enter Try.func22, Try.ntmps22
  go_wp2
  exact bodyPost_ret (v := .tuple #[.agg #[.slice (some ⟨b, off, none⟩) n C, .int .i64 (i + 32), .int .i64 0], .agg #[.int .u64 0, .slice (some ⟨b, off + i.toNat, none⟩) ((i + 32).toNat - i.toNat) (C - i.toNat)]]) (by simp [results, Try.results22, go_sem]) rfl ⟨by simp, below6n _ _ _ _ _ _ _⟩

set_option maxHeartbeats 1000000 in
theorem do_ok3e (b off n C : Nat) (i N : Int) (w : World) (hi : 0 ≤ i) (hnC : n ≤ C) (hn : n ≤ 140737488355328) (hN : 0 ≤ N) (hne : C = i.toNat) (hk : N ≤ (n : Int) - i) :
    Calls Try.prog 22 #[.agg #[.slice (some ⟨b, off, none⟩) n C, .int .i64 i, .int .i64 0], .agg #[.int .i64 3, .int .i64 N]] w fun x w' => x = .returned (.tuple #[.agg #[.slice (some ⟨b, off, none⟩) n C, .int .i64 (i + N), .int .i64 0], .agg #[.int .u64 0, .slice (some ⟨b, off, none⟩) ((i + N).toNat - i.toNat) (C - i.toNat)]]) ∧ Below w.heap.size w w' := by
  have hs : ¬ (n : Int) - i < N := by omega
  have hN1 : ¬ N < 0 := by omega
  subst hne
  go_enter Try.func22, Try.ntmps22
  go_wp2
  exact bodyPost_ret (v := .tuple #[.agg #[.slice (some ⟨b, off, none⟩) n i.toNat, .int .i64 (i + N), .int .i64 0], .agg #[.int .u64 0, .slice (some ⟨b, off, none⟩) ((i + N).toNat - i.toNat) 0]]) (by simp [results, Try.results22, go_sem]) rfl ⟨by simp, below5n _ _ _ _ _ _⟩

end Go.Proofs.Ytcbdjijkliknoaa
