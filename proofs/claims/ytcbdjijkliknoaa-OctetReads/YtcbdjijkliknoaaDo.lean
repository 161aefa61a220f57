/-
  What the document's answer Do does, where nothing is taken.
-/
import Derived.Test.YtcbdjijkliknoaaHigh
import Derived.Deep.RegionWith
namespace Go.Proofs.Ytcbdjijkliknoaa
open Go.RowKit
set_option linter.unusedVariables false

theorem below5 (w : World) (a b c d e : Obj) : Below w.heap.size w ((((((w.alloc a).alloc b).alloc c).alloc d).alloc e)).drew :=
  ((((((Below.refl _ _).alloc (Nat.le_refl _) _).alloc (by simp) _).alloc (by simp; omega) _).alloc (by simp; omega) _).alloc (by simp; omega) _).drew
theorem below6 (w : World) (a b c d e f : Obj) : Below w.heap.size w (((((((w.alloc a).alloc b).alloc c).alloc d).alloc e).alloc f)).drew :=
  (((((((Below.refl _ _).alloc (Nat.le_refl _) _).alloc (by simp) _).alloc (by simp; omega) _).alloc (by simp; omega) _).alloc (by simp; omega) _).alloc (by simp; omega) _).drew
theorem zer_last (w : World) (a b c d e : Obj) : ((((((w.alloc a).alloc b).alloc c).alloc d).alloc e).alloc (.cells zer.toArray 5 (0, 0))).heap[w.heap.size + 1 + 1 + 1 + 1 + 1]? = some (.cells zer.toArray 5 (0, 0)) := by
  have := heap_alloc_new (((((w.alloc a).alloc b).alloc c).alloc d).alloc e) (.cells zer.toArray 5 (0, 0))
  simp only [size_new] at this
  exact this
theorem make32 (w : World) : (Instr.makeSlice 22 (.int .i64 32) (.int .i64 32)).run Try.prog w = .ok (.slice (some ⟨w.heap.size, 0, none⟩) 32 32) (w.alloc (.cells zer.toArray 5)) := by kernel_rfl

set_option maxHeartbeats 1000000 in
theorem do_err0 (A : Option Addr) (n C : Nat) (i e N : Int) (w : World) (he : e ≠ 0) :
    Calls Try.prog 22 #[.agg #[.slice A n C, .int .i64 i, .int .i64 e], .agg #[.int .i64 0, .int .i64 N]] w fun x w' => x = .returned (.tuple #[.agg #[.slice A n C, .int .i64 i, .int .i64 e], .agg #[.int .u64 0, .slice none 0 0]]) ∧ Below w.heap.size w w' := by
  have hb : (e != 0) = true := by simpa using he
  clear he
  go_enter Try.func22, Try.ntmps22
  go_wp2
  go_region
  go_wp2
  exact bodyPost_ret (v := .tuple #[.agg #[.slice A n C, .int .i64 i, .int .i64 e], .agg #[.int .u64 0, .slice none 0 0]]) (by simp [results, Try.results22, go_sem]) rfl ⟨rfl, below5 _ _ _ _ _ _⟩

set_option maxHeartbeats 1000000 in
theorem do_short0 (A : Option Addr) (n C : Nat) (i N : Int) (w : World) (hi : 0 ≤ i) (hin : i ≤ n) (hn : n ≤ 140737488355328) (hs : (n : Int) - i < 2) :
    Calls Try.prog 22 #[.agg #[.slice A n C, .int .i64 i, .int .i64 0], .agg #[.int .i64 0, .int .i64 N]] w fun x w' => x = .returned (.tuple #[.agg #[.slice A n C, .int .i64 i, .int .i64 110], .agg #[.int .u64 0, .slice none 0 0]]) ∧ Below w.heap.size w w' := by
  go_enter Try.func22, Try.ntmps22
  go_wp2
  go_region
  go_wp2
  exact bodyPost_ret (v := .tuple #[.agg #[.slice A n C, .int .i64 i, .int .i64 110], .agg #[.int .u64 0, .slice none 0 0]]) (by simp [results, Try.results22, go_sem]) rfl ⟨rfl, below5 _ _ _ _ _ _⟩

set_option maxHeartbeats 1000000 in
theorem do_err1 (A : Option Addr) (n C : Nat) (i e N : Int) (w : World) (he : e ≠ 0) :
    Calls Try.prog 22 #[.agg #[.slice A n C, .int .i64 i, .int .i64 e], .agg #[.int .i64 1, .int .i64 N]] w fun x w' => x = .returned (.tuple #[.agg #[.slice A n C, .int .i64 i, .int .i64 e], .agg #[.int .u64 0, .slice none 0 0]]) ∧ Below w.heap.size w w' := by
  have hb : (e != 0) = true := by simpa using he
  clear he
  go_enter Try.func22, Try.ntmps22
  go_wp2
  go_region
  go_wp2
  exact bodyPost_ret (v := .tuple #[.agg #[.slice A n C, .int .i64 i, .int .i64 e], .agg #[.int .u64 0, .slice none 0 0]]) (by simp [results, Try.results22, go_sem]) rfl ⟨rfl, below5 _ _ _ _ _ _⟩

set_option maxHeartbeats 1000000 in
theorem do_short1 (A : Option Addr) (n C : Nat) (i N : Int) (w : World) (hi : 0 ≤ i) (hin : i ≤ n) (hn : n ≤ 140737488355328) (hs : (n : Int) - i < 4) :
    Calls Try.prog 22 #[.agg #[.slice A n C, .int .i64 i, .int .i64 0], .agg #[.int .i64 1, .int .i64 N]] w fun x w' => x = .returned (.tuple #[.agg #[.slice A n C, .int .i64 i, .int .i64 110], .agg #[.int .u64 0, .slice none 0 0]]) ∧ Below w.heap.size w w' := by
  go_enter Try.func22, Try.ntmps22
  go_wp2
  go_region
  go_wp2
  exact bodyPost_ret (v := .tuple #[.agg #[.slice A n C, .int .i64 i, .int .i64 110], .agg #[.int .u64 0, .slice none 0 0]]) (by simp [results, Try.results22, go_sem]) rfl ⟨rfl, below5 _ _ _ _ _ _⟩

set_option maxHeartbeats 1000000 in
theorem do_err2 (A : Option Addr) (n C : Nat) (i e N : Int) (w : World) (he : e ≠ 0) :
    Calls Try.prog 22 #[.agg #[.slice A n C, .int .i64 i, .int .i64 e], .agg #[.int .i64 2, .int .i64 N]] w fun x w' => x = .returned (.tuple #[.agg #[.slice A n C, .int .i64 i, .int .i64 e], .agg #[.int .u64 0, .slice none 0 0]]) ∧ Below w.heap.size w w' := by
  have hb : (e != 0) = true := by simpa using he
  clear he
  go_enter Try.func22, Try.ntmps22
  go_wp2
  go_region
  go_wp2
  exact bodyPost_ret (v := .tuple #[.agg #[.slice A n C, .int .i64 i, .int .i64 e], .agg #[.int .u64 0, .slice none 0 0]]) (by simp [results, Try.results22, go_sem]) rfl ⟨rfl, below5 _ _ _ _ _ _⟩

set_option maxHeartbeats 1000000 in
theorem do_short2 (A : Option Addr) (n C : Nat) (i N : Int) (w : World) (hi : 0 ≤ i) (hin : i ≤ n) (hn : n ≤ 140737488355328) (hs : (n : Int) - i < 8) :
    Calls Try.prog 22 #[.agg #[.slice A n C, .int .i64 i, .int .i64 0], .agg #[.int .i64 2, .int .i64 N]] w fun x w' => x = .returned (.tuple #[.agg #[.slice A n C, .int .i64 i, .int .i64 110], .agg #[.int .u64 0, .slice none 0 0]]) ∧ Below w.heap.size w w' := by
  go_enter Try.func22, Try.ntmps22
  go_wp2
  go_region
  go_wp2
  exact bodyPost_ret (v := .tuple #[.agg #[.slice A n C, .int .i64 i, .int .i64 110], .agg #[.int .u64 0, .slice none 0 0]]) (by simp [results, Try.results22, go_sem]) rfl ⟨rfl, below5 _ _ _ _ _ _⟩

set_option maxHeartbeats 1000000 in
theorem do_err3 (A : Option Addr) (n C : Nat) (i e N : Int) (w : World) (he : e ≠ 0) :
    Calls Try.prog 22 #[.agg #[.slice A n C, .int .i64 i, .int .i64 e], .agg #[.int .i64 3, .int .i64 N]] w fun x w' => x = .returned (.tuple #[.agg #[.slice A n C, .int .i64 i, .int .i64 e], .agg #[.int .u64 0, .slice none 0 0]]) ∧ Below w.heap.size w w' := by
  have hb : (e != 0) = true := by simpa using he
  clear he
  go_enter Try.func22, Try.ntmps22
  go_wp2
  go_region
  go_wp2
  exact bodyPost_ret (v := .tuple #[.agg #[.slice A n C, .int .i64 i, .int .i64 e], .agg #[.int .u64 0, .slice none 0 0]]) (by simp [results, Try.results22, go_sem]) rfl ⟨rfl, below5 _ _ _ _ _ _⟩

set_option maxHeartbeats 1000000 in
theorem do_neg3 (A : Option Addr) (n C : Nat) (i N : Int) (w : World) (hN : N < 0) :
    Calls Try.prog 22 #[.agg #[.slice A n C, .int .i64 i, .int .i64 0], .agg #[.int .i64 3, .int .i64 N]] w fun x w' => x = .returned (.tuple #[.agg #[.slice A n C, .int .i64 i, .int .i64 2], .agg #[.int .u64 0, .slice none 0 0]]) ∧ Below w.heap.size w w' := by
  go_enter Try.func22, Try.ntmps22
  go_wp2
  go_region
  go_wp2
  exact bodyPost_ret (v := .tuple #[.agg #[.slice A n C, .int .i64 i, .int .i64 2], .agg #[.int .u64 0, .slice none 0 0]]) (by simp [results, Try.results22, go_sem]) rfl ⟨rfl, below5 _ _ _ _ _ _⟩

set_option maxHeartbeats 1000000 in
theorem do_short3 (A : Option Addr) (n C : Nat) (i N : Int) (w : World) (hi : 0 ≤ i) (hin : i ≤ n) (hn : n ≤ 140737488355328) (hs : (n : Int) - i < N) (hN : ¬ N < 0) :
    Calls Try.prog 22 #[.agg #[.slice A n C, .int .i64 i, .int .i64 0], .agg #[.int .i64 3, .int .i64 N]] w fun x w' => x = .returned (.tuple #[.agg #[.slice A n C, .int .i64 i, .int .i64 110], .agg #[.int .u64 0, .slice none 0 0]]) ∧ Below w.heap.size w w' := by
  go_enter Try.func22, Try.ntmps22
  go_wp2
  go_region
  go_wp2
  exact bodyPost_ret (v := .tuple #[.agg #[.slice A n C, .int .i64 i, .int .i64 110], .agg #[.int .u64 0, .slice none 0 0]]) (by simp [results, Try.results22, go_sem]) rfl ⟨rfl, below5 _ _ _ _ _ _⟩

set_option maxHeartbeats 1000000 in
theorem do_err4 (A : Option Addr) (n C : Nat) (i e N : Int) (w : World) (he : e ≠ 0) :
    Calls Try.prog 22 #[.agg #[.slice A n C, .int .i64 i, .int .i64 e], .agg #[.int .i64 4, .int .i64 N]] w fun x w' => x = .returned (.tuple #[.agg #[.slice A n C, .int .i64 i, .int .i64 e], .agg #[.int .u64 0, .slice (some ⟨w.heap.size + 1 + 1 + 1 + 1 + 1, 0, none⟩) 32 32]]) ∧ Below w.heap.size w w' ∧ w'.heap[w.heap.size + 1 + 1 + 1 + 1 + 1]? = some (.cells zer.toArray 5 (0, 0)) := by
  have hb : (e != 0) = true := by simpa using he
  clear he
  have hmk := make32
  go_enter Try.func22, Try.ntmps22
  go_wp2
  go_region
  go_wp2
  exact bodyPost_ret (v := .tuple #[.agg #[.slice A n C, .int .i64 i, .int .i64 e], .agg #[.int .u64 0, .slice (some ⟨w.heap.size + 1 + 1 + 1 + 1 + 1, 0, none⟩) 32 32]]) (by simp [results, Try.results22, go_sem]) rfl ⟨rfl, below6 _ _ _ _ _ _ _, by rw [heap_drew]; exact zer_last _ _ _ _ _ _⟩

set_option maxHeartbeats 1000000 in
theorem do_short4 (A : Option Addr) (n C : Nat) (i N : Int) (w : World) (hi : 0 ≤ i) (hin : i ≤ n) (hn : n ≤ 140737488355328) (hs : (n : Int) - i < 32) :
    Calls Try.prog 22 #[.agg #[.slice A n C, .int .i64 i, .int .i64 0], .agg #[.int .i64 4, .int .i64 N]] w fun x w' => x = .returned (.tuple #[.agg #[.slice A n C, .int .i64 i, .int .i64 110], .agg #[.int .u64 0, .slice (some ⟨w.heap.size + 1 + 1 + 1 + 1 + 1, 0, none⟩) 32 32]]) ∧ Below w.heap.size w w' ∧ w'.heap[w.heap.size + 1 + 1 + 1 + 1 + 1]? = some (.cells zer.toArray 5 (0, 0)) := by
  have hmk := make32
  go_enter Try.func22, Try.ntmps22
  go_wp2
  go_region
  go_wp2
  exact bodyPost_ret (v := .tuple #[.agg #[.slice A n C, .int .i64 i, .int .i64 110], .agg #[.int .u64 0, .slice (some ⟨w.heap.size + 1 + 1 + 1 + 1 + 1, 0, none⟩) 32 32]]) (by simp [results, Try.results22, go_sem]) rfl ⟨rfl, below6 _ _ _ _ _ _ _, by rw [heap_drew]; exact zer_last _ _ _ _ _ _⟩

end Go.Proofs.Ytcbdjijkliknoaa
