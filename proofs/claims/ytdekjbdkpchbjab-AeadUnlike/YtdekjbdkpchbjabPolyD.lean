/-
  The reference: is a row not 0, what is left behind 130 bits.
-/
import Derived.Test.YtdekjbdkpchbjabPolyC
namespace Go.Proofs.Ytdekjbdkpchbjab
open Go.RowKit
set_option maxRecDepth 100000
set_option linter.unusedSimpArgs false
set_option linter.unusedVariables false
theorem V_zero : ∀ (a : List Nat), (∀ j, j < a.length → a.getD j 0 = 0) → V a = 0
  | [], _ => rfl
  | x :: a, h => by
    have h0 : x = 0 := by simpa using h 0 (by simp)
    have h1 := V_zero a (fun j hj => by simpa using h (j + 1) (by simp; omega))
    rw [V, h0, h1]
theorem V_ne : ∀ (a : List Nat), V a ≠ 0 → ∃ j, j < a.length ∧ a.getD j 0 ≠ 0 ∧ ∀ i, i < j → a.getD i 0 = 0
  | [], h => absurd rfl h
  | x :: a, h => by
    by_cases hx : x = 0
    · have h1 : V a ≠ 0 := by intro e; apply h; rw [V, hx, e]
      obtain ⟨j, h2, h3, h4⟩ := V_ne a h1
      refine ⟨j + 1, by simp; omega, by simpa using h3, fun i hi => ?_⟩
      rcases i with _ | i
      · simpa using hx
      · simpa using h4 i (by omega)
    · exact ⟨0, by simp, by simpa using hx, fun i hi => by omega⟩
theorem zero_all : ∀ (a : List Nat), V a = 0 → ∀ j, a.getD j 0 = 0
  | [], _, j => by simp
  | x :: a, h, j => by
    rw [V] at h
    rcases j with _ | j
    · simp; omega
    · simpa using zero_all a (by omega) j
/-- what is left behind two bits -/
def upL : List Nat → List Nat
  | [] => []
  | x :: l => (x / 4 + l.getD 0 0 % 4 * 64) :: upL l
theorem upL_len : ∀ l, (upL l).length = l.length
  | [] => rfl
  | x :: l => by rw [upL, List.length_cons, List.length_cons, upL_len l]
theorem V_mod4 : ∀ l : List Nat, V l % 4 = l.getD 0 0 % 4
  | [] => rfl
  | x :: l => by rw [V]; simp; omega
theorem V_up : ∀ l : List Nat, V (upL l) = V l / 4
  | [] => rfl
  | x :: l => by
    rw [upL, V, V, V_up l]
    have := V_mod4 l
    omega
theorem upL_allB : ∀ l : List Nat, AllB l → AllB (upL l)
  | [], _ => fun x hx => by cases hx
  | x :: l, h => fun y hy => by
    rw [upL] at hy
    have hx := h x List.mem_cons_self
    rcases List.mem_cons.1 hy with h1 | h1
    · omega
    · exact upL_allB l (fun z hz => h z (List.mem_cons_of_mem _ hz)) y h1
theorem upL_get : ∀ (l : List Nat) (j : Nat), j < l.length → (upL l).getD j 0 = l.getD j 0 / 4 + l.getD (j + 1) 0 % 4 * 64
  | [], j, h => by simp at h
  | x :: l, 0, h => by simp [upL]
  | x :: l, j + 1, h => by
    have := upL_get l j (by simp at h; omega)
    rw [upL]
    simpa using this
def Q130 : Nat := 2 ^ 130
/-- the lowest 130 bits -/
def loL (A : List Nat) : List Nat := (List.range 16).map (fun i => A.getD i 0) ++ [A.getD 16 0 % 4]
theorem loL_allB (A : List Nat) (h : AllB A) : AllB (loL A) := by
  refine AllB.snoc (fun x hx => ?_) (by omega)
  obtain ⟨i, _, rfl⟩ := List.mem_map.1 hx
  exact h.at_ i
theorem V_range (A : List Nat) : ∀ n, V ((List.range n).map (fun i => A.getD i 0)) = V (A.take n)
  | 0 => by simp [V]
  | n + 1 => by
    rw [List.range_succ, List.map_append, List.map_cons, List.map_nil, V_snoc, V_range A n, List.length_map, List.length_range, V_take_succ]
theorem V_split (A : List Nat) (n : Nat) : V A = V (A.take n) + 256 ^ n * V (A.drop n) := by
  rcases Nat.lt_or_ge n A.length with h | h
  · have e := V_append (A.take n) (A.drop n)
    rw [List.take_append_drop, List.length_take, Nat.min_eq_left (by omega)] at e
    exact e
  · rw [List.take_of_length_le h, List.drop_of_length_le h]
    simp [V]
theorem take_lt (A : List Nat) (h : AllB A) (n : Nat) : V (A.take n) < 256 ^ n := by
  have h1 := V_lt (A.take n) (fun x hx => h x (List.mem_of_mem_take hx))
  exact Nat.lt_of_lt_of_le h1 (Nat.pow_le_pow_right (by omega) (by rw [List.length_take]; omega))
theorem V_lo (A : List Nat) (h : AllB A) : V (loL A) = V A % Q130 ∧ V (upL (A.drop 16)) = V A / Q130 := by
  have h1 := V_split A 16
  have h2 := take_lt A h 16
  have h3 := V_mod4 (A.drop 16)
  have h4 : (A.drop 16).getD 0 0 = A.getD 16 0 := by rw [List.getD_eq_getElem?_getD, List.getElem?_drop, ← List.getD_eq_getElem?_getD]
  rw [h4] at h3
  unfold loL
  rw [V_snoc, V_range, List.length_map, List.length_range, V_up, h1]
  unfold Q130
  generalize V (A.take 16) = x at *
  generalize V (A.drop 16) = y at *
  generalize A.getD 16 0 % 4 = z at *
  have e : (256 : Nat) ^ 16 = 340282366920938463463374607431768211456 := by decide
  have e2 : (2 : Nat) ^ 130 = 1361129467683753853853498429727072845824 := by decide
  rw [e] at h2 ⊢
  rw [e2]
  omega
end Go.Proofs.Ytdekjbdkpchbjab
