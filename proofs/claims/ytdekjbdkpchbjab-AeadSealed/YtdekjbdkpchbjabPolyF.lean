/-
  The reference: products of rows.
-/
import Derived.Test.YtdekjbdkpchbjabPolyE
namespace Go.Proofs.Ytdekjbdkpchbjab
open Go.RowKit
set_option maxRecDepth 100000
set_option linter.unusedSimpArgs false
set_option linter.unusedVariables false
/-- cells of numbers -/
def ni (l : List Nat) : Array Value := (nc l).toArray
theorem ni_size (l : List Nat) : (ni l).size = l.length := by simp [ni, nc]
theorem ni_set (l : List Nat) (i x : Nat) : (ni l).setIfInBounds i (.int .i64 (x : Int)) = ni (l.set i x) := by
  unfold ni nc
  rw [List.setIfInBounds_toArray, List.map_set]
theorem ni_cell {v : World} {g : Nat} {l : List Nat} {t : TypeId} (h : v.heap[g]? = some (.cells (ni l) t (0, 0))) (i : Nat) (hi : i < l.length) : v.cell? ⟨g, i, none⟩ = some (.int .i64 ((l.getD i 0 : Nat) : Int)) := by
  refine cell_of h ?_
  unfold ni nc
  simp [hi]
theorem oi_of {w : World} {b g n : Nat} {L : List Nat} (h : w.heap[g]? = some (.cells (ni L) 3 (0, 0))) (hn : L.length = n) (hg : b ≤ g) (hb : n ≤ 140737488351232) : Oi b w (.slice (some ⟨g, 0, none⟩) n n) L := by
  subst hn
  exact ⟨by simp [nc], .inr ⟨g, L.length, ni L, rfl, hg, h, Nat.le_refl _, by unfold maxLen; omega, by rw [ni_size, Nat.mul_one], by unfold ni; rw [Nat.mul_one]; exact List.take_of_length_le (by simp [nc])⟩⟩
theorem V_set : ∀ (l : List Nat) (j d : Nat), j < l.length → V (l.set j d) + 256 ^ j * l.getD j 0 = V l + 256 ^ j * d
  | [], j, d, h => by simp at h
  | x :: l, 0, d, h => by simp [V]; omega
  | x :: l, j + 1, d, h => by
    have h1 := V_set l j d (by simp at h; omega)
    rw [List.set_cons_succ, V, V, Nat.pow_succ, Nat.mul_comm (256 ^ j) 256, Nat.mul_assoc, Nat.mul_assoc, List.getD_cons_succ]
    omega
theorem AllB.set {l : List Nat} (h : AllB l) (j : Nat) {d : Nat} (hd : d < 256) : AllB (l.set j d) := fun x hx => by
  rcases List.mem_or_eq_of_mem_set hx with h1 | h1
  · exact h x h1
  · omega
theorem V_rep : ∀ n, V (List.replicate n 0) = 0
  | 0 => rfl
  | n + 1 => by rw [List.replicate_succ, V, V_rep n]
theorem rep_allB (n : Nat) : AllB (List.replicate n 0) := fun x hx => by have := List.eq_of_mem_replicate hx; omega
theorem times_step (Pi Pk VL VL2 o x y c s d c2 X Y : Nat) (hv : VL2 + Pi * Pk * o = VL + Pi * Pk * d) (h : VL + Pi * Pk * c = X + x * Pi * Y) (hs : s = o + x * y + c) (hd : d = s % 256) (hc : c2 = s / 256) : VL2 + Pi * (Pk * 256) * c2 = X + x * Pi * (Y + Pk * y) := by
  have e : s = d + 256 * c2 := by omega
  have e2 : Pi * Pk * s = Pi * Pk * d + Pi * (Pk * 256) * c2 := by rw [e, Nat.mul_add]; congr 1; simp only [Nat.mul_assoc]
  have e3 : Pi * Pk * s = Pi * Pk * o + Pi * Pk * (x * y) + Pi * Pk * c := by rw [hs, Nat.mul_add, Nat.mul_add]
  have e4 : x * Pi * (Y + Pk * y) = x * Pi * Y + Pi * Pk * (x * y) := by
    rw [Nat.mul_add]
    congr 1
    rw [Nat.mul_comm x Pi, Nat.mul_assoc, Nat.mul_assoc]
    congr 1
    rw [← Nat.mul_assoc, Nat.mul_comm x Pk, Nat.mul_assoc]
  omega
/-- no carry is left far behind -/
theorem times_top (A B : List Nat) (hA : AllB A) (hB : AllB B) (i k c VL : Nat) (hk : B.length < k) (h : VL + 256 ^ i * 256 ^ k * c = V (A.take i) * V B + A.getD i 0 * 256 ^ i * V B) : c = 0 := by
  have h1 : V (A.take i) * V B + A.getD i 0 * 256 ^ i * V B = V (A.take (i + 1)) * V B := by
    rw [V_take_succ, Nat.add_mul, Nat.mul_comm (A.getD i 0) (256 ^ i)]
  have h2 := take_lt A hA (i + 1)
  have h3 := V_lt B hB
  rw [h1] at h
  rcases Nat.eq_zero_or_pos c with hc | hc
  · exact hc
  · exfalso
    have h4 : V (A.take (i + 1)) * V B < 256 ^ (i + 1) * 256 ^ B.length := by
      rcases Nat.eq_zero_or_pos (V B) with hb | hb
      · rw [hb, Nat.mul_zero]; exact Nat.mul_pos (Nat.pow_pos (by omega)) (Nat.pow_pos (by omega))
      · exact Nat.lt_of_lt_of_le (Nat.mul_lt_mul_of_pos_right h2 hb) (Nat.mul_le_mul_left _ (Nat.le_of_lt h3))
    have h5 : 256 ^ (i + 1) * 256 ^ B.length ≤ 256 ^ i * 256 ^ k := by
      rw [← Nat.pow_add, ← Nat.pow_add]
      exact Nat.pow_le_pow_right (by omega) (by omega)
    have h6 : 256 ^ i * 256 ^ k ≤ 256 ^ i * 256 ^ k * c := Nat.le_mul_of_pos_right _ hc
    omega
def TimesP (A B L : List Nat) : Prop := AllB L ∧ V L = V A * V B ∧ L.length = A.length + B.length + 1
end Go.Proofs.Ytdekjbdkpchbjab
