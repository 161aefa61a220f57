/-
  Small functions of sha: a right turn, a digit; cells of words and bytes.
-/
import Derived.Test.YthnmebhljkccnaaDoorMade
import Derived.Test.YthnmebhljkccnaaDoorMake5
import Derived.WalkMore
import Derived.Deep.Cut
import Derived.StillTailTactics
namespace Go.Proofs.YthnmebhljkccnaaDoor
open Go.RowKit
set_option maxRecDepth 100000

theorem Bl.cell {w v : World} {L : List Blk} (h : Bl w L v) (k : Nat) {x : Blk} (hk : L[k]? = some x) (i : Nat) (y : Value) : Bl w (L.set k ⟨x.g, x.c.setIfInBounds i y, x.t⟩) (v.setCell ⟨x.g, i, none⟩ y) := by
  have hx := h.get k hk
  have hn : ∀ j y, L[j]? = some y → j ≠ k → y.g ≠ x.g := by
    intro j y hj hji
    obtain ⟨hjl, rfl⟩ := List.getElem?_eq_some_iff.1 hj
    obtain ⟨hil, rfl⟩ := List.getElem?_eq_some_iff.1 hk
    rcases Nat.lt_or_gt_of_ne hji with hlt | hlt
    · exact List.pairwise_iff_getElem.1 h.ne j k hjl hil hlt
    · exact (List.pairwise_iff_getElem.1 h.ne k j hil hjl hlt).symm
  refine ⟨h.gr.setCell (h.own k hk) y, ?_, ?_⟩
  · intro z hz
    obtain ⟨j, hj⟩ := List.mem_iff_getElem?.1 hz
    by_cases hji : j = k
    · subst hji
      rw [List.getElem?_set_self', hk] at hj
      simp at hj
      have ho := h.own j hk
      subst hj
      exact ⟨heap_setCell_same _ _ _ _ _ _ hx, ho⟩
    · rw [List.getElem?_set_ne (fun e => hji e.symm)] at hj
      exact ⟨(Below.heap_setCell v ⟨x.g, i, none⟩ y z.g (hn j z hj hji)).trans (h.get j hj), h.own j hj⟩
  · refine List.pairwise_iff_getElem.2 fun a b ha hb hab => ?_
    rw [List.length_set] at ha hb
    have h0 := List.pairwise_iff_getElem.1 h.ne a b ha hb hab
    obtain ⟨hil, rfl⟩ := List.getElem?_eq_some_iff.1 hk
    rw [List.getElem_set, List.getElem_set]
    split
    · rename_i e
      subst e
      split
      · omega
      · exact h0
    · split
      · rename_i e
        subst e
        exact h0
      · exact h0

/-- cells of words, of bytes -/
def uc (l : List Int) : Array Value := (l.map (Value.int .u32)).toArray
theorem uc_size (l : List Int) : (uc l).size = l.length := by simp [uc]
theorem uc_one (l : List Int) : (uc l).all (·.oneCell') = true := by unfold uc; simp [Value.oneCell']
theorem uc_set (l : List Int) (i : Nat) (x : Int) : (uc l).setIfInBounds i (.int .u32 x) = uc (l.set i x) := by
  unfold uc
  rw [List.setIfInBounds_toArray, List.map_set]
theorem uc_get (l : List Int) (i : Nat) (hi : i < l.length) : (uc l)[i]? = some (.int .u32 (l.getD i 0)) := by
  unfold uc
  simp [hi]
theorem uc_cell {v : World} {g : Nat} {l : List Int} {t : TypeId} (h : v.heap[g]? = some (.cells (uc l) t (0, 0))) (i : Nat) (hi : i < l.length) : v.cell? ⟨g, i, none⟩ = some (.int .u32 (l.getD i 0)) := cell_of h (uc_get l i hi)
def kc (l : List Int) : Array Value := (l.map (Value.int .u8)).toArray
theorem kc_size (l : List Int) : (kc l).size = l.length := by simp [kc]
theorem kc_one (l : List Int) : (kc l).all (·.oneCell') = true := by unfold kc; simp [Value.oneCell']
theorem kc_set (l : List Int) (i : Nat) (x : Int) : (kc l).setIfInBounds i (.int .u8 x) = kc (l.set i x) := by
  unfold kc
  rw [List.setIfInBounds_toArray, List.map_set]
theorem kc_get (l : List Int) (i : Nat) (hi : i < l.length) : (kc l)[i]? = some (.int .u8 (l.getD i 0)) := by
  unfold kc
  simp [hi]
theorem kc_cell {v : World} {g : Nat} {l : List Int} {t : TypeId} (h : v.heap[g]? = some (.cells (kc l) t (0, 0))) (i : Nat) (hi : i < l.length) : v.cell? ⟨g, i, none⟩ = some (.int .u8 (l.getD i 0)) := cell_of h (kc_get l i hi)
theorem getD_set (l : List Int) (i j : Nat) (x : Int) (hi : i < l.length) : (l.set i x).getD j 0 = if j = i then x else l.getD j 0 := by
  by_cases h : j = i
  · subst h
    simp [hi]
  · rw [if_neg h]
    simp [List.getElem?_set_ne (fun e => h e.symm)]

/-- a right turn of a word -/
def tn (x : Int) (n : Nat) : Int := bits .or .u32 (x / 2 ^ n) (IntKind.u32.wrap (x * 2 ^ (32 - n)))
theorem turn_ok (x : Int) (n : Nat) (hn : 1 ≤ n ∧ n ≤ 31) (w : World) :
    Calls Tryd.prog 52 #[.int .u32 x, .int .i64 n] w (fun r w' => r = .returned (.int .u32 (tn x n)) ∧ w' = w.drew) := by
  obtain ⟨m, hm⟩ : ∃ m, m = 32 - n := ⟨_, rfl⟩
  have e1 : 32 - (n : Int) = (m : Int) := by omega
  have e2 : IntKind.i64.wrap (m : Int) = (m : Int) := by rw [IntKind.wrap_i64]; omega
  have m0 : 0 ≤ (m : Int) := by omega
  have n0 : 0 ≤ (n : Int) := by omega
  replace hm := hide hm
  go_enter Tryd.func52, Tryd.ntmps52
  go_wp2_with fail
  go_still_tail 8, (by kernel_rfl)
  go_wp2_with fail
  refine bodyPost_ret (v := .int .u32 (tn x n)) ?_ rfl ⟨rfl, rfl⟩
  unfold tn
  rw [← unhide hm]
  simp [results, Tryd.results52, go_sem]
theorem turn_int (x m : Int) (hm : 1 ≤ m ∧ m ≤ 31) (w : World) :
    Calls Tryd.prog 52 #[.int .u32 x, .int .i64 m] w (fun r w' => r = .returned (.int .u32 (tn x m.toNat)) ∧ w' = w.drew) := by
  obtain ⟨n, rfl⟩ := Int.eq_ofNat_of_zero_le (a := m) (by omega)
  exact turn_ok x n (by omega) w
/-- a digit of the constants -/
def dg (d : Int) : Int := if 97 ≤ d then d - 87 else d - 48
theorem value_ok (d : Int) (hd : (48 ≤ d ∧ d ≤ 57) ∨ (97 ≤ d ∧ d ≤ 102)) (w : World) :
    Calls Tryd.prog 51 #[.int .i32 d] w (fun r w' => r = .returned (.int .u32 (dg d)) ∧ w' = w) := by
  rcases hd with hd | hd
  · have e : dg d = d - 48 := by unfold dg; rw [if_neg (by omega)]
    rw [e]
    have hl : ¬ 97 ≤ d := by omega
    go_enter Tryd.func51, Tryd.ntmps51
    go_wp2_with fail
    refine bodyPost_ret (v := .int .u32 (d - 48)) ?_ rfl ⟨rfl, rfl⟩
    simp [results, Tryd.results51, go_sem]
  · have e : dg d = d - 87 := by unfold dg; rw [if_pos (by omega)]
    rw [e]
    have hl : 97 ≤ d := by omega
    go_enter Tryd.func51, Tryd.ntmps51
    go_wp2_with fail
    refine bodyPost_ret (v := .int .u32 (d - 87)) ?_ rfl ⟨rfl, rfl⟩
    simp [results, Tryd.results51, go_sem]
    try omega
theorem Tryd.infoW : (Tryd.prog.info? 64).map (·.size) = some 64 := by kernel_rfl
theorem Tryd.infoS : (Tryd.prog.info? 67).map (·.size) = some 8 := by kernel_rfl
end Go.Proofs.YthnmebhljkccnaaDoor
