/-
  Keys that are held against each other.
-/
import Derived.Test.YthnmebhljkccnaaDoorShaSum2
import Derived.ChangeKeysEq
namespace Go.Proofs.YthnmebhljkccnaaDoor
open Go.RowKit
set_option maxRecDepth 100000
set_option linter.unusedSimpArgs false

theorem Tryd.cells5' : Tryd.prog.cellsOf 5 = 1 := by kernel_rfl
theorem Tryd.info5' : (Tryd.prog.info? 5).map (fun i => (i.zero, i.size, i.bytes)) = some (some (.int .u8 0), 1, 1) := by kernel_rfl
theorem Tryd.plain5' : Tryd.prog.plainKey 5 = true := by kernel_rfl

theorem eq_items (k l : List Int) (hkl : k.length = l.length) (d : Nat) (is : List Nat) (h : ∀ i ∈ is, i < l.length) (w : World) : (Op.eqItems (d + 1) 5 1 (kc k) (kc l) is).run Tryd.prog w = .ok (is.all fun i => k.getD i 0 == l.getD i 0) w := by
  induction is with
  | nil => simp [Op.eqItems]
  | cons i is ih =>
    have hi : i < l.length := h i (by simp)
    have hp : ∀ m : List Int, i < m.length → (part 5 (kc m) (i * 1)).run Tryd.prog w = .ok (.int .u8 (m.getD i 0)) w := by
      intro m hm
      refine run_part_plain w Tryd.plain5' ?_
      simp [kc, List.getD, List.getElem?_eq_getElem hm]
    have he := run_equalIn_int (P := Tryd.prog) w d 5 .u8 .u8 (k.getD i 0) (l.getD i 0) Tryd.underlying5
    simp only [Op.eqItems, Sem.run_bind, hp k (by omega), hp l hi, he, Result.andThen_ok]
    have ih := ih (fun j hj => h j (List.mem_cons_of_mem _ hj))
    simp
    by_cases hc : k[i]?.getD 0 = l[i]?.getD 0
    · rw [if_pos hc]; simpa [hc] using ih
    · rw [if_neg hc]; simp [hc]

theorem key_eq (k l : List Int) (hk : k.length = 32) (hl : l.length = 32) (w : World) : Sem.run Tryd.prog (Op.equalIn 10000 28 (.agg (kc k)) (.agg (kc l))) w = .ok (decide (k = l)) w := by
  obtain ⟨i0, hi0, _⟩ := info_parts Tryd.info5'
  rw [run_equalIn_array (P := Tryd.prog) w 9999 (kc k) (kc l) Tryd.underlying28 hi0, Tryd.cells5']
  rw [eq_items k l (by omega) 9998 _ (by intro i hi; simp at hi; omega) w]
  congr 1
  rw [Bool.eq_iff_iff]
  simp only [List.all_eq_true, List.mem_range, beq_iff_eq, decide_eq_true_eq]
  constructor
  · intro h
    apply List.ext_getElem (by omega)
    intro i h1 h2
    have := h i (by omega)
    simpa [List.getD, List.getElem?_eq_getElem h1, List.getElem?_eq_getElem h2] using this
  · rintro rfl i _
    rfl

theorem key_refl (k : List Int) (hk : k.length = 32) (w : World) : Sem.run Tryd.prog (Op.equalIn 10000 28 (.agg (kc k)) (.agg (kc k))) w = .ok true w := by
  rw [key_eq k k hk hk w]; simp
def Woke (w : World) (r : Ending) (w' : World) : Prop := r = .returned (.bool true) ∧ Gr w w'
end Go.Proofs.YthnmebhljkccnaaDoor
