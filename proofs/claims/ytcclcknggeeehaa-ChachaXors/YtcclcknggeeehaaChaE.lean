/-
  Arrays that are held against themselves.
-/
import Derived.Test.YtcclcknggeeehaaChaWk
import Derived.ChangeKeysEq
namespace Go.Proofs.Ytcclcknggeeehaa
open Go.RowKit
set_option maxRecDepth 100000
set_option linter.unusedSimpArgs false
set_option linter.unusedVariables false
theorem Try.cells_b : Try.prog.cellsOf 5 = 1 := by kernel_rfl
theorem Try.info_b : (Try.prog.info? 5).map (fun i => (i.zero, i.size, i.bytes)) = some (some (.int .u8 0), 1, 1) := by kernel_rfl
theorem Try.plain_b : Try.prog.plainKey 5 = true := by kernel_rfl
theorem eq_b (k : List Int) (d : Nat) (is : List Nat) (h : ∀ i ∈ is, i < k.length) (w : World) : (Op.eqItems (d + 1) 5 1 (kc k) (kc k) is).run Try.prog w = .ok true w := by
  induction is with
  | nil => simp [Op.eqItems]
  | cons i is ih =>
    have hi : i < k.length := h i (by simp)
    have hp : ∀ m : List Int, i < m.length → (part 5 (kc m) (i * 1)).run Try.prog w = .ok (.int .u8 (m.getD i 0)) w := by
      intro m hm
      refine run_part_plain w Try.plain_b ?_
      simp [kc, List.getD, List.getElem?_eq_getElem hm]
    have he := run_equalIn_int (P := Try.prog) w d 5 .u8 .u8 (k.getD i 0) (k.getD i 0) Try.underlying5
    simp only [Op.eqItems, Sem.run_bind, hp k hi, he, Result.andThen_ok]
    have ih := ih (fun j hj => h j (List.mem_cons_of_mem _ hj))
    simp
    exact ih
theorem Try.cells_w : Try.prog.cellsOf 24 = 1 := by kernel_rfl
theorem Try.info_w : (Try.prog.info? 24).map (fun i => (i.zero, i.size, i.bytes)) = some (some (.int .u32 0), 1, 4) := by kernel_rfl
theorem Try.plain_w : Try.prog.plainKey 24 = true := by kernel_rfl
theorem eq_w (k : List Int) (d : Nat) (is : List Nat) (h : ∀ i ∈ is, i < k.length) (w : World) : (Op.eqItems (d + 1) 24 1 (uc k) (uc k) is).run Try.prog w = .ok true w := by
  induction is with
  | nil => simp [Op.eqItems]
  | cons i is ih =>
    have hi : i < k.length := h i (by simp)
    have hp : ∀ m : List Int, i < m.length → (part 24 (uc m) (i * 1)).run Try.prog w = .ok (.int .u32 (m.getD i 0)) w := by
      intro m hm
      refine run_part_plain w Try.plain_w ?_
      simp [uc, List.getD, List.getElem?_eq_getElem hm]
    have he := run_equalIn_int (P := Try.prog) w d 24 .u32 .u32 (k.getD i 0) (k.getD i 0) Try.underlying24
    simp only [Op.eqItems, Sem.run_bind, hp k hi, he, Result.andThen_ok]
    have ih := ih (fun j hj => h j (List.mem_cons_of_mem _ hj))
    simp
    exact ih
theorem refl_4 (k : List Int) (hk : k.length = 4) (w : World) : Sem.run Try.prog (Op.equalIn 10000 39 (.agg (uc k)) (.agg (uc k))) w = .ok true w := by
  obtain ⟨i0, hi0, _⟩ := info_parts Try.info_w
  rw [run_equalIn_array (P := Try.prog) w 9999 (uc k) (uc k) Try.underlying39 hi0, Try.cells_w]
  exact eq_w k 9998 _ (by intro i hi; simp at hi; omega) w
theorem refl_64 (k : List Int) (hk : k.length = 64) (w : World) : Sem.run Try.prog (Op.equalIn 10000 30 (.agg (kc k)) (.agg (kc k))) w = .ok true w := by
  obtain ⟨i0, hi0, _⟩ := info_parts Try.info_b
  rw [run_equalIn_array (P := Try.prog) w 9999 (kc k) (kc k) Try.underlying30 hi0, Try.cells_b]
  exact eq_b k 9998 _ (by intro i hi; simp at hi; omega) w
theorem Try.info4 : (Try.prog.info? 39).map (·.size) = some 4 := by kernel_rfl
/-- four words in a row -/
def ql (q : Q4) : List Int := [q.a, q.b, q.c, q.d]
end Go.Proofs.Ytcclcknggeeehaa
