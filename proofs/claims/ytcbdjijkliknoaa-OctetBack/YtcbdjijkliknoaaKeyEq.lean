/-
  A key is the same as itself.
-/
import Derived.Test.YtcbdjijkliknoaaKey
import Derived.ChangeKeysEq
namespace Go.Proofs.Ytcbdjijkliknoaa
open Go.RowKit

theorem Try.cells5 : Try.prog.cellsOf 5 = 1 := by kernel_rfl
theorem Try.plain5 : Try.prog.plainKey 5 = true := by kernel_rfl

/-- The cells of a key of these bytes. -/
def keyC (kl : List Int) : Array Value := (kl.map (Value.int .u8)).toArray

theorem eq_items (kl : List Int) (d : Nat) (is : List Nat) (h : ∀ i ∈ is, i < kl.length) (w : World) : (Op.eqItems (d + 1) 5 1 (keyC kl) (keyC kl) is).run Try.prog w = .ok true w := by
  induction is with
  | nil => simp [Op.eqItems]
  | cons i is ih =>
    have hi : i < kl.length := h i (by simp)
    have hp : (part 5 (keyC kl) (i * 1)).run Try.prog w = .ok (.int .u8 (kl.getD i 0)) w := by
      refine run_part_plain w Try.plain5 ?_
      have := map_u8 kl i hi
      simpa [keyC] using this
    have he := run_equalIn_int (P := Try.prog) w d 5 .u8 .u8 (kl.getD i 0) (kl.getD i 0) Try.underlying5
    simp only [Op.eqItems, Sem.run_bind, hp, he, Result.andThen_ok]
    simpa using ih (fun j hj => h j (List.mem_cons_of_mem _ hj))

theorem key_eq (kl : List Int) (h : kl.length = 32) (w : World) : Sem.run Try.prog (Op.equalIn 10000 53 (.agg (keyC kl)) (.agg (keyC kl))) w = .ok true w := by
  obtain ⟨i0, hi0, _⟩ := info_parts Try.info5
  rw [run_equalIn_array (P := Try.prog) w 9999 (keyC kl) (keyC kl) Try.underlying53 hi0, Try.cells5]
  exact eq_items kl 9998 _ (by intro i hi; simp at hi; omega) w

theorem keyL_all (kl : List Int) (h : kl.length = 32) : (keyL kl).toArray = keyC kl := by
  unfold keyL keyC splice zer
  simp [h]
end Go.Proofs.Ytcbdjijkliknoaa
