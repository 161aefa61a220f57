/-
  How a key, a counter and a nonce that come in as one argument are opened.
-/
import Derived.Test.YtcclcknggeeehaaChaOpen
import Derived.Test.YtcclcknggeeehaaChaUs
import Derived.Deep.Strs
namespace Go.Proofs.Ytcclcknggeeehaa
open Go.ChangeShapes Go.WideShapes Go.ChangeAt Go.RowKit
set_option linter.unusedVariables false
set_option linter.unusedSimpArgs false
theorem Try.cellsU : Try.prog.cellsOf 28 = 45 := by kernel_rfl
theorem Try.cellsK : Try.prog.cellsOf 23 = 32 := by kernel_rfl
theorem Try.cellsN : Try.prog.cellsOf 26 = 12 := by kernel_rfl
theorem wf_int {x : Int} (h : (Lit.int .i64 x).wf = true) : -9223372036854775808 ≤ x ∧ x < 9223372036854775808 := by
  have := bounds_i64 h
  omega
theorem open_used {H : Type} {enc : TypeId × Value → H} {W : World} {base : Nat} {v : Value} {d : DataW H} {p : List MemPlace}
    (hv : Value.okWide Try.prog W .any base 28 v) (h : DataW.Trod enc Try.prog W 0 (fun _ => true) true 28 v d p) : ∃ K c N, v = .agg (usd K c N) ∧ Us K c N := by
  unfold Value.okWide at hv
  rw [Try.underlying28] at hv
  obtain ⟨cs, rfl, hsz, _⟩ := hv
  rw [Try.cellsU] at hsz
  obtain ⟨fuel, hf⟩ := h
  obtain ⟨y0, y1, y2, n, _, _, h0, h1, h2⟩ := Deep.trod_struct3 Try.underlying28 hf
  obtain ⟨K, eK, hK, bK⟩ := row8 Try.underlying23 Try.cellsK h0
  obtain ⟨N, eN, hN, bN⟩ := row8 Try.underlying26 Try.cellsN h2
  obtain ⟨c, ec, _, hc⟩ := DataW.trod_int Try.underlying24 h1
  rw [Try.cellsK] at eK
  rw [Try.cellsN] at eN
  rw [Try.cells_w] at ec
  simp only [Value.cells] at eK eN ec
  refine ⟨K, c, N, ?_, ⟨hK, hN, bK, bN, wf_word hc⟩⟩
  congr 1
  apply Array.ext'
  unfold usd
  have hl : cs.toList.length = 45 := by simpa using hsz
  generalize cs.toList = l at *
  have e0 : l = l.take 32 ++ ((l.drop 32).take 1 ++ (l.drop 33).take 12) := by
    have a1 := List.take_append_drop 32 l
    have a2 := List.take_append_drop 1 (l.drop 32)
    have a3 : (l.drop 33).take 12 = l.drop 33 := List.take_of_length_le (by simp; omega)
    rw [List.drop_drop] at a2
    rw [a3, a2, a1]
  rw [e0, ec]
  simp only [List.drop_zero] at eK
  rw [eK, eN]
  rfl
end Go.Proofs.Ytcclcknggeeehaa
