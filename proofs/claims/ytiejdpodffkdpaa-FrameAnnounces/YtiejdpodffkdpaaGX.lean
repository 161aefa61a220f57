/-
  Layer 14: how an announcement comes in as an argument.
-/
import Derived.Test.YtiejdpodffkdpaaFX
import Derived.Test.YtiejdpodffkdpaaFN
namespace Go.Proofs.Ytiejdpodffkdpaa
open Go.ChangeShapes Go.WideShapes Go.ChangeAt Go.RowKit
set_option maxRecDepth 100000
set_option linter.unusedVariables false
set_option linter.unusedSimpArgs false
theorem open_ann {H : Type} {enc : TypeId × Value → H} {W : World} {base : Nat} {v : Value} {d : DataW H} {p : List MemPlace} (hv : Value.okWide Try.prog W .any base 25 v) (h : DataW.Trod enc Try.prog W 0 (fun _ => true) true 25 v d p) (hw : ∀ n ∈ d.weights Try.prog 25, n ≤ reachBytes) :
    ∃ r a n c ks, v = .agg #[.int .u64 r, .slice a n c] ∧ (0 ≤ r ∧ r < 18446744073709551616) ∧ KsOk ks ∧ Lr 32 W a n c (ks.map bv) := by
  unfold Value.okWide at hv
  rw [Try.underlying25] at hv
  obtain ⟨cs, rfl, hsz, _⟩ := hv
  rw [Try.cellsAn] at hsz
  obtain ⟨fuel, hf⟩ := h
  obtain ⟨y0, y1, n, hx, hl, h0, h1⟩ := trod_struct2 Try.underlying25 hf
  simp only [Try.cells64, Try.cellsSk] at h0 h1
  obtain ⟨z0, e0, _, w0⟩ := DataW.trod_int Try.underlying22 h0
  obtain ⟨a, len, cap, ks, e1, hR, hk⟩ := open_rows (t := 23) (e := 30) (k := 32) Try.underlying23 Try.cellsK (by decide) ([] : List Int) bv (fun K => K.length = 32 ∧ IsB K) (fun K hK => by rw [bv_len, hK.1]) (fun fuel cs x hx => row8 Try.underlying30 Try.cellsK hx) h1
  refine ⟨z0, a, len, cap, ks, ?_, wf_u64 w0, hk, hR⟩
  congr 1
  apply Array.ext'
  simp only [Value.cells, List.drop_zero] at e0 e1
  have hl2 : cs.toList.length = 2 := by simpa using hsz
  generalize cs.toList = l at *
  have s0 := take_sp l 0 1
  have s1 := take_sp l 1 1
  have s2 : l.drop 2 = [] := List.drop_eq_nil_of_le (by omega)
  rw [List.drop_zero] at s0
  rw [s0, e0, s1, e1, s2, List.append_nil]
  rfl
end Go.Proofs.Ytiejdpodffkdpaa
