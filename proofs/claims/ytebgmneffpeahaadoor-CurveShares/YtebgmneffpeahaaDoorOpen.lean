/-
  How a key that comes in as an argument is opened.
-/
import Derived.Test.YtebgmneffpeahaaDoorKeyMath
import Derived.Test.YtebgmneffpeahaaDoorRows
import Derived.ProofKit
import Derived.OpenShut
import Derived.ChangeOld
import Derived.SizedLaws
namespace Go.Proofs.YtebgmneffpeahaaDoor
open Go.ChangeShapes Go.WideShapes Go.ChangeAt Go.RowKit
set_option linter.unusedVariables false

theorem own : ownKnob Tryd.prog.godebug = none := by kernel_rfl
theorem laidOut : laidOutB Tryd.prog = true := by kernel_rfl
theorem Tryd.cellsKey : Tryd.prog.cellsOf 23 = 32 := by kernel_rfl
theorem wf_byte {x : Int} (h : (Lit.int .u8 x).wf = true) : 0 ≤ x ∧ x < 256 := by
  have := bounds_u8 h
  omega

theorem open_key {H : Type} {enc : TypeId × Value → H} {W : World} {base : Nat} {v : Value} {d : DataW H} {p : List MemPlace}
    (hv : Value.okWide Tryd.prog W .any base 23 v) (h : DataW.Trod enc Tryd.prog W 0 (fun _ => true) true 23 v d p) : ∃ kl, v = .agg (kc kl) ∧ kl.length = 32 ∧ ∀ x ∈ kl, 0 ≤ x ∧ x < 256 := by
  unfold Value.okWide at hv
  rw [Tryd.underlying23] at hv
  obtain ⟨cs, rfl, hsz, _⟩ := hv
  rw [Tryd.cellsKey] at hsz
  obtain ⟨fuel, hf⟩ := h
  obtain ⟨xs, m, _, _, hl, hxl, hx⟩ := DataW.trod_array Tryd.underlying23 hf
  have hcell : ∀ i, i < 32 → ∃ z, cs[i]? = some (.int .u8 z) ∧ (Lit.int .u8 z).wf = true := by
    intro i hi
    have h1 := hx i hi
    rw [Tryd.cells5', Nat.mul_one, List.getElem?_eq_getElem (by omega)] at h1
    obtain ⟨z, e, _, hwf⟩ := DataW.trod_int Tryd.underlying5 h1
    refine ⟨z, ?_, hwf⟩
    simp only [Value.cells] at e
    have h2 : ((cs.toList.drop i).take 1)[0]? = some (.int .u8 z) := by rw [e]; rfl
    simpa using h2
  refine ⟨cs.toList.map (fun v => match v with | .int _ z => z | _ => 0), ?_, by simp [hsz], ?_⟩
  · congr 1
    unfold kc
    apply Array.ext
    · simp
    · intro i h1 h2
      obtain ⟨z, hz, _⟩ := hcell i (by omega)
      have : cs[i] = .int .u8 z := by rw [Array.getElem?_eq_getElem h1] at hz; simpa using hz
      simp [this]
  · intro x hx
    simp only [List.mem_map] at hx
    obtain ⟨v, hv, rfl⟩ := hx
    obtain ⟨i, hi, rfl⟩ := List.getElem_of_mem hv
    simp at hi
    obtain ⟨z, hz, hwf⟩ := hcell i (by omega)
    have : cs[i] = .int .u8 z := by rw [Array.getElem?_eq_getElem hi] at hz; simpa using hz
    simp only [Array.getElem_toList, this]
    exact wf_byte hwf

/-- a key that comes in is the bytes of a number -/
theorem open_num {H : Type} {enc : TypeId × Value → H} {W : World} {base : Nat} {v : Value} {d : DataW H} {p : List MemPlace}
    (hv : Value.okWide Tryd.prog W .any base 23 v) (h : DataW.Trod enc Tryd.prog W 0 (fun _ => true) true 23 v d p) : ∃ n, (0 ≤ n ∧ n < 115792089237316195423570985008687907853269984665640564039457584007913129639936) ∧ v = .agg (kc (digs n 32)) := by
  obtain ⟨kl, rfl, hl, hb⟩ := open_key hv h
  obtain ⟨n, hn, rfl⟩ := key_num kl hl hb
  exact ⟨n, hn, rfl⟩
end Go.Proofs.YtebgmneffpeahaaDoor
