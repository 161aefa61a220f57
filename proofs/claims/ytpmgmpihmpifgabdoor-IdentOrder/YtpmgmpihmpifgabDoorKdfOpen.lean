/-
  How a key, two counts, a text and parts come in.
-/
import Derived.Test.YtpmgmpihmpifgabDoorKdfG
import Derived.ChangeMaps5
namespace Go.Proofs.YtpmgmpihmpifgabDoor
open Go.ChangeShapes Go.WideShapes Go.ChangeAt Go.RowKit
set_option maxRecDepth 100000
set_option linter.unusedVariables false

theorem Tryd.cellsK : Tryd.prog.cellsOf 23 = 32 := by kernel_rfl
theorem Tryd.cells5k : Tryd.prog.cellsOf 5 = 1 := by kernel_rfl
theorem Tryd.cells3k : Tryd.prog.cellsOf 3 = 1 := by kernel_rfl
/-- an array of numbers, cell by cell -/
theorem open_row {H : Type} {enc : TypeId × Value → H} {W : World} {t e : TypeId} {k : IntKind} {n fuel : Nat} {cs : List Value} {x : DataW H × List MemPlace} (ht : Tryd.prog.underlying t = some (.array n e)) (he : Tryd.prog.underlying e = some (.int k)) (hc : Tryd.prog.cellsOf e = 1) (hn : Tryd.prog.cellsOf t = n)
    (h : DataW.trod enc Tryd.prog W 0 (fun _ => true) true fuel t cs = some x) : ∃ zs : List Int, cs = zs.map (Value.int k) ∧ zs.length = n ∧ ∀ z ∈ zs, (Lit.int k z).wf = true := by
  obtain ⟨xs, m, _, hx, hl, hxl, hh⟩ := DataW.trod_array ht h
  rw [hn] at hl
  have hce : ∀ i, i < n → ∃ z, cs[i]? = some (.int k z) ∧ (Lit.int k z).wf = true := by
    intro i hi
    have h1 := hh i hi
    rw [hc, Nat.mul_one, List.getElem?_eq_getElem (by omega)] at h1
    obtain ⟨z, e, _, hw⟩ := DataW.trod_int he h1
    refine ⟨z, ?_, hw⟩
    have h2 : ((cs.drop i).take 1)[0]? = some (.int k z) := by rw [e]; rfl
    simpa using h2
  refine ⟨cs.map (fun v => match v with | .int _ z => z | _ => 0), ?_, by simp [hl], ?_⟩
  · apply List.ext_getElem?
    intro i
    rcases Nat.lt_or_ge i n with hi | hi
    · obtain ⟨z, h1, _⟩ := hce i hi
      simp [h1]
    · rw [List.getElem?_eq_none (by omega), List.getElem?_eq_none (by simp; omega)]
  · intro z hz
    obtain ⟨v, hv, rfl⟩ := List.mem_map.1 hz
    obtain ⟨i, hi⟩ := List.getElem?_of_mem hv
    have hi2 : i < n := by have := (List.getElem?_eq_some_iff.1 hi).1; omega
    obtain ⟨z, h1, h2⟩ := hce i hi2
    rw [hi] at h1
    obtain rfl := Option.some.inj h1
    exact h2
theorem cells_agg_eq {v : Value} {k : IntKind} {zs : List Int} (hz : 1 < zs.length) (h : v.cells.toList = zs.map (Value.int k)) : v = .agg (zs.map (Value.int k)).toArray := by
  cases v with
  | agg cs =>
    have h2 : cs.toList = zs.map (Value.int k) := by simpa [Value.cells] using h
    rw [← h2]
  | _ =>
    have h3 := congrArg List.length h
    simp [Value.cells] at h3
    omega
theorem open_key {H : Type} {enc : TypeId × Value → H} {W : World} {v : Value} {d : DataW H} {p : List MemPlace} (h : DataW.Trod enc Tryd.prog W 0 (fun _ => true) true 23 v d p) : ∃ l : List Int, v = .agg (kc l) ∧ IsB l ∧ l.length = 32 := by
  obtain ⟨fuel, hf⟩ := h
  obtain ⟨zs, h1, h2, h3⟩ := open_row Tryd.underlying23 Tryd.underlying5 Tryd.cells5k Tryd.cellsK hf
  exact ⟨zs, cells_agg_eq (by omega) h1, fun z hz => wf_byte (h3 z hz), h2⟩
theorem open_text {H : Type} {enc : TypeId × Value → H} {W : World} {base : Nat} {v : Value} {d : DataW H} {p : List MemPlace} (hval : Value.okWide Tryd.prog W .any base 9 v) (h : DataW.Trod enc Tryd.prog W 0 (fun _ => true) true 9 v d p) (hs : ∀ bytes, d = .lit (.string bytes) → bytes.length ≤ reachBytes) : ∃ s : ByteArray, v = .string s ∧ s.size ≤ 140737488351232 := by
  obtain ⟨s, h1, h2, _, _⟩ := Go.ChangeMaps.open_string Tryd.underlying9 hval h
  have := hs _ h2
  unfold reachBytes at this
  exact ⟨s, h1, by simpa using this⟩
theorem weightsAll_mem {H : Type} {P : Program} {e : TypeId} {d : DataW H} {n : Nat} : ∀ {l : List (DataW H)}, d ∈ l → n ∈ d.weights P e → n ∈ DataW.weightsAll P e l
  | [], h, _ => by cases h
  | x :: r, h, hn => by
    rw [DataW.weightsAll]
    rcases List.mem_cons.1 h with rfl | h
    · exact List.mem_append_left _ hn
    · exact List.mem_append_right _ (weightsAll_mem h hn)
theorem Tryd.cellsB : Tryd.prog.cellsOf 34 = 1 := by kernel_rfl
theorem Tryd.bytesB : Tryd.prog.bytesOf 34 = 24 := by kernel_rfl
end Go.Proofs.YtpmgmpihmpifgabDoor
