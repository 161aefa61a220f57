/-
  How a pair that comes in as an argument is opened.
-/
import Derived.Test.YtpmgmpihmpifgaaDoorIU
import Derived.Test.YtpmgmpihmpifgaaDoorKdfOpen
import Derived.Test.YtpmgmpihmpifgaaDoorRows
import Derived.ProofKit
import Derived.OpenShut
import Derived.ChangeOld
import Derived.ChangeSame
import Derived.SizedLaws
import Derived.Deep.Strs
import Derived.Deep.Grids
import Derived.Lib.SmallJoins
namespace Go.Proofs.YtpmgmpihmpifgaaDoor
open Go.ChangeShapes Go.WideShapes Go.ChangeAt Go.RowKit
set_option maxRecDepth 100000
set_option linter.unusedVariables false
set_option linter.unusedSimpArgs false
def numV : Value → Int
  | .int _ z => z
  | _ => 0
/-- a row of bytes -/
theorem row8 {H : Type} {enc : TypeId × Value → H} {W : World} {t : TypeId} {n fuel : Nat} {cs : List Value} {x : DataW H × List MemPlace} (ht : Tryd.prog.underlying t = some (.array n 5)) (hc : Tryd.prog.cellsOf t = n)
    (h : DataW.trod enc Tryd.prog W 0 (fun _ => true) true fuel t cs = some x) : ∃ kl : List Int, cs = kl.map (Value.int .u8) ∧ kl.length = n ∧ IsB kl := by
  obtain ⟨xs, m, _, _, hl, hxl, hx⟩ := DataW.trod_array ht h
  rw [hc] at hl
  have hcell : ∀ i, i < n → ∃ z, cs[i]? = some (.int .u8 z) ∧ (Lit.int .u8 z).wf = true := by
    intro i hi
    have h1 := hx i hi
    rw [Tryd.cells_b, Nat.mul_one, List.getElem?_eq_getElem (by omega)] at h1
    obtain ⟨z, e, _, hwf⟩ := DataW.trod_int Tryd.underlying5 h1
    refine ⟨z, ?_, hwf⟩
    have h2 : ((cs.drop i).take 1)[0]? = some (.int .u8 z) := by rw [e]; rfl
    simpa using h2
  refine ⟨cs.map numV, ?_, by simp [hl], ?_⟩
  · apply List.ext_getElem (by simp)
    intro i h1 h2
    obtain ⟨z, hz, _⟩ := hcell i (by omega)
    have : cs[i] = .int .u8 z := by rw [List.getElem?_eq_getElem h1] at hz; simpa using hz
    simp [this, numV]
  · intro x hx
    obtain ⟨v, hv, rfl⟩ := List.mem_map.1 hx
    obtain ⟨i, hi, rfl⟩ := List.getElem_of_mem hv
    obtain ⟨z, hz, hwf⟩ := hcell i (by omega)
    have : cs[i] = .int .u8 z := by rw [List.getElem?_eq_getElem hi] at hz; simpa using hz
    rw [this]
    exact wf_byte hwf
theorem take_sp (l : List Value) (o n : Nat) : l.drop o = (l.drop o).take n ++ l.drop (o + n) := by
  have := List.take_append_drop n (l.drop o)
  rw [List.drop_drop] at this
  exact this.symm
theorem Tryd.cellsKy : Tryd.prog.cellsOf 25 = 32 := by kernel_rfl
theorem Tryd.cellsPa : Tryd.prog.cellsOf 36 = 33 := by kernel_rfl
theorem Tryd.cellsBo : Tryd.prog.cellsOf 4 = 1 := by kernel_rfl
theorem open_pair {H : Type} {enc : TypeId × Value → H} {W : World} {base : Nat} {v : Value} {d : DataW H} {p : List MemPlace} (hv : Value.okWide Tryd.prog W .any base 36 v) (h : DataW.Trod enc Tryd.prog W 0 (fun _ => true) true 36 v d p) :
    ∃ D f, v = .agg (pairv D f) ∧ IsB D ∧ D.length = 32 := by
  unfold Value.okWide at hv
  rw [Tryd.underlying36] at hv
  obtain ⟨cs, rfl, hsz, _⟩ := hv
  rw [Tryd.cellsPa] at hsz
  obtain ⟨fuel, hf⟩ := h
  obtain ⟨y0, y1, n, hx, hl, h0, h1⟩ := trod_struct2 Tryd.underlying36 hf
  simp only [Tryd.cellsKy, Tryd.cellsBo] at h0 h1
  obtain ⟨D, eD, hD, bD⟩ := row8 Tryd.underlying25 Tryd.cellsKy h0
  obtain ⟨f, eB, _⟩ := DataW.trod_bool Tryd.underlying4 h1
  refine ⟨D, f, ?_, bD, hD⟩
  congr 1
  apply Array.ext'
  simp only [Value.cells, List.drop_zero] at eD eB
  have hl2 : cs.toList.length = 33 := by simpa using hsz
  generalize cs.toList = l at *
  have s0 := take_sp l 0 32
  have s1 := take_sp l 32 1
  have s2 : l.drop 33 = [] := List.drop_eq_nil_of_le (by omega)
  rw [List.drop_zero] at s0
  rw [s0, eD, s1, eB, s2, List.append_nil]
  rfl
end Go.Proofs.YtpmgmpihmpifgaaDoor
