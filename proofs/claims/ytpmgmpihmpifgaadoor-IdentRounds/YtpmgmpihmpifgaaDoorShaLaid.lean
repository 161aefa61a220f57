/-
  What the package variable first holds, out of the card's condition; how a list of bytes comes in.
-/
import Derived.Test.YtpmgmpihmpifgaaDoorSaF
import Derived.Test.YtpmgmpihmpifgaaDoorRows
import Derived.ChangeOld
import Derived.SizedLaws
import Derived.LaidMore
import Derived.Stop.Joined
import Derived.ProofKit
import Derived.OpenShut
namespace Go.Proofs.YtpmgmpihmpifgaaDoor
open Go.ChangeShapes Go.WideShapes Go.ChangeAt Go.RowKit
set_option maxRecDepth 100000

theorem own : ownKnob Tryd.prog.godebug = none := by kernel_rfl
theorem laidOut : laidOutB Tryd.prog = true := by kernel_rfl
theorem wf_byte {x : Int} (h : (Lit.int .u8 x).wf = true) : 0 ≤ x ∧ x < 256 := by
  have := bounds_u8 h
  omega
theorem gFirst : Tryd.prog.globalNamed "hollowtree/sha.first" = some 0 := by kernel_rfl
theorem tFirst : (Tryd.prog.globals[0]?).map (·.type) = some 73 := by kernel_rfl
def ud (l : List Int) : DataW Unit := .agg (l.map fun z => .lit (.int .u32 z))
theorem ud_inj {k l : List Int} (h : ud k = ud l) : k = l := by
  unfold ud at h
  have h1 : k.map (fun z => (DataW.lit (.int .u32 z) : DataW Unit)) = l.map (fun z => (DataW.lit (.int .u32 z) : DataW Unit)) := by simpa using h
  exact List.map_inj_right (fun x y e => by simpa using e) |>.1 h1
theorem laid_eq : (Rows.laid_hollowtree_sha_first : DataW Unit) = ud F0 := by kernel_rfl
theorem Tryd.cellsS : Tryd.prog.cellsOf 73 = 8 := by kernel_rfl
theorem Tryd.cellsU : Tryd.prog.cellsOf 69 = 1 := by kernel_rfl
theorem first_cells {enc : TypeId × Value → Unit} {W : World} {base fuel : Nat} {sp : TypeId → Bool} {held : Bool} {cs : List Value} {x : DataW Unit × List MemPlace} (h : DataW.trod enc Tryd.prog W base sp held fuel 73 cs = some x) :
    ∃ zs : List Int, cs = zs.map (Value.int .u32) ∧ x.1 = ud zs := by
  obtain ⟨xs, m, _, hx, hl, hxl, hh⟩ := DataW.trod_array Tryd.underlying73 h
  rw [Tryd.cellsS] at hl
  have hc : ∀ i, i < 8 → ∃ z, cs[i]? = some (.int .u32 z) ∧ xs[i]? = some (.lit (.int .u32 z), []) := by
    intro i hi
    have h1 := hh i hi
    rw [Tryd.cellsU, Nat.mul_one, List.getElem?_eq_getElem (by omega)] at h1
    obtain ⟨z, e, e2, _⟩ := DataW.trod_int Tryd.underlying69 h1
    refine ⟨z, ?_, ?_⟩
    · have h2 : ((cs.drop i).take 1)[0]? = some (.int .u32 z) := by rw [e]; rfl
      simpa using h2
    · rw [List.getElem?_eq_getElem (by omega), e2]
  refine ⟨cs.map (fun v => match v with | .int _ z => z | _ => 0), ?_, ?_⟩
  · apply List.ext_getElem?
    intro i
    rcases Nat.lt_or_ge i 8 with hi | hi
    · obtain ⟨z, h1, _⟩ := hc i hi
      simp [h1]
    · rw [List.getElem?_eq_none (by omega), List.getElem?_eq_none (by simp; omega)]
  · rw [hx]
    unfold ud
    show DataW.agg _ = DataW.agg _
    congr 1
    apply List.ext_getElem?
    intro i
    rcases Nat.lt_or_ge i 8 with hi | hi
    · obtain ⟨z, h1, h2⟩ := hc i hi
      simp [h1, h2]
    · rw [List.getElem?_eq_none (by simp; omega), List.getElem?_eq_none (by simp; omega)]
theorem first_laid {W : World} (h : laidMetH Tryd.prog [("hollowtree/sha.first", Rows.laid_hollowtree_sha_first)] W) : Fst W := by
  rw [MakeChecks.laidMetH_plain _ _ _ (by kernel_rfl)] at h
  obtain ⟨ps, ⟨g0, t0, cs0, f0, p0, q0, hg0, ht0, hv0, hd0, _, _⟩, _, _⟩ := h
  obtain rfl := Option.some.inj (gFirst.symm.trans hg0)
  obtain rfl := Option.some.inj (tFirst.symm.trans ht0)
  rw [laid_eq] at hd0
  obtain ⟨zs, e1, e2⟩ := first_cells hd0
  have e3 : F0 = zs := ud_inj e2
  subst e3
  intro j v hj
  rw [World.var?_cell hg0 hv0, Nat.zero_add, ← Array.getElem?_toList, e1]
  exact hj
theorem open_word {W : World} {base : Nat} {v : Value} {H : Type} {enc : TypeId × Value → H} {d : DataW H} {p : List MemPlace} (hv : Value.okWide Tryd.prog W .any base 3 v) (h : DataW.Trod enc Tryd.prog W 0 (fun _ => true) true 3 v d p) : ∃ n, v = .int .i64 n ∧ -9223372036854775808 ≤ n ∧ n < 9223372036854775808 := by
  obtain ⟨n, h1, _, _, h4⟩ := open_int Tryd.underlying3 hv h
  have := bounds_i64 h4
  exact ⟨n, h1, by omega⟩
theorem Tryd.bytes5 : Tryd.prog.bytesOf 5 = 1 := by kernel_rfl
theorem open_bytes {H : Type} {enc : TypeId × Value → H} {W : World} {a : Option Addr} {len cap : Nat} {d : DataW H} {p : List MemPlace}
    (h : DataW.Trod enc Tryd.prog W 0 (fun _ => true) true 33 (.slice a len cap) d p) (hw : ∀ elems spare, d = .slice elems spare → (elems.length + spare.length) * Tryd.prog.bytesOf 5 ≤ reachBytes) :
    ∃ l, IsB l ∧ l.length = len ∧ Sl W a l ∧ len ≤ cap ∧ cap ≤ 140737488351232 := by
  obtain ⟨fuel, hf⟩ := h
  rcases open_ints Tryd.underlying33 Tryd.underlying5 (by kernel_rfl) hf with ⟨hcs, _⟩ | ⟨x, l, c, zs, hcs, _, hl, hm, hz, hx, hcell, hwz⟩
  · simp [Value.cells] at hcs
    obtain ⟨rfl, rfl, rfl⟩ := hcs
    exact ⟨[], (by intro x hx; cases hx), rfl, .inl rfl, by omega, by omega⟩
  · simp [Value.cells] at hcs
    obtain ⟨rfl, rfl, rfl⟩ := hcs
    simp only [Prod.mk.injEq] at hx
    simp only [if_true] at hz
    have := hw _ _ hx.1
    rw [Tryd.bytes5] at this
    simp only [lits, List.length_map, List.length_take, List.length_drop, reachBytes] at this
    refine ⟨zs.take len, fun y hy => wf_byte (hwz y (List.mem_of_mem_take hy)), by simp; omega, ?_, by omega, by omega⟩
    rcases Nat.eq_zero_or_pos len with h0 | h0
    · left
      subst h0
      rfl
    · right
      obtain ⟨b, off, spot⟩ := x
      have hspot : spot = none := by simpa [Addr.add] using World.cell?_spot (hcell 0 (by omega))
      subst hspot
      refine ⟨b, off, rfl, fun i hi => ?_⟩
      have hi2 : i < len := by rw [List.length_take] at hi; omega
      have := hcell i (by omega)
      rw [Addr.add_mid] at this
      rw [this, List.getD_eq_getElem?_getD, List.getD_eq_getElem?_getD, List.getElem?_take, if_pos hi2]
end Go.Proofs.YtpmgmpihmpifgaaDoor
