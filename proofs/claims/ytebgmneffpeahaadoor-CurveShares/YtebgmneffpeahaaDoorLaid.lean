/-
  What the package variable lows holds, out of the card's condition.
-/
import Derived.Test.YtebgmneffpeahaaDoorComm
import Derived.Test.YtebgmneffpeahaaDoorOpen
import Derived.LaidMore
import Derived.Stop.Joined
namespace Go.Proofs.YtebgmneffpeahaaDoor
open Go.ChangeShapes Go.WideShapes Go.ChangeAt Go.RowKit
set_option maxRecDepth 100000

theorem gLows : Tryd.prog.globalNamed "hollowtree/curve.lows" = some 0 := by kernel_rfl
theorem tLows : (Tryd.prog.globals[0]?).map (·.type) = some 45 := by kernel_rfl
theorem u45 : Tryd.prog.underlying 45 = some (.array 5 23) := by kernel_rfl
theorem c45 : Tryd.prog.cellsOf 45 = 160 := by kernel_rfl
def Lz : List (Int) := [0, 1, 57896044618658097711785492504343953926634992332820282019728792003956564819948, 325606250916557431795983626356110631294008115727848805560023387167927233504, 39382357235489614581723060781553021112529911719440698176882885853963445705823]
def lowsL : List Value := (digs 0 32 ++ digs 1 32 ++ digs 57896044618658097711785492504343953926634992332820282019728792003956564819948 32 ++ digs 325606250916557431795983626356110631294008115727848805560023387167927233504 32 ++ digs 39382357235489614581723060781553021112529911719440698176882885853963445705823 32).map (Value.int .u8)
def kd (l : List Int) : DataW Unit := .agg (l.map fun z => .lit (.int .u8 z))
theorem kd_inj {k l : List Int} (h : kd k = kd l) : k = l := by
  unfold kd at h
  have h1 : k.map (fun z => (DataW.lit (.int .u8 z) : DataW Unit)) = l.map (fun z => (DataW.lit (.int .u8 z) : DataW Unit)) := by simpa using h
  exact List.map_inj_right (fun x y e => by simpa using e) |>.1 h1
theorem laid_eq : (Rows.laid_hollowtree_curve_lows : DataW Unit) = .agg [kd (digs 0 32), kd (digs 1 32), kd (digs 57896044618658097711785492504343953926634992332820282019728792003956564819948 32), kd (digs 325606250916557431795983626356110631294008115727848805560023387167927233504 32), kd (digs 39382357235489614581723060781553021112529911719440698176882885853963445705823 32)] := by kernel_rfl
theorem key_cells {enc : TypeId × Value → Unit} {W : World} {base fuel : Nat} {sp : TypeId → Bool} {held : Bool} {cs : List Value} {x : DataW Unit × List MemPlace} (h : DataW.trod enc Tryd.prog W base sp held fuel 23 cs = some x) :
    ∃ zs : List Int, cs = zs.map (Value.int .u8) ∧ x.1 = kd zs := by
  obtain ⟨xs, m, _, hx, hl, hxl, hh⟩ := DataW.trod_array Tryd.underlying23 h
  rw [Tryd.cellsKey] at hl
  have hc : ∀ i, i < 32 → ∃ z, cs[i]? = some (.int .u8 z) ∧ xs[i]? = some (.lit (.int .u8 z), []) := by
    intro i hi
    have h1 := hh i hi
    rw [Tryd.cells5', Nat.mul_one, List.getElem?_eq_getElem (by omega)] at h1
    obtain ⟨z, e, e2, _⟩ := DataW.trod_int Tryd.underlying5 h1
    refine ⟨z, ?_, ?_⟩
    · have h2 : ((cs.drop i).take 1)[0]? = some (.int .u8 z) := by rw [e]; rfl
      simpa using h2
    · rw [List.getElem?_eq_getElem (by omega), e2]
  refine ⟨cs.map (fun v => match v with | .int _ z => z | _ => 0), ?_, ?_⟩
  · apply List.ext_getElem?
    intro i
    rcases Nat.lt_or_ge i 32 with hi | hi
    · obtain ⟨z, h1, _⟩ := hc i hi
      simp [h1]
    · rw [List.getElem?_eq_none (by omega), List.getElem?_eq_none (by simp; omega)]
  · rw [hx]
    unfold kd
    show DataW.agg _ = DataW.agg _
    congr 1
    apply List.ext_getElem?
    intro i
    rcases Nat.lt_or_ge i 32 with hi | hi
    · obtain ⟨z, h1, h2⟩ := hc i hi
      simp [h1, h2]
    · rw [List.getElem?_eq_none (by simp; omega), List.getElem?_eq_none (by simp; omega)]
theorem chunks (l : List Value) : l.take (32 + (32 + (32 + (32 + 32)))) = (l.drop (0 * 32)).take 32 ++ ((l.drop (1 * 32)).take 32 ++ ((l.drop (2 * 32)).take 32 ++ ((l.drop (3 * 32)).take 32 ++ (l.drop (4 * 32)).take 32))) := by
  rw [List.take_add, List.take_add, List.take_add, List.take_add, List.drop_drop, List.drop_drop, List.drop_drop]
  simp
theorem lows_range {W : World} (h : laidMetH Tryd.prog [("hollowtree/curve.lows", Rows.laid_hollowtree_curve_lows)] W) : W.rangeAt 0 0 lowsL := by
  rw [MakeChecks.laidMetH_plain _ _ _ (by kernel_rfl)] at h
  obtain ⟨ps, ⟨g0, t0, cs0, f0, p0, q0, hg0, ht0, hv0, hd0, _, _⟩, _, _⟩ := h
  obtain rfl := Option.some.inj (gLows.symm.trans hg0)
  obtain rfl := Option.some.inj (tLows.symm.trans ht0)
  rw [laid_eq] at hd0
  obtain ⟨xs, m, _, hx, hl, hxl, hh⟩ := DataW.trod_array u45 hd0
  rw [c45] at hl
  simp only [Prod.mk.injEq, DataW.agg.injEq] at hx
  have ch : ∀ i (d : List Int), i < 5 → ([kd (digs 0 32), kd (digs 1 32), kd (digs 57896044618658097711785492504343953926634992332820282019728792003956564819948 32), kd (digs 325606250916557431795983626356110631294008115727848805560023387167927233504 32), kd (digs 39382357235489614581723060781553021112529911719440698176882885853963445705823 32)] : List (DataW Unit))[i]? = some (kd d) → (cs0.toList.drop (i * 32)).take 32 = d.map (Value.int .u8) := by
    intro i d hi hd
    have h1 := hh i hi
    rw [Tryd.cellsKey, List.getElem?_eq_getElem (by omega)] at h1
    obtain ⟨zs, e1, e2⟩ := key_cells h1
    rw [hx.1, List.getElem?_map, List.getElem?_eq_getElem (by omega)] at hd
    have e3 : kd zs = kd d := by rw [← e2]; simpa using hd
    rw [e1, kd_inj e3]
  have hall : cs0.toList = lowsL := by
    have h1 := chunks cs0.toList
    rw [List.take_of_length_le (by omega), ch 0 _ (by omega) rfl, ch 1 _ (by omega) rfl, ch 2 _ (by omega) rfl, ch 3 _ (by omega) rfl, ch 4 _ (by omega) rfl] at h1
    rw [h1]
    unfold lowsL
    simp only [List.map_append, List.append_assoc]
  intro j v hj
  rw [World.var?_cell hg0 hv0, Nat.zero_add, ← Array.getElem?_toList, hall]
  exact hj
end Go.Proofs.YtebgmneffpeahaaDoor
