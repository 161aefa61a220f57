/-
  Spots and pairs: what is equal to itself.
-/
import Derived.Test.YtpmgmpihmpifgaaDoorIH
namespace Go.Proofs.YtpmgmpihmpifgaaDoor
open Go.RowKit
set_option maxRecDepth 100000
set_option linter.unusedSimpArgs false
set_option linter.unusedVariables false
/-- what is equal to itself -/
theorem eqItems_self (d : Nat) (e : TypeId) (c : Nat) (xs : Array Value) (w : World) : ∀ (is : List Nat), (∀ i ∈ is, ∃ v, (part e xs (i * c)).run Tryd.prog w = .ok v w ∧ (Op.equalIn d e v v).run Tryd.prog w = .ok true w) → (Op.eqItems d e c xs xs is).run Tryd.prog w = .ok true w
  | [], _ => by simp [Op.eqItems]
  | i :: is, h => by
    obtain ⟨v, h1, h2⟩ := h i (by simp)
    have h3 := eqItems_self d e c xs w is (fun j hj => h j (by simp [hj]))
    simp only [Op.eqItems, Sem.run_bind, h1, h2, Result.andThen_ok]
    simpa using h3
theorem eqFields_self (d : Nat) (xs : Array Value) (w : World) : ∀ (fs : List Field), (∀ f ∈ fs, f.name ≠ "_" ∧ ∃ v, (part f.type xs f.offset).run Tryd.prog w = .ok v w ∧ (Op.equalIn d f.type v v).run Tryd.prog w = .ok true w) → (Op.eqFields d xs xs fs).run Tryd.prog w = .ok true w
  | [], _ => by simp [Op.eqFields]
  | f :: fs, h => by
    obtain ⟨hn, v, h1, h2⟩ := h f (by simp)
    have h3 := eqFields_self d xs w fs (fun j hj => h j (by simp [hj]))
    simp only [Op.eqFields, hn, ne_eq, not_false_eq_true, if_true, Sem.run_bind, h1, h2, Result.andThen_ok]
    simpa using h3
theorem eq_int {t : TypeId} {q : IntKind} (hu : Tryd.prog.underlying t = some (.int q)) (d : Nat) (k : IntKind) (x : Int) (w : World) : (Op.equalIn (d + 1) t (.int k x) (.int k x)).run Tryd.prog w = .ok true w := by
  simp [Op.equalIn, Sem.run_bind, run_underlying hu]
theorem part_cell {t : TypeId} {q : IntKind} (hu : Tryd.prog.underlying t = some (.int q)) {xs : Array Value} {o : Nat} {v : Value} (h : xs[o]? = some v) (w : World) : (part t xs o).run Tryd.prog w = .ok v w := by
  simp [part, isAgg, Sem.run_bind, run_underlying hu, h]
/-- rows of bytes -/
theorem eq_bytes {t : TypeId} {n : Nat} (hu : Tryd.prog.underlying t = some (.array n 5)) (d : Nat) (xs : Array Value) (h : ∀ i, i < n → ∃ x, xs[i]? = some (.int .u8 x)) (w : World) : (Op.equalIn (d + 2) t (.agg xs) (.agg xs)).run Tryd.prog w = .ok true w := by
  obtain ⟨i5, hi5⟩ := info_of_underlying Tryd.underlying5
  rw [run_equalIn_array w (d + 1) xs xs hu hi5]
  refine eqItems_self _ _ _ _ _ _ (fun i hi => ?_)
  obtain ⟨x, hx⟩ := h i (List.mem_range.1 hi)
  have hc : Tryd.prog.cellsOf 5 = 1 := Tryd.cells_b
  rw [hc, Nat.mul_one]
  exact ⟨_, part_cell Tryd.underlying5 hx w, eq_int Tryd.underlying5 d _ _ w⟩
theorem part_row {t : TypeId} {n : Nat} {e : TypeId} (hu : Tryd.prog.underlying t = some (.array n e)) {m : Nat} (hi : (Tryd.prog.info? t).map (·.size) = some m) (xs : Array Value) (o : Nat) (w : World) : (part t xs o).run Tryd.prog w = .ok (.agg (xs.extract o (o + m))) w := by
  obtain ⟨i, h1, h2⟩ := Option.map_eq_some_iff.1 hi
  simp [part, isAgg, Sem.run_bind, run_underlying hu, sizeOf, typeInfo, h1, h2]
theorem ext_at (xs : Array Value) (o m i : Nat) (hi : i < m) (hs : o + m ≤ xs.size) : (xs.extract o (o + m))[i]? = xs[o + i]? := by
  rw [Array.getElem?_extract, if_pos (by omega)]
def By (xs : Array Value) (o n : Nat) : Prop := o + n ≤ xs.size ∧ ∀ i, i < n → ∃ x, xs[o + i]? = some (.int .u8 x)
theorem By.ext {xs : Array Value} {o n : Nat} (h : By xs o n) : ∀ i, i < n → ∃ x, (xs.extract o (o + n))[i]? = some (.int .u8 x) := fun i hi => by
  rw [ext_at xs o n i hi h.1]
  exact h.2 i hi
theorem eq_S (e p : Int) (w : World) : (Op.equalIn 10000 28 (.agg (spv e p)) (.agg (spv e p))).run Tryd.prog w = .ok true w := by
  rw [run_equalIn_struct w 9999 28 _ _ (by kernel_rfl) (by kernel_rfl)]
  refine eqFields_self _ _ _ _ (fun f hf => ?_)
  simp [Program.fieldsOf, Tryd.underlying28] at hf
  rcases hf with rfl | rfl
  · exact ⟨by decide, _, part_cell Tryd.underlying26 (v := .int .i64 e) rfl w, eq_int Tryd.underlying26 _ _ _ w⟩
  · exact ⟨by decide, _, part_cell Tryd.underlying3 (v := .int .i64 p) rfl w, eq_int Tryd.underlying3 _ _ _ w⟩
theorem exec_eqS {a : Act} {o : Oper} (w : World) (x y : Operand) (ho : o.op = .binOp .eql 28 x y 28) (e p : Int) (hx : a.eval x = .agg (spv e p)) (hy : a.eval y = .agg (spv e p)) (hg : (eqGuard .eql 28 x y (.agg (spv e p)) (.agg (spv e p))).run Tryd.prog w = .ok () w) : (execOp a.eval o).run Tryd.prog w = .ok (.value (.bool true)) w := by
  have he := eq_S e p w
  unfold execOp
  simp only [ho, hx, hy, Sem.run_bind, hg, Result.andThen_ok, run_eql_struct, he, Sem.run_pure]
end Go.Proofs.YtpmgmpihmpifgaaDoor
