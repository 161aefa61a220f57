/-
  Layer 14: records that are held against themselves.
-/
import Derived.Test.YtiejdpodffkdpaaFW
namespace Go.Proofs.Ytiejdpodffkdpaa
open Go.RowKit
set_option maxRecDepth 100000
set_option linter.unusedSimpArgs false
set_option linter.unusedVariables false
theorem ext_at (xs : Array Value) (o m i : Nat) (hi : i < m) (hs : o + m ≤ xs.size) : (xs.extract o (o + m))[i]? = xs[o + i]? := by
  rw [Array.getElem?_extract, if_pos (by omega)]
def By (xs : Array Value) (o n : Nat) : Prop := o + n ≤ xs.size ∧ ∀ i, i < n → ∃ x, xs[o + i]? = some (.int .u8 x)
theorem By.ext {xs : Array Value} {o n : Nat} (h : By xs o n) : ∀ i, i < n → ∃ x, (xs.extract o (o + n))[i]? = some (.int .u8 x) := fun i hi => by
  rw [ext_at xs o n i hi h.1]
  exact h.2 i hi
theorem by_mid {C A D : List Value} {K : List Int} {o n : Nat} (hC : C = A ++ (bv K ++ D)) (hA : A.length = o) (hK : K.length = n) : By C.toArray o n := by
  refine ⟨by rw [hC]; simp [bv_len]; omega, fun i hi => ⟨K.getD i 0, ?_⟩⟩
  rw [List.getElem?_toArray, hC]
  exact mid_get hA i (by omega)
theorem eq_hd (xs : Array Value) (hK : By xs 0 32) (hp : ∃ x, xs[32]? = some (.int .u32 x)) (hq : ∃ x, xs[33]? = some (.int .u32 x)) (d : Nat) (w : World) : (Op.equalIn (d + 3) 46 (.agg xs) (.agg xs)).run Try.prog w = .ok true w := by
  rw [run_equalIn_struct w (d + 2) 46 xs xs (by kernel_rfl) (by kernel_rfl)]
  refine eqFields_self _ _ _ _ (fun f hf => ?_)
  simp [Program.fieldsOf, Try.underlying46] at hf
  obtain ⟨p, hp⟩ := hp
  obtain ⟨q, hq⟩ := hq
  rcases hf with rfl | rfl | rfl
  · exact ⟨by decide, _, part_row Try.underlying30 Try.infoKy _ _ _, eq_bytes Try.underlying30 d _ hK.ext w⟩
  · exact ⟨by decide, _, part_cell Try.underlying44 hp w, eq_int Try.underlying44 _ _ _ w⟩
  · exact ⟨by decide, _, part_cell Try.underlying44 hq w, eq_int Try.underlying44 _ _ _ w⟩
theorem eq_hdl {K : List Int} (hK : K.length = 32) (p q : Int) (w : World) : (Op.equalIn 10000 46 (.agg (hdl K p q).toArray) (.agg (hdl K p q).toArray)).run Try.prog w = .ok true w :=
  eq_hd _ (by_mid (hdl_key K p q) rfl hK) ⟨_, hd_prev hK p q⟩ ⟨_, hd_num hK p q⟩ 9997 w
theorem exec_neq_s {a : Act} {o : Oper} (w : World) (t : TypeId) (x y : Operand) (ho : o.op = .binOp .neq t x y t) {fs : Array Field} (hu : Try.prog.underlying t = some (.struct fs)) (c : Array Value) (hg : (eqGuard .neq t x y (.agg c) (.agg c)).run Try.prog w = .ok () w) (hx : a.eval x = .agg c) (hy : a.eval y = .agg c) (he : (Op.equalIn 10000 t (.agg c) (.agg c)).run Try.prog w = .ok true w) : (execOp a.eval o).run Try.prog w = .ok (.value (.bool false)) w := by
  unfold execOp
  simp only [ho, hx, hy]
  go_simp
theorem exec_eql_s {a : Act} {o : Oper} (w : World) (t : TypeId) (x y : Operand) (ho : o.op = .binOp .eql t x y t) {fs : Array Field} (hu : Try.prog.underlying t = some (.struct fs)) (c : Array Value) (hg : (eqGuard .eql t x y (.agg c) (.agg c)).run Try.prog w = .ok () w) (hx : a.eval x = .agg c) (hy : a.eval y = .agg c) (he : (Op.equalIn 10000 t (.agg c) (.agg c)).run Try.prog w = .ok true w) : (execOp a.eval o).run Try.prog w = .ok (.value (.bool true)) w := by
  unfold execOp
  simp only [ho, hx, hy]
  go_simp
theorem exec_neq_h {a : Act} {o : Oper} (w : World) (x y : Operand) (ho : o.op = .binOp .neq 46 x y 46) (c : Array Value) (hx : a.eval x = .agg c) (hy : a.eval y = .agg c) (he : (Op.equalIn 10000 46 (.agg c) (.agg c)).run Try.prog w = .ok true w) : (execOp a.eval o).run Try.prog w = .ok (.value (.bool false)) w :=
  exec_neq_s w 46 x y ho Try.underlying46 c (by kernel_rfl) hx hy he
theorem exec_eql_h {a : Act} {o : Oper} (w : World) (x y : Operand) (ho : o.op = .binOp .eql 46 x y 46) (c : Array Value) (hx : a.eval x = .agg c) (hy : a.eval y = .agg c) (he : (Op.equalIn 10000 46 (.agg c) (.agg c)).run Try.prog w = .ok true w) : (execOp a.eval o).run Try.prog w = .ok (.value (.bool true)) w :=
  exec_eql_s w 46 x y ho Try.underlying46 c (by kernel_rfl) hx hy he
end Go.Proofs.Ytiejdpodffkdpaa
