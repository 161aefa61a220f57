/-
  Layer 14: records that are held against themselves.
-/
import Derived.Test.YtfmocneoffkmpaaFW
namespace Go.Proofs.Ytfmocneoffkmpaa
open Go.RowKit
set_option maxRecDepth 100000
set_option linter.unusedSimpArgs false
set_option linter.unusedVariables false
theorem ext_at (xs : Array Value) (o m i : Nat) (hi : i < m) (hs : o + m ≤ xs.size) : (xs.extract o (o + m))[i]? = xs[o + i]? := by
  rw [Array.getElem?_extract, if_pos (by omega)]
def By (xs : Array Value) (o n : Nat) : Prop := o + n ≤ xs.size ∧ ∀ i, i < n → ∃ x, xs[o + i]? = some (.int .u8 x)
theorem By.ext {xs : Array Value} {o n : Nat} (h : By xs o n) : ∀ i, i < n → ∃ x, (xs.extract o (o + n))[i]? = some (.int .u8 x) := fun i hi => by
  rw [ext_at xs o n i hi h.1]
  exact h.2 i hi
theorem by_mid {C A D : List Value} {K : List Int} {o n : Nat} (hC : C = A ++ (bv K ++ D)) (hA : A.length = o) (hK : K.length = n) : By C.toArray o n := by
  refine ⟨by rw [hC]; simp [bv_len]; omega, fun i hi => ⟨K.getD i 0, ?_⟩⟩
  rw [List.getElem?_toArray, hC]
  exact mid_get hA i (by omega)
theorem eq_hd (xs : Array Value) (hK : By xs 0 32) (hp : ∃ x, xs[32]? = some (.int .u32 x)) (hq : ∃ x, xs[33]? = some (.int .u32 x)) (d : Nat) (w : World) : (Op.equalIn (d + 3) 26 (.agg xs) (.agg xs)).run Try.prog w = .ok true w := by
  rw [run_equalIn_struct w (d + 2) 26 xs xs (by kernel_rfl) (by kernel_rfl)]
  refine eqFields_self _ _ _ _ (fun f hf => ?_)
  simp [Program.fieldsOf, Try.underlying26] at hf
  obtain ⟨p, hp⟩ := hp
  obtain ⟨q, hq⟩ := hq
  rcases hf with rfl | rfl | rfl
  · exact ⟨by decide, _, part_row Try.underlying23 Try.infoKy _ _ _, eq_bytes Try.underlying23 d _ hK.ext w⟩
  · exact ⟨by decide, _, part_cell Try.underlying24 hp w, eq_int Try.underlying24 _ _ _ w⟩
  · exact ⟨by decide, _, part_cell Try.underlying24 hq w, eq_int Try.underlying24 _ _ _ w⟩
theorem Try.info65 : (Try.prog.info? 27).map (·.size) = some 65 := by kernel_rfl
theorem Try.info16_ : (Try.prog.info? 31).map (·.size) = some 16 := by kernel_rfl
theorem Try.info130 : (Try.prog.info? 32).map (·.size) = some 130 := by kernel_rfl
theorem Try.info105 : (Try.prog.info? 53).map (·.size) = some 105 := by kernel_rfl
theorem eq_hdl {K : List Int} (hK : K.length = 32) (p q : Int) (w : World) : (Op.equalIn 10000 26 (.agg (hdl K p q).toArray) (.agg (hdl K p q).toArray)).run Try.prog w = .ok true w :=
  eq_hd _ (by_mid (hdl_key K p q) rfl hK) ⟨_, hd_prev hK p q⟩ ⟨_, hd_num hK p q⟩ 9997 w
theorem eq_msl {K : List Int} (hK : K.length = 32) (p q : Int) {B : List Int} (hB : B.length = 65) (w : World) : (Op.equalIn 10000 29 (.agg (msl K p q B).toArray) (.agg (msl K p q B).toArray)).run Try.prog w = .ok true w := by
  rw [run_equalIn_struct w 9999 29 _ _ (by kernel_rfl) (by kernel_rfl)]
  refine eqFields_self _ _ _ _ (fun f hf => ?_)
  simp [Program.fieldsOf, Try.underlying29] at hf
  have hsz : (msl K p q B).toArray.size = 99 := by rw [List.size_toArray, msl_len hK p q hB]
  have hx : (msl K p q B).toArray.extract 0 (0 + 34) = (hdl K p q).toArray := by
    rw [msl_hd0]
    apply Array.ext'
    have e := hdl_len hK p q
    simp only [List.nil_append, Nat.zero_add, Array.toList_extract, List.extract_eq_take_drop, List.drop_zero, Nat.sub_zero]
    rw [← e, List.take_left]
  rcases hf with rfl | rfl
  · refine ⟨by decide, _, part_str Try.underlying26 Try.infoH _ _ _, ?_⟩
    show (Op.equalIn (9996 + 3) 26 (.agg ((msl K p q B).toArray.extract 0 (0 + 34))) (.agg ((msl K p q B).toArray.extract 0 (0 + 34)))).run Try.prog w = _
    rw [hx]
    exact eq_hd _ (by_mid (hdl_key K p q) rfl hK) ⟨_, hd_prev hK p q⟩ ⟨_, hd_num hK p q⟩ 9996 w
  · exact ⟨by decide, _, part_row Try.underlying27 Try.info65 _ _ _, eq_bytes Try.underlying27 9997 _ (by_mid (msl_hdl K p q B) (hdl_len hK p q) hB).ext w⟩
theorem eq_xcl {D : List Int} (hD : D.length = 16) {B : List Int} (hB : B.length = 130) (w : World) : (Op.equalIn 10000 34 (.agg (xcl D B).toArray) (.agg (xcl D B).toArray)).run Try.prog w = .ok true w := by
  rw [run_equalIn_struct w 9999 34 _ _ (by kernel_rfl) (by kernel_rfl)]
  refine eqFields_self _ _ _ _ (fun f hf => ?_)
  simp [Program.fieldsOf, Try.underlying34] at hf
  rcases hf with rfl | rfl
  · exact ⟨by decide, _, part_row Try.underlying31 Try.info16_ _ _ _, eq_bytes Try.underlying31 9997 _ (by_mid (xcl_drop D B) rfl hD).ext w⟩
  · exact ⟨by decide, _, part_row Try.underlying32 Try.info130 _ _ _, eq_bytes Try.underlying32 9997 _ (by_mid (xcl_body D B) (by rw [bv_len, hD]) hB).ext w⟩
theorem eq_evl (k a s : Int) {B : List Int} (hB : B.length = 105) (w : World) : (Op.equalIn 10000 55 (.agg (evl k a s B).toArray) (.agg (evl k a s B).toArray)).run Try.prog w = .ok true w := by
  rw [run_equalIn_struct w 9999 55 _ _ (by kernel_rfl) (by kernel_rfl)]
  refine eqFields_self _ _ _ _ (fun f hf => ?_)
  simp [Program.fieldsOf, Try.underlying55] at hf
  rcases hf with rfl | rfl | rfl | rfl
  · exact ⟨by decide, _, part_cell Try.underlying3 (v := .int .i64 k) rfl w, eq_int Try.underlying3 _ _ _ w⟩
  · exact ⟨by decide, _, part_cell Try.underlying24 (v := .int .u32 a) rfl w, eq_int Try.underlying24 _ _ _ w⟩
  · exact ⟨by decide, _, part_cell Try.underlying24 (v := .int .u32 s) rfl w, eq_int Try.underlying24 _ _ _ w⟩
  · exact ⟨by decide, _, part_row Try.underlying53 Try.info105 _ _ _, eq_bytes Try.underlying53 9997 _ (by_mid (evl_body k a s B) rfl hB).ext w⟩
theorem exec_neq_s {a : Act} {o : Oper} (w : World) (t : TypeId) (x y : Operand) (ho : o.op = .binOp .neq t x y t) {fs : Array Field} (hu : Try.prog.underlying t = some (.struct fs)) (c : Array Value) (hg : (eqGuard .neq t x y (.agg c) (.agg c)).run Try.prog w = .ok () w) (hx : a.eval x = .agg c) (hy : a.eval y = .agg c) (he : (Op.equalIn 10000 t (.agg c) (.agg c)).run Try.prog w = .ok true w) : (execOp a.eval o).run Try.prog w = .ok (.value (.bool false)) w := by
  unfold execOp
  simp only [ho, hx, hy]
  go_simp
theorem exec_eql_s {a : Act} {o : Oper} (w : World) (t : TypeId) (x y : Operand) (ho : o.op = .binOp .eql t x y t) {fs : Array Field} (hu : Try.prog.underlying t = some (.struct fs)) (c : Array Value) (hg : (eqGuard .eql t x y (.agg c) (.agg c)).run Try.prog w = .ok () w) (hx : a.eval x = .agg c) (hy : a.eval y = .agg c) (he : (Op.equalIn 10000 t (.agg c) (.agg c)).run Try.prog w = .ok true w) : (execOp a.eval o).run Try.prog w = .ok (.value (.bool true)) w := by
  unfold execOp
  simp only [ho, hx, hy]
  go_simp
theorem exec_neq_h {a : Act} {o : Oper} (w : World) (x y : Operand) (ho : o.op = .binOp .neq 26 x y 26) (c : Array Value) (hx : a.eval x = .agg c) (hy : a.eval y = .agg c) (he : (Op.equalIn 10000 26 (.agg c) (.agg c)).run Try.prog w = .ok true w) : (execOp a.eval o).run Try.prog w = .ok (.value (.bool false)) w :=
  exec_neq_s w 26 x y ho Try.underlying26 c (by kernel_rfl) hx hy he
theorem exec_eql_h {a : Act} {o : Oper} (w : World) (x y : Operand) (ho : o.op = .binOp .eql 26 x y 26) (c : Array Value) (hx : a.eval x = .agg c) (hy : a.eval y = .agg c) (he : (Op.equalIn 10000 26 (.agg c) (.agg c)).run Try.prog w = .ok true w) : (execOp a.eval o).run Try.prog w = .ok (.value (.bool true)) w :=
  exec_eql_s w 26 x y ho Try.underlying26 c (by kernel_rfl) hx hy he
theorem exec_neq_m {a : Act} {o : Oper} (w : World) (x y : Operand) (ho : o.op = .binOp .neq 29 x y 29) (c : Array Value) (hx : a.eval x = .agg c) (hy : a.eval y = .agg c) (he : (Op.equalIn 10000 29 (.agg c) (.agg c)).run Try.prog w = .ok true w) : (execOp a.eval o).run Try.prog w = .ok (.value (.bool false)) w :=
  exec_neq_s w 29 x y ho Try.underlying29 c (by kernel_rfl) hx hy he
theorem exec_eql_m {a : Act} {o : Oper} (w : World) (x y : Operand) (ho : o.op = .binOp .eql 29 x y 29) (c : Array Value) (hx : a.eval x = .agg c) (hy : a.eval y = .agg c) (he : (Op.equalIn 10000 29 (.agg c) (.agg c)).run Try.prog w = .ok true w) : (execOp a.eval o).run Try.prog w = .ok (.value (.bool true)) w :=
  exec_eql_s w 29 x y ho Try.underlying29 c (by kernel_rfl) hx hy he
theorem exec_neq_x {a : Act} {o : Oper} (w : World) (x y : Operand) (ho : o.op = .binOp .neq 34 x y 34) (c : Array Value) (hx : a.eval x = .agg c) (hy : a.eval y = .agg c) (he : (Op.equalIn 10000 34 (.agg c) (.agg c)).run Try.prog w = .ok true w) : (execOp a.eval o).run Try.prog w = .ok (.value (.bool false)) w :=
  exec_neq_s w 34 x y ho Try.underlying34 c (by kernel_rfl) hx hy he
theorem exec_eql_x {a : Act} {o : Oper} (w : World) (x y : Operand) (ho : o.op = .binOp .eql 34 x y 34) (c : Array Value) (hx : a.eval x = .agg c) (hy : a.eval y = .agg c) (he : (Op.equalIn 10000 34 (.agg c) (.agg c)).run Try.prog w = .ok true w) : (execOp a.eval o).run Try.prog w = .ok (.value (.bool true)) w :=
  exec_eql_s w 34 x y ho Try.underlying34 c (by kernel_rfl) hx hy he
theorem exec_neq_e {a : Act} {o : Oper} (w : World) (x y : Operand) (ho : o.op = .binOp .neq 55 x y 55) (c : Array Value) (hx : a.eval x = .agg c) (hy : a.eval y = .agg c) (he : (Op.equalIn 10000 55 (.agg c) (.agg c)).run Try.prog w = .ok true w) : (execOp a.eval o).run Try.prog w = .ok (.value (.bool false)) w :=
  exec_neq_s w 55 x y ho Try.underlying55 c (by kernel_rfl) hx hy he
theorem exec_eql_e {a : Act} {o : Oper} (w : World) (x y : Operand) (ho : o.op = .binOp .eql 55 x y 55) (c : Array Value) (hx : a.eval x = .agg c) (hy : a.eval y = .agg c) (he : (Op.equalIn 10000 55 (.agg c) (.agg c)).run Try.prog w = .ok true w) : (execOp a.eval o).run Try.prog w = .ok (.value (.bool true)) w :=
  exec_eql_s w 55 x y ho Try.underlying55 c (by kernel_rfl) hx hy he
end Go.Proofs.Ytfmocneoffkmpaa
