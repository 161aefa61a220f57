/-
  Texts as lists of bytes: a sign of a text, its length, texts behind each other, a piece of a text, texts held against each other; a text that is ranged over.
-/
import Derived.Test.YtpmgmpihmpifgaaDoorIG
import Derived.Laws.DeepStrings4
namespace Go.Proofs.YtpmgmpihmpifgaaDoor
open Go.RowKit
set_option maxRecDepth 100000
set_option linter.unusedSimpArgs false
set_option linter.unusedVariables false

theorem byte_back (x : Int) (h : 0 ≤ x ∧ x < 256) : ((UInt8.ofNat x.toNat).toNat : Int) = x := by
  rw [UInt8.toNat_ofNat']
  omega
theorem tb_str {B : List Int} (h : IsB B) : tb (strOfNums B) = B := by
  unfold tb
  rw [strOfNums_data, List.map_map]
  refine (List.map_congr_left fun x hx => ?_).trans (List.map_id _)
  exact byte_back x (h x hx)
theorem str_tb (s : ByteArray) : strOfNums (tb s) = s := by
  have h : (strOfNums (tb s)).data.toList = s.data.toList := by
    rw [strOfNums_data]
    unfold tb
    rw [List.map_map]
    refine (List.map_congr_left fun x hx => ?_).trans (List.map_id _)
    show UInt8.ofNat ((x.toNat : Int)).toNat = id x
    rw [Int.toNat_natCast]
    exact UInt8.ofNat_toNat
  have h2 : (strOfNums (tb s)).data = s.data := Array.ext' h
  exact congrArg ByteArray.mk h2
theorem str_ex (s : ByteArray) : ∃ L : List Int, IsB L ∧ L.length = s.size ∧ s = strOfNums L := ⟨tb s, tb_isB s, tb_len s, (str_tb s).symm⟩
theorem str_add (L M : List Int) : strOfNums L ++ strOfNums M = strOfNums (L ++ M) := by
  unfold strOfNums
  rw [ByteArray.mk_append_mk, List.map_append]
theorem str_cut (L : List Int) (i j : Nat) : (strOfNums L).extract i j = strOfNums ((L.drop i).take (j - i)) := by
  unfold strOfNums
  rw [ByteArray.extract_mk]
  congr 1
  apply Array.ext'
  simp [List.map_take, List.map_drop]
theorem str_at {L : List Int} (hL : IsB L) (i : Nat) (h : i < (strOfNums L).size) : (((strOfNums L)[i]'h).toNat : Int) = L.getD i 0 := by
  have hl : i < L.length := by rw [strOfNums_size] at h; exact h
  have h1 : (strOfNums L)[i]'h = (strOfNums L).data[i]'h := rfl
  have h2 : (strOfNums L).data[i]'h = (strOfNums L).data.toList[i]'(by simpa using h) := by simp
  rw [h1, h2, List.getElem_of_eq (strOfNums_data L), List.getElem_map]
  have h3 : L.getD i 0 = L[i] := by simp [hl]
  rw [h3]
  exact byte_back _ (hL _ (List.getElem_mem hl))
/-- a sign of a text -/
theorem exec_six {a : Act} {o : Oper} (w : World) (x y : Operand) (ho : o.op = .index 9 x y) (L : List Int) (hL : IsB L) (k : IntKind) (i : Nat) (hx : a.eval x = .string (strOfNums L)) (hy : a.eval y = .int k (i : Int)) (hi : i < L.length) :
    (execOp a.eval o).run Tryd.prog w = .ok (.value (.int .u8 (L.getD i 0))) w := by
  have h := run_index_string (P := Tryd.prog) w 9 (strOfNums L) k (i : Int) Tryd.underlying9
  have hi2 : i < (strOfNums L).size := by rw [strOfNums_size]; exact hi
  rw [dif_pos ⟨by omega, by rw [strOfNums_size]; omega⟩] at h
  have e := str_at hL i hi2
  simp only [Int.toNat_natCast] at h
  rw [e] at h
  unfold execOp
  simp only [ho, hx, hy, Sem.run_bind, h, Result.andThen_ok, Sem.run_pure]
theorem exec_slen {a : Act} {o : Oper} (w : World) (x : Operand) (ho : o.op = .call { callee := .builtin .len, args := #[x], argTypes := #[9] }) (L : List Int) (n : Nat) (hn : L.length = n) (hx : a.eval x = .string (strOfNums L)) :
    (execOp a.eval o).run Tryd.prog w = .ok (.value (.int .i64 (n : Int))) w := by
  have h := run_len_string (P := Tryd.prog) w 9 o.type (strOfNums L) Tryd.underlying9
  rw [strOfNums_size, hn] at h
  simp [execOp, ho, resolve, invoke, builtin, hx, h, goInt, Result.andThen]
theorem exec_sadd {a : Act} {o : Oper} (w : World) (x y : Operand) (ho : o.op = .binOp .add 9 x y 9) (L M : List Int) (hx : a.eval x = .string (strOfNums L)) (hy : a.eval y = .string (strOfNums M)) (h : L.length + M.length ≤ 1000000) :
    (execOp a.eval o).run Tryd.prog w = .ok (.value (.string (strOfNums (L ++ M)))) w := by
  have h1 := run_string_add_sum (P := Tryd.prog) w (strOfNums L) (strOfNums M) (by rw [strOfNums_size, strOfNums_size]; omega)
  rw [str_add] at h1
  unfold execOp
  simp only [ho, hx, hy, binOp_string_add]
  go_simp
theorem exec_scut {a : Act} {o : Oper} (w : World) (x y z : Operand) (ho : o.op = .slice 9 x (some y) (some z) none) (L : List Int) (k k' : IntKind) (i j : Nat) (hx : a.eval x = .string (strOfNums L)) (hy : a.eval y = .int k (i : Int)) (hz : a.eval z = .int k' (j : Int)) (hij : i ≤ j) (hj : j ≤ L.length) :
    (execOp a.eval o).run Tryd.prog w = .ok (.value (.string (strOfNums ((L.drop i).take (j - i))))) w := by
  have h1 := run_slice_string_if (P := Tryd.prog) w 9 (strOfNums L) k k' (i : Int) (j : Int) Tryd.underlying9
  rw [if_pos ⟨by omega, by rw [strOfNums_size]; omega⟩, if_pos ⟨by omega, by omega⟩] at h1
  simp only [Int.toNat_natCast] at h1
  rw [str_cut] at h1
  simp [execOp, ho, hx, hy, hz, run_sliceAt_string _ _ _ _ _ _ Tryd.underlying9, h1]
theorem exec_supto {a : Act} {o : Oper} (w : World) (x z : Operand) (ho : o.op = .slice 9 x none (some z) none) (L : List Int) (k' : IntKind) (j : Nat) (hx : a.eval x = .string (strOfNums L)) (hz : a.eval z = .int k' (j : Int)) (hj : j ≤ L.length) :
    (execOp a.eval o).run Tryd.prog w = .ok (.value (.string (strOfNums (L.take j)))) w := by
  have h1 := run_slice_string_h (P := Tryd.prog) w 9 (strOfNums L) Tryd.underlying9 k' (j : Int) (by omega) (by rw [strOfNums_size]; omega)
  simp only [Int.toNat_natCast] at h1
  rw [str_cut, List.drop_zero, Nat.sub_zero] at h1
  simp [execOp, ho, hx, hz, run_sliceAt_string _ _ _ _ _ _ Tryd.underlying9, h1]
theorem exec_sfrom {a : Act} {o : Oper} (w : World) (x y : Operand) (ho : o.op = .slice 9 x (some y) none none) (L : List Int) (k : IntKind) (i : Nat) (hx : a.eval x = .string (strOfNums L)) (hy : a.eval y = .int k (i : Int)) (hi : i ≤ L.length) :
    (execOp a.eval o).run Tryd.prog w = .ok (.value (.string (strOfNums (L.drop i)))) w := by
  have h1 := run_slice_string_l (P := Tryd.prog) w 9 (strOfNums L) Tryd.underlying9 k (i : Int) (by omega) (by rw [strOfNums_size]; omega)
  simp only [Int.toNat_natCast] at h1
  rw [str_cut, strOfNums_size, List.take_of_length_le (by rw [List.length_drop]; omega)] at h1
  simp [execOp, ho, hx, hy, run_sliceAt_string _ _ _ _ _ _ Tryd.underlying9, h1]
theorem exec_seq {a : Act} {o : Oper} (w : World) (x y : Operand) (ho : o.op = .binOp .eql 9 x y 9) (L M : List Int) (hL : IsB L) (hM : IsB M) (hx : a.eval x = .string (strOfNums L)) (hy : a.eval y = .string (strOfNums M)) (b : Bool) (hb : decide (L = M) = b) :
    (execOp a.eval o).run Tryd.prog w = .ok (.value (.bool b)) w := by
  have e : ((strOfNums L).toList == (strOfNums M).toList) = b := by
    rw [← hb, ByteArray.toList_eq, ByteArray.toList_eq]
    rw [show decide (L = M) = decide (strOfNums L = strOfNums M) from decide_eq_decide.2 ⟨fun h => by rw [h], fun h => str_inj hL hM h⟩]
    by_cases h : strOfNums L = strOfNums M
    · rw [h]; simp
    · rw [decide_eq_false h]
      rw [beq_eq_false_iff_ne]
      intro h2
      apply h
      have h3 : (strOfNums L).data = (strOfNums M).data := Array.ext' h2
      exact congrArg ByteArray.mk h3
  have hg : (eqGuard .eql 9 x y (.string (strOfNums L)) (.string (strOfNums M))).run Tryd.prog w = .ok () w := by kernel_rfl
  unfold execOp
  simp only [ho, hx, hy, binOp_string_eql, e]
  go_simp
/-- the next sign of a text that is ranged over -/
theorem next_any {L : List Int} (hL : IsB L) (w : World) (k n : Nat) (hk : w.heap[k]? = some (.stringIter (strOfNums L) n)) (h : n < L.length) :
    ∃ (rn : Int) (n' : Nat), (∀ ty, (Instr.next (.pointer (some ⟨k, 0, none⟩)) true ty).run Tryd.prog w = .ok (.tuple #[.bool true, .int .i64 n, .int .i32 rn]) (itr w k (strOfNums L) n')) ∧ (L.getD n 0 < 128 → n' = n + 1) := by
  have h2 : n < (strOfNums L).size := by rw [strOfNums_size]; exact h
  by_cases ha : L.getD n 0 < 128
  · have e := str_at hL n h2
    exact ⟨_, _, fun ty => run_next_at w k (strOfNums L) n ty hk h2 (by omega), fun _ => rfl⟩
  · refine ⟨(Utf8.decode (strOfNums L) n).1, n + (Utf8.decode (strOfNums L) n).2, fun ty => ?_, fun h => absurd h ha⟩
    simp only [Instr.next, getObj, setObj, Sem.run_bind, Sem.run, hk, Result.andThen, h2, if_true]
    simp [goInt, itr]
theorem next_end {L : List Int} (w : World) (k n : Nat) (ty : TypeId) (hk : w.heap[k]? = some (.stringIter (strOfNums L) n)) (h : ¬ n < L.length) :
    (Instr.next (.pointer (some ⟨k, 0, none⟩)) true ty).run Tryd.prog w = .ok (.tuple #[.bool false]) w :=
  run_next_stop w k (strOfNums L) n ty hk (by rw [strOfNums_size]; exact h)
theorem Gr.itr {w v : World} (h : Gr w v) (k : Nat) (hk : w.heap.size ≤ k) (s : ByteArray) (pos : Nat) : Gr w (itr v k s pos) := by
  refine ⟨h.os, h.tape, h.output, ?_, fun i hi => ?_⟩
  · have := h.size
    unfold Proofs.YtpmgmpihmpifgaaDoor.itr
    simpa using this
  · rw [itr_other s pos (by omega)]
    exact h.block i hi
theorem str_lit3 : (⟨#[97, 45, 49]⟩ : ByteArray) = strOfNums [97, 45, 49] := rfl
theorem str_lit0 : (⟨#[]⟩ : ByteArray) = strOfNums [] := rfl
end Go.Proofs.YtpmgmpihmpifgaaDoor
