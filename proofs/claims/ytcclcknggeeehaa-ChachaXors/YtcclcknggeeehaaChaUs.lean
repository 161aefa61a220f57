/-
  A key, a counter and a nonce in one; bytes that are held against each other.
-/
import Derived.Test.YtcclcknggeeehaaChaE
import Derived.Laws.BytesArg
namespace Go.Proofs.Ytcclcknggeeehaa
open Go.RowKit
set_option maxRecDepth 100000
set_option linter.unusedVariables false
set_option linter.unusedSimpArgs false
/-- the cells of a key, a counter, a nonce -/
def usd (K : List Int) (c : Int) (N : List Int) : Array Value := (K.map (Value.int .u8) ++ (Value.int .u32 c :: N.map (Value.int .u8))).toArray
structure Us (K : List Int) (c : Int) (N : List Int) : Prop where
  kl : K.length = 32
  nl : N.length = 12
  kb : IsB K
  nb : IsB N
  cw : W32 c
theorem usd_key {w : World} {g : Nat} {K N : List Int} {c : Int} (h : w.heap[g]? = some (.cells (usd K c N) 28 (0, 0))) : w.rangeAt g 0 (K.map (Value.int .u8)) := fun j v hj => by
  rw [Nat.zero_add]
  refine cell_of h ?_
  have hl := (List.getElem?_eq_some_iff.1 hj).1
  unfold usd
  rw [List.getElem?_toArray, List.getElem?_append_left hl]
  exact hj
theorem usd_nonce {w : World} {g : Nat} {K N : List Int} {c : Int} (hk : K.length = 32) (h : w.heap[g]? = some (.cells (usd K c N) 28 (0, 0))) : w.rangeAt g 33 (N.map (Value.int .u8)) := fun j v hj => by
  refine cell_of h ?_
  unfold usd
  rw [List.getElem?_toArray, List.getElem?_append_right (by rw [List.length_map]; omega), List.length_map, show 33 + j - K.length = j + 1 from by omega, List.getElem?_cons_succ]
  exact hj
theorem usd_count {w : World} {g : Nat} {K N : List Int} {c : Int} (hk : K.length = 32) (h : w.heap[g]? = some (.cells (usd K c N) 28 (0, 0))) : w.cell? ⟨g, 32, none⟩ = some (.int .u32 c) := by
  refine cell_of h ?_
  unfold usd
  rw [List.getElem?_toArray, List.getElem?_append_right (by rw [List.length_map]; omega), List.length_map, hk]
  rfl
theorem kc_map (l : List Int) : (l.map (Value.int .u8)).toArray = kc l := rfl
/-- the key and the nonce are loaded out of it -/
theorem exec_key {op : Oper} {a : Act} (w : World) (x : Operand) (ho : op.op = .load 23 x) (g : Nat) (hx : a.eval x = .pointer (some ⟨g, 0, none⟩)) (K N : List Int) (c : Int) (u : Us K c N) (h : w.heap[g]? = some (.cells (usd K c N) 28 (0, 0))) :
    (execOp a.eval op).run Try.prog w = .ok (.value (.agg (kc K))) w :=
  exec_row (P := Try.prog) (op := op) (a := a) w 23 x ho g 0 hx (K.map (Value.int .u8)) _ (usd_key h) Try.underlying23 rfl (by rw [Try.infoKey, List.length_map, u.kl])
theorem exec_nonce {op : Oper} {a : Act} (w : World) (x : Operand) (ho : op.op = .load 26 x) (g : Nat) (hx : a.eval x = .pointer (some ⟨g, 33, none⟩)) (K N : List Int) (c : Int) (u : Us K c N) (h : w.heap[g]? = some (.cells (usd K c N) 28 (0, 0))) :
    (execOp a.eval op).run Try.prog w = .ok (.value (.agg (kc N))) w :=
  exec_row (P := Try.prog) (op := op) (a := a) w 26 x ho g 33 hx (N.map (Value.int .u8)) _ (usd_nonce u.kl h) Try.underlying26 rfl (by rw [Try.infoN, List.length_map, u.nl])
/-- bytes as a text -/
theorem Sl.text {w : World} {a : Option Addr} {B : List Int} (h : Sl w a B) (n c : Nat) (hn : B.length = n) : (convert 33 9 (.slice a n c)).run Try.prog w = .ok (.string (strOfNums B)) w := by
  subst hn
  rcases h with rfl | ⟨p, o, rfl, h2⟩
  · rw [run_convert_bytes_string w 33 9 5 _ _ c Try.underlying33 Try.underlying5 Try.underlying9]
    cases a <;> simp [Conv.bytesToString, loadCells]
    all_goals rfl
  · exact run_convert_bytes_arg (P := Try.prog) w 33 5 Try.underlying33 Try.underlying5 p o _ c B rfl (fun i hi => h2 i hi) 9 Try.underlying9
/-- the same bytes are equal -/
theorem equal_same (B : List Int) (a b : Option Addr) (n c d : Nat) (hn : B.length = n) (w : World) (ha : Sl w a B) (hb : Sl w b B) : Calls Try.prog 14 #[.slice a n c, .slice b n d] w (fun r w' => r = .returned (.bool true) ∧ w' = w) := by
  have h1 := ha.text n c hn
  have h2 := hb.text n d hn
  clear ha hb
  go_enter Try.func14, Try.ntmps14
  go_wp2_with fail
  refine bodyPost_ret (v := .bool true) ?_ rfl ⟨rfl, rfl⟩
  simp [results, Try.results14, go_sem]
theorem add_zero (p o : Nat) : (⟨p, o, none⟩ : Addr).add 0 = ⟨p, o, none⟩ := rfl
theorem add_some (p o k : Nat) : (⟨p, o, none⟩ : Addr).add k = ⟨p, o + k, none⟩ := by
  rcases Nat.eq_zero_or_pos k with h0 | h0
  · subst h0; rfl
  · simp [Addr.add]; omega
theorem IsB.take {B : List Int} (h : IsB B) (n : Nat) : IsB (B.take n) := fun x hx => h x (List.mem_of_mem_take hx)
theorem IsB.drop {B : List Int} (h : IsB B) (n : Nat) : IsB (B.drop n) := fun x hx => h x (List.mem_of_mem_drop hx)
/-- the first bytes of a list, and the others -/
theorem Lb.upto {v : World} {s : Option Addr} {len cap : Nat} {B : List Int} (h : Lb v s len cap B) (n : Nat) (hn : n ≤ len) : Lb v (if cap = 0 then s else s.map (·.add 0)) n cap (B.take n) := by
  refine ⟨by rw [List.length_take, h.len]; omega, h.isB.take n, ?_, Nat.le_trans hn h.cap, h.max⟩
  rcases h.sl with rfl | ⟨p, o, rfl, hat⟩
  · exact .inl (by simp)
  · refine .inr ⟨p, o, ?_, fun j hj => ?_⟩
    · split
      · rfl
      · rfl
    · rw [List.length_take] at hj
      rw [hat j (by omega)]
      congr 2
      rw [List.getD_eq_getElem?_getD, List.getD_eq_getElem?_getD, List.getElem?_take, if_pos (by omega)]
theorem Lb.rest {v : World} {s : Option Addr} {len cap : Nat} {B : List Int} (h : Lb v s len cap B) (n : Nat) (hn : n ≤ len) : Lb v (if cap = n then s else s.map (·.add n)) (len - n) (cap - n) (B.drop n) := by
  have hc := h.cap
  have hl := h.len
  refine ⟨by rw [List.length_drop, h.len], h.isB.drop n, ?_, by omega, by have := h.max; omega⟩
  rcases h.sl with rfl | ⟨p, o, rfl, hat⟩
  · exact .inl (by simp)
  · by_cases hcn : cap = n
    · exact .inl (List.drop_eq_nil_of_le (by omega))
    · refine .inr ⟨p, o + n, by rw [if_neg hcn, Option.map_some, add_some], fun j hj => ?_⟩
      rw [List.length_drop] at hj
      rw [Nat.add_assoc, hat (n + j) (by omega)]
      congr 2
      rw [List.getD_eq_getElem?_getD, List.getD_eq_getElem?_getD, List.getElem?_drop]
theorem list_upto {ops : Array Oper} {Q : Exit → Act → World → Prop} {a : Act} {w : World} {o : Oper} {rest : List Oper} (x y : Operand) (hw : Region.wanted o (yielded ops a.tmps) = true) (ho : o.op = .slice 33 x none (some y) none)
    (s : Option Addr) (len cap n : Nat) (hx : a.eval x = .slice s len cap) (hy : a.eval y = .int .i64 n) (B : List Int) (hb : Lb w s len cap B) (hn : n ≤ len)
    (h : ∀ s', (∀ v, Lb v s len cap B → Lb v s' n cap (B.take n)) → wpList Try.prog ops Q rest (a.put o.dst (.slice s' n cap)) w) : wpList Try.prog ops Q (o :: rest) a w := by
  refine list_val (.slice (if cap = 0 then s else s.map (·.add 0)) n cap) hw ?_ (h _ fun v hv => hv.upto n hn)
  have hc := hb.cap
  have h1 : (0 : Int) ≤ n := by omega
  have h2 : (n : Int) ≤ cap := by omega
  have hu : Try.prog.underlying 33 = some (.slice (Try.prog.elem 33)) := by kernel_rfl
  have hz : (sizeOf (Try.prog.elem 33)).run Try.prog w = .ok 1 w := by kernel_rfl
  simp [execOp, ho, hx, hy, run_sliceAt_slice _ _ _ _ _ _ hu, run_slice_h _ _ _ _ _ hu _ _ h1 h2, hz, sliced]
theorem list_from {ops : Array Oper} {Q : Exit → Act → World → Prop} {a : Act} {w : World} {o : Oper} {rest : List Oper} (x y : Operand) (hw : Region.wanted o (yielded ops a.tmps) = true) (ho : o.op = .slice 33 x (some y) none none)
    (s : Option Addr) (len cap n : Nat) (hx : a.eval x = .slice s len cap) (hy : a.eval y = .int .i64 n) (B : List Int) (hb : Lb w s len cap B) (hn : n ≤ len)
    (h : ∀ s', (∀ v, Lb v s len cap B → Lb v s' (len - n) (cap - n) (B.drop n)) → wpList Try.prog ops Q rest (a.put o.dst (.slice s' (len - n) (cap - n))) w) : wpList Try.prog ops Q (o :: rest) a w := by
  refine list_val (.slice (if cap = n then s else s.map (·.add n)) (len - n) (cap - n)) hw ?_ (h _ fun v hv => hv.rest n hn)
  have hc := hb.cap
  have h1 : (0 : Int) ≤ n := by omega
  have h2 : (n : Int) ≤ len := by omega
  have h3 : (len : Int) ≤ cap := by omega
  have hu : Try.prog.underlying 33 = some (.slice (Try.prog.elem 33)) := by kernel_rfl
  have hz : (sizeOf (Try.prog.elem 33)).run Try.prog w = .ok 1 w := by kernel_rfl
  simp [execOp, ho, hx, hy, run_sliceAt_slice _ _ _ _ _ _ hu, run_slice_l _ _ _ _ _ hu _ _ h1 h2, hz, sliced]
end Go.Proofs.Ytcclcknggeeehaa
