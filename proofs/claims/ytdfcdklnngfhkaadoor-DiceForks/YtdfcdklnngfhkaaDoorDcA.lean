/-
  Bytes of one's own and what is put behind them, numbers of bytes, bytes held against bytes, texts as bytes.
-/
import Derived.Test.YtdfcdklnngfhkaaDoorDiB
import Derived.Lib.AppendStr
import Derived.Deep.DeepAppendWide
import Derived.Deep.Strs
namespace Go.Proofs.YtdfcdklnngfhkaaDoor
open Go.RowKit
set_option maxRecDepth 100000
set_option linter.unusedSimpArgs false
set_option linter.unusedVariables false
theorem IsB.take {B : List Int} (h : IsB B) (n : Nat) : IsB (B.take n) := fun x hx => h x (List.mem_of_mem_take hx)
theorem IsB.drop {B : List Int} (h : IsB B) (n : Nat) : IsB (B.drop n) := fun x hx => h x (List.mem_of_mem_drop hx)
def Ati (w : World) (p o : Nat) (L : List Nat) : Prop := ∀ j, j < L.length → w.cell? ⟨p, o + j, none⟩ = some (.int .i64 ((L.getD j 0 : Nat) : Int))
structure Li (w : World) (a : Option Addr) (n c : Nat) (L : List Nat) : Prop where
  len : L.length = n
  sl : L = [] ∨ ∃ p o, a = some ⟨p, o, none⟩ ∧ Ati w p o L
  cap : n ≤ c
  max : c < 9223372036854775808
def AllB (l : List Nat) : Prop := ∀ x ∈ l, x < 256
theorem AllB.at_ {l : List Nat} (h : AllB l) (j : Nat) : l.getD j 0 < 256 := by
  rcases Nat.lt_or_ge j l.length with hj | hj
  · have : l.getD j 0 = l[j] := by simp [hj]
    rw [this]
    exact h _ (List.getElem_mem hj)
  · rw [List.getD_eq_getElem?_getD, List.getElem?_eq_none hj]
    decide
theorem Li.at_ {w : World} {a : Option Addr} {n c : Nat} {L : List Nat} (h : Li w a n c L) (j : Nat) (hj : j < n) : ∃ p o, a = some ⟨p, o, none⟩ ∧ w.cell? ⟨p, o + j, none⟩ = some (.int .i64 ((L.getD j 0 : Nat) : Int)) := by
  have hl := h.len
  rcases h.sl with h | ⟨p, o, h1, h2⟩
  · rw [h] at hl
    simp at hl
    omega
  · exact ⟨p, o, h1, h2 j (by omega)⟩
theorem sf_rng (K N : List Int) (c : Int) (i : Nat) : 0 ≤ sf K N c i ∧ sf K N c i < 256 := (bk_isB K N _).at_ _
theorem xl_get (K N : List Int) (c : Int) (B : List Int) (i : Nat) (h : i < B.length) : (xl K N c B).getD i 0 = xf K N c B i := by
  unfold xl
  rw [List.getD_eq_getElem?_getD, List.getElem?_map, List.getElem?_range h]
  rfl
theorem list_ext {A B : List Int} (hl : A.length = B.length) (h : ∀ i, i < A.length → A.getD i 0 = B.getD i 0) : A = B := by
  apply List.ext_getElem hl
  intro i h1 h2
  have := h i h1
  simpa [List.getD_eq_getElem?_getD, List.getElem?_eq_getElem h1, List.getElem?_eq_getElem h2] using this
/-- new memory is a list of bytes -/
theorem kc_lb {w : World} {g : Nat} {X : List Int} {t : TypeId} {n : Nat} (h : w.heap[g]? = some (.cells (kc X) t (0, 0))) (hn : X.length = n) (hX : IsB X) (hb : n < 9223372036854775808) : Lb w (some ⟨g, 0, none⟩) n n X := ⟨hn, hX, .inr ⟨g, 0, rfl, kc_at h⟩, Nat.le_refl _, hb⟩
theorem IsB.append {A B : List Int} (h : IsB A) (k : IsB B) : IsB (A ++ B) := fun x hx => by
  rcases List.mem_append.1 hx with h1 | h1
  · exact h x h1
  · exact k x h1
/-- append, as an operation of a region that draws its order -/
theorem app_op {w : World} {o : Oper} {a : Act} {K : Act → World → Prop} {Q : Exit → Act → World → Prop} (s x : Operand)
    (ho : o.op = .call { callee := .builtin .append, args := #[s, x], argTypes := #[22, 22] }) (b : Nat) (v : Value) (L : List Int) (hs : a.eval s = v) (hown : Ob b w v L)
    (sp : Option Addr) (n sc : Nat) (l : List Int) (hx : a.eval x = .slice sp n sc) (hn : l.length = n) (hsl : Sl w sp l) (hbig : L.length + n ≤ 180000000000000) (hB : b ≤ w.heap.size)
    (h : ∀ v' w', Ob b w' v' (L ++ l) → w.grownBy w' v.ownBlock → K (a.put o.dst v') w') : o.wp Tryd.prog a w K Q := by
  subst hn
  obtain ⟨i0, hi, hz0, hz1, hz2⟩ := info_parts Tryd.info5
  rcases hsl with rfl | ⟨p, q, rfl, hat⟩
  · obtain ⟨a', c', rfl, hc, _, _⟩ := hown.slice
    have hrun : (Builtin.append_ #[22, 22] o.type #[.slice a' L.length c', .slice sp 0 sc]).run Tryd.prog w = .ok (.slice a' L.length c') w := by
      cases a' <;> cases sp <;> simp [Builtin.append_, run_underlying Tryd.underlying22, sizeOf, typeInfo, hi, Builtin.lenOf, Builtin.firstCells, loadCells, loadCellsFrom, storeCells, hc]
    unfold Oper.wp
    simp [execOp, ho, resolve, invoke, builtin, hs, hx, hrun, Result.andThen]
    exact h _ _ (by rw [List.append_nil]; exact hown) (World.grownBy.refl _ _)
  · refine wp_append_own_wide w s x 22 ho b 5 i0 (.int .u8 0) 1 1 Tryd.underlying22 hi hz0 hz1 hz2 rfl (by decide) v L.length _ hs hown ⟨p, q, none⟩ l.length sc (l.map (Value.int .u8)) hx (by simp) ?_ ?_ (by unfold maxLen; omega) (by omega) hB ?_
    · intro j u hj
      have hjl : j < l.length := by have := (List.getElem?_eq_some_iff.1 hj).1; simpa using this
      rw [Addr.add_mid, hat j hjl]
      simp [hjl] at hj ⊢
      exact hj
    · intro u hu
      obtain ⟨y, _, rfl⟩ := List.mem_map.1 hu
      rfl
    · intro v' w' h1 h2 _
      refine h v' w' ?_ h2
      unfold Ob
      rw [List.length_append, List.map_append]
      exact h1
theorem ob_of {w : World} {b g n : Nat} {X : List Int} (h : w.heap[g]? = some (.cells (kc X) 5 (0, 0))) (hn : X.length = n) (hg : b ≤ g) (hb : n ≤ 140737488351232) : Ob b w (.slice (some ⟨g, 0, none⟩) n n) X := by
  subst hn
  exact ⟨by simp, .inr ⟨g, X.length, kc X, rfl, hg, h, Nat.le_refl _, by unfold maxLen; omega, by rw [kc_size, Nat.mul_one], by unfold kc; rw [Nat.mul_one]; exact List.take_of_length_le (by simp)⟩⟩
theorem Ob.lb {b : Nat} {w : World} {v : Value} {L : List Int} (h : Ob b w v L) (hb : IsB L) : ∃ a c, v = .slice a L.length c ∧ Lb w a L.length c L := by
  obtain ⟨a, c, h1, h2, h3, h4⟩ := h.slice
  exact ⟨a, c, h1, rfl, hb, h4, h2, by unfold maxLen at h3; omega⟩
/-- a slice is made, as an operation of a region that draws its order -/
theorem make_op {w : World} {o : Oper} {a : Act} {K : Act → World → Prop} {Q : Exit → Act → World → Prop} (l c : Operand) (hop : o.op = Op.makeSlice 22 l c) (n m : Nat) (hl : a.eval l = .int .i64 n) (hc : a.eval c = .int .i64 m) (hnm : n ≤ m) (hn : m ≤ 281474976710656)
    (h : K (a.put o.dst (.slice (some ⟨w.heap.size, 0, none⟩) n m)) (w.alloc (.cells (kc (List.replicate m 0)) 5 (0, 0)))) : o.wp Tryd.prog a w K Q := by
  obtain ⟨i, h2, h3, h4, h5⟩ := info_parts Tryd.info5
  have hrun := run_make (P := Tryd.prog) w 22 5 i (.int .u8 0) Tryd.underlying22 h2 h3 .i64 .i64 (n : Int) (m : Int) (by omega) (by omega) (by rw [h5]; omega) (by omega)
  rw [h4] at hrun
  have e : madeCells (Value.int .u8 0).cells m = kc (List.replicate m 0) := by
    apply Array.ext
    · simp [size_madeCells, kc]
    · intro i h1 h2
      have : i % 1 = 0 := Nat.mod_one i
      simp [madeCells, Value.cells, this, kc]
  simp only [Int.toNat_natCast, Nat.mul_one, e] at hrun
  unfold Oper.wp
  simp [execOp, hop, hl, hc, hrun, Result.andThen]
  exact h
theorem exec_upto {a : Act} {o : Oper} (w : World) (x y : Operand) (ho : o.op = .slice 22 x none (some y) none) (s : Option Addr) (len cap n : Nat) (hx : a.eval x = .slice s len cap) (hy : a.eval y = .int .i64 n) (hc : len ≤ cap) (hn : n ≤ len) :
    (execOp a.eval o).run Tryd.prog w = .ok (.value (.slice (if cap = 0 then s else s.map (·.add 0)) n cap)) w := by
  have h1 : (0 : Int) ≤ n := by omega
  have h2 : (n : Int) ≤ cap := by omega
  have hu : Tryd.prog.underlying 22 = some (.slice (Tryd.prog.elem 22)) := by kernel_rfl
  have hz : (sizeOf (Tryd.prog.elem 22)).run Tryd.prog w = .ok 1 w := by kernel_rfl
  simp [execOp, ho, hx, hy, run_sliceAt_slice _ _ _ _ _ _ hu, run_slice_h _ _ _ _ _ hu _ _ h1 h2, hz, sliced]
theorem exec_from {a : Act} {o : Oper} (w : World) (x y : Operand) (ho : o.op = .slice 22 x (some y) none none) (s : Option Addr) (len cap n : Nat) (hx : a.eval x = .slice s len cap) (hy : a.eval y = .int .i64 n) (hc : len ≤ cap) (hn : n ≤ len) :
    (execOp a.eval o).run Tryd.prog w = .ok (.value (.slice (if cap = n then s else s.map (·.add n)) (len - n) (cap - n))) w := by
  have h1 : (0 : Int) ≤ n := by omega
  have h2 : (n : Int) ≤ len := by omega
  have hu : Tryd.prog.underlying 22 = some (.slice (Tryd.prog.elem 22)) := by kernel_rfl
  have hz : (sizeOf (Tryd.prog.elem 22)).run Tryd.prog w = .ok 1 w := by kernel_rfl
  simp [execOp, ho, hx, hy, run_sliceAt_slice _ _ _ _ _ _ hu, run_slice_l _ _ _ _ _ hu _ _ h1 h2, hz, sliced]
/-- parts that are xored from their blocks on -/
theorem cn_cn (c : Int) (k j : Nat) : cn (cn c k) j = cn c (k + j) := by unfold cn; omega
theorem w32_cn (c : Int) (k : Nat) : W32 (cn c k) := by unfold W32 cn; omega
/-- noughts make the stream -/
theorem xl_zero (K N : List Int) (c : Int) (n i : Nat) (h : i < n) : (xl K N c (List.replicate n 0)).getD i 0 = sf K N c i := by
  rw [xl_get _ _ _ _ _ (by simp; exact h)]
  unfold xf
  rw [show (List.replicate n (0 : Int)).getD i 0 = 0 from by simp [h]]
  exact xb_zero _ (sf_rng _ _ _ _)
theorem rep_isB (n : Nat) : IsB (List.replicate n 0) := fun x hx => by have := List.eq_of_mem_replicate hx; omega
/-- rows of numbers -/
def nc (l : List Nat) : List Value := l.map (fun x : Nat => Value.int .i64 (x : Int))
/-- a row of numbers that the call itself has made -/
def Oi (b : Nat) (w : World) (v : Value) (L : List Nat) : Prop := w.ownsRow b 3 1 v L.length (nc L)
theorem Ob.up {b b' : Nat} {w : World} {v : Value} {L : List Int} (h : Ob b w v L) (k : b' ≤ b) : Ob b' w v L := by
  obtain ⟨h1, h2 | ⟨g, cap, cur, h2, h3, h4, h5⟩⟩ := h
  · exact ⟨h1, .inl h2⟩
  · exact ⟨h1, .inr ⟨g, cap, cur, h2, by omega, h4, h5⟩⟩
theorem Oi.up {b b' : Nat} {w : World} {v : Value} {L : List Nat} (h : Oi b w v L) (k : b' ≤ b) : Oi b' w v L := by
  obtain ⟨h1, h2 | ⟨g, cap, cur, h2, h3, h4⟩⟩ := h
  · exact ⟨h1, .inl h2⟩
  · exact ⟨h1, .inr ⟨g, cap, cur, h2, Nat.le_trans k h3, h4⟩⟩
/-- The number whose low form is l. -/
def lowN : List Int → Int
  | [] => 0
  | x :: r => x + 256 * lowN r
theorem lowN_bd (l : List Int) (h : IsB l) : 0 ≤ lowN l ∧ lowN l < 256 ^ l.length := by
  induction l with
  | nil => simp [lowN]
  | cons x r ih =>
    have := ih (fun y hy => h y (List.mem_cons_of_mem _ hy))
    have hx := h x (List.mem_cons_self ..)
    simp only [lowN, List.length_cons]
    rw [Int.pow_succ]
    omega
theorem lowN_append (l m : List Int) : lowN (l ++ m) = lowN l + 256 ^ l.length * lowN m := by
  induction l with
  | nil => simp [lowN]
  | cons x r ih =>
    simp only [List.cons_append, lowN, ih, List.length_cons, Int.pow_succ, Int.mul_add]
    rw [Int.add_assoc, ← Int.mul_assoc, Int.mul_comm 256 (256 ^ _)]
theorem lowN_snoc (l : List Int) (c : Int) : lowN (l ++ [c]) = lowN l + c * 256 ^ l.length := by
  rw [lowN_append, Int.mul_comm]
  simp [lowN]
theorem or_step (X y : Int) (k : Nat) (hk : k < 8) (h0 : 0 ≤ X) (h1 : X < 256 ^ k) (hy0 : 0 ≤ y) (hy1 : y < 256) :
    bits .or .u64 X (IntKind.u64.wrap (y * 2 ^ (8 * k))) = X + y * 256 ^ k := by
  obtain ⟨N, rfl⟩ := Int.eq_ofNat_of_zero_le h0
  obtain ⟨Y, rfl⟩ := Int.eq_ofNat_of_zero_le hy0
  have e : (256 : Nat) ^ k = 2 ^ (8 * k) := by rw [Nat.pow_mul]
  have e1 : (256 : Int) ^ k = ((2 ^ (8 * k) : Nat) : Int) := by rw [← e]; simp
  have e2 : (2 : Int) ^ (8 * k) = ((2 ^ (8 * k) : Nat) : Int) := by simp
  have hN : N < 2 ^ (8 * k) := by rw [e1] at h1; omega
  have hY : Y < 256 := by omega
  have hle : 2 ^ (8 * k) ≤ 2 ^ 56 := Nat.pow_le_pow_right (by omega) (by omega)
  rw [e1, e2]
  generalize hP : 2 ^ (8 * k) = P at *
  have hYP : Y * P < 18446744073709551616 := by
    have : Y * P ≤ 255 * P := Nat.mul_le_mul_right _ (by omega)
    omega
  have e3 : IntKind.u64.wrap ((Y : Int) * (P : Int)) = ((Y * P : Nat) : Int) := by
    rw [IntKind.wrap_u64]
    rw [← Int.natCast_mul]
    omega
  rw [e3, u64_or_nat N (Y * P) (by omega) hYP]
  have := nat_join (8 * k) (Y * P) N (by rw [hP]; exact Nat.mul_mod_left _ _) (by rw [hP]; exact hN)
  rw [Nat.or_comm] at this
  rw [this]
  rw [← Int.natCast_mul]
  omega
theorem take_snoc_getD (l : List Int) (k : Nat) (h : k < l.length) : l.take (k + 1) = l.take k ++ [l.getD k 0] := by
  rw [List.take_succ_eq_append_getElem h, List.getD_eq_getElem?_getD, List.getElem?_eq_getElem h]; rfl
theorem lowN_step (l : List Int) (k : Nat) (y : Int) (h : k < l.length) (h8 : l.length ≤ 8) (hb : IsB l) (hy : y = l.getD k 0) :
    bits .or .u64 (lowN (l.take k)) (IntKind.u64.wrap (y * 2 ^ (8 * k))) = lowN (l.take (k + 1)) := by
  have hm := hb.at_ k
  have hbd := lowN_bd (l.take k) (hb.take k)
  have hlen : (l.take k).length = k := by simp; omega
  rw [hlen] at hbd
  rw [take_snoc_getD l k h, lowN_snoc, hlen, ← hy]
  rw [← hy] at hm
  exact or_step _ _ k (by omega) hbd.1 hbd.2 hm.1 hm.2
set_option maxHeartbeats 400000 in
theorem onum_ok (p o n c : Nat) (l : List Int) (w : World) (hl : l.length = n) (hn : n ≤ 8) (hb : IsB l) (hat : At w p o l) :
    Calls Tryd.prog 50 #[.slice (some ⟨p, o, none⟩) n c] w fun e w' => e = .returned (.int .u64 (lowN l)) ∧ w' = w := by
  have hc : ∀ i, i < n → w.cell? ⟨p, o + i, none⟩ = some (.int .u8 (l.getD i 0)) := fun i hi => hat i (by omega)
  clear hat
  go_enter Tryd.func50, Tryd.ntmps50
  go_wp2
  go_loop [3, 8] (fun x i => ∃ k : Nat, k ≤ n ∧ i = .int .i64 k ∧ x = .int .u64 (lowN (l.take k))) (fun _ i => n - (intOf i).toNat)
  case atStart => exact ⟨0, Nat.zero_le _, rfl, by simp [lowN]⟩
  case round =>
    obtain ⟨k, hk, rfl, rfl⟩ := hrel
    by_cases hlt : k < n
    · have hck := hc k hlt
      have hx := hb.at_ k
      obtain ⟨y, hy⟩ : ∃ y, y = l.getD k 0 := ⟨_, rfl⟩
      rw [← hy] at hck hx
      have HB : Hid (∀ y, y = l.getD k 0 → bits .or .u64 (lowN (l.take k)) (IntKind.u64.wrap (y * 2 ^ (8 * k))) = lowN (l.take (k + 1))) := fun y hy => lowN_step l k y (by omega) (by omega) hb hy
      have HY := hide hy
      obtain ⟨hx0, hx1⟩ := hx
      clear hy hc hb
      go_wp2
      go_round
      case rel => exact ⟨k + 1, by omega, by go_num, by rw [unhide HB y HY]⟩
      case measure => simp [intOf]; omega
    · go_wp2
      go_ret
      rw [List.take_of_length_le (by omega)]
      exact ⟨rfl, rfl⟩
/-- bytes laid over bytes -/
def lay (C : List Int) (o : Nat) (S : List Int) : List Int := C.take o ++ (S ++ C.drop (o + S.length))
theorem sp_lay (C S : List Int) (o : Nat) (h : o + S.length ≤ C.length) : sp (C.map (Value.int .u8)) o (S.map (Value.int .u8)) = (lay C o S).map (Value.int .u8) := by
  have e : C = C.take o ++ ((C.drop o).take S.length ++ C.drop (o + S.length)) := by rw [← List.drop_drop, List.take_append_drop, List.take_append_drop]
  have h1 := sp_mid (S.map (Value.int .u8)) ((C.take o).map (Value.int .u8)) (((C.drop o).take S.length).map (Value.int .u8)) ((C.drop (o + S.length)).map (Value.int .u8)) (by simp; omega)
  rw [List.length_map, List.length_take, Nat.min_eq_left (by omega), ← List.map_append, ← List.map_append, ← e] at h1
  rw [h1]
  simp [lay]
/-- copy into a row of bytes -/
theorem laid {w : World} {g o : Nat} {C S : List Int} {t : TypeId} (h : w.heap[g]? = some (.cells (kc C) t (0, 0))) (ho : o + S.length ≤ C.length) : (w.setCells g o (S.map (Value.int .u8))).heap[g]? = some (.cells (kc (lay C o S)) t (0, 0)) := by
  rw [setCells_heap _ w g o (C.map (Value.int .u8)) t h, sp_lay C S o ho]
  rfl
theorem lay_all (C S : List Int) (h : S.length = C.length) : lay C 0 S = S := by
  unfold lay
  rw [List.take_zero, List.nil_append, Nat.zero_add, List.drop_of_length_le (by omega), List.append_nil]
theorem u8_or_nat (a b : Nat) (ha : a < 256) (hb : b < 256) : bits .or .u8 (a : Int) (b : Int) = ((a ||| b : Nat) : Int) := by
  have hx : a ||| b < 2 ^ 8 := Nat.or_lt_two_pow (by omega) (by omega)
  have h1 : (BitVec.ofInt 8 (a : Int)).toNat = a := by
    rw [BitVec.ofInt_natCast, BitVec.toNat_ofNat]; exact Nat.mod_eq_of_lt (by omega)
  have h2 : (BitVec.ofInt 8 (b : Int)).toNat = b := by
    rw [BitVec.ofInt_natCast, BitVec.toNat_ofNat]; exact Nat.mod_eq_of_lt (by omega)
  show IntKind.u8.wrap ((BitVec.ofInt 8 (a : Int) ||| BitVec.ofInt 8 (b : Int)).toNat : Int) = _
  rw [BitVec.toNat_or, h1, h2, IntKind.wrap_u8]
  omega
theorem nat_or_zero (a b : Nat) : a ||| b = 0 ↔ a = 0 ∧ b = 0 := by
  constructor
  · intro h
    have h1 := Nat.left_le_or (n := a) (m := b)
    have h2 := Nat.right_le_or (n := a) (m := b)
    omega
  · rintro ⟨rfl, rfl⟩; rfl
theorem nat_xor_zero (a b : Nat) : a ^^^ b = 0 ↔ a = b := by
  constructor
  · intro h
    have : a ^^^ b ^^^ b = 0 ^^^ b := by rw [h]
    rw [Nat.xor_assoc, Nat.xor_self, Nat.xor_zero, Nat.zero_xor] at this
    exact this
  · rintro rfl; exact Nat.xor_self a
theorem or_xor (u x y : Int) (hu : 0 ≤ u ∧ u < 256) (hx : 0 ≤ x ∧ x < 256) (hy : 0 ≤ y ∧ y < 256) :
    (0 ≤ bits .or .u8 u (bits .xor .u8 x y) ∧ bits .or .u8 u (bits .xor .u8 x y) < 256) ∧ (bits .or .u8 u (bits .xor .u8 x y) = 0 ↔ u = 0 ∧ x = y) := by
  obtain ⟨U, rfl⟩ := Int.eq_ofNat_of_zero_le hu.1
  obtain ⟨X, rfl⟩ := Int.eq_ofNat_of_zero_le hx.1
  obtain ⟨Y, rfl⟩ := Int.eq_ofNat_of_zero_le hy.1
  have h1 : X ^^^ Y < 256 := Nat.xor_lt_two_pow (n := 8) (by omega) (by omega)
  rw [u8_xor_nat X Y (by omega) (by omega), u8_or_nat U (X ^^^ Y) (by omega) h1]
  have h2 : U ||| (X ^^^ Y) < 256 := Nat.or_lt_two_pow (n := 8) (by omega) h1
  have h3 := nat_or_zero U (X ^^^ Y)
  have h4 := nat_xor_zero X Y
  refine ⟨by omega, ?_⟩
  constructor
  · intro h
    have := h3.1 (by omega)
    exact ⟨by omega, by have := h4.1 this.2; omega⟩
  · rintro ⟨h, h'⟩
    have := h3.2 ⟨by omega, h4.2 (by omega)⟩
    omega
theorem take_eq_step (l m : List Int) (k : Nat) (hl : k < l.length) (hm : k < m.length) : l.take (k + 1) = m.take (k + 1) ↔ l.take k = m.take k ∧ l.getD k 0 = m.getD k 0 := by
  have e : ∀ x : List Int, k < x.length → x.take (k + 1) = x.take k ++ [x.getD k 0] := fun x hx => by
    rw [List.take_add_one, List.getElem?_eq_getElem hx]
    simp [hx]
  rw [e l hl, e m hm]
  constructor
  · intro h
    have := List.append_inj h (by simp; omega)
    exact ⟨this.1, by simpa using this.2⟩
  · rintro ⟨h1, h2⟩; rw [h1, h2]
/-- what the loop has gathered so far -/
def Unl (l m : List Int) (k : Nat) (u : Int) : Prop := (0 ≤ u ∧ u < 256) ∧ (u = 0 ↔ l.take k = m.take k)
theorem Unl.step {l m : List Int} {k : Nat} {u x y : Int} (h : Unl l m k u) (hl : k < l.length) (hm : k < m.length) (hx : x = l.getD k 0) (hy : y = m.getD k 0) (bl : IsB l) (bm : IsB m) :
    Unl l m (k + 1) (bits .or .u8 u (bits .xor .u8 x y)) := by
  subst hx; subst hy
  have := or_xor u _ _ h.1 (bl.at_ k) (bm.at_ k)
  refine ⟨this.1, ?_⟩
  rw [this.2, take_eq_step l m k hl hm, h.2]
set_option maxHeartbeats 1000000 in
theorem oequal_ok (l m : List Int) (a a' : Option Addr) (n c c' : Nat) (hn : n ≤ 281474976710656) (w : World) (la : Lb w a n c l) (lb : Lb w a' n c' m) :
    Calls Tryd.prog 24 #[.slice a n c, .slice a' n c'] w (fun e w' => e = .returned (.bool (decide (l = m))) ∧ w' = w) := by
  have hl := hide la.len
  have hm := hide lb.len
  replace la := hide la
  replace lb := hide lb
  go_enter Tryd.func24, Tryd.ntmps24
  go_wp2_with fail
  go_loopw [5, 15] (fun x i wr => ∃ (k : Nat) (u : Int), k ≤ n ∧ i = .int .i64 k ∧ x = .int .u8 u ∧ Hid (Unl l m k u) ∧ wr = w) (fun _ i _ => n - (intOf i).toNat)
  case atStart => exact ⟨0, 0, Nat.zero_le _, rfl, rfl, (⟨by omega, by simp⟩ : Unl l m 0 0), rfl⟩
  case round =>
  obtain ⟨k, u, hk, rfl, rfl, hU, rfl⟩ := hrel
  by_cases hlt : k < n
  · obtain ⟨p, o, rfl, c0⟩ : ∃ p o, a = some ⟨p, o, none⟩ ∧ wr.cell? ⟨p, o + k, none⟩ = some (.int .u8 (l.getD k 0)) := by
      rcases (unhide la).sl with h | ⟨p, o, h1, h2⟩
      · have := unhide hl
        rw [h] at this
        simp at this
        omega
      · exact ⟨p, o, h1, h2 k (by rw [unhide hl]; exact hlt)⟩
    obtain ⟨p', o', rfl, c1⟩ : ∃ p o, a' = some ⟨p, o, none⟩ ∧ wr.cell? ⟨p, o + k, none⟩ = some (.int .u8 (m.getD k 0)) := by
      rcases (unhide lb).sl with h | ⟨p, o, h1, h2⟩
      · have := unhide hm
        rw [h] at this
        simp at this
        omega
      · exact ⟨p, o, h1, h2 k (by rw [unhide hm]; exact hlt)⟩
    obtain ⟨x, hx⟩ : ∃ x, x = l.getD k 0 := ⟨_, rfl⟩
    obtain ⟨y, hy⟩ : ∃ y, y = m.getD k 0 := ⟨_, rfl⟩
    rw [← hx] at c0
    rw [← hy] at c1
    have HS := hide ((unhide hU).step (by rw [unhide hl]; exact hlt) (by rw [unhide hm]; exact hlt) hx hy (unhide la).isB (unhide lb).isB)
    clear hx hy hU
    have kI : (k : Int) < (n : Int) := by omega
    go_wp2_with fail
    go_roundw
    case rel => exact ⟨k + 1, _, by omega, by go_num, rfl, HS, trivial⟩
    case measure => simp [intOf]; omega
  · have kI : ¬ (k : Int) < (n : Int) := by omega
    have e : l.take k = l ∧ m.take k = m := ⟨List.take_of_length_le (by rw [unhide hl]; omega), List.take_of_length_le (by rw [unhide hm]; omega)⟩
    have hU2 := (unhide hU).2
    rw [e.1, e.2] at hU2
    have HU := hide (show (u == 0) = decide (l = m) by rw [Bool.eq_iff_iff]; simpa using hU2)
    clear hU hU2 e
    go_wp2_with fail
    refine bodyPost_ret (v := .bool (u == 0)) (by simp [results, Tryd.results24, go_sem]) rfl ⟨?_, rfl⟩
    rw [unhide HU]
/-- the bytes of a text -/
def tb (s : ByteArray) : List Int := s.data.toList.map fun x => ((x.toNat : Nat) : Int)
theorem tb_len (s : ByteArray) : (tb s).length = s.size := by unfold tb; simp
theorem tb_isB (s : ByteArray) : IsB (tb s) := by
  intro x hx
  obtain ⟨y, _, rfl⟩ := List.mem_map.1 hx
  have := y.toNat_lt
  omega
theorem tb_cells (s : ByteArray) : Lib.strCells s = (tb s).map (Value.int .u8) := by unfold Lib.strCells tb; simp
/-- a text is put behind bytes of one's own -/
theorem app_str {w : World} {ops : Array Oper} {rest : List Oper} {o : Oper} {a : Act} {Q : Exit → Act → World → Prop} (hgd : o.guard = none) (s x : Operand)
    (ho : o.op = .call { callee := .builtin .append, args := #[s, x], argTypes := #[22, 9] }) (b : Nat) (v : Value) (L : List Int) (hs : a.eval s = v) (hown : Ob b w v L)
    (t : ByteArray) (hx : a.eval x = .string t) (hbig : L.length + t.size ≤ 140737488355328) (hB : b ≤ w.heap.size)
    (h : ∀ v' w', Ob b w' v' (L ++ tb t) → w.grownBy w' v.ownBlock → wpList Tryd.prog ops Q rest (a.put o.dst v') w') :
    wpList Tryd.prog ops Q (o :: rest) a w := by
  obtain ⟨i0, hi, hz0, hz1, hz2⟩ := info_parts Tryd.info5
  refine Lib.wpList_append_own_string w hgd s x 22 9 ho b 5 i0 Tryd.underlying22 Tryd.underlying9 hi hz0 hz1 hz2 v L.length _ hs hown t hx (by unfold maxLen; omega) hbig hB ?_
  intro v' w' h1 h2 _
  refine h v' w' ?_ h2
  unfold Ob
  rw [List.length_append, List.map_append, tb_len, ← tb_cells]
  exact h1
/-- a text's bytes in a list of their own -/
theorem conv_text (w : World) (t : ByteArray) (ht : t.size ≤ 100000) : ∃ c w', (convert 9 22 (.string t)).run Tryd.prog w = .ok (.slice (some ⟨w.heap.size, 0, none⟩) t.size c) w' ∧ Lb w' (some ⟨w.heap.size, 0, none⟩) t.size c (tb t) ∧ Gr w w' := by
  refine ⟨_, _, run_bytes_of_string w 9 22 5 t Tryd.underlying9 Tryd.underlying22 Tryd.underlying5, ⟨tb_len t, tb_isB t, .inr ⟨_, 0, rfl, fun j hj => ?_⟩, grownCap_ge _ _ _ _, ?_⟩, (Gr.refl w).drew.alloc _⟩
  · rw [tb_len] at hj
    rw [Nat.zero_add]
    refine cell_of (blk_new w.drew _) ?_
    have hj2 : j < t.data.size := hj
    unfold bytesRow tb
    rw [Array.getElem?_append_left (by simpa using hj2)]
    simp [hj2, Array.getElem?_eq_getElem hj2]
  · have := grownCap_le_maxLen w t.size 0 5 (by unfold maxLen; omega)
    unfold maxLen at this
    omega
theorem exec_conv {P : Program} {o : Oper} {a : Act} {w w' : World} {s d : TypeId} (x : Operand) (ho : o.op = .convert s d x) (v r : Value) (hx : a.eval x = v) (h : (convert s d v).run P w = .ok r w') : (execOp a.eval o).run P w = .ok (.value r) w' := by
  simp [execOp, ho, hx, h]
/-- a text is put behind a row that is full -/
theorem app_key {w : World} {ops : Array Oper} {rest : List Oper} {o : Oper} {a : Act} {Q : Exit → Act → World → Prop} (hw : Region.wanted o (yielded ops a.tmps) = true) (s x : Operand)
    (ho : o.op = .call { callee := .builtin .append, args := #[s, x], argTypes := #[22, 9] }) (g n : Nat) (L : List Int) (hn : L.length = n) (hb : IsB L) (hs : a.eval s = .slice (some ⟨g, 0, none⟩) n n) (hat : At w g 0 L)
    (t : ByteArray) (hx : a.eval x = .string t) (hbig : n + t.size ≤ 100000)
    (h : ∀ a' m c' w', m = n + t.size → Lb w' a' m c' (L ++ tb t) → Gr w w' → wpList Tryd.prog ops Q rest (a.put o.dst (.slice a' m c')) w') :
    wpList Tryd.prog ops Q (o :: rest) a w := by
  obtain ⟨i0, hi, hz0, hz1, hz2⟩ := info_parts Tryd.info5
  rw [wpList, if_pos hw]
  refine Or.inl ?_
  have hl : (L ++ tb t).length = n + t.size := by rw [List.length_append, hn, tb_len]
  by_cases h0 : t.size = 0
  · have hrun : (Builtin.append_ #[22, 9] o.type #[.slice (some ⟨g, 0, none⟩) n n, .string t]).run Tryd.prog w = .ok (.slice (some ⟨g, 0, none⟩) n n) w := by
      have hf := Lib.run_firstCells_string (P := Tryd.prog) w 1 t
      have e : Lib.strCells t = [] := List.eq_nil_of_length_eq_zero (by rw [Lib.strCells_length]; exact h0)
      rw [h0, e] at hf
      simp [Builtin.append_, run_underlying Tryd.underlying22, run_underlying Tryd.underlying9, sizeOf, typeInfo, hi, hz1, Builtin.lenOf, h0, hf, storeCells]
    have e2 : tb t = [] := List.eq_nil_of_length_eq_zero (by rw [tb_len]; exact h0)
    unfold Oper.wp
    simp [execOp, ho, resolve, invoke, builtin, hs, hx, hrun, Result.andThen]
    exact h _ _ _ _ (by omega) ⟨by rw [hl, h0, Nat.add_zero], by rw [e2, List.append_nil]; exact hb, .inr ⟨g, 0, rfl, by rw [e2, List.append_nil]; exact hat⟩, by omega, by omega⟩ (Gr.refl w)
  · have hold : ∀ j v, (L.map (Value.int .u8))[j]? = some v → w.cell? ((⟨g, 0, none⟩ : Addr).add j) = some v := by
      intro j v hj
      have hjl : j < L.length := by have := (List.getElem?_eq_some_iff.1 hj).1; simpa using this
      rw [Addr.add_mid, hat j hjl]
      simp [hjl] at hj ⊢
      exact hj
    have hrun := Lib.run_append_grow_string (P := Tryd.prog) w 22 9 o.type 5 i0 (.int .u8 0) Tryd.underlying22 Tryd.underlying9 hi hz0 ⟨g, 0, none⟩ n n (L.map (Value.int .u8)) (by rw [hz1, List.length_map, hn, Nat.mul_one]) hold t (by omega) (by omega) (by rw [hz2]; exact growslice_fits (by omega) (by omega))
    unfold Oper.wp
    simp [execOp, ho, resolve, invoke, builtin, hs, hx, hrun, Result.andThen]
    refine h _ _ _ _ rfl ⟨hl, isB_append hb (tb_isB t), .inr ⟨_, 0, rfl, fun j hj => ?_⟩, grownCap_ge _ _ _ _, ?_⟩ ((Gr.refl w).drew.alloc _)
    · rw [hl] at hj
      rw [Nat.zero_add]
      refine cell_of (blk_new w.drew _) ?_
      rw [tb_cells, Array.getElem?_append_left (by simp [hn, tb_len]; omega)]
      simp only [List.append_toArray, List.getElem?_toArray]
      rw [← List.map_append, List.getElem?_map, List.getElem?_eq_getElem (by rw [hl]; exact hj)]
      simp [List.getD_eq_getElem?_getD, List.getElem?_eq_getElem (show j < (L ++ tb t).length from by rw [hl]; exact hj)]
    · have := grownCap_le_maxLen w (n + t.size) n 5 (by unfold maxLen; omega)
      unfold maxLen at this
      omega
end Go.Proofs.YtdfcdklnngfhkaaDoor
