/-
  Of layer 12: what the proof leans on.
-/
import Derived.Deep.DeepAppendWide
import Derived.Test.YtaoiejgjdmakjaaDoorDoesK4
namespace Go.Proofs.YtaoiejgjdmakjaaDoor
open Go.RowKit
set_option maxRecDepth 100000
set_option linter.unusedSimpArgs false
set_option linter.unusedVariables false
theorem IsB.take {B : List Int} (h : IsB B) (n : Nat) : IsB (B.take n) := fun x hx => h x (List.mem_of_mem_take hx)
theorem kc_lb {w : World} {g : Nat} {X : List Int} {t : TypeId} {n : Nat} (h : w.heap[g]? = some (.cells (kc X) t (0, 0))) (hn : X.length = n) (hX : IsB X) (hb : n < 9223372036854775808) : Lb w (some ⟨g, 0, none⟩) n n X := ⟨hn, hX, .inr ⟨g, 0, rfl, kc_at h⟩, Nat.le_refl _, hb⟩
theorem ob_of {w : World} {b g n : Nat} {X : List Int} (h : w.heap[g]? = some (.cells (kc X) 5 (0, 0))) (hn : X.length = n) (hg : b ≤ g) (hb : n ≤ 140737488351232) : Ob b w (.slice (some ⟨g, 0, none⟩) n n) X := by
  subst hn
  exact ⟨by simp, .inr ⟨g, X.length, kc X, rfl, hg, h, Nat.le_refl _, by unfold maxLen; omega, by rw [kc_size, Nat.mul_one], by unfold kc; rw [Nat.mul_one]; exact List.take_of_length_le (by simp)⟩⟩
theorem Ob.lb {b : Nat} {w : World} {v : Value} {L : List Int} (h : Ob b w v L) (hb : IsB L) : ∃ a c, v = .slice a L.length c ∧ Lb w a L.length c L := by
  obtain ⟨a, c, h1, h2, h3, h4⟩ := h.slice
  exact ⟨a, c, h1, rfl, hb, h4, h2, by unfold maxLen at h3; omega⟩
theorem make_op {w : World} {o : Oper} {a : Act} {K : Act → World → Prop} {Q : Exit → Act → World → Prop} (l c : Operand) (hop : o.op = Op.makeSlice 32 l c) (n m : Nat) (hl : a.eval l = .int .i64 n) (hc : a.eval c = .int .i64 m) (hnm : n ≤ m) (hn : m ≤ 281474976710656)
    (h : K (a.put o.dst (.slice (some ⟨w.heap.size, 0, none⟩) n m)) (w.alloc (.cells (kc (List.replicate m 0)) 5 (0, 0)))) : o.wp Tryd.prog a w K Q := by
  obtain ⟨i, h2, h3, h4, h5⟩ := info_parts Tryd.info5
  have hrun := run_make (P := Tryd.prog) w 32 5 i (.int .u8 0) Tryd.underlying32 h2 h3 .i64 .i64 (n : Int) (m : Int) (by omega) (by omega) (by rw [h5]; omega) (by omega)
  rw [h4] at hrun
  have e : madeCells (Value.int .u8 0).cells m = kc (List.replicate m 0) := by
    apply Array.ext
    · simp [size_madeCells, kc]
    · intro i h1 h2
      have : i % 1 = 0 := Nat.mod_one i
      simp [madeCells, Value.cells, this, kc]
  simp only [Int.toNat_natCast, Nat.mul_one, e] at hrun
  unfold Oper.wp
  simp [execOp, hop, hl, hc, hrun, Result.andThen]
  exact h
theorem exec_upto {a : Act} {o : Oper} (w : World) (x y : Operand) (ho : o.op = .slice 32 x none (some y) none) (s : Option Addr) (len cap n : Nat) (hx : a.eval x = .slice s len cap) (hy : a.eval y = .int .i64 n) (hc : len ≤ cap) (hn : n ≤ len) :
    (execOp a.eval o).run Tryd.prog w = .ok (.value (.slice (if cap = 0 then s else s.map (·.add 0)) n cap)) w := by
  have h1 : (0 : Int) ≤ n := by omega
  have h2 : (n : Int) ≤ cap := by omega
  have hu : Tryd.prog.underlying 32 = some (.slice (Tryd.prog.elem 32)) := by kernel_rfl
  have hz : (sizeOf (Tryd.prog.elem 32)).run Tryd.prog w = .ok 1 w := by kernel_rfl
  simp [execOp, ho, hx, hy, run_sliceAt_slice _ _ _ _ _ _ hu, run_slice_h _ _ _ _ _ hu _ _ h1 h2, hz, sliced]
theorem exec_from {a : Act} {o : Oper} (w : World) (x y : Operand) (ho : o.op = .slice 32 x (some y) none none) (s : Option Addr) (len cap n : Nat) (hx : a.eval x = .slice s len cap) (hy : a.eval y = .int .i64 n) (hc : len ≤ cap) (hn : n ≤ len) :
    (execOp a.eval o).run Tryd.prog w = .ok (.value (.slice (if cap = n then s else s.map (·.add n)) (len - n) (cap - n))) w := by
  have h1 : (0 : Int) ≤ n := by omega
  have h2 : (n : Int) ≤ len := by omega
  have hu : Tryd.prog.underlying 32 = some (.slice (Tryd.prog.elem 32)) := by kernel_rfl
  have hz : (sizeOf (Tryd.prog.elem 32)).run Tryd.prog w = .ok 1 w := by kernel_rfl
  simp [execOp, ho, hx, hy, run_sliceAt_slice _ _ _ _ _ _ hu, run_slice_l _ _ _ _ _ hu _ _ h1 h2, hz, sliced]
theorem lowN_append (l m : List Int) : lowN (l ++ m) = lowN l + 256 ^ l.length * lowN m := by
  induction l with
  | nil => simp [lowN]
  | cons x r ih =>
    simp only [List.cons_append, lowN, ih, List.length_cons, Int.pow_succ, Int.mul_add]
    rw [Int.add_assoc, ← Int.mul_assoc, Int.mul_comm 256 (256 ^ _)]
theorem lowN_snoc (l : List Int) (c : Int) : lowN (l ++ [c]) = lowN l + c * 256 ^ l.length := by
  rw [lowN_append, Int.mul_comm]
  simp [lowN]
theorem or_step (X y : Int) (k : Nat) (hk : k < 8) (h0 : 0 ≤ X) (h1 : X < 256 ^ k) (hy0 : 0 ≤ y) (hy1 : y < 256) :
    bits .or .u64 X (IntKind.u64.wrap (y * 2 ^ (8 * k))) = X + y * 256 ^ k := by
  obtain ⟨N, rfl⟩ := Int.eq_ofNat_of_zero_le h0
  obtain ⟨Y, rfl⟩ := Int.eq_ofNat_of_zero_le hy0
  have e : (256 : Nat) ^ k = 2 ^ (8 * k) := by rw [Nat.pow_mul]
  have e1 : (256 : Int) ^ k = ((2 ^ (8 * k) : Nat) : Int) := by rw [← e]; simp
  have e2 : (2 : Int) ^ (8 * k) = ((2 ^ (8 * k) : Nat) : Int) := by simp
  have hN : N < 2 ^ (8 * k) := by rw [e1] at h1; omega
  have hY : Y < 256 := by omega
  have hle : 2 ^ (8 * k) ≤ 2 ^ 56 := Nat.pow_le_pow_right (by omega) (by omega)
  rw [e1, e2]
  generalize hP : 2 ^ (8 * k) = P at *
  have hYP : Y * P < 18446744073709551616 := by
    have : Y * P ≤ 255 * P := Nat.mul_le_mul_right _ (by omega)
    omega
  have e3 : IntKind.u64.wrap ((Y : Int) * (P : Int)) = ((Y * P : Nat) : Int) := by
    rw [IntKind.wrap_u64]
    rw [← Int.natCast_mul]
    omega
  rw [e3, u64_or_nat N (Y * P) (by omega) hYP]
  have := nat_join (8 * k) (Y * P) N (by rw [hP]; exact Nat.mul_mod_left _ _) (by rw [hP]; exact hN)
  rw [Nat.or_comm] at this
  rw [this]
  rw [← Int.natCast_mul]
  omega
theorem take_snoc_getD (l : List Int) (k : Nat) (h : k < l.length) : l.take (k + 1) = l.take k ++ [l.getD k 0] := by
  rw [List.take_succ_eq_append_getElem h, List.getD_eq_getElem?_getD, List.getElem?_eq_getElem h]; rfl
theorem lowN_step (l : List Int) (k : Nat) (y : Int) (h : k < l.length) (h8 : l.length ≤ 8) (hb : IsB l) (hy : y = l.getD k 0) :
    bits .or .u64 (lowN (l.take k)) (IntKind.u64.wrap (y * 2 ^ (8 * k))) = lowN (l.take (k + 1)) := by
  have hm := hb.at_ k
  have hbd := lowN_bd (l.take k) (hb.take k)
  have hlen : (l.take k).length = k := by simp; omega
  rw [hlen] at hbd
  rw [take_snoc_getD l k h, lowN_snoc, hlen, ← hy]
  rw [← hy] at hm
  exact or_step _ _ k (by omega) hbd.1 hbd.2 hm.1 hm.2
set_option maxHeartbeats 400000 in
theorem onum_ok (p o n c : Nat) (l : List Int) (w : World) (hl : l.length = n) (hn : n ≤ 8) (hb : IsB l) (hat : At w p o l) :
    Calls Tryd.prog 96 #[.slice (some ⟨p, o, none⟩) n c] w fun e w' => e = .returned (.int .u64 (lowN l)) ∧ w' = w := by
  have hc : ∀ i, i < n → w.cell? ⟨p, o + i, none⟩ = some (.int .u8 (l.getD i 0)) := fun i hi => hat i (by omega)
  clear hat
  go_enter Tryd.func96, Tryd.ntmps96
  go_wp2
  go_loop [3, 8] (fun x i => ∃ k : Nat, k ≤ n ∧ i = .int .i64 k ∧ x = .int .u64 (lowN (l.take k))) (fun _ i => n - (intOf i).toNat)
  case atStart => exact ⟨0, Nat.zero_le _, rfl, by simp [lowN]⟩
  case round =>
    obtain ⟨k, hk, rfl, rfl⟩ := hrel
    by_cases hlt : k < n
    · have hck := hc k hlt
      have hx := hb.at_ k
      obtain ⟨y, hy⟩ : ∃ y, y = l.getD k 0 := ⟨_, rfl⟩
      rw [← hy] at hck hx
      have HB : Hid (∀ y, y = l.getD k 0 → bits .or .u64 (lowN (l.take k)) (IntKind.u64.wrap (y * 2 ^ (8 * k))) = lowN (l.take (k + 1))) := fun y hy => lowN_step l k y (by omega) (by omega) hb hy
      have HY := hide hy
      obtain ⟨hx0, hx1⟩ := hx
      clear hy hc hb
      go_wp2
      go_round
      case rel => exact ⟨k + 1, by omega, by go_num, by rw [unhide HB y HY]⟩
      case measure => simp [intOf]; omega
    · go_wp2
      go_ret
      rw [List.take_of_length_le (by omega)]
      exact ⟨rfl, rfl⟩
def lay (C : List Int) (o : Nat) (S : List Int) : List Int := C.take o ++ (S ++ C.drop (o + S.length))
theorem sp_lay (C S : List Int) (o : Nat) (h : o + S.length ≤ C.length) : sp (C.map (Value.int .u8)) o (S.map (Value.int .u8)) = (lay C o S).map (Value.int .u8) := by
  have e : C = C.take o ++ ((C.drop o).take S.length ++ C.drop (o + S.length)) := by rw [← List.drop_drop, List.take_append_drop, List.take_append_drop]
  have h1 := sp_mid (S.map (Value.int .u8)) ((C.take o).map (Value.int .u8)) (((C.drop o).take S.length).map (Value.int .u8)) ((C.drop (o + S.length)).map (Value.int .u8)) (by simp; omega)
  rw [List.length_map, List.length_take, Nat.min_eq_left (by omega), ← List.map_append, ← List.map_append, ← e] at h1
  rw [h1]
  simp [lay]
theorem laid {w : World} {g o : Nat} {C S : List Int} {t : TypeId} (h : w.heap[g]? = some (.cells (kc C) t (0, 0))) (ho : o + S.length ≤ C.length) : (w.setCells g o (S.map (Value.int .u8))).heap[g]? = some (.cells (kc (lay C o S)) t (0, 0)) := by
  rw [setCells_heap _ w g o (C.map (Value.int .u8)) t h, sp_lay C S o ho]
  rfl
def filled (l : List Int) (x : Int) (size k : Nat) : List Int := l ++ (lowL x k ++ List.replicate (size - k) 0)
theorem filled_len (l : List Int) (x : Int) (size k : Nat) (h : k ≤ size) : (filled l x size k).length = l.length + size := by simp [filled, lowL_len]; omega
theorem filled_step (l : List Int) (x : Int) (size k : Nat) (h : k < size) : (filled l x size k).set (l.length + k) (x / 256 ^ k % 256) = filled l x size (k + 1) := by
  unfold filled
  rw [List.set_append_right _ _ (by omega), Nat.add_sub_cancel_left, List.set_append_right _ _ (by rw [lowL_len]; exact Nat.le_refl _), lowL_len, Nat.sub_self, lowL_snoc]
  obtain ⟨j, hj⟩ : ∃ j, size - k = j + 1 := ⟨size - k - 1, by omega⟩
  rw [hj, show size - (k + 1) = j by omega]
  simp [List.replicate_succ]
theorem lay_len (C : List Int) (o : Nat) (S : List Int) (h : o + S.length ≤ C.length) : (lay C o S).length = C.length := by
  unfold lay
  simp only [List.length_append, List.length_take, List.length_drop]
  omega
theorem Lb.nil0 (w : World) : Lb w none 0 0 [] := ⟨rfl, (by intro x hx; cases hx), .inl rfl, by omega, by omega⟩
def Mkd (L : List Int) (w : World) (r : Ending) (w' : World) : Prop := ∃ g, r = .returned (.slice (some ⟨g, 0, none⟩) L.length L.length) ∧ w.heap.size ≤ g ∧ w'.heap[g]? = some (.cells (kc L) 5 (0, 0)) ∧ Gr w w'
set_option maxHeartbeats 4000000 in
theorem put_ok (B : List Int) (s : Option Addr) (n cap : Nat) (x : Int) (hx : 0 ≤ x) (hn : n ≤ 1000) (w : World) (lb : Lb w s n cap B) : Calls Tryd.prog 88 #[.slice s n cap, .int .u64 x, .int .i64 8] w (Mkd (B ++ lowL x 8) w) := by
  obtain ⟨T, hT⟩ : ∃ T, T = Mkd (B ++ lowL x 8) w := ⟨_, rfl⟩
  rw [← hT]
  replace hT := hide hT
  obtain ⟨m, hm⟩ : ∃ m, m = n + 8 := ⟨_, rfl⟩
  have i1 : (n : Int) + 8 = (m : Int) := by omega
  have i2 : IntKind.i64.wrap (m : Int) = (m : Int) := by rw [IntKind.wrap_i64]; omega
  replace lb := hide lb
  replace hm := hide hm
  go_enter Tryd.func88, Tryd.ntmps88
  go_upto_region 1 with fail
  have hmb : m ≤ 1008 := by have := unhide hm; omega
  refine wp_region_lit ?_
  refine list_val (.slice s n cap) (by kernel_rfl) (by kernel_rfl) ?_
  simp only [nrm]
  refine list_val (.int .i64 n) (by kernel_rfl) (by kernel_rfl) ?_
  simp only [nrm]
  refine list_val (.int .i64 8) (by kernel_rfl) (by kernel_rfl) ?_
  simp only [nrm]
  refine list_val (.int .i64 m) (by kernel_rfl) (by go_simp) ?_
  simp only [nrm]
  refine wpList_make_room _ rfl (.tmp 12) (.tmp 12) rfl (m : Int) (m : Int) m m (by kernel_rfl) (by kernel_rfl) rfl rfl (Nat.le_refl _) (by omega) ?_
  simp only [nrm]
  have hB := (Bl.nil w).new (kc (List.replicate m 0)) 5
  simp only [List.nil_append] at hB
  generalize World.alloc _ _ = u at *
  replace hB := hide hB
  (refine wpList_step fun K hK => ?_; replace hK := hide hK; go_simp; refine unhide hK _ _ ?_; clear hK K)
  refine wpList_nil ?_
  go_upto_region 2 with fail
  replace hB := unhide hB
  have hnm : n ≤ m := by have := unhide hm; omega
  have lb2 : Hid (Lb u s n cap B) := (unhide lb).gr hB.gr
  refine wp_region_lit ?_
  refine list_val (.slice (some ⟨w.heap.size, 0, none⟩) m m) (by kernel_rfl) (by kernel_rfl) ?_
  simp only [nrm]
  refine list_val (.slice s n cap) (by kernel_rfl) (by kernel_rfl) ?_
  simp only [nrm]
  refine wpList_plain rfl fun K hK => ?_
  refine copy_wp (.tmp 14) (.tmp 15) rfl w.heap.size 0 m m s n cap (by kernel_rfl) (by kernel_rfl) ((List.replicate m 0).map (Value.int .u8)) 5 (hB.get 0 (x := ⟨w.heap.size, kc (List.replicate m 0), 5⟩) rfl) B (by rw [(unhide lb).len]; exact (Nat.min_eq_left (by omega)).symm) (unhide lb2).sl (by rw [(unhide lb).len, List.length_map, List.length_replicate]; omega) ?_
  have hcell := laid (S := B) (o := 0) (hB.get 0 (x := ⟨w.heap.size, kc (List.replicate m 0), 5⟩) rfl) (by rw [(unhide lb).len, List.length_replicate]; omega)
  have hB2 := hB.but (setCells_bt (B.map (Value.int .u8)) u w.heap.size 0) 0 (x := ⟨w.heap.size, kc (List.replicate m 0), 5⟩) rfl rfl hcell
  simp only [List.set_cons_zero] at hB2
  refine hK _ _ ?_
  clear hK K hcell hB
  simp only [nrm]
  generalize World.setCells _ _ _ _ = u1 at *
  rw [(unhide lb).len]
  (refine wpList_step fun K hK => ?_; replace hK := hide hK; go_simp; refine unhide hK _ _ ?_; clear hK K)
  refine wpList_nil ?_
  have hL : lay (List.replicate m 0) 0 B = filled B x 8 0 := by
    unfold lay filled
    rw [List.take_zero, List.nil_append, Nat.zero_add, List.drop_replicate, (unhide lb).len, show m - n = 8 from by have := unhide hm; omega]
    rfl
  rw [hL] at hB2
  replace hB2 := hide hB2
  clear hL lb2
  go_wp2_with fail
  go_loopw [1, 8] (fun y i wr => ∃ k : Nat, k ≤ 8 ∧ y = .int .u64 (x / 256 ^ k) ∧ i = .int .i64 (n + k : Nat) ∧ Hid (Bl w [⟨w.heap.size, kc (filled B x 8 k), 5⟩] wr)) (fun _ i _ => m - (intOf i).toNat)
  case atStart => exact ⟨0, Nat.zero_le _, by simp, rfl, hB2⟩
  case round =>
  clear hB2
  obtain ⟨k, hk, rfl, rfl, hB⟩ := hrel
  have hBn : B.length = n := (unhide lb).len
  have hlen := filled_len B x 8 k hk
  rw [hBn] at hlen
  by_cases hlt : k < 8
  · obtain ⟨q, hq⟩ : ∃ q, q = n + k := ⟨_, rfl⟩
    rw [← hq]
    have hqm : q < m := by have := unhide hm; omega
    have qI : (q : Int) < (m : Int) := by omega
    have c1 := kc_cell ((unhide hB).get 0 (x := ⟨w.heap.size, kc (filled B x 8 k), 5⟩) rfl) q (by omega)
    generalize (filled B x 8 k).getD q 0 = z at c1
    have f1 := froz_of (i := q) ((unhide hB).get 0 (x := ⟨w.heap.size, kc (filled B x 8 k), 5⟩) rfl)
    have hy0 : 0 ≤ x / 256 ^ k := Int.ediv_nonneg hx (Int.pow_nonneg (by omega))
    have hst := filled_step B x 8 k hlt
    have hdv : x / 256 ^ k / 256 = x / 256 ^ (k + 1) := by rw [Int.pow_succ, Int.ediv_ediv_of_nonneg (Int.pow_nonneg (by omega))]
    rw [hBn, ← hq] at hst
    generalize x / 256 ^ k = y at *
    have hB1 := (unhide hB).cell 0 (x := ⟨w.heap.size, kc (filled B x 8 k), 5⟩) rfl q (.int .u8 (y % 256))
    simp only [List.set_cons_zero, List.set_cons_succ, kc_set, hst] at hB1
    replace hB1 := hide hB1
    replace hdv := hide hdv
    replace hq := hide hq
    replace hy0 := hide hy0
    have i3 : IntKind.i64.wrap ((q : Int) + 1) = (q : Int) + 1 := by rw [IntKind.wrap_i64]; omega
    have i4 : IntKind.u8.wrap y = y % 256 := by rw [IntKind.wrap_u8]
    replace hy0 := unhide hy0
    clear hst hlen hB hBn
    go_wp2_with fail
    go_roundw
    case rel => exact ⟨k + 1, by omega, by rw [unhide hdv], by have := unhide hq; go_num, hB1⟩
    case measure => have := unhide hq; simp [intOf]; omega
  · have hqm : ¬ n + k < m := by have := unhide hm; omega
    have qI : ¬ ((n + k : Nat) : Int) < (m : Int) := by omega
    have hk8 : k = 8 := by omega
    have hF : Hid (Mkd (B ++ lowL x 8) w (.returned (.slice (some ⟨w.heap.size, 0, none⟩) m m)) wr) := by
      refine ⟨w.heap.size, ?_, (unhide hB).own 0 (x := ⟨w.heap.size, kc (filled B x 8 k), 5⟩) rfl, ?_, (unhide hB).gr⟩
      · rw [List.length_append, lowL_len, hBn, ← unhide hm]
      · have h := (unhide hB).get 0 (x := ⟨w.heap.size, kc (filled B x 8 k), 5⟩) rfl
        rw [hk8] at h
        have e : filled B x 8 8 = B ++ lowL x 8 := by simp [filled]
        rw [e] at h
        exact h
    clear hlen hB hBn
    generalize n + k = q at *
    go_wp2_with fail
    rw [unhide hT]
    exact unhide hF
set_option maxHeartbeats 400000 in
theorem put64_ok (B : List Int) (s : Option Addr) (n cap : Nat) (x : Int) (hx : 0 ≤ x) (hn : n ≤ 1000) (w : World) (lb : Lb w s n cap B) : Calls Tryd.prog 75 #[.slice s n cap, .int .u64 x] w (Mkd (B ++ lowL x 8) w) := by
  have hp := hide (put_ok B s n cap x hx hn w lb)
  obtain ⟨T, hT⟩ : ∃ T, T = Mkd (B ++ lowL x 8) w := ⟨_, rfl⟩
  rw [← hT]
  rw [← hT] at hp
  replace hT := hide hT
  go_enter Tryd.func75, Tryd.ntmps75
  go_upto_region 1 with fail
  refine wp_region_lit ?_
  refine list_val (.slice s n cap) (by kernel_rfl) (by kernel_rfl) ?_
  simp only [nrm]
  refine list_val (.int .u64 x) (by kernel_rfl) (by kernel_rfl) ?_
  simp only [nrm]
  refine list_call 88 #[.slice s n cap, .int .u64 x, .int .i64 8] (by kernel_rfl) (by kernel_rfl) ((unhide hp).mono ?_)
  rw [unhide hT]
  rintro r u ⟨g, rfl, hg1, hg2, hg3⟩
  have hF : Hid (Mkd (B ++ lowL x 8) w (.returned (.slice (some ⟨g, 0, none⟩) (B ++ lowL x 8).length (B ++ lowL x 8).length)) u) := ⟨g, rfl, hg1, hg2, hg3⟩
  refine ⟨_, rfl, ?_⟩
  simp only [nrm]
  clear hg1 hg2 hg3
  generalize (B ++ lowL x 8).length = m at *
  generalize B ++ lowL x 8 = L at *
  (refine wpList_step fun K hK => ?_; replace hK := hide hK; go_simp; refine unhide hK _ _ ?_; clear hK K)
  refine wpList_nil ?_
  go_wp2_with fail
  rw [unhide hT]
  exact unhide hF
set_option maxHeartbeats 4000000 in
theorem put4_ok (B : List Int) (s : Option Addr) (n cap : Nat) (x : Int) (hx : 0 ≤ x) (hn : n ≤ 1000) (w : World) (lb : Lb w s n cap B) : Calls Tryd.prog 88 #[.slice s n cap, .int .u64 x, .int .i64 4] w (Mkd (B ++ lowL x 4) w) := by
  obtain ⟨T, hT⟩ : ∃ T, T = Mkd (B ++ lowL x 4) w := ⟨_, rfl⟩
  rw [← hT]
  replace hT := hide hT
  obtain ⟨m, hm⟩ : ∃ m, m = n + 4 := ⟨_, rfl⟩
  have i1 : (n : Int) + 4 = (m : Int) := by omega
  have i2 : IntKind.i64.wrap (m : Int) = (m : Int) := by rw [IntKind.wrap_i64]; omega
  replace lb := hide lb
  replace hm := hide hm
  go_enter Tryd.func88, Tryd.ntmps88
  go_upto_region 1 with fail
  have hmb : m ≤ 1008 := by have := unhide hm; omega
  refine wp_region_lit ?_
  refine list_val (.slice s n cap) (by kernel_rfl) (by kernel_rfl) ?_
  simp only [nrm]
  refine list_val (.int .i64 n) (by kernel_rfl) (by kernel_rfl) ?_
  simp only [nrm]
  refine list_val (.int .i64 4) (by kernel_rfl) (by kernel_rfl) ?_
  simp only [nrm]
  refine list_val (.int .i64 m) (by kernel_rfl) (by go_simp) ?_
  simp only [nrm]
  refine wpList_make_room _ rfl (.tmp 12) (.tmp 12) rfl (m : Int) (m : Int) m m (by kernel_rfl) (by kernel_rfl) rfl rfl (Nat.le_refl _) (by omega) ?_
  simp only [nrm]
  have hB := (Bl.nil w).new (kc (List.replicate m 0)) 5
  simp only [List.nil_append] at hB
  generalize World.alloc _ _ = u at *
  replace hB := hide hB
  (refine wpList_step fun K hK => ?_; replace hK := hide hK; go_simp; refine unhide hK _ _ ?_; clear hK K)
  refine wpList_nil ?_
  go_upto_region 2 with fail
  replace hB := unhide hB
  have hnm : n ≤ m := by have := unhide hm; omega
  have lb2 : Hid (Lb u s n cap B) := (unhide lb).gr hB.gr
  refine wp_region_lit ?_
  refine list_val (.slice (some ⟨w.heap.size, 0, none⟩) m m) (by kernel_rfl) (by kernel_rfl) ?_
  simp only [nrm]
  refine list_val (.slice s n cap) (by kernel_rfl) (by kernel_rfl) ?_
  simp only [nrm]
  refine wpList_plain rfl fun K hK => ?_
  refine copy_wp (.tmp 14) (.tmp 15) rfl w.heap.size 0 m m s n cap (by kernel_rfl) (by kernel_rfl) ((List.replicate m 0).map (Value.int .u8)) 5 (hB.get 0 (x := ⟨w.heap.size, kc (List.replicate m 0), 5⟩) rfl) B (by rw [(unhide lb).len]; exact (Nat.min_eq_left (by omega)).symm) (unhide lb2).sl (by rw [(unhide lb).len, List.length_map, List.length_replicate]; omega) ?_
  have hcell := laid (S := B) (o := 0) (hB.get 0 (x := ⟨w.heap.size, kc (List.replicate m 0), 5⟩) rfl) (by rw [(unhide lb).len, List.length_replicate]; omega)
  have hB2 := hB.but (setCells_bt (B.map (Value.int .u8)) u w.heap.size 0) 0 (x := ⟨w.heap.size, kc (List.replicate m 0), 5⟩) rfl rfl hcell
  simp only [List.set_cons_zero] at hB2
  refine hK _ _ ?_
  clear hK K hcell hB
  simp only [nrm]
  generalize World.setCells _ _ _ _ = u1 at *
  rw [(unhide lb).len]
  (refine wpList_step fun K hK => ?_; replace hK := hide hK; go_simp; refine unhide hK _ _ ?_; clear hK K)
  refine wpList_nil ?_
  have hL : lay (List.replicate m 0) 0 B = filled B x 4 0 := by
    unfold lay filled
    rw [List.take_zero, List.nil_append, Nat.zero_add, List.drop_replicate, (unhide lb).len, show m - n = 4 from by have := unhide hm; omega]
    rfl
  rw [hL] at hB2
  replace hB2 := hide hB2
  clear hL lb2
  go_wp2_with fail
  go_loopw [1, 8] (fun y i wr => ∃ k : Nat, k ≤ 4 ∧ y = .int .u64 (x / 256 ^ k) ∧ i = .int .i64 (n + k : Nat) ∧ Hid (Bl w [⟨w.heap.size, kc (filled B x 4 k), 5⟩] wr)) (fun _ i _ => m - (intOf i).toNat)
  case atStart => exact ⟨0, Nat.zero_le _, by simp, rfl, hB2⟩
  case round =>
  clear hB2
  obtain ⟨k, hk, rfl, rfl, hB⟩ := hrel
  have hBn : B.length = n := (unhide lb).len
  have hlen := filled_len B x 4 k hk
  rw [hBn] at hlen
  by_cases hlt : k < 4
  · obtain ⟨q, hq⟩ : ∃ q, q = n + k := ⟨_, rfl⟩
    rw [← hq]
    have hqm : q < m := by have := unhide hm; omega
    have qI : (q : Int) < (m : Int) := by omega
    have c1 := kc_cell ((unhide hB).get 0 (x := ⟨w.heap.size, kc (filled B x 4 k), 5⟩) rfl) q (by omega)
    generalize (filled B x 4 k).getD q 0 = z at c1
    have f1 := froz_of (i := q) ((unhide hB).get 0 (x := ⟨w.heap.size, kc (filled B x 4 k), 5⟩) rfl)
    have hy0 : 0 ≤ x / 256 ^ k := Int.ediv_nonneg hx (Int.pow_nonneg (by omega))
    have hst := filled_step B x 4 k hlt
    have hdv : x / 256 ^ k / 256 = x / 256 ^ (k + 1) := by rw [Int.pow_succ, Int.ediv_ediv_of_nonneg (Int.pow_nonneg (by omega))]
    rw [hBn, ← hq] at hst
    generalize x / 256 ^ k = y at *
    have hB1 := (unhide hB).cell 0 (x := ⟨w.heap.size, kc (filled B x 4 k), 5⟩) rfl q (.int .u8 (y % 256))
    simp only [List.set_cons_zero, List.set_cons_succ, kc_set, hst] at hB1
    replace hB1 := hide hB1
    replace hdv := hide hdv
    replace hq := hide hq
    replace hy0 := hide hy0
    have i3 : IntKind.i64.wrap ((q : Int) + 1) = (q : Int) + 1 := by rw [IntKind.wrap_i64]; omega
    have i4 : IntKind.u8.wrap y = y % 256 := by rw [IntKind.wrap_u8]
    replace hy0 := unhide hy0
    clear hst hlen hB hBn
    go_wp2_with fail
    go_roundw
    case rel => exact ⟨k + 1, by omega, by rw [unhide hdv], by have := unhide hq; go_num, hB1⟩
    case measure => have := unhide hq; simp [intOf]; omega
  · have hqm : ¬ n + k < m := by have := unhide hm; omega
    have qI : ¬ ((n + k : Nat) : Int) < (m : Int) := by omega
    have hk8 : k = 4 := by omega
    have hF : Hid (Mkd (B ++ lowL x 4) w (.returned (.slice (some ⟨w.heap.size, 0, none⟩) m m)) wr) := by
      refine ⟨w.heap.size, ?_, (unhide hB).own 0 (x := ⟨w.heap.size, kc (filled B x 4 k), 5⟩) rfl, ?_, (unhide hB).gr⟩
      · rw [List.length_append, lowL_len, hBn, ← unhide hm]
      · have h := (unhide hB).get 0 (x := ⟨w.heap.size, kc (filled B x 4 k), 5⟩) rfl
        rw [hk8] at h
        have e : filled B x 4 4 = B ++ lowL x 4 := by simp [filled]
        rw [e] at h
        exact h
    clear hlen hB hBn
    generalize n + k = q at *
    go_wp2_with fail
    rw [unhide hT]
    exact unhide hF
set_option maxHeartbeats 4000000 in
theorem put32_ok (x : Int) (hx : 0 ≤ x ∧ x < 4294967296) (w : World) : Calls Tryd.prog 76 #[.slice none 0 0, .int .u32 x] w (Mkd (lowL x 4) w) := by
  obtain ⟨T, hT⟩ : ∃ T, T = Mkd (lowL x 4) w := ⟨_, rfl⟩
  rw [← hT]
  replace hT := hide hT
  have hwx : IntKind.u64.wrap x = x := by rw [IntKind.wrap_u64]; omega
  obtain ⟨hx0, hx1⟩ := hx
  go_enter Tryd.func76, Tryd.ntmps76
  go_upto_region 1 with fail
  refine wp_region_lit ?_
  refine list_val (.slice none 0 0) (by kernel_rfl) (by kernel_rfl) ?_
  simp only [nrm]
  refine list_val (.int .u32 x) (by kernel_rfl) (by kernel_rfl) ?_
  simp only [nrm]
  refine list_val (.int .u64 x) (by kernel_rfl) (by go_simp) ?_
  simp only [nrm]
  refine list_call 88 #[.slice none 0 0, .int .u64 x, .int .i64 4] (by kernel_rfl) (by kernel_rfl) ((put4_ok [] none 0 0 x hx0 (by omega) w (Lb.nil0 _)).mono ?_)
  rw [List.nil_append]
  rintro r u ⟨g, rfl, hg1, hg2, hg3⟩
  have hF : Hid (Mkd (lowL x 4) w (.returned (.slice (some ⟨g, 0, none⟩) (lowL x 4).length (lowL x 4).length)) u) := ⟨g, rfl, hg1, hg2, hg3⟩
  refine ⟨_, rfl, ?_⟩
  clear hg1 hg2 hg3
  generalize (lowL x 4).length = m at *
  generalize lowL x 4 = L at *
  simp only [nrm]
  (refine wpList_step fun K hK => ?_; replace hK := hide hK; go_simp; refine unhide hK _ _ ?_; clear hK K)
  refine wpList_nil ?_
  go_wp2_with fail
  rw [unhide hT]
  exact unhide hF
theorem exec_win {a : Act} {o : Oper} (w : World) (x y z : Operand) (ho : o.op = .slice 32 x (some y) (some z) none) (p len cap l h m : Nat) (hx : a.eval x = .slice (some ⟨p, 0, none⟩) len cap) (hy : a.eval y = .int .i64 l) (hz : a.eval z = .int .i64 h) (h1 : h = l + m) (h0 : 0 < m) (h2 : h ≤ cap) :
    (execOp a.eval o).run Tryd.prog w = .ok (.value (.slice (some ⟨p, l, none⟩) m (cap - l))) w := by
  have e0 : h - l = m := by omega
  have e1 : (0 : Int) ≤ l := by omega
  have e2 : (l : Int) ≤ h := by omega
  have e3 : (h : Int) ≤ cap := by omega
  have hu : Tryd.prog.underlying 32 = some (.slice (Tryd.prog.elem 32)) := by kernel_rfl
  have hs : (sizeOf (Tryd.prog.elem 32)).run Tryd.prog w = .ok 1 w := by kernel_rfl
  have hne : ¬ cap = l := by omega
  simp [execOp, ho, hx, hy, hz, run_sliceAt_slice _ _ _ _ _ _ hu, run_slice_lh _ _ _ _ _ hu _ _ _ _ e1 e2 e3, hs, sliced, hne, Addr.add_mid, e0]
theorem ob_at {b : Nat} {w : World} {v : Value} {L : List Int} (h : Ob b w v L) (hn : L ≠ []) : ∃ p c, v = .slice (some ⟨p, 0, none⟩) L.length c ∧ b ≤ p ∧ At w p 0 L ∧ L.length ≤ c ∧ c < 9223372036854775808 ∧ ∃ cur, w.heap[p]? = some (.cells cur 5 (0, 0)) := by
  obtain ⟨a, c, e, h1, h2, h3⟩ := h.slice
  rcases h.2 with ⟨_, e2⟩ | ⟨g, cap, cur, f1, f2, f3, _⟩
  · exact absurd (List.eq_nil_of_length_eq_zero e2) hn
  · rw [e] at f1
    injection f1 with g1 g2 g3
    subst g1 g3
    rcases h3 with h3 | ⟨p, o, h4, h5⟩
    · exact absurd h3 hn
    · have h6 := Option.some.inj h4
      injection h6 with h7 h8 _
      subst h7 h8
      exact ⟨g, c, e, f2, h5, h1, by unfold maxLen at h2; omega, cur, f3⟩
theorem exec_err {op : Oper} {a : Act} (w : World) (x : Operand) (ho : op.op = .load 29 x) (g i : Nat) (hx : a.eval x = .pointer (some ⟨g, i, none⟩)) (v : Int) (hc : w.cell? ⟨g, i, none⟩ = some (.int .i64 v)) : (execOp a.eval op).run Tryd.prog w = .ok (.value (.int .i64 v)) w := by
  unfold execOp
  simp only [ho, hx, Instr.loadAt, Instr.sureAddr, Sem.run_bind, Sem.run_pure, Result.andThen_ok]
  go_simp
theorem Chg.bt1 {g : Nat} {w v : World} (h : Chg [g] [g] w v) : Bt g w v := ⟨h.os, h.tape, h.output, h.size, fun i hi hn => h.block i hi (by simp [hn])⟩
set_option maxHeartbeats 4000000 in
theorem clone_ok (B : List Int) (p q n c : Nat) (w : World) (hB0 : Lb w (some ⟨p, q, none⟩) n c B) (hn : n ≤ 100000) : Calls Tryd.prog 35 #[.slice (some ⟨p, q, none⟩) n c] w (Infd B w) := by
  obtain ⟨T, hT⟩ : ∃ T, T = Infd B w := ⟨_, rfl⟩
  rw [← hT]
  replace hT := hide hT
  replace hB0 := hide hB0
  go_enter Tryd.func35, Tryd.ntmps35
  go_upto_region 1 with fail
  refine wp_region_lit ?_
  refine list_val (.slice (some ⟨p, q, none⟩) n c) (by kernel_rfl) (by kernel_rfl) ?_
  simp only [nrm]
  refine list_val (.bool false) (by kernel_rfl) (by kernel_rfl) ?_
  simp only [nrm]
  refine wpList_nil ?_
  go_upto_region 3 with fail
  refine wp_region_lit ?_
  refine list_valw (.slice (some ⟨w.heap.size, 0, none⟩) 0 0) (w.alloc (.cells #[] 5 (0, 0))) (by kernel_rfl) (by kernel_rfl) ?_
  have hO : Ob w.heap.size (w.alloc (.cells #[] 5 (0, 0))) (.slice (some ⟨w.heap.size, 0, none⟩) 0 0) [] := blk_bytes [] (Nat.le_refl _) (Nat.zero_le _)
  have hG := (Gr.refl w).alloc (.cells #[] 5 (0, 0))
  generalize World.alloc _ _ = u at *
  simp only [nrm]
  refine list_val (.slice (some ⟨p, q, none⟩) n c) (by kernel_rfl) (by kernel_rfl) ?_
  simp only [nrm]
  refine app_bs (by kernel_rfl) (.tmp 5) (.tmp 6) rfl w.heap.size _ [] rfl hO (some ⟨p, q, none⟩) n c B rfl (unhide hB0).len ((unhide hB0).gr hG).sl (by simp only [List.length_nil, Nat.zero_add]; omega) hG.size ?_
  intro v9 u9 hO9 hgr
  rw [List.nil_append] at hO9
  have hZ : Hid (Infd B w (.returned v9) u9) := ⟨v9, rfl, hO9, hO.grown (Nat.le_refl _) hG hgr⟩
  clear hO9 hgr hO hG
  simp only [nrm]
  (refine wpList_step fun K hK => ?_; replace hK := hide hK; go_simp; refine unhide hK _ _ ?_; clear hK K)
  refine wpList_nil ?_
  go_wp2_with fail
  rw [unhide hT]
  exact unhide hZ
def rdr (k p n c : Nat) : Array Value := #[.int .i64 (k : Int), .int .i64 0, .slice (some ⟨p, 0, none⟩) n c]
structure Rdr (g p n c k : Nat) (L : List Int) (w : World) : Prop where
  cel : w.heap[g]? = some (.cells (rdr k p n c) 144 (0, 0))
  at_ : At w p 0 L
  ne : p ≠ g
  len : L.length = n
  isB : IsB L
  cap : n ≤ c
  max : c < 9223372036854775808
theorem Rdr.gr {g p n c k : Nat} {L : List Int} {w v : World} (h : Rdr g p n c k L w) (e : Gr w v) : Rdr g p n c k L v := ⟨e.blk h.cel, fun j hj => e.cell (h.at_ j hj), h.ne, h.len, h.isB, h.cap, h.max⟩
theorem Rdr.bt {g p n c k q : Nat} {L : List Int} {w v : World} (h : Rdr g p n c k L w) (e : Bt q w v) (hq : g ≠ q) (hp : p ≠ q) : Rdr g p n c k L v := ⟨e.blk h.cel hq, h.at_.bt e hp, h.ne, h.len, h.isB, h.cap, h.max⟩
theorem Rdr.to {g p n c k m : Nat} {L : List Int} {w v : World} (h : Rdr g p n c k L w) (e : Bt g w v) (hc : v.heap[g]? = some (.cells (rdr m p n c) 144 (0, 0))) : Rdr g p n c m L v := ⟨hc, h.at_.bt e h.ne, h.ne, h.len, h.isB, h.cap, h.max⟩
def Rea (L : List Int) (w : World) (r : Ending) (w' : World) : Prop := ∃ g p c, r = .returned (.pointer (some ⟨g, 0, none⟩)) ∧ w.heap.size ≤ g ∧ w.heap.size ≤ p ∧ Rdr g p L.length c 0 L w' ∧ Gr w w'
set_option maxHeartbeats 4000000 in
theorem oread_ok (B : List Int) (p q n c : Nat) (w : World) (hB0 : Lb w (some ⟨p, q, none⟩) n c B) (hn : n ≤ 100000) (h0 : 0 < n) : Calls Tryd.prog 80 #[.slice (some ⟨p, q, none⟩) n c] w (Rea B w) := by
  obtain ⟨T, hT⟩ : ∃ T, T = Rea B w := ⟨_, rfl⟩
  rw [← hT]
  replace hT := hide hT
  replace hB0 := hide hB0
  go_enter Tryd.func80, Tryd.ntmps80
  go_upto_region 1 with fail
  refine wp_region_lit ?_
  refine list_val (.slice (some ⟨p, q, none⟩) n c) (by kernel_rfl) (by kernel_rfl) ?_
  simp only [nrm]
  refine list_call 35 #[.slice (some ⟨p, q, none⟩) n c] (by kernel_rfl) (by kernel_rfl) ((clone_ok B p q n c w (unhide hB0) hn).mono ?_)
  rintro r u ⟨v, rfl, hO, hG⟩
  have hl := (unhide hB0).len
  obtain ⟨p2, c2, rfl, h1, h2, h3, h4, cur, h5⟩ := ob_at hO (by intro e; rw [e] at hl; simp at hl; omega)
  refine ⟨_, rfl, ?_⟩
  clear hO
  replace h2 := hide h2; replace h5 := hide h5; replace hG := hide hG
  rw [hl] at h3
  rw [hl]
  simp only [nrm]
  refine list_val (.agg (rdr 0 p2 n c2)) (by kernel_rfl) (by kernel_rfl) ?_
  simp only [nrm]
  refine list_valw (.pointer (some ⟨u.heap.size, 0, none⟩)) (u.alloc (.cells (rdr 0 p2 n c2) 144 (0, 0))) (by kernel_rfl) (by kernel_rfl) ?_
  have hZ : Hid (Rea B w (.returned (.pointer (some ⟨u.heap.size, 0, none⟩))) (u.alloc (.cells (rdr 0 p2 n c2) 144 (0, 0)))) := by
    have hg2 := (Gr.refl u).alloc (.cells (rdr 0 p2 n c2) 144 (0, 0))
    have hp := lt_of_block (unhide h5)
    show Rea B w _ _
    unfold Rea
    rw [hl]
    exact ⟨u.heap.size, p2, c2, rfl, (unhide hG).size, h1, ⟨blk_new _ _, fun j hj => hg2.cell (unhide h2 j hj), (fun e => by omega), hl, (unhide hB0).isB, h3, h4⟩, (unhide hG).trans hg2⟩
  generalize World.alloc _ _ = u2 at *
  simp only [nrm]
  (refine wpList_step fun K hK => ?_; replace hK := hide hK; go_simp; refine unhide hK _ _ ?_; clear hK K)
  refine wpList_nil ?_
  go_wp2_with fail
  rw [unhide hT]
  exact unhide hZ
set_option maxHeartbeats 4000000 in
theorem rerr_ok (g p n c k : Nat) (w : World) (hc : w.heap[g]? = some (.cells (rdr k p n c) 144 (0, 0))) : Calls Tryd.prog 106 #[P0 g] w (Vl (.int .i64 0) w) := by
  obtain ⟨T, hT⟩ : ∃ T, T = Vl (.int .i64 0) w := ⟨_, rfl⟩
  rw [← hT]
  replace hT := hide hT
  replace hc := hide hc
  go_enter Tryd.func106, Tryd.ntmps106
  go_upto_region 3 with fail
  have hcl := hc
  refine wp_region_lit ?_
  refine list_val (.pointer (some ⟨g, 0, none⟩)) (by kernel_rfl) (by kernel_rfl) ?_
  simp only [nrm]
  refine list_val (.pointer (some ⟨g, 0, none⟩)) (by kernel_rfl) (by kernel_rfl) ?_
  simp only [nrm]
  refine list_val (.pointer (some ⟨g, 0, none⟩)) (by kernel_rfl) (by kernel_rfl) ?_
  simp only [nrm]
  refine list_val (.pointer (some ⟨g, 1, none⟩)) (by kernel_rfl) (by kernel_rfl) ?_
  simp only [nrm]
  refine list_val (.int .i64 0) (by kernel_rfl) (exec_err _ (.tmp 8) rfl g 1 (by kernel_rfl) 0 (cell_of (unhide hc) (i := 1) rfl)) ?_
  simp only [nrm]
  (refine wpList_step fun K hK => ?_; replace hK := hide hK; go_simp; refine unhide hK _ _ ?_; clear hK K)
  refine wpList_nil ?_
  have hZ : Hid (Vl (.int .i64 0) w (.returned (.int .i64 0)) w) := ⟨rfl, Gr.refl w⟩
  go_wp2_with fail
  rw [unhide hT]
  exact unhide hZ
set_option maxHeartbeats 4000000 in
theorem rleft_ok (g p n c k : Nat) (hkn : k ≤ n) (hn : n ≤ 100000) (w : World) (hc : w.heap[g]? = some (.cells (rdr k p n c) 144 (0, 0))) : Calls Tryd.prog 107 #[P0 g] w (Vl (.int .i64 ((n - k : Nat) : Int)) w) := by
  obtain ⟨T, hT⟩ : ∃ T, T = Vl (.int .i64 ((n - k : Nat) : Int)) w := ⟨_, rfl⟩
  rw [← hT]
  replace hT := hide hT
  obtain ⟨j, hj⟩ : ∃ j, j = n - k := ⟨_, rfl⟩
  rw [← hj] at hT
  have hw : IntKind.i64.wrap ((n : Int) - (k : Int)) = (j : Int) := by rw [IntKind.wrap_i64]; omega
  clear hj
  replace hc := hide hc
  go_enter Tryd.func107, Tryd.ntmps107
  go_upto_region 3 with fail
  refine any_start (S := fun (v : World) => v.heap[g]? = some (.cells (rdr k p n c) 144 (0, 0))) (by kernel_rfl) ?_
  have hG := (Gr.refl w).drew
  have hS : (fun (v : World) => v.heap[g]? = some (.cells (rdr k p n c) 144 (0, 0))) w.drew := hG.blk (unhide hc)
  generalize World.drew _ = x0 at *
  simp only [List.size_toArray, List.length_cons, List.length_nil, Array.replicate, List.replicate]
  refine any_take (i := 0) (v := (.pointer (some ⟨g, 0, none⟩))) #[false, false, false, false, false, false, false, false, false, false, false, false] rfl (by kernel_rfl) (by kernel_rfl) (by kernel_rfl) (by kernel_rfl) (fun _ _ _ h => h) (.inl ⟨by kernel_rfl, fun x_ hu => by kernel_rfl⟩) hS ?_
  simp only [nrm]
  refine any_take (i := 1) (v := (.pointer (some ⟨g, 0, none⟩))) #[true, false, false, false, false, false, false, false, false, false, false, false] rfl (by kernel_rfl) (by kernel_rfl) (by kernel_rfl) (by kernel_rfl) (fun _ _ _ h => h) (.inl ⟨by kernel_rfl, fun x_ hu => by kernel_rfl⟩) hS ?_
  simp only [nrm]
  refine any_take (i := 2) (v := (.pointer (some ⟨g, 2, none⟩))) #[true, true, false, false, false, false, false, false, false, false, false, false] rfl (by kernel_rfl) (by kernel_rfl) (by kernel_rfl) (by kernel_rfl) (fun _ _ _ h => h) (.inl ⟨by kernel_rfl, fun x_ hu => by kernel_rfl⟩) hS ?_
  simp only [nrm]
  refine any_take (i := 3) (v := (.slice (some ⟨p, 0, none⟩) n c)) #[true, true, true, false, false, false, false, false, false, false, false, false] rfl (by kernel_rfl) (by kernel_rfl) (by kernel_rfl) (by kernel_rfl) (fun _ _ _ h => h) (.inl ⟨by kernel_rfl, fun x_ hu => exec_sby _ (.tmp 7) rfl g 2 (by kernel_rfl) (some ⟨p, 0, none⟩) n c (cell_of hu (i := 2) rfl)⟩) hS ?_
  simp only [nrm]
  refine any_take (i := 4) (v := (.int .i64 (n : Int))) #[true, true, true, true, false, false, false, false, false, false, false, false] rfl (by kernel_rfl) (by kernel_rfl) (by kernel_rfl) (by kernel_rfl) (fun _ _ _ h => h) (.inl ⟨by kernel_rfl, fun x_ hu => by kernel_rfl⟩) hS ?_
  simp only [nrm]
  refine any_take (i := 5) (v := (.pointer (some ⟨g, 0, none⟩))) #[true, true, true, true, true, false, false, false, false, false, false, false] rfl (by kernel_rfl) (by kernel_rfl) (by kernel_rfl) (by kernel_rfl) (fun _ _ _ h => h) (.inl ⟨by kernel_rfl, fun x_ hu => by kernel_rfl⟩) hS ?_
  simp only [nrm]
  refine any_take (i := 6) (v := (.pointer (some ⟨g, 0, none⟩))) #[true, true, true, true, true, true, false, false, false, false, false, false] rfl (by kernel_rfl) (by kernel_rfl) (by kernel_rfl) (by kernel_rfl) (fun _ _ _ h => h) (.inl ⟨by kernel_rfl, fun x_ hu => by kernel_rfl⟩) hS ?_
  simp only [nrm]
  refine any_take (i := 7) (v := (.pointer (some ⟨g, 0, none⟩))) #[true, true, true, true, true, true, true, false, false, false, false, false] rfl (by kernel_rfl) (by kernel_rfl) (by kernel_rfl) (by kernel_rfl) (fun _ _ _ h => h) (.inl ⟨by kernel_rfl, fun x_ hu => by kernel_rfl⟩) hS ?_
  simp only [nrm]
  refine any_take (i := 8) (v := (.pointer (some ⟨g, 0, none⟩))) #[true, true, true, true, true, true, true, true, false, false, false, false] rfl (by kernel_rfl) (by kernel_rfl) (by kernel_rfl) (by kernel_rfl) (fun _ _ _ h => h) (.inl ⟨by kernel_rfl, fun x_ hu => by kernel_rfl⟩) hS ?_
  simp only [nrm]
  refine any_take (i := 9) (v := (.int .i64 (k : Int))) #[true, true, true, true, true, true, true, true, true, false, false, false] rfl (by kernel_rfl) (by kernel_rfl) (by kernel_rfl) (by kernel_rfl) (fun _ _ _ h => h) (.inl ⟨by kernel_rfl, fun x_ hu => exec_i64 _ (.tmp 13) rfl g 0 (by kernel_rfl) (k : Int) (cell_of hu (i := 0) rfl)⟩) hS ?_
  simp only [nrm]
  refine any_take (i := 10) (v := (.int .i64 (j : Int))) #[true, true, true, true, true, true, true, true, true, true, false, false] rfl (by kernel_rfl) (by kernel_rfl) (by kernel_rfl) (by kernel_rfl) (fun _ _ _ h => h) (.inl ⟨by kernel_rfl, fun x_ hu => by go_simp⟩) hS ?_
  simp only [nrm]
  refine any_one (i := 11) (by kernel_rfl) rfl (fun K_ hQ => ?_)
  replace hQ := hide hQ
  go_simp
  refine (unhide hQ).out _ _ hS (fun _ => ?_)
  clear hQ K_
  refine any_done (by kernel_rfl) ?_
  have hZ : Hid (Vl (.int .i64 (j : Int)) w (.returned (.int .i64 (j : Int))) x0) := ⟨rfl, hG⟩
  replace hG := hide hG
  go_wp2_with fail
  rw [unhide hT]
  exact unhide hZ
def Tkn (g p n c k m : Nat) (L : List Int) (w : World) (r : Ending) (w' : World) : Prop := r = .returned (.slice (some ⟨p, k, none⟩) m (c - k)) ∧ Rdr g p n c (k + m) L w' ∧ Bt g w w'
set_option maxHeartbeats 4000000 in
theorem rtake_ok (g p n c k m : Nat) (L : List Int) (w : World) (hR : Rdr g p n c k L w) (hkn : k + m ≤ n) (hm : 0 < m) (hn : n ≤ 100000) : Calls Tryd.prog 97 #[P0 g, .int .i64 (m : Int)] w (Tkn g p n c k m L w) := by
  obtain ⟨T, hT⟩ : ∃ T, T = Tkn g p n c k m L w := ⟨_, rfl⟩
  rw [← hT]
  replace hT := hide hT
  have hcn := hR.cap
  obtain ⟨km, hkm⟩ : ∃ x, x = k + m := ⟨_, rfl⟩
  have hw1 : IntKind.i64.wrap ((k : Int) + (m : Int)) = (km : Int) := by rw [IntKind.wrap_i64]; omega
  obtain ⟨j, hj⟩ : ∃ j, j = n - k := ⟨_, rfl⟩
  have hmj : ¬ (j : Int) < (m : Int) := by omega
  have hB := (Bc.nil [g] w).add ⟨g, rdr k p n c, 144⟩ hR.cel (.inl (by simp)) (fun y hy => by cases hy)
  replace hB : Bc [g] w [⟨g, rdr k p n c, 144⟩] w := hB
  replace hR := hide hR; replace hB := hide hB; replace hkm := hide hkm; replace hj := hide hj
  go_enter Tryd.func97, Tryd.ntmps97
  go_upto_region 1 with fail
  replace hB := unhide hB
  refine wp_region_lit ?_
  refine list_val (.pointer (some ⟨g, 0, none⟩)) (by kernel_rfl) (by kernel_rfl) ?_
  simp only [nrm]
  refine list_call 106 #[.pointer (some ⟨g, 0, none⟩)] (by kernel_rfl) (by kernel_rfl) ((rerr_ok g p n c k _ (hB.get 0 (x := ⟨g, rdr k p n c, 144⟩) rfl)).mono ?_)
  rintro r u1 ⟨rfl, hg⟩
  refine ⟨_, rfl, ?_⟩
  replace hB := hB.more hg
  clear hg
  simp only [nrm]
  refine list_val (.bool false) (by kernel_rfl) (by go_simp) ?_
  simp only [nrm]
  refine wpList_nil ?_
  replace hB := hide hB
  go_upto_region 6 with fail
  replace hB := unhide hB
  refine wp_region_lit ?_
  refine list_val (.int .i64 (m : Int)) (by kernel_rfl) (by kernel_rfl) ?_
  simp only [nrm]
  refine list_val (.pointer (some ⟨g, 0, none⟩)) (by kernel_rfl) (by kernel_rfl) ?_
  simp only [nrm]
  refine list_call 107 #[.pointer (some ⟨g, 0, none⟩)] (by kernel_rfl) (by kernel_rfl) ((rleft_ok g p n c k (by omega) hn _ (hB.get 0 (x := ⟨g, rdr k p n c, 144⟩) rfl)).mono ?_)
  rintro r u2 ⟨rfl, hg⟩
  refine ⟨_, rfl, ?_⟩
  rw [← unhide hj]
  replace hB := hB.more hg
  clear hg
  simp only [nrm]
  refine list_val (.bool false) (by kernel_rfl) (by go_simp) ?_
  simp only [nrm]
  refine wpList_nil ?_
  replace hB := hide hB
  go_upto_region 9 with fail
  replace hB := unhide hB
  refine wp_region_lit ?_
  refine list_val (.pointer (some ⟨g, 0, none⟩)) (by kernel_rfl) (by kernel_rfl) ?_
  simp only [nrm]
  refine list_val (.pointer (some ⟨g, 0, none⟩)) (by kernel_rfl) (by kernel_rfl) ?_
  simp only [nrm]
  refine list_val (.pointer (some ⟨g, 0, none⟩)) (by kernel_rfl) (by kernel_rfl) ?_
  simp only [nrm]
  refine list_val (.pointer (some ⟨g, 0, none⟩)) (by kernel_rfl) (by kernel_rfl) ?_
  simp only [nrm]
  refine list_val (.int .i64 (k : Int)) (by kernel_rfl) (exec_i64 _ (.tmp 26) rfl g 0 (by kernel_rfl) (k : Int) (cell_of (hB.get 0 (x := ⟨g, rdr k p n c, 144⟩) rfl) (i := 0) rfl)) ?_
  simp only [nrm]
  (refine wpList_step fun K hK => ?_; replace hK := hide hK; go_simp; refine unhide hK _ _ ?_; clear hK K)
  refine wpList_nil ?_
  replace hB := hide hB
  go_upto_region 10 with fail
  replace hB := unhide hB
  refine wp_region_lit ?_
  refine list_val (.pointer (some ⟨g, 0, none⟩)) (by kernel_rfl) (by kernel_rfl) ?_
  simp only [nrm]
  refine list_val (.pointer (some ⟨g, 0, none⟩)) (by kernel_rfl) (by kernel_rfl) ?_
  simp only [nrm]
  refine list_val (.pointer (some ⟨g, 0, none⟩)) (by kernel_rfl) (by kernel_rfl) ?_
  simp only [nrm]
  refine list_val (.pointer (some ⟨g, 0, none⟩)) (by kernel_rfl) (by kernel_rfl) ?_
  simp only [nrm]
  refine list_val (.int .i64 (k : Int)) (by kernel_rfl) (exec_i64 _ (.tmp 31) rfl g 0 (by kernel_rfl) (k : Int) (cell_of (hB.get 0 (x := ⟨g, rdr k p n c, 144⟩) rfl) (i := 0) rfl)) ?_
  simp only [nrm]
  refine list_val (.int .i64 (m : Int)) (by kernel_rfl) (by kernel_rfl) ?_
  simp only [nrm]
  refine list_val (.int .i64 (km : Int)) (by kernel_rfl) (by go_simp) ?_
  simp only [nrm]
  refine list_val (.pointer (some ⟨g, 0, none⟩)) (by kernel_rfl) (by kernel_rfl) ?_
  simp only [nrm]
  refine list_val (.pointer (some ⟨g, 0, none⟩)) (by kernel_rfl) (by kernel_rfl) ?_
  simp only [nrm]
  refine list_val (.pointer (some ⟨g, 0, none⟩)) (by kernel_rfl) (by kernel_rfl) ?_
  simp only [nrm]
  have c4 := cell_of (hB.get 0 (x := ⟨g, rdr k p n c, 144⟩) rfl) (i := 0) rfl
  have fz := froz_of (i := 0) (hB.get 0 (x := ⟨g, rdr k p n c, 144⟩) rfl)
  have hB2 := hB.cell 0 (x := ⟨g, rdr k p n c, 144⟩) rfl 0 (.int .i64 (km : Int))
  simp only [List.set_cons_zero, List.set_cons_succ] at hB2
  replace hB2 : Bc [g] w [⟨g, rdr km p n c, 144⟩] _ := hB2
  clear hB
  replace hB2 := hide hB2
  dsimp only at c4 fz
  (refine wpList_step fun K hK => ?_; replace hK := hide hK; go_simp; refine unhide hK _ _ ?_; clear hK K)
  clear c4 fz
  have hB := unhide hB2
  clear hB2
  generalize World.setCell _ _ _ = u3 at *
  refine wpList_nil ?_
  clear hw1
  replace hB := hide hB
  go_upto_region 11 with fail
  replace hB := unhide hB
  refine any_start (S := fun (v : World) => v.heap[g]? = some (.cells (rdr km p n c) 144 (0, 0))) (by kernel_rfl) ?_
  replace hB := hB.drew
  generalize World.drew _ = x0 at *
  have hS : (fun (v : World) => v.heap[g]? = some (.cells (rdr km p n c) 144 (0, 0))) x0 := (hB.get 0 (x := ⟨g, rdr km p n c, 144⟩) rfl)
  replace hB := hide hB
  simp only [List.size_toArray, List.length_cons, List.length_nil, Array.replicate, List.replicate]
  refine any_take (i := 0) (v := (.pointer (some ⟨g, 0, none⟩))) #[false, false, false, false, false, false, false, false, false, false, false, false] rfl (by kernel_rfl) (by kernel_rfl) (by kernel_rfl) (by kernel_rfl) (fun _ _ _ h => h) (.inl ⟨by kernel_rfl, fun x_ hu => by kernel_rfl⟩) hS ?_
  simp only [nrm]
  refine any_take (i := 1) (v := (.pointer (some ⟨g, 0, none⟩))) #[true, false, false, false, false, false, false, false, false, false, false, false] rfl (by kernel_rfl) (by kernel_rfl) (by kernel_rfl) (by kernel_rfl) (fun _ _ _ h => h) (.inl ⟨by kernel_rfl, fun x_ hu => by kernel_rfl⟩) hS ?_
  simp only [nrm]
  refine any_take (i := 2) (v := (.pointer (some ⟨g, 2, none⟩))) #[true, true, false, false, false, false, false, false, false, false, false, false] rfl (by kernel_rfl) (by kernel_rfl) (by kernel_rfl) (by kernel_rfl) (fun _ _ _ h => h) (.inl ⟨by kernel_rfl, fun x_ hu => by kernel_rfl⟩) hS ?_
  simp only [nrm]
  refine any_take (i := 3) (v := (.slice (some ⟨p, 0, none⟩) n c)) #[true, true, true, false, false, false, false, false, false, false, false, false] rfl (by kernel_rfl) (by kernel_rfl) (by kernel_rfl) (by kernel_rfl) (fun _ _ _ h => h) (.inl ⟨by kernel_rfl, fun x_ hu => exec_sby _ (.tmp 40) rfl g 2 (by kernel_rfl) (some ⟨p, 0, none⟩) n c (cell_of hu (i := 2) rfl)⟩) hS ?_
  simp only [nrm]
  refine any_take (i := 4) (v := (.int .i64 (k : Int))) #[true, true, true, true, false, false, false, false, false, false, false, false] rfl (by kernel_rfl) (by kernel_rfl) (by kernel_rfl) (by kernel_rfl) (fun _ _ _ h => h) (.inl ⟨by kernel_rfl, fun x_ hu => by kernel_rfl⟩) hS ?_
  simp only [nrm]
  refine any_take (i := 5) (v := (.pointer (some ⟨g, 0, none⟩))) #[true, true, true, true, true, false, false, false, false, false, false, false] rfl (by kernel_rfl) (by kernel_rfl) (by kernel_rfl) (by kernel_rfl) (fun _ _ _ h => h) (.inl ⟨by kernel_rfl, fun x_ hu => by kernel_rfl⟩) hS ?_
  simp only [nrm]
  refine any_take (i := 6) (v := (.pointer (some ⟨g, 0, none⟩))) #[true, true, true, true, true, true, false, false, false, false, false, false] rfl (by kernel_rfl) (by kernel_rfl) (by kernel_rfl) (by kernel_rfl) (fun _ _ _ h => h) (.inl ⟨by kernel_rfl, fun x_ hu => by kernel_rfl⟩) hS ?_
  simp only [nrm]
  refine any_take (i := 7) (v := (.pointer (some ⟨g, 0, none⟩))) #[true, true, true, true, true, true, true, false, false, false, false, false] rfl (by kernel_rfl) (by kernel_rfl) (by kernel_rfl) (by kernel_rfl) (fun _ _ _ h => h) (.inl ⟨by kernel_rfl, fun x_ hu => by kernel_rfl⟩) hS ?_
  simp only [nrm]
  refine any_take (i := 8) (v := (.pointer (some ⟨g, 0, none⟩))) #[true, true, true, true, true, true, true, true, false, false, false, false] rfl (by kernel_rfl) (by kernel_rfl) (by kernel_rfl) (by kernel_rfl) (fun _ _ _ h => h) (.inl ⟨by kernel_rfl, fun x_ hu => by kernel_rfl⟩) hS ?_
  simp only [nrm]
  refine any_take (i := 9) (v := (.int .i64 (km : Int))) #[true, true, true, true, true, true, true, true, true, false, false, false] rfl (by kernel_rfl) (by kernel_rfl) (by kernel_rfl) (by kernel_rfl) (fun _ _ _ h => h) (.inl ⟨by kernel_rfl, fun x_ hu => exec_i64 _ (.tmp 46) rfl g 0 (by kernel_rfl) (km : Int) (cell_of hu (i := 0) rfl)⟩) hS ?_
  simp only [nrm]
  refine any_take (i := 10) (v := (.slice (some ⟨p, k, none⟩) m (c - k))) #[true, true, true, true, true, true, true, true, true, true, false, false] rfl (by kernel_rfl) (by kernel_rfl) (by kernel_rfl) (by kernel_rfl) (fun _ _ _ h => h) (.inl ⟨by kernel_rfl, fun x_ hu => exec_win _ (.tmp 41) (.tmp 42) (.tmp 47) rfl p n c k km m (by kernel_rfl) (by kernel_rfl) (by kernel_rfl) (unhide hkm) hm (by have := unhide hkm; omega)⟩) hS ?_
  simp only [nrm]
  refine any_one (i := 11) (by kernel_rfl) rfl (fun K_ hQ => ?_)
  replace hQ := hide hQ
  go_simp
  refine (unhide hQ).out _ _ hS (fun _ => ?_)
  clear hQ K_
  refine any_done (by kernel_rfl) ?_
  have hZ : Hid (Tkn g p n c k m L w (.returned (.slice (some ⟨p, k, none⟩) m (c - k))) x0) := by
    have hb := (unhide hB).chg.bt1
    refine ⟨rfl, (unhide hR).to hb ?_, hb⟩
    rw [← unhide hkm]
    exact hS
  generalize c - k = cc at *
  clear hS
  go_wp2_with fail
  rw [unhide hT]
  exact unhide hZ
set_option maxHeartbeats 4000000 in
theorem ru64_ok (g p n c k : Nat) (L : List Int) (w : World) (hR : Rdr g p n c k L w) (hkn : k + 8 ≤ n) (hn : n ≤ 100000) : Calls Tryd.prog 102 #[P0 g] w (fun r w' => r = .returned (.int .u64 (lowN ((L.drop k).take 8))) ∧ Rdr g p n c (k + 8) L w' ∧ Bt g w w') := by
  obtain ⟨T, hT⟩ : ∃ T : Ending → World → Prop, T = fun r w' => r = .returned (.int .u64 (lowN ((L.drop k).take 8))) ∧ Rdr g p n c (k + 8) L w' ∧ Bt g w w' := ⟨_, rfl⟩
  rw [← hT]
  replace hT := hide hT
  have hl : ((L.drop k).take 8).length = 8 := by rw [List.length_take, List.length_drop, hR.len]; omega
  have hb : IsB ((L.drop k).take 8) := fun x hx => hR.isB x (List.mem_of_mem_drop (List.mem_of_mem_take hx))
  have hbd := lowN_bd _ hb
  rw [hl] at hbd
  replace hR := hide hR; replace hb := hide hb
  go_enter Tryd.func102, Tryd.ntmps102
  go_upto_region 1 with fail
  refine wp_region_lit ?_
  refine list_val (.pointer (some ⟨g, 0, none⟩)) (by kernel_rfl) (by kernel_rfl) ?_
  simp only [nrm]
  refine list_call 97 #[P0 g, .int .i64 (8 : Nat)] (by kernel_rfl) (by kernel_rfl) ((rtake_ok g p n c k 8 L w (unhide hR) hkn (by omega) hn).mono ?_)
  rintro r u1 ⟨rfl, hR1, hb1⟩
  refine ⟨_, rfl, ?_⟩
  have hat : At u1 p k ((L.drop k).take 8) := by
    have h := (hR1.at_.drop k).take 8
    rw [Nat.zero_add] at h
    exact h
  replace hat := hide hat; replace hR1 := hide hR1; replace hb1 := hide hb1
  simp only [nrm]
  refine list_call 96 #[.slice (some ⟨p, k, none⟩) 8 (c - k)] (by kernel_rfl) (by kernel_rfl) ((onum_ok p k 8 (c - k) _ u1 hl (by omega) (unhide hb) (unhide hat)).mono ?_)
  rintro r u2 ⟨rfl, rfl⟩
  refine ⟨_, rfl, ?_⟩
  generalize lowN ((L.drop k).take 8) = y at *
  simp only [nrm]
  (refine wpList_step fun K hK => ?_; replace hK := hide hK; go_simp; refine unhide hK _ _ ?_; clear hK K)
  refine wpList_nil ?_
  have hZ : Hid (T (.returned (.int .u64 y)) u2) := by
    rw [unhide hT]
    exact ⟨rfl, unhide hR1, unhide hb1⟩
  clear hbd
  go_wp2_with fail
  exact unhide hZ
set_option maxHeartbeats 4000000 in
theorem ru32_ok (g p n c k : Nat) (L : List Int) (w : World) (hR : Rdr g p n c k L w) (hkn : k + 4 ≤ n) (hn : n ≤ 100000) : Calls Tryd.prog 81 #[P0 g] w (fun r w' => r = .returned (.int .u32 (lowN ((L.drop k).take 4))) ∧ Rdr g p n c (k + 4) L w' ∧ Bt g w w') := by
  obtain ⟨T, hT⟩ : ∃ T : Ending → World → Prop, T = fun r w' => r = .returned (.int .u32 (lowN ((L.drop k).take 4))) ∧ Rdr g p n c (k + 4) L w' ∧ Bt g w w' := ⟨_, rfl⟩
  rw [← hT]
  replace hT := hide hT
  have hl : ((L.drop k).take 4).length = 4 := by rw [List.length_take, List.length_drop, hR.len]; omega
  have hb : IsB ((L.drop k).take 4) := fun x hx => hR.isB x (List.mem_of_mem_drop (List.mem_of_mem_take hx))
  have hbd := lowN_bd _ hb
  rw [hl] at hbd
  replace hR := hide hR; replace hb := hide hb
  go_enter Tryd.func81, Tryd.ntmps81
  go_upto_region 1 with fail
  refine wp_region_lit ?_
  refine list_val (.pointer (some ⟨g, 0, none⟩)) (by kernel_rfl) (by kernel_rfl) ?_
  simp only [nrm]
  refine list_call 97 #[P0 g, .int .i64 (4 : Nat)] (by kernel_rfl) (by kernel_rfl) ((rtake_ok g p n c k 4 L w (unhide hR) hkn (by omega) hn).mono ?_)
  rintro r u1 ⟨rfl, hR1, hb1⟩
  refine ⟨_, rfl, ?_⟩
  have hat : At u1 p k ((L.drop k).take 4) := by
    have h := (hR1.at_.drop k).take 4
    rw [Nat.zero_add] at h
    exact h
  replace hat := hide hat; replace hR1 := hide hR1; replace hb1 := hide hb1
  simp only [nrm]
  refine list_call 96 #[.slice (some ⟨p, k, none⟩) 4 (c - k)] (by kernel_rfl) (by kernel_rfl) ((onum_ok p k 4 (c - k) _ u1 hl (by omega) (unhide hb) (unhide hat)).mono ?_)
  rintro r u2 ⟨rfl, rfl⟩
  refine ⟨_, rfl, ?_⟩
  generalize lowN ((L.drop k).take 4) = y at *
  rw [show (256 : Int) ^ 4 = 4294967296 from by decide] at hbd
  have e9 : IntKind.u32.wrap y = y := by rw [IntKind.wrap_u32]; omega
  simp only [nrm]
  refine list_val (.int .u32 y) (by kernel_rfl) (by go_simp) ?_
  simp only [nrm]
  (refine wpList_step fun K hK => ?_; replace hK := hide hK; go_simp; refine unhide hK _ _ ?_; clear hK K)
  refine wpList_nil ?_
  have hZ : Hid (T (.returned (.int .u32 y)) u2) := by
    rw [unhide hT]
    exact ⟨rfl, unhide hR1, unhide hb1⟩
  clear hbd
  go_wp2_with fail
  exact unhide hZ
set_option maxHeartbeats 4000000 in
theorem rraw_ok (g p n c k m : Nat) (L : List Int) (w : World) (hR : Rdr g p n c k L w) (hkn : k + m ≤ n) (hm : 0 < m) (hn : n ≤ 100000) : Calls Tryd.prog 82 #[P0 g, .int .i64 (m : Int)] w (fun r w' => ∃ v, r = .returned v ∧ Ob w.heap.size w' v ((L.drop k).take m) ∧ Rdr g p n c (k + m) L w' ∧ Bt g w w') := by
  obtain ⟨T, hT⟩ : ∃ T : Ending → World → Prop, T = fun r w' => ∃ v, r = .returned v ∧ Ob w.heap.size w' v ((L.drop k).take m) ∧ Rdr g p n c (k + m) L w' ∧ Bt g w w' := ⟨_, rfl⟩
  rw [← hT]
  replace hT := hide hT
  have hl : ((L.drop k).take m).length = m := by rw [List.length_take, List.length_drop, hR.len]; omega
  have hb : IsB ((L.drop k).take m) := fun x hx => hR.isB x (List.mem_of_mem_drop (List.mem_of_mem_take hx))
  replace hR := hide hR; replace hb := hide hb
  go_enter Tryd.func82, Tryd.ntmps82
  go_upto_region 1 with fail
  refine wp_region_lit ?_
  refine list_val (.pointer (some ⟨g, 0, none⟩)) (by kernel_rfl) (by kernel_rfl) ?_
  simp only [nrm]
  refine list_val (.int .i64 (m : Int)) (by kernel_rfl) (by kernel_rfl) ?_
  simp only [nrm]
  refine list_call 97 #[P0 g, .int .i64 (m : Int)] (by kernel_rfl) (by kernel_rfl) ((rtake_ok g p n c k m L w (unhide hR) hkn hm hn).mono ?_)
  rintro r u1 ⟨rfl, hR1, hb1⟩
  refine ⟨_, rfl, ?_⟩
  have hlb : Lb u1 (some ⟨p, k, none⟩) m (c - k) ((L.drop k).take m) := by
    have h := (hR1.at_.drop k).take m
    rw [Nat.zero_add] at h
    exact ⟨hl, unhide hb, .inr ⟨p, k, rfl, h⟩, by have := hR1.cap; omega, by have := hR1.max; omega⟩
  replace hlb := hide hlb; replace hR1 := hide hR1; replace hb1 := hide hb1
  simp only [nrm]
  refine list_call 35 #[.slice (some ⟨p, k, none⟩) m (c - k)] (by kernel_rfl) (by kernel_rfl) ((clone_ok _ p k m (c - k) u1 (unhide hlb) (by omega)).mono ?_)
  rintro r u2 ⟨v, rfl, hO, hG⟩
  refine ⟨_, rfl, ?_⟩
  have hZ : Hid (T (.returned v) u2) := by
    rw [unhide hT]
    exact ⟨v, rfl, ob_base hO (unhide hb1).size, (unhide hR1).gr hG, (unhide hb1).trans (hG.bt g)⟩
  clear hO hG
  simp only [nrm]
  (refine wpList_step fun K hK => ?_; replace hK := hide hK; go_simp; refine unhide hK _ _ ?_; clear hK K)
  refine wpList_nil ?_
  go_wp2_with fail
  exact unhide hZ
theorem Tryd.infoMk : (Tryd.prog.info? 83).map (·.size) = some 16 := by kernel_rfl
theorem Tryd.infoSp : (Tryd.prog.info? 85).map (·.size) = some 19 := by kernel_rfl
theorem range_sub {v : World} {g : Nat} {b : List Int} {t : TypeId} (h : v.heap[g]? = some (.cells (kc b) t (0, 0))) (o n : Nat) : v.rangeAt g o (bv ((b.drop o).take n)) := fun j x hj => by
  refine cell_of h ?_
  unfold bv at hj
  unfold kc
  rw [List.getElem?_map, List.getElem?_take] at hj
  rw [List.getElem?_toArray, List.getElem?_map]
  split at hj
  · rw [List.getElem?_drop] at hj
    exact hj
  · cases hj
theorem list16 : ∀ (M : List Int), M.length = 16 → ∃ m0 m1 m2 m3 m4 m5 m6 m7 m8 m9 m10 m11 m12 m13 m14 m15, M = [m0, m1, m2, m3, m4, m5, m6, m7, m8, m9, m10, m11, m12, m13, m14, m15]
  | [m0, m1, m2, m3, m4, m5, m6, m7, m8, m9, m10, m11, m12, m13, m14, m15], _ => ⟨m0, m1, m2, m3, m4, m5, m6, m7, m8, m9, m10, m11, m12, m13, m14, m15, rfl⟩
def spl (s : Sup) : List Value := .int .u8 (s.place : Int) :: .int .u64 (s.turn : Int) :: .int .u32 (s.size : Int) :: bv s.hash
def spv (s : Sup) : Array Value := (spl s).toArray
def Z16 : List Int := List.replicate 16 0
def ZSp : Sup := ⟨0, 0, 0, Z16⟩
theorem spv_size {s : Sup} (h : s.hash.length = 16) : (spv s).size = 19 := by unfold spv spl bv; simp [h]
theorem spv_one (s : Sup) : (spv s).all (·.oneCell') = true := by
  unfold spv
  rw [List.all_toArray, List.all_eq_true]
  intro x hx
  unfold spl at hx
  simp only [List.mem_cons] at hx
  rcases hx with rfl | rfl | rfl | hx
  · rfl
  · rfl
  · rfl
  · exact bv_one' _ x hx
theorem exec_bsp {a : Act} {o : Oper} (w : World) (x y z t : Operand) (ho : o.op = .build 85 #[(0, x), (1, y), (2, z), (3, t)]) (s : Sup) (hb : s.hash.length = 16) (hx : a.eval x = .int .u8 (s.place : Int)) (hy : a.eval y = .int .u64 (s.turn : Int)) (hz : a.eval z = .int .u32 (s.size : Int)) (ht : a.eval t = .agg (kc s.hash)) :
    (execOp a.eval o).run Tryd.prog w = .ok (.value (.agg (spv s))) w := by
  obtain ⟨pl, tu, sz, hh⟩ := s
  dsimp only at *
  obtain ⟨m0, m1, m2, m3, m4, m5, m6, m7, m8, m9, m10, m11, m12, m13, m14, m15, rfl⟩ := list16 hh hb
  have h := run_build (P := Tryd.prog) w 85 #[(0, .int .u8 (pl : Int)), (1, .int .u64 (tu : Int)), (2, .int .u32 (sz : Int)), (3, .agg (kc [m0, m1, m2, m3, m4, m5, m6, m7, m8, m9, m10, m11, m12, m13, m14, m15]))] (spv ⟨pl, tu, sz, [m0, m1, m2, m3, m4, m5, m6, m7, m8, m9, m10, m11, m12, m13, m14, m15]⟩) (by kernel_rfl)
  unfold execOp
  simp only [ho, List.map_toArray, List.map_cons, List.map_nil, hx, hy, hz, ht, Sem.run_bind, h, Result.andThen_ok, Sem.run_pure]
theorem exec_afrom {a : Act} {o : Oper} (w : World) (x y : Operand) (ho : o.op = .slice 50 x (some y) none none) (g k : Nat) (hx : a.eval x = .pointer (some ⟨g, 0, none⟩)) (hy : a.eval y = .int .i64 k) (hk : k < 64) :
    (execOp a.eval o).run Tryd.prog w = .ok (.value (.slice (some ⟨g, k, none⟩) (64 - k) (64 - k))) w := by
  have e1 : (0 : Int) ≤ k := by omega
  have hu : Tryd.prog.underlying 50 = some (.array (Tryd.prog.arrayLen 50) (Tryd.prog.elem 50)) := by kernel_rfl
  have hl : Tryd.prog.arrayLen 50 = 64 := by kernel_rfl
  have hs : (sizeOf (Tryd.prog.elem 50)).run Tryd.prog w = .ok 1 w := by kernel_rfl
  have e2 : (k : Int) ≤ Tryd.prog.arrayLen 50 := by rw [hl]; omega
  have hne : ¬ 64 = k := by omega
  simp [execOp, ho, hx, hy, run_sliceAt_array_l _ _ _ hu _ _ e1 e2, hs, slicedAt, hl, hne, Addr.add_mid]
set_option maxHeartbeats 4000000 in
theorem digest_ok (B : List Int) (a : Option Addr) (n c : Nat) (w : World) (hB0 : Lb w a n c B) (hn : n ≤ 100000000) (hf : Fst w) : Calls Tryd.prog 54 #[.slice a n c] w (Vl (.agg (kc (sh16 B))) w) := by
  obtain ⟨T, hT⟩ : ∃ T, T = Vl (.agg (kc (sh16 B))) w := ⟨_, rfl⟩
  rw [← hT]
  replace hT := hide hT
  replace hB0 := hide hB0; replace hf := hide hf
  go_enter Tryd.func54, Tryd.ntmps54
  go_upto_region 1 with fail
  have hB := ((Bl.nil w).new #[.int .u8 0, .int .u8 0, .int .u8 0, .int .u8 0, .int .u8 0, .int .u8 0, .int .u8 0, .int .u8 0, .int .u8 0, .int .u8 0, .int .u8 0, .int .u8 0, .int .u8 0, .int .u8 0, .int .u8 0, .int .u8 0] 83)
  simp only [size_alloc, List.nil_append, List.cons_append] at hB
  generalize World.alloc _ _ = u at *
  replace hB : Bl w [⟨w.heap.size, kc Z16, 83⟩] u := hB
  refine wp_region_lit ?_
  refine list_val (.slice a n c) (by kernel_rfl) (by kernel_rfl) ?_
  simp only [nrm]
  refine list_call 79 #[.slice a n c] (by kernel_rfl) (by kernel_rfl) ((sum_ok B (unhide hB0).isB n (unhide hB0).len (by omega) a c (unhide hB0).cap (unhide hB0).max u ((unhide hf).gr hB.gr) ((unhide hB0).gr hB.gr).sl).mono ?_)
  rintro r u1 ⟨rfl, hg⟩
  replace hB := hB.more hg
  have kl := sumL_len B
  have kT : Hid (sh16 B = (sumL B).take 16) := rfl
  generalize sumL B = K at *
  generalize hH : sh16 B = H at *
  have hHl : H.length = 16 := by rw [unhide kT, List.length_take, kl]; rfl
  clear hg hH
  refine ⟨_, rfl, ?_⟩
  simp only [nrm]
  refine list_valw (.pointer (some ⟨u1.heap.size, 0, none⟩)) (u1.alloc (.cells (kc (List.replicate 32 0)) 128 (0, 0))) (by kernel_rfl) (by kernel_rfl) ?_
  replace hB := hB.new (kc (List.replicate 32 0)) 128
  simp only [List.nil_append, List.cons_append] at hB
  generalize World.alloc _ _ = u2 at *
  generalize u1.heap.size = h1 at *
  replace hB : Bl w [⟨w.heap.size, kc Z16, 83⟩, ⟨h1, kc (List.replicate 32 0), 128⟩] u2 := hB
  simp only [nrm]
  refine list_store 128 (.tmp 3) (.tmp 5) (h1) (kc K) 128 (kc (List.replicate 32 0)) (by kernel_rfl) rfl (by kernel_rfl) (by kernel_rfl) (hB.get 1 (x := ⟨h1, kc (List.replicate 32 0), 128⟩) rfl) (by rw [Tryd.infoKy, kc_size, kl]) (by rw [kc_size, kc_size, kl, List.length_replicate]) (kc_one _) ?_
  replace hB := hB.set 1 (x := ⟨h1, kc (List.replicate 32 0), 128⟩) rfl (kc K)
  simp only [List.set_cons_zero, List.set_cons_succ] at hB
  generalize World.setRow _ _ _ = u3 at *
  replace hB : Bl w [⟨w.heap.size, kc Z16, 83⟩, ⟨h1, kc K, 128⟩] u3 := hB
  simp only [nrm]
  refine wpList_nil ?_
  replace hB := hide hB
  go_upto_region 2 with fail
  replace hB := unhide hB
  refine wp_region_lit ?_
  refine list_val (.slice (some ⟨h1, 0, none⟩) 16 32) (by kernel_rfl) (by kernel_rfl) ?_
  simp only [nrm]
  refine list_val (.pointer (some ⟨h1, 0, none⟩)) (by kernel_rfl) (by kernel_rfl) ?_
  simp only [nrm]
  refine list_val (.agg (kc H)) (by kernel_rfl) (exec_row _ 83 (.tmp 7) rfl h1 0 (by kernel_rfl) (bv H) _ (by have h := range_sub (hB.get 1 (x := ⟨h1, kc K, 128⟩) rfl) 0 16; rw [List.drop_zero, ← unhide kT] at h; exact h) Tryd.underlying83 rfl (by rw [Tryd.infoMk, bv_len, hHl])) ?_
  simp only [nrm]
  refine list_store 83 (.tmp 2) (.tmp 8) (w.heap.size) (kc H) 83 (kc Z16) (by kernel_rfl) rfl (by kernel_rfl) (by kernel_rfl) (hB.get 0 (x := ⟨w.heap.size, kc Z16, 83⟩) rfl) (by rw [Tryd.infoMk, kc_size, hHl]) (by rw [kc_size, kc_size, hHl]; rfl) (kc_one _) ?_
  replace hB := hB.set 0 (x := ⟨w.heap.size, kc Z16, 83⟩) rfl (kc H)
  simp only [List.set_cons_zero, List.set_cons_succ] at hB
  generalize World.setRow _ _ _ = u4 at *
  replace hB : Bl w [⟨w.heap.size, kc H, 83⟩, ⟨h1, kc K, 128⟩] u4 := hB
  simp only [nrm]
  refine wpList_nil ?_
  replace hB := hide hB
  go_wp2_with fail
  replace hB := unhide hB
  rw [unhide hT]
  exact bodyPost_ret (v := .agg (kc H)) (results_cell_row Tryd.results54 _ _ (w.heap.size) 83 (kc H) (0, 0) _ rfl (hB.get 0 (x := ⟨w.heap.size, kc H, 83⟩) rfl) Tryd.underlying83 rfl (by rw [Tryd.infoMk, kc_size, hHl])) rfl (⟨rfl, hB.gr⟩)
set_option maxHeartbeats 4000000 in
theorem describe_ok (p t : Nat) (hp : p < 256) (ht : t < 18446744073709551616) (B : List Int) (a : Option Addr) (n c : Nat) (w : World) (hB0 : Lb w a n c B) (hn : n ≤ 100000000) (hf : Fst w) : Calls Tryd.prog 49 #[.int .u8 (p : Int), .int .u64 (t : Int), .slice a n c] w (Vl (.agg (spv ⟨p, t, n, sh16 B⟩)) w) := by
  obtain ⟨T, hT⟩ : ∃ T, T = Vl (.agg (spv ⟨p, t, n, sh16 B⟩)) w := ⟨_, rfl⟩
  rw [← hT]
  replace hT := hide hT
  have hHl := sh16_len B
  have hwn : IntKind.u32.wrap (n : Int) = (n : Int) := by rw [IntKind.wrap_u32]; omega
  replace hB0 := hide hB0; replace hf := hide hf
  go_enter Tryd.func49, Tryd.ntmps49
  go_upto_region 1 with fail
  have hB := ((Bl.nil w).new #[.int .u8 0, .int .u64 0, .int .u32 0, .int .u8 0, .int .u8 0, .int .u8 0, .int .u8 0, .int .u8 0, .int .u8 0, .int .u8 0, .int .u8 0, .int .u8 0, .int .u8 0, .int .u8 0, .int .u8 0, .int .u8 0, .int .u8 0, .int .u8 0, .int .u8 0] 85)
  simp only [size_alloc, List.nil_append, List.cons_append] at hB
  generalize World.alloc _ _ = u at *
  replace hB : Bl w [⟨w.heap.size, spv ZSp, 85⟩] u := hB
  refine wp_region_lit ?_
  refine list_val (.int .u8 (p : Int)) (by kernel_rfl) (by kernel_rfl) ?_
  simp only [nrm]
  refine list_val (.int .u64 (t : Int)) (by kernel_rfl) (by kernel_rfl) ?_
  simp only [nrm]
  refine list_val (.slice a n c) (by kernel_rfl) (by kernel_rfl) ?_
  simp only [nrm]
  refine list_val (.int .i64 n) (by kernel_rfl) (by kernel_rfl) ?_
  simp only [nrm]
  refine list_val (.int .u32 (n : Int)) (by kernel_rfl) (by go_simp) ?_
  simp only [nrm]
  refine list_val (.slice a n c) (by kernel_rfl) (by kernel_rfl) ?_
  simp only [nrm]
  refine list_call 54 #[.slice a n c] (by kernel_rfl) (by kernel_rfl) ((digest_ok B a n c u ((unhide hB0).gr hB.gr) hn ((unhide hf).gr hB.gr)).mono ?_)
  rintro r u1 ⟨rfl, hg⟩
  replace hB := hB.more hg
  clear hg
  generalize sh16 B = H at *
  refine ⟨_, rfl, ?_⟩
  simp only [nrm]
  refine list_val (.agg (spv ⟨p, t, n, H⟩)) (by kernel_rfl) (exec_bsp _ (.tmp 7) (.tmp 8) (.tmp 11) (.tmp 13) rfl ⟨p, t, n, H⟩ hHl (by kernel_rfl) (by kernel_rfl) (by kernel_rfl) (by kernel_rfl)) ?_
  simp only [nrm]
  refine list_store 85 (.tmp 6) (.tmp 14) (w.heap.size) (spv ⟨p, t, n, H⟩) 85 (spv ZSp) (by kernel_rfl) rfl (by kernel_rfl) (by kernel_rfl) (hB.get 0 (x := ⟨w.heap.size, spv ZSp, 85⟩) rfl) (by rw [Tryd.infoSp, spv_size hHl]) (by rw [spv_size (s := ⟨p, t, n, H⟩) hHl]; rfl) (spv_one _) ?_
  replace hB := hB.set 0 (x := ⟨w.heap.size, spv ZSp, 85⟩) rfl (spv ⟨p, t, n, H⟩)
  simp only [List.set_cons_zero, List.set_cons_succ] at hB
  generalize World.setRow _ _ _ = u4 at *
  replace hB : Bl w [⟨w.heap.size, spv ⟨p, t, n, H⟩, 85⟩] u4 := hB
  simp only [nrm]
  refine wpList_nil ?_
  replace hB := hide hB
  go_wp2_with fail
  replace hB := unhide hB
  rw [unhide hT]
  exact bodyPost_ret (v := .agg (spv ⟨p, t, n, H⟩)) (results_cell_row Tryd.results49 _ _ (w.heap.size) 85 (spv ⟨p, t, n, H⟩) (0, 0) _ rfl (hB.get 0 (x := ⟨w.heap.size, spv ⟨p, t, n, H⟩, 85⟩) rfl) Tryd.underlying85 rfl (by rw [Tryd.infoSp, spv_size hHl])) rfl ⟨rfl, hB.gr⟩
set_option maxHeartbeats 4000000 in
theorem sput_ok (ga gb k : Nat) (C S : List Int) (hC : C.length = 64) (a : Option Addr) (n c : Nat) (w : World) (h1 : w.heap[ga]? = some (.cells #[.int .i64 (k : Int)] 3 (0, 0))) (h2 : w.heap[gb]? = some (.cells (kc C) 50 (0, 0))) (hS0 : Lb w a n c S) (hn : 0 < n) (hfit : k + n ≤ 64) : Calls Tryd.prog 74 #[.slice a n c, .pointer (some ⟨ga, 0, none⟩), .pointer (some ⟨gb, 0, none⟩)] w (fun r w' => r = .returned (.tuple #[]) ∧ w'.heap[ga]? = some (.cells #[.int .i64 ((k + n : Nat) : Int)] 3 (0, 0)) ∧ w'.heap[gb]? = some (.cells (kc (lay C k S)) 50 (0, 0)) ∧ Chg [ga, gb] [ga, gb] w w') := by
  obtain ⟨T, hT⟩ : ∃ T : Ending → World → Prop, T = fun r w' => r = .returned (.tuple #[]) ∧ w'.heap[ga]? = some (.cells #[.int .i64 ((k + n : Nat) : Int)] 3 (0, 0)) ∧ w'.heap[gb]? = some (.cells (kc (lay C k S)) 50 (0, 0)) ∧ Chg [ga, gb] [ga, gb] w w' := ⟨_, rfl⟩
  rw [← hT]
  replace hT := hide hT
  have hne : gb ≠ ga := ty_ne h2 h1 (by decide)
  obtain ⟨kn, hkn⟩ : ∃ x, x = k + n := ⟨_, rfl⟩
  have hw1 : IntKind.i64.wrap ((k : Int) + (n : Int)) = (kn : Int) := by rw [IntKind.wrap_i64]; omega
  have hB := ((Bc.nil [ga, gb] w).add ⟨ga, #[.int .i64 (k : Int)], 3⟩ h1 (.inl (by simp)) (fun y hy => by cases hy)).add ⟨gb, kc C, 50⟩ h2 (.inl (by simp)) (fun y hy => by simp at hy; subst hy; exact hne.symm)
  replace hB : Bc [ga, gb] w [⟨ga, #[.int .i64 (k : Int)], 3⟩, ⟨gb, kc C, 50⟩] w := hB
  clear h1 h2
  replace hS0 := hide hS0; replace hB := hide hB; replace hkn := hide hkn
  go_enter Tryd.func74, Tryd.ntmps74
  go_upto_region 0 with fail
  replace hB := unhide hB
  refine anyC_start 6 (fun (v : World) => v.heap[ga]? = some (.cells #[.int .i64 (k : Int)] 3 (0, 0))) (by kernel_rfl) ?_
  replace hB := hB.drew
  have hG := (Gr.refl w).drew
  generalize World.drew _ = x0 at *
  have hS : (fun (v : World) => v.heap[ga]? = some (.cells #[.int .i64 (k : Int)] 3 (0, 0))) x0 := (hB.get 0 (x := ⟨ga, #[.int .i64 (k : Int)], 3⟩) rfl)
  simp only [List.size_toArray, List.length_cons, List.length_nil, Array.replicate, List.replicate]
  refine anyC_take (i := 0) (v := (.int .i64 (k : Int))) (fun (v : World) => v.heap[ga]? = some (.cells #[.int .i64 (k : Int)] 3 (0, 0))) (fun _ h_ => h_) (.inr (by kernel_rfl)) rfl (by kernel_rfl) (by kernel_rfl) (by kernel_rfl) (by decide) (by kernel_rfl) (by decide) (fun _ _ _ h => h) (.inl ⟨by kernel_rfl, fun x_ hu => exec_i64 _ (.tmp 1) rfl ga 0 (by kernel_rfl) (k : Int) (cell_of hu (i := 0) rfl)⟩) hS ?_
  simp only [nrm]
  refine anyC_take (i := 1) (v := (.int .i64 (k : Int))) (fun (v : World) => v.heap[ga]? = some (.cells #[.int .i64 (k : Int)] 3 (0, 0))) (fun _ h_ => h_) (.inr (by kernel_rfl)) rfl (by kernel_rfl) (by kernel_rfl) (by kernel_rfl) (by decide) (by kernel_rfl) (by decide) (fun _ _ _ h => h) (.inl ⟨by kernel_rfl, fun x_ hu => exec_i64 _ (.tmp 1) rfl ga 0 (by kernel_rfl) (k : Int) (cell_of hu (i := 0) rfl)⟩) hS ?_
  simp only [nrm]
  refine anyC_take (i := 2) (v := (.slice (some ⟨gb, k, none⟩) (64 - k) (64 - k))) (fun (v : World) => v.heap[ga]? = some (.cells #[.int .i64 (k : Int)] 3 (0, 0))) (fun _ h_ => h_) (.inr (by kernel_rfl)) rfl (by kernel_rfl) (by kernel_rfl) (by kernel_rfl) (by decide) (by kernel_rfl) (by decide) (fun _ _ _ h => h) (.inl ⟨by kernel_rfl, fun x_ hu => exec_afrom _ (.tmp 2) (.tmp 5) rfl gb k (by kernel_rfl) (by kernel_rfl) (by omega)⟩) hS ?_
  simp only [nrm]
  refine anyC_take (i := 3) (v := (.slice a n c)) (fun (v : World) => v.heap[ga]? = some (.cells #[.int .i64 (k : Int)] 3 (0, 0))) (fun _ h_ => h_) (.inr (by kernel_rfl)) rfl (by kernel_rfl) (by kernel_rfl) (by kernel_rfl) (by decide) (by kernel_rfl) (by decide) (fun _ _ _ h => h) (.inl ⟨by kernel_rfl, fun x_ hu => by kernel_rfl⟩) hS ?_
  simp only [nrm]
  refine anyC_one (i := 4) (by kernel_rfl) rfl (fun K_ hQ => ?_)
  rw [if_pos (by kernel_rfl)]
  have hsl := (unhide hS0).len
  refine copy_wp (.tmp 6) (.tmp 7) rfl gb k (64 - k) (64 - k) a n c (by kernel_rfl) (by kernel_rfl) (C.map (Value.int .u8)) 50 (hB.get 1 (x := ⟨gb, kc C, 50⟩) rfl) S (by rw [hsl]; exact (Nat.min_eq_left (by omega)).symm) ((unhide hS0).gr hG).sl (by rw [hsl, List.length_map, hC]; omega) ?_
  have hcell := laid (S := S) (o := k) (hB.get 1 (x := ⟨gb, kc C, 50⟩) rfl) (by rw [hsl, hC]; omega)
  have hB2 := hB.but (setCells_bt (S.map (Value.int .u8)) x0 gb k) 1 (x := ⟨gb, kc C, 50⟩) rfl rfl hcell
  simp only [List.set_cons_zero, List.set_cons_succ] at hB2
  generalize World.setCells _ _ _ _ = x1 at *
  rw [hsl]
  clear hcell hB hS hG
  have hB : Bc [ga, gb] w [⟨ga, #[.int .i64 (k : Int)], 3⟩, ⟨gb, kc (lay C k S), 50⟩] x1 := hB2
  clear hB2
  generalize lay C k S = CL at *
  have hS : (fun (v : World) => v.heap[ga]? = some (.cells #[.int .i64 (k : Int)] 3 (0, 0))) x1 := (hB.get 0 (x := ⟨ga, #[.int .i64 (k : Int)], 3⟩) rfl)
  refine hQ.out _ _ hS (fun _ => ?_)
  clear hQ K_
  simp only [nrm]
  refine anyC_take (i := 5) (v := (.int .i64 (kn : Int))) (fun (v : World) => v.heap[ga]? = some (.cells #[.int .i64 (k : Int)] 3 (0, 0))) (fun _ h_ => h_) (.inr (by kernel_rfl)) rfl (by kernel_rfl) (by kernel_rfl) (by kernel_rfl) (by decide) (by kernel_rfl) (by decide) (fun _ _ _ h => h) (.inl ⟨by kernel_rfl, fun x_ hu => by go_simp⟩) hS ?_
  simp only [nrm]
  refine anyC_last (by kernel_rfl) rfl (fun K_ hQ => ?_)
  have c4 := cell_of (hB.get 0 (x := ⟨ga, #[.int .i64 (k : Int)], 3⟩) rfl) (i := 0) rfl
  have fz := froz_of (i := 0) (hB.get 0 (x := ⟨ga, #[.int .i64 (k : Int)], 3⟩) rfl)
  have hB2 := hB.cell 0 (x := ⟨ga, #[.int .i64 (k : Int)], 3⟩) rfl 0 (.int .i64 (kn : Int))
  simp only [List.set_cons_zero, List.set_cons_succ] at hB2
  replace hB2 : Bc [ga, gb] w [⟨ga, #[.int .i64 (kn : Int)], 3⟩, ⟨gb, kc CL, 50⟩] _ := hB2
  clear hB hS
  replace hB2 := hide hB2
  replace hQ := hide hQ
  dsimp only at c4 fz
  go_simp
  refine (unhide hQ).out _ _ ?_
  clear hQ K_ c4 fz
  have hB := unhide hB2
  clear hB2
  generalize World.setCell _ _ _ = x2 at *
  refine any_done (by kernel_rfl) ?_
  replace hB := hide hB
  go_wp2_with fail
  rw [unhide hT]
  exact bodyPost_end (results_none Tryd.results74 _ _ _) rfl ⟨rfl, by have h := (unhide hB).get 0 (x := ⟨ga, #[.int .i64 (kn : Int)], 3⟩) rfl; rw [← unhide hkn]; exact h, (unhide hB).get 1 (x := ⟨gb, kc CL, 50⟩) rfl, (unhide hB).chg⟩
theorem exec_w32 {op : Oper} {a : Act} (w : World) (x : Operand) (ho : op.op = .load 81 x) (g i : Nat) (hx : a.eval x = .pointer (some ⟨g, i, none⟩)) (v : Int) (hc : w.cell? ⟨g, i, none⟩ = some (.int .u32 v)) : (execOp a.eval op).run Tryd.prog w = .ok (.value (.int .u32 v)) w := by
  unfold execOp
  simp only [ho, hx, Instr.loadAt, Instr.sureAddr, Sem.run_bind, Sem.run_pure, Result.andThen_ok]
  go_simp
theorem Bl.neq {w v : World} {L : List Blk} (h : Bl w L v) (i j : Nat) {x y : Blk} (hi : L[i]? = some x) (hj : L[j]? = some y) (hij : i ≠ j) : x.g ≠ y.g := by
  obtain ⟨hil, rfl⟩ := List.getElem?_eq_some_iff.1 hi
  obtain ⟨hjl, rfl⟩ := List.getElem?_eq_some_iff.1 hj
  rcases Nat.lt_or_gt_of_ne hij with hlt | hlt
  · exact List.pairwise_iff_getElem.1 h.ne i j hil hjl hlt
  · exact (List.pairwise_iff_getElem.1 h.ne j i hjl hil hlt).symm
theorem map_set_g {L : List Blk} {i : Nat} {x : Blk} (hi : L[i]? = some x) (c : Array Value) (t : TypeId) : (L.set i ⟨x.g, c, t⟩).map (·.g) = L.map (·.g) := by
  apply List.ext_getElem?
  intro j
  rw [List.getElem?_map, List.getElem?_map]
  by_cases hji : j = i
  · subst hji
    rw [List.getElem?_set_self', hi]
    rfl
  · rw [List.getElem?_set_ne (fun e => hji e.symm)]
theorem Bl.chg2 {w u v : World} {L : List Blk} (h : Bl w L u) (i j : Nat) (hij : i ≠ j) {x y : Blk} (hi : L[i]? = some x) (hj : L[j]? = some y) (k : Chg [x.g, y.g] [x.g, y.g] u v) {c d : Array Value} (h1 : v.heap[x.g]? = some (.cells c x.t (0, 0))) (h2 : v.heap[y.g]? = some (.cells d y.t (0, 0))) : Bl w ((L.set i ⟨x.g, c, x.t⟩).set j ⟨y.g, d, y.t⟩) v := by
  have hj2 : (L.set i ⟨x.g, c, x.t⟩)[j]? = some y := by rw [List.getElem?_set_ne hij]; exact hj
  refine ⟨Chg.own h.gr k (fun q hq => ?_), fun z hz => ?_, ?_⟩
  · simp only [List.mem_cons, List.not_mem_nil, or_false] at hq
    rcases hq with rfl | rfl
    · exact h.own i hi
    · exact h.own j hj
  · obtain ⟨q, hq⟩ := List.mem_iff_getElem?.1 hz
    by_cases hqj : q = j
    · subst hqj
      rw [List.getElem?_set_self', hj2] at hq
      have hq : (⟨y.g, d, y.t⟩ : Blk) = z := Option.some.inj hq
      subst hq
      exact ⟨h2, by have := h.own q hj; exact this⟩
    · rw [List.getElem?_set_ne (fun e => hqj e.symm)] at hq
      by_cases hqi : q = i
      · subst hqi
        rw [List.getElem?_set_self', hi] at hq
        have hq : (⟨x.g, c, x.t⟩ : Blk) = z := Option.some.inj hq
        subst hq
        exact ⟨h1, by have := h.own q hi; exact this⟩
      · rw [List.getElem?_set_ne (fun e => hqi e.symm)] at hq
        exact ⟨k.blk (h.get q hq) (by simp only [List.mem_cons, List.not_mem_nil, or_false, not_or]; exact ⟨h.neq q i hq hi hqi, h.neq q j hq hj hqj⟩), h.own q hq⟩
  · have hp : (((L.set i ⟨x.g, c, x.t⟩).set j ⟨y.g, d, y.t⟩).map (·.g)).Pairwise (fun a b => a ≠ b) := by
      rw [map_set_g hj2, map_set_g hi]
      exact List.pairwise_map.2 h.ne
    exact List.pairwise_map.1 hp
theorem lay_zero (A S : List Int) (m : Nat) (h : S.length ≤ m) : lay (A ++ List.replicate m 0) A.length S = (A ++ S) ++ List.replicate (m - S.length) 0 := by
  unfold lay
  rw [List.take_left, List.drop_append, List.drop_eq_nil_of_le (by omega), List.nil_append, show A.length + S.length - A.length = S.length from by omega, List.drop_replicate, List.append_assoc]
theorem spv_cells {w : World} {g : Nat} {s : Sup} {t : TypeId} (h : w.heap[g]? = some (.cells (spv s) t (0, 0))) : w.cell? ⟨g, 0, none⟩ = some (.int .u8 (s.place : Int)) ∧ w.cell? ⟨g, 1, none⟩ = some (.int .u64 (s.turn : Int)) ∧ w.cell? ⟨g, 2, none⟩ = some (.int .u32 (s.size : Int)) := ⟨cell_of h (i := 0) rfl, cell_of h (i := 1) rfl, cell_of h (i := 2) rfl⟩
theorem spv_range {w : World} {g : Nat} {s : Sup} {t : TypeId} (h : w.heap[g]? = some (.cells (spv s) t (0, 0))) : w.rangeAt g 3 (bv s.hash) := fun j x hj => by
  refine cell_of h ?_
  unfold spv spl
  rw [List.getElem?_toArray, show 3 + j = j + 1 + 1 + 1 from by omega, List.getElem?_cons_succ, List.getElem?_cons_succ, List.getElem?_cons_succ]
  exact hj
theorem spv_hash {w : World} {g : Nat} {s : Sup} {t : TypeId} (h : w.heap[g]? = some (.cells (spv s) t (0, 0))) (hs : s.Ok) : Lb w (some ⟨g, 3, none⟩) 16 16 s.hash := by
  refine ⟨hs.hl, hs.hb, .inr ⟨g, 3, rfl, fun j hj => spv_range h j _ ?_⟩, Nat.le_refl _, by omega⟩
  unfold bv
  rw [List.getElem?_map, List.getElem?_eq_getElem hj]
  simp [List.getD_eq_getElem?_getD, hj]
theorem nw_lb0 {w : World} {g n : Nat} {L : List Int} {t : TypeId} (h : w.heap[g]? = some (.cells (kc L) t (0, 0))) (hb : IsB L) (hn : L.length = n) (hs : n < 9223372036854775808) : Lb w (some ⟨g, 0, none⟩) n n L := ⟨hn, hb, .inr ⟨g, 0, rfl, kc_at h⟩, Nat.le_refl _, hs⟩
theorem b48_of (s : Sup) (h : s.hash.length = 16) : ((((htr ++ [(s.place : Int), 0]) ++ lowL (s.turn : Int) 8) ++ lowL (s.size : Int) 4) ++ s.hash) ++ List.replicate 24 0 = s.b48 ++ List.replicate 16 0 := by
  unfold Sup.b48
  rw [show (24 : Nat) = 8 + 16 from rfl, ← List.replicate_append_replicate]
  simp only [List.append_assoc]
set_option maxHeartbeats 4000000 in
theorem sblock_ok (s : Sup) (hs : s.Ok) (w : World) (hf : Fst w) : Calls Tryd.prog 50 #[.agg (spv s)] w (Vl (.agg (kc s.blk)) w) := by
  obtain ⟨T, hT⟩ : ∃ T, T = Vl (.agg (kc s.blk)) w := ⟨_, rfl⟩
  rw [← hT]
  replace hT := hide hT
  obtain ⟨SK, hSK⟩ : ∃ X, X = spv s := ⟨_, rfl⟩
  rw [← hSK]
  have hp := hs.p
  have ht := hs.t
  have hz := hs.z
  have hhl := hs.hl
  replace hSK := hide hSK; replace hs := hide hs; replace hf := hide hf
  go_enter Tryd.func50, Tryd.ntmps50
  go_upto_region 2 with fail
  have hB := ((((Bl.nil w).new SK 85).new #[.int .u8 0, .int .u8 0, .int .u8 0, .int .u8 0, .int .u8 0, .int .u8 0, .int .u8 0, .int .u8 0, .int .u8 0, .int .u8 0, .int .u8 0, .int .u8 0, .int .u8 0, .int .u8 0, .int .u8 0, .int .u8 0, .int .u8 0, .int .u8 0, .int .u8 0, .int .u8 0, .int .u8 0, .int .u8 0, .int .u8 0, .int .u8 0, .int .u8 0, .int .u8 0, .int .u8 0, .int .u8 0, .int .u8 0, .int .u8 0, .int .u8 0, .int .u8 0, .int .u8 0, .int .u8 0, .int .u8 0, .int .u8 0, .int .u8 0, .int .u8 0, .int .u8 0, .int .u8 0, .int .u8 0, .int .u8 0, .int .u8 0, .int .u8 0, .int .u8 0, .int .u8 0, .int .u8 0, .int .u8 0, .int .u8 0, .int .u8 0, .int .u8 0, .int .u8 0, .int .u8 0, .int .u8 0, .int .u8 0, .int .u8 0, .int .u8 0, .int .u8 0, .int .u8 0, .int .u8 0, .int .u8 0, .int .u8 0, .int .u8 0, .int .u8 0] 50).new #[.int .u8 0, .int .u8 0, .int .u8 0, .int .u8 0, .int .u8 0, .int .u8 0, .int .u8 0, .int .u8 0, .int .u8 0, .int .u8 0, .int .u8 0, .int .u8 0, .int .u8 0, .int .u8 0, .int .u8 0, .int .u8 0, .int .u8 0, .int .u8 0, .int .u8 0, .int .u8 0, .int .u8 0, .int .u8 0, .int .u8 0, .int .u8 0, .int .u8 0, .int .u8 0, .int .u8 0, .int .u8 0, .int .u8 0, .int .u8 0, .int .u8 0, .int .u8 0, .int .u8 0, .int .u8 0, .int .u8 0, .int .u8 0, .int .u8 0, .int .u8 0, .int .u8 0, .int .u8 0, .int .u8 0, .int .u8 0, .int .u8 0, .int .u8 0, .int .u8 0, .int .u8 0, .int .u8 0, .int .u8 0, .int .u8 0, .int .u8 0, .int .u8 0, .int .u8 0, .int .u8 0, .int .u8 0, .int .u8 0, .int .u8 0, .int .u8 0, .int .u8 0, .int .u8 0, .int .u8 0, .int .u8 0, .int .u8 0, .int .u8 0, .int .u8 0] 50)
  simp only [size_alloc, List.nil_append, List.cons_append] at hB
  generalize World.alloc _ _ = u at *
  rw [unhide hSK] at hB
  replace hB : Bl w [⟨w.heap.size, spv s, 85⟩, ⟨w.heap.size + 1, kc ZB, 50⟩, ⟨w.heap.size + 1 + 1, kc ZB, 50⟩] u := hB
  refine wp_region_lit ?_
  refine list_valw (.pointer (some ⟨u.heap.size, 0, none⟩)) (u.alloc (.cells (#[.int .i64 0]) 3 (0, 0))) (by kernel_rfl) (by kernel_rfl) ?_
  replace hB := hB.new (#[.int .i64 0]) 3
  simp only [List.nil_append, List.cons_append] at hB
  generalize World.alloc _ _ = u1 at *
  generalize u.heap.size = ga at *
  replace hB : Bl w [⟨w.heap.size, spv s, 85⟩, ⟨w.heap.size + 1, kc ZB, 50⟩, ⟨w.heap.size + 1 + 1, kc ZB, 50⟩, ⟨ga, #[.int .i64 0], 3⟩] u1 := hB
  simp only [nrm]
  have c4 := cell_of (hB.get 3 (x := ⟨ga, #[.int .i64 0], 3⟩) rfl) (i := 0) rfl
  have fz := froz_of (i := 0) (hB.get 3 (x := ⟨ga, #[.int .i64 0], 3⟩) rfl)
  have hB2 := hB.cell 3 (x := ⟨ga, #[.int .i64 0], 3⟩) rfl 0 (.int .i64 ((0 : Nat) : Int))
  simp only [List.set_cons_zero, List.set_cons_succ] at hB2
  replace hB2 : Bl w [⟨w.heap.size, spv s, 85⟩, ⟨w.heap.size + 1, kc ZB, 50⟩, ⟨w.heap.size + 1 + 1, kc ZB, 50⟩, ⟨ga, #[.int .i64 ((0 : Nat) : Int)], 3⟩] _ := hB2
  clear hB
  replace hB2 := hide hB2
  dsimp only at c4 fz
  (refine wpList_step fun K hK => ?_; replace hK := hide hK; go_simp; refine unhide hK _ _ ?_; clear hK K)
  clear c4 fz
  have hB := unhide hB2
  clear hB2
  generalize World.setCell _ _ _ = u2 at *
  refine wpList_nil ?_
  replace hB := hide hB
  go_upto_region 3 with fail
  replace hB := unhide hB
  refine wp_region_lit ?_
  refine list_val (.func (.func 74) #[] #[.pointer (some ⟨ga, 0, none⟩), .pointer (some ⟨w.heap.size + 1 + 1, 0, none⟩)]) (by kernel_rfl) (by kernel_rfl) ?_
  simp only [nrm]
  (refine wpList_step fun K hK => ?_; replace hK := hide hK; go_simp; refine unhide hK _ _ ?_; clear hK K)
  refine wpList_nil ?_
  replace hB := hide hB
  go_upto_region 4 with fail
  replace hB := unhide hB
  have lC0 : ZB.length = 64 := rfl
  obtain ⟨C0, eC0⟩ : ∃ x, x = ZB := ⟨_, rfl⟩
  replace hB : Bl w [⟨w.heap.size, spv s, 85⟩, ⟨w.heap.size + 1, kc ZB, 50⟩, ⟨w.heap.size + 1 + 1, kc C0, 50⟩, ⟨ga, #[.int .i64 ((0 : Nat) : Int)], 3⟩] u2 := by rw [eC0]; exact hB
  rw [← eC0] at lC0
  replace eC0 := hide eC0
  refine wp_region_lit ?_
  refine list_val (.func (.func 74) #[] #[.pointer (some ⟨ga, 0, none⟩), .pointer (some ⟨w.heap.size + 1 + 1, 0, none⟩)]) (by kernel_rfl) (by kernel_rfl) ?_
  simp only [nrm]
  refine list_valw (.slice (some ⟨u2.heap.size, 0, none⟩) 10 10) (u2.alloc (.cells (kc htr) 5 (0, 0))) (by kernel_rfl) (by kernel_rfl) ?_
  simp only [nrm]
  refine list_valw (.slice (some ⟨u2.heap.size, 0, none⟩) 10 10) (u2.alloc (.cells (kc htr) 5 ((kc htr).size, (kc htr).size + 1))) (by kernel_rfl) (exec_const u2 (.tmp 9) rfl (kc htr) 10 10 (by kernel_rfl)) ?_
  simp only [nrm]
  have hg := (Gr.refl u2).alloc (.cells (kc htr) 5 ((kc htr).size, (kc htr).size + 1))
  have l1 : Lb (u2.alloc (.cells (kc htr) 5 ((kc htr).size, (kc htr).size + 1))) (some ⟨u2.heap.size, 0, none⟩) 10 10 htr := ⟨rfl, htr_isB, .inr ⟨_, 0, rfl, fun j hj => by rw [Nat.zero_add]; exact cell_of (blk_new _ _) (kc_get htr j hj)⟩, by omega, by omega⟩
  replace hB := hB.more hg
  clear hg
  generalize World.alloc _ _ = u3 at *
  generalize u2.heap.size = h1 at *
  refine list_call 74 #[.slice (some ⟨h1, 0, none⟩) 10 10, .pointer (some ⟨ga, 0, none⟩), .pointer (some ⟨w.heap.size + 1 + 1, 0, none⟩)] (by kernel_rfl) (by kernel_rfl) ((sput_ok ga (w.heap.size + 1 + 1) 0 C0 (htr) lC0 (some ⟨h1, 0, none⟩) 10 10 u3 (hB.get 3 (x := ⟨ga, #[.int .i64 ((0 : Nat) : Int)], 3⟩) rfl) (hB.get 2 (x := ⟨w.heap.size + 1 + 1, kc C0, 50⟩) rfl) (l1) (by omega) (by omega)).mono ?_)
  rintro r u4 ⟨rfl, hc1, hc2, hch⟩
  have hB2 := hB.chg2 3 2 (by decide) (x := ⟨ga, #[.int .i64 ((0 : Nat) : Int)], 3⟩) (y := ⟨w.heap.size + 1 + 1, kc C0, 50⟩) rfl rfl hch hc1 hc2
  simp only [List.set_cons_zero, List.set_cons_succ] at hB2
  have lC1 : (lay C0 0 (htr)).length = 64 := (lay_len _ _ _ (by rw [(l1).len, lC0]; omega)).trans lC0
  have eC1 : Hid (lay C0 0 (htr) = lay C0 0 (htr)) := rfl
  generalize hq_ : lay C0 0 (htr) = C1 at *
  replace eC1 : Hid (C1 = lay C0 0 (htr)) := hq_.symm
  clear hB hc1 hc2 hch hq_
  replace hB2 : Bl w [⟨w.heap.size, spv s, 85⟩, ⟨w.heap.size + 1, kc ZB, 50⟩, ⟨w.heap.size + 1 + 1, kc C1, 50⟩, ⟨ga, #[.int .i64 ((10 : Nat) : Int)], 3⟩] u4 := hB2
  have hB := hB2
  clear hB2
  refine ⟨_, rfl, ?_⟩
  simp only [nrm]
  refine wpList_nil ?_
  clear l1
  replace hB := hide hB
  go_upto_region 5 with fail
  replace hB := unhide hB
  refine wp_region_lit ?_
  refine list_val (.func (.func 74) #[] #[.pointer (some ⟨ga, 0, none⟩), .pointer (some ⟨w.heap.size + 1 + 1, 0, none⟩)]) (by kernel_rfl) (by kernel_rfl) ?_
  simp only [nrm]
  refine list_val (.pointer (some ⟨w.heap.size, 0, none⟩)) (by kernel_rfl) (by kernel_rfl) ?_
  simp only [nrm]
  refine list_val (.int .u8 (s.place : Int)) (by kernel_rfl) (exec_b _ (.tmp 13) rfl (w.heap.size) 0 (by kernel_rfl) _ (spv_cells (hB.get 0 (x := ⟨w.heap.size, spv s, 85⟩) rfl)).1) ?_
  simp only [nrm]
  refine list_valw (.slice (some ⟨u4.heap.size, 0, none⟩) 2 2) (u4.alloc (.cells (kc [(s.place : Int), 0]) 5 (0, 0))) (by kernel_rfl) (by kernel_rfl) ?_
  have l2 : Lb (u4.alloc (.cells (kc [(s.place : Int), 0]) 5 (0, 0))) (some ⟨u4.heap.size, 0, none⟩) 2 2 [(s.place : Int), 0] := nw_lb (blk_new _ _) (by intro x hx; simp at hx; omega) rfl (by omega)
  have hg := (Gr.refl u4).alloc (.cells (kc [(s.place : Int), 0]) 5 (0, 0))
  replace hB := hB.more hg
  clear hg
  generalize World.alloc _ _ = u5 at *
  generalize u4.heap.size = h2 at *
  simp only [nrm]
  refine list_call 74 #[.slice (some ⟨h2, 0, none⟩) 2 2, .pointer (some ⟨ga, 0, none⟩), .pointer (some ⟨w.heap.size + 1 + 1, 0, none⟩)] (by kernel_rfl) (by kernel_rfl) ((sput_ok ga (w.heap.size + 1 + 1) 10 C1 ([(s.place : Int), 0]) lC1 (some ⟨h2, 0, none⟩) 2 2 u5 (hB.get 3 (x := ⟨ga, #[.int .i64 ((10 : Nat) : Int)], 3⟩) rfl) (hB.get 2 (x := ⟨w.heap.size + 1 + 1, kc C1, 50⟩) rfl) (l2) (by omega) (by omega)).mono ?_)
  rintro r u6 ⟨rfl, hc1, hc2, hch⟩
  have hB2 := hB.chg2 3 2 (by decide) (x := ⟨ga, #[.int .i64 ((10 : Nat) : Int)], 3⟩) (y := ⟨w.heap.size + 1 + 1, kc C1, 50⟩) rfl rfl hch hc1 hc2
  simp only [List.set_cons_zero, List.set_cons_succ] at hB2
  have lC2 : (lay C1 10 ([(s.place : Int), 0])).length = 64 := (lay_len _ _ _ (by rw [(l2).len, lC1]; omega)).trans lC1
  have eC2 : Hid (lay C1 10 ([(s.place : Int), 0]) = lay C1 10 ([(s.place : Int), 0])) := rfl
  generalize hq_ : lay C1 10 ([(s.place : Int), 0]) = C2 at *
  replace eC2 : Hid (C2 = lay C1 10 ([(s.place : Int), 0])) := hq_.symm
  clear hB hc1 hc2 hch hq_
  replace hB2 : Bl w [⟨w.heap.size, spv s, 85⟩, ⟨w.heap.size + 1, kc ZB, 50⟩, ⟨w.heap.size + 1 + 1, kc C2, 50⟩, ⟨ga, #[.int .i64 ((12 : Nat) : Int)], 3⟩] u6 := hB2
  have hB := hB2
  clear hB2
  refine ⟨_, rfl, ?_⟩
  simp only [nrm]
  refine wpList_nil ?_
  clear l2
  replace hB := hide hB
  go_upto_region 6 with fail
  replace hB := unhide hB
  refine wp_region_lit ?_
  refine list_val (.func (.func 74) #[] #[.pointer (some ⟨ga, 0, none⟩), .pointer (some ⟨w.heap.size + 1 + 1, 0, none⟩)]) (by kernel_rfl) (by kernel_rfl) ?_
  simp only [nrm]
  refine list_val (.pointer (some ⟨w.heap.size, 1, none⟩)) (by kernel_rfl) (by kernel_rfl) ?_
  simp only [nrm]
  refine list_val (.int .u64 (s.turn : Int)) (by kernel_rfl) (exec_u64 _ (.tmp 18) rfl (w.heap.size) 1 (by kernel_rfl) _ (spv_cells (hB.get 0 (x := ⟨w.heap.size, spv s, 85⟩) rfl)).2.1) ?_
  simp only [nrm]
  refine list_call 75 #[.slice none 0 0, .int .u64 (s.turn : Int)] (by kernel_rfl) (by kernel_rfl) ((put64_ok [] none 0 0 (s.turn : Int) (by omega) (by omega) _ (Lb.nil0 _)).mono ?_)
  rintro r u7 ⟨h3, rfl, hg1, hg2, hg3⟩
  replace hB := hB.more hg3
  rw [List.nil_append] at hg2
  have l3 := kc_lb hg2 (lowL_len _ _) (lowL_isB _ _) (by omega)
  have hl3 := lowL_len (s.turn : Int) 8
  clear hg1 hg2 hg3
  refine ⟨_, rfl, ?_⟩
  rw [List.nil_append]
  rw [hl3]
  obtain ⟨N8, eN8⟩ : ∃ x, x = lowL (s.turn : Int) 8 := ⟨_, rfl⟩
  rw [← eN8] at l3
  replace eN8 := hide eN8
  simp only [nrm]
  refine list_call 74 #[.slice (some ⟨h3, 0, none⟩) 8 8, .pointer (some ⟨ga, 0, none⟩), .pointer (some ⟨w.heap.size + 1 + 1, 0, none⟩)] (by kernel_rfl) (by kernel_rfl) ((sput_ok ga (w.heap.size + 1 + 1) 12 C2 (N8) lC2 (some ⟨h3, 0, none⟩) 8 8 u7 (hB.get 3 (x := ⟨ga, #[.int .i64 ((12 : Nat) : Int)], 3⟩) rfl) (hB.get 2 (x := ⟨w.heap.size + 1 + 1, kc C2, 50⟩) rfl) (l3) (by omega) (by omega)).mono ?_)
  rintro r u8 ⟨rfl, hc1, hc2, hch⟩
  have hB2 := hB.chg2 3 2 (by decide) (x := ⟨ga, #[.int .i64 ((12 : Nat) : Int)], 3⟩) (y := ⟨w.heap.size + 1 + 1, kc C2, 50⟩) rfl rfl hch hc1 hc2
  simp only [List.set_cons_zero, List.set_cons_succ] at hB2
  have lC3 : (lay C2 12 (N8)).length = 64 := (lay_len _ _ _ (by rw [(l3).len, lC2]; omega)).trans lC2
  have eC3 : Hid (lay C2 12 (N8) = lay C2 12 (N8)) := rfl
  generalize hq_ : lay C2 12 (N8) = C3 at *
  replace eC3 : Hid (C3 = lay C2 12 (N8)) := hq_.symm
  clear hB hc1 hc2 hch hq_
  replace hB2 : Bl w [⟨w.heap.size, spv s, 85⟩, ⟨w.heap.size + 1, kc ZB, 50⟩, ⟨w.heap.size + 1 + 1, kc C3, 50⟩, ⟨ga, #[.int .i64 ((20 : Nat) : Int)], 3⟩] u8 := hB2
  have hB := hB2
  clear hB2
  refine ⟨_, rfl, ?_⟩
  simp only [nrm]
  refine wpList_nil ?_
  clear l3 hl3
  replace hB := hide hB
  go_upto_region 7 with fail
  replace hB := unhide hB
  refine wp_region_lit ?_
  refine list_val (.func (.func 74) #[] #[.pointer (some ⟨ga, 0, none⟩), .pointer (some ⟨w.heap.size + 1 + 1, 0, none⟩)]) (by kernel_rfl) (by kernel_rfl) ?_
  simp only [nrm]
  refine list_val (.pointer (some ⟨w.heap.size, 2, none⟩)) (by kernel_rfl) (by kernel_rfl) ?_
  simp only [nrm]
  refine list_val (.int .u32 (s.size : Int)) (by kernel_rfl) (exec_w32 _ (.tmp 23) rfl (w.heap.size) 2 (by kernel_rfl) _ (spv_cells (hB.get 0 (x := ⟨w.heap.size, spv s, 85⟩) rfl)).2.2) ?_
  simp only [nrm]
  refine list_call 76 #[.slice none 0 0, .int .u32 (s.size : Int)] (by kernel_rfl) (by kernel_rfl) ((put32_ok (s.size : Int) ⟨by omega, by omega⟩ _).mono ?_)
  rintro r u9 ⟨h4, rfl, hg1, hg2, hg3⟩
  replace hB := hB.more hg3
  skip
  have l3 := kc_lb hg2 (lowL_len _ _) (lowL_isB _ _) (by omega)
  have hl3 := lowL_len (s.size : Int) 4
  clear hg1 hg2 hg3
  refine ⟨_, rfl, ?_⟩
  skip
  rw [hl3]
  obtain ⟨N4, eN4⟩ : ∃ x, x = lowL (s.size : Int) 4 := ⟨_, rfl⟩
  rw [← eN4] at l3
  replace eN4 := hide eN4
  simp only [nrm]
  refine list_call 74 #[.slice (some ⟨h4, 0, none⟩) 4 4, .pointer (some ⟨ga, 0, none⟩), .pointer (some ⟨w.heap.size + 1 + 1, 0, none⟩)] (by kernel_rfl) (by kernel_rfl) ((sput_ok ga (w.heap.size + 1 + 1) 20 C3 (N4) lC3 (some ⟨h4, 0, none⟩) 4 4 u9 (hB.get 3 (x := ⟨ga, #[.int .i64 ((20 : Nat) : Int)], 3⟩) rfl) (hB.get 2 (x := ⟨w.heap.size + 1 + 1, kc C3, 50⟩) rfl) (l3) (by omega) (by omega)).mono ?_)
  rintro r u10 ⟨rfl, hc1, hc2, hch⟩
  have hB2 := hB.chg2 3 2 (by decide) (x := ⟨ga, #[.int .i64 ((20 : Nat) : Int)], 3⟩) (y := ⟨w.heap.size + 1 + 1, kc C3, 50⟩) rfl rfl hch hc1 hc2
  simp only [List.set_cons_zero, List.set_cons_succ] at hB2
  have lC4 : (lay C3 20 (N4)).length = 64 := (lay_len _ _ _ (by rw [(l3).len, lC3]; omega)).trans lC3
  have eC4 : Hid (lay C3 20 (N4) = lay C3 20 (N4)) := rfl
  generalize hq_ : lay C3 20 (N4) = C4 at *
  replace eC4 : Hid (C4 = lay C3 20 (N4)) := hq_.symm
  clear hB hc1 hc2 hch hq_
  replace hB2 : Bl w [⟨w.heap.size, spv s, 85⟩, ⟨w.heap.size + 1, kc ZB, 50⟩, ⟨w.heap.size + 1 + 1, kc C4, 50⟩, ⟨ga, #[.int .i64 ((24 : Nat) : Int)], 3⟩] u10 := hB2
  have hB := hB2
  clear hB2
  refine ⟨_, rfl, ?_⟩
  simp only [nrm]
  refine wpList_nil ?_
  clear l3 hl3
  replace hB := hide hB
  go_upto_region 8 with fail
  replace hB := unhide hB
  refine wp_region_lit ?_
  refine list_val (.func (.func 74) #[] #[.pointer (some ⟨ga, 0, none⟩), .pointer (some ⟨w.heap.size + 1 + 1, 0, none⟩)]) (by kernel_rfl) (by kernel_rfl) ?_
  simp only [nrm]
  refine list_val (.pointer (some ⟨w.heap.size, 3, none⟩)) (by kernel_rfl) (by kernel_rfl) ?_
  simp only [nrm]
  refine list_val (.slice (some ⟨w.heap.size, 3, none⟩) 16 16) (by kernel_rfl) (by kernel_rfl) ?_
  simp only [nrm]
  refine list_call 74 #[.slice (some ⟨w.heap.size, 3, none⟩) 16 16, .pointer (some ⟨ga, 0, none⟩), .pointer (some ⟨w.heap.size + 1 + 1, 0, none⟩)] (by kernel_rfl) (by kernel_rfl) ((sput_ok ga (w.heap.size + 1 + 1) 24 C4 (s.hash) lC4 (some ⟨w.heap.size, 3, none⟩) 16 16 u10 (hB.get 3 (x := ⟨ga, #[.int .i64 ((24 : Nat) : Int)], 3⟩) rfl) (hB.get 2 (x := ⟨w.heap.size + 1 + 1, kc C4, 50⟩) rfl) (spv_hash (hB.get 0 (x := ⟨w.heap.size, spv s, 85⟩) rfl) (unhide hs)) (by omega) (by omega)).mono ?_)
  rintro r u11 ⟨rfl, hc1, hc2, hch⟩
  have hB2 := hB.chg2 3 2 (by decide) (x := ⟨ga, #[.int .i64 ((24 : Nat) : Int)], 3⟩) (y := ⟨w.heap.size + 1 + 1, kc C4, 50⟩) rfl rfl hch hc1 hc2
  simp only [List.set_cons_zero, List.set_cons_succ] at hB2
  have lC5 : (lay C4 24 (s.hash)).length = 64 := (lay_len _ _ _ (by rw [(spv_hash (hB.get 0 (x := ⟨w.heap.size, spv s, 85⟩) rfl) (unhide hs)).len, lC4]; omega)).trans lC4
  have eC5 : Hid (lay C4 24 (s.hash) = lay C4 24 (s.hash)) := rfl
  generalize hq_ : lay C4 24 (s.hash) = C5 at *
  replace eC5 : Hid (C5 = lay C4 24 (s.hash)) := hq_.symm
  clear hB hc1 hc2 hch hq_
  replace hB2 : Bl w [⟨w.heap.size, spv s, 85⟩, ⟨w.heap.size + 1, kc ZB, 50⟩, ⟨w.heap.size + 1 + 1, kc C5, 50⟩, ⟨ga, #[.int .i64 ((40 : Nat) : Int)], 3⟩] u11 := hB2
  have hB := hB2
  clear hB2
  refine ⟨_, rfl, ?_⟩
  simp only [nrm]
  refine wpList_nil ?_
  replace hB := hide hB
  go_upto_region 9 with fail
  replace hB := unhide hB
  refine wp_region_lit ?_
  have c4 := cell_of (hB.get 3 (x := ⟨ga, #[.int .i64 ((40 : Nat) : Int)], 3⟩) rfl) (i := 0) rfl
  have fz := froz_of (i := 0) (hB.get 3 (x := ⟨ga, #[.int .i64 ((40 : Nat) : Int)], 3⟩) rfl)
  have hB2 := hB.cell 3 (x := ⟨ga, #[.int .i64 ((40 : Nat) : Int)], 3⟩) rfl 0 (.int .i64 ((48 : Nat) : Int))
  simp only [List.set_cons_zero, List.set_cons_succ] at hB2
  replace hB2 : Bl w [⟨w.heap.size, spv s, 85⟩, ⟨w.heap.size + 1, kc ZB, 50⟩, ⟨w.heap.size + 1 + 1, kc C5, 50⟩, ⟨ga, #[.int .i64 ((48 : Nat) : Int)], 3⟩] _ := hB2
  clear hB
  replace hB2 := hide hB2
  dsimp only at c4 fz
  (refine wpList_step fun K hK => ?_; replace hK := hide hK; go_simp; refine unhide hK _ _ ?_; clear hK K)
  clear c4 fz
  have hB := unhide hB2
  clear hB2
  generalize World.setCell _ _ _ = u12 at *
  refine wpList_nil ?_
  have eA : Hid (C5 = s.b48 ++ List.replicate 16 0) := by
    show C5 = _
    have z0 : C0 = [] ++ List.replicate 64 0 := unhide eC0
    have z1 : C1 = htr ++ List.replicate 54 0 := by rw [unhide eC1, z0]; exact lay_zero [] htr 64 (by decide)
    have z2 : C2 = (htr ++ [(s.place : Int), 0]) ++ List.replicate 52 0 := by rw [unhide eC2, z1]; exact lay_zero htr [(s.place : Int), 0] 54 (by simp)
    have z3 : C3 = ((htr ++ [(s.place : Int), 0]) ++ lowL (s.turn : Int) 8) ++ List.replicate 44 0 := by
      have h := lay_zero (htr ++ [(s.place : Int), 0]) (lowL (s.turn : Int) 8) 52 (by rw [lowL_len]; omega)
      rw [lowL_len] at h
      rw [unhide eC3, z2, unhide eN8]
      exact h
    have z4 : C4 = (((htr ++ [(s.place : Int), 0]) ++ lowL (s.turn : Int) 8) ++ lowL (s.size : Int) 4) ++ List.replicate 40 0 := by
      have h := lay_zero ((htr ++ [(s.place : Int), 0]) ++ lowL (s.turn : Int) 8) (lowL (s.size : Int) 4) 44 (by rw [lowL_len]; omega)
      rw [lowL_len, List.length_append, lowL_len] at h
      rw [unhide eC4, z3, unhide eN4]
      exact h
    have h := lay_zero (((htr ++ [(s.place : Int), 0]) ++ lowL (s.turn : Int) 8) ++ lowL (s.size : Int) 4) s.hash 40 (by rw [hhl]; omega)
    rw [hhl, List.length_append, lowL_len, List.length_append, lowL_len] at h
    rw [unhide eC5, z4, ← b48_of s hhl]
    exact h
  have hb48 : Hid (C5.take 48 = s.b48) := by show C5.take 48 = s.b48; rw [unhide eA]; exact take_app _ _ 48 (s.b48_len hhl)
  have hok := blk_bb (unhide hs)
  have hi48 : IsB s.b48 := fun x hx => hok.2 x (by unfold Sup.blk; exact List.mem_append_left _ hx)
  have hl48 := s.b48_len hhl
  have hbl : Hid (s.blk = s.b48 ++ sh16 s.b48) := rfl
  have hB4 : Hid (lay C5 48 (sh16 s.b48) = s.blk) := by
    show lay C5 48 (sh16 s.b48) = s.blk
    rw [unhide hbl]
    have h := lay_zero s.b48 (sh16 s.b48) 16 (by rw [sh16_len]; omega)
    rw [hl48, sh16_len] at h
    rw [unhide eA, h]
    exact List.append_nil _
  clear eC1 eC2 eC3 eC4 eC5 eC0 eA hok hbl
  generalize s.b48 = S48 at *
  replace hB := hide hB
  go_upto_region 10 with fail
  replace hB := unhide hB
  refine wp_region_lit ?_
  refine list_val (.int .i64 ((48 : Nat) : Int)) (by kernel_rfl) (exec_i64 _ (.tmp 4) rfl ga 0 (by kernel_rfl) _ (cell_of (hB.get 3 (x := ⟨ga, #[.int .i64 ((48 : Nat) : Int)], 3⟩) rfl) (i := 0) rfl)) ?_
  simp only [nrm]
  refine list_val (.slice (some ⟨w.heap.size + 1 + 1, 0, none⟩) 48 64) (by kernel_rfl) (by kernel_rfl) ?_
  simp only [nrm]
  have hlb : Lb u12 (some ⟨w.heap.size + 1 + 1, 0, none⟩) 48 64 S48 := by
    have h := sub_lb (hB.get 2 (x := ⟨w.heap.size + 1 + 1, kc C5, 50⟩) rfl) (b := C5)
    refine ⟨hl48, hi48, .inr ⟨_, 0, rfl, ?_⟩, by omega, by omega⟩
    have h2 := (kc_at (hB.get 2 (x := ⟨w.heap.size + 1 + 1, kc C5, 50⟩) rfl)).take 48
    rw [unhide hb48] at h2
    exact h2
  refine list_call 54 #[.slice (some ⟨w.heap.size + 1 + 1, 0, none⟩) 48 64] (by kernel_rfl) (by kernel_rfl) ((digest_ok S48 (some ⟨w.heap.size + 1 + 1, 0, none⟩) 48 64 u12 hlb (by omega) ((unhide hf).gr hB.gr)).mono ?_)
  rintro r u13 ⟨rfl, hg⟩
  replace hB := hB.more hg
  have hHl := sh16_len S48
  have hHb := sh16_isB S48 (sumL_isB S48)
  clear hg hlb
  generalize sh16 S48 = H at *
  refine ⟨_, rfl, ?_⟩
  simp only [nrm]
  refine list_valw (.pointer (some ⟨u13.heap.size, 0, none⟩)) (u13.alloc (.cells (kc Z16) 83 (0, 0))) (by kernel_rfl) (by kernel_rfl) ?_
  replace hB := hB.new (kc Z16) 83
  simp only [List.nil_append, List.cons_append] at hB
  generalize World.alloc _ _ = u14 at *
  generalize u13.heap.size = gm at *
  replace hB : Bl w [⟨w.heap.size, spv s, 85⟩, ⟨w.heap.size + 1, kc ZB, 50⟩, ⟨w.heap.size + 1 + 1, kc C5, 50⟩, ⟨ga, #[.int .i64 ((48 : Nat) : Int)], 3⟩, ⟨gm, kc Z16, 83⟩] u14 := hB
  simp only [nrm]
  refine list_store 83 (.tmp 6) (.tmp 33) (gm) (kc H) 83 (kc Z16) (by kernel_rfl) rfl (by kernel_rfl) (by kernel_rfl) (hB.get 4 (x := ⟨gm, kc Z16, 83⟩) rfl) (by rw [Tryd.infoMk, kc_size, hHl]) (by rw [kc_size, kc_size, hHl]; rfl) (kc_one _) ?_
  replace hB := hB.set 4 (x := ⟨gm, kc Z16, 83⟩) rfl (kc H)
  simp only [List.set_cons_zero, List.set_cons_succ] at hB
  generalize World.setRow _ _ _ = u15 at *
  replace hB : Bl w [⟨w.heap.size, spv s, 85⟩, ⟨w.heap.size + 1, kc ZB, 50⟩, ⟨w.heap.size + 1 + 1, kc C5, 50⟩, ⟨ga, #[.int .i64 ((48 : Nat) : Int)], 3⟩, ⟨gm, kc H, 83⟩] u15 := hB
  simp only [nrm]
  refine wpList_nil ?_
  replace hB := hide hB
  go_upto_region 11 with fail
  replace hB := unhide hB
  refine wp_region_lit ?_
  refine list_val (.func (.func 74) #[] #[.pointer (some ⟨ga, 0, none⟩), .pointer (some ⟨w.heap.size + 1 + 1, 0, none⟩)]) (by kernel_rfl) (by kernel_rfl) ?_
  simp only [nrm]
  refine list_val (.slice (some ⟨gm, 0, none⟩) 16 16) (by kernel_rfl) (by kernel_rfl) ?_
  simp only [nrm]
  refine list_call 74 #[.slice (some ⟨gm, 0, none⟩) 16 16, .pointer (some ⟨ga, 0, none⟩), .pointer (some ⟨w.heap.size + 1 + 1, 0, none⟩)] (by kernel_rfl) (by kernel_rfl) ((sput_ok ga (w.heap.size + 1 + 1) 48 C5 (H) lC5 (some ⟨gm, 0, none⟩) 16 16 u15 (hB.get 3 (x := ⟨ga, #[.int .i64 ((48 : Nat) : Int)], 3⟩) rfl) (hB.get 2 (x := ⟨w.heap.size + 1 + 1, kc C5, 50⟩) rfl) ((nw_lb0 (hB.get 4 (x := ⟨gm, kc H, 83⟩) rfl) hHb hHl (by omega))) (by omega) (by omega)).mono ?_)
  rintro r u16 ⟨rfl, hc1, hc2, hch⟩
  have hB2 := hB.chg2 3 2 (by decide) (x := ⟨ga, #[.int .i64 ((48 : Nat) : Int)], 3⟩) (y := ⟨w.heap.size + 1 + 1, kc C5, 50⟩) rfl rfl hch hc1 hc2
  simp only [List.set_cons_zero, List.set_cons_succ] at hB2
  have lC6 : (lay C5 48 (H)).length = 64 := (lay_len _ _ _ (by rw [((nw_lb0 (hB.get 4 (x := ⟨gm, kc H, 83⟩) rfl) hHb hHl (by omega))).len, lC5]; omega)).trans lC5
  have eC6 : Hid (lay C5 48 (H) = lay C5 48 (H)) := rfl
  generalize hq_ : lay C5 48 (H) = C6 at *
  replace eC6 : Hid (C6 = lay C5 48 (H)) := hq_.symm
  clear hB hc1 hc2 hch hq_
  replace hB2 : Bl w [⟨w.heap.size, spv s, 85⟩, ⟨w.heap.size + 1, kc ZB, 50⟩, ⟨w.heap.size + 1 + 1, kc C6, 50⟩, ⟨ga, #[.int .i64 ((64 : Nat) : Int)], 3⟩, ⟨gm, kc H, 83⟩] u16 := hB2
  have hB := hB2
  clear hB2
  refine ⟨_, rfl, ?_⟩
  simp only [nrm]
  refine wpList_nil ?_
  replace hB := hide hB
  go_upto_region 12 with fail
  replace hB := unhide hB
  refine wp_region_lit ?_
  refine list_val (.agg (kc C6)) (by kernel_rfl) (exec_arr _ 50 (.tmp 3) rfl (w.heap.size + 1 + 1) (by kernel_rfl) (kc C6) 50 _ (hB.get 2 (x := ⟨w.heap.size + 1 + 1, kc C6, 50⟩) rfl) Tryd.underlying50 rfl (by rw [Tryd.infoB, kc_size, lC6])) ?_
  simp only [nrm]
  refine list_store 50 (.tmp 2) (.tmp 37) (w.heap.size + 1) (kc C6) 50 (kc ZB) (by kernel_rfl) rfl (by kernel_rfl) (by kernel_rfl) (hB.get 1 (x := ⟨w.heap.size + 1, kc ZB, 50⟩) rfl) (by rw [Tryd.infoB, kc_size, lC6]) ((show (kc ZB).size = 64 from rfl).trans ((kc_size _).trans lC6).symm) (kc_one _) ?_
  replace hB := hB.set 1 (x := ⟨w.heap.size + 1, kc ZB, 50⟩) rfl (kc C6)
  simp only [List.set_cons_zero, List.set_cons_succ] at hB
  generalize World.setRow _ _ _ = u17 at *
  replace hB : Bl w [⟨w.heap.size, spv s, 85⟩, ⟨w.heap.size + 1, kc C6, 50⟩, ⟨w.heap.size + 1 + 1, kc C6, 50⟩, ⟨ga, #[.int .i64 ((64 : Nat) : Int)], 3⟩, ⟨gm, kc H, 83⟩] u17 := hB
  simp only [nrm]
  refine wpList_nil ?_
  have e9 : C6 = s.blk := unhide hB4
  replace e9 := hide e9
  clear eC6 hB4 hb48
  replace hB := hide hB
  go_wp2_with fail
  replace hB := unhide hB
  rw [unhide hT, ← unhide e9]
  exact bodyPost_ret (v := .agg (kc C6)) (results_cell_row Tryd.results50 _ _ (w.heap.size + 1) 50 (kc C6) (0, 0) _ rfl (hB.get 1 (x := ⟨w.heap.size + 1, kc C6, 50⟩) rfl) Tryd.underlying50 rfl (by rw [Tryd.infoB, kc_size, lC6])) rfl (⟨rfl, hB.gr⟩)
end Go.Proofs.YtaoiejgjdmakjaaDoor
