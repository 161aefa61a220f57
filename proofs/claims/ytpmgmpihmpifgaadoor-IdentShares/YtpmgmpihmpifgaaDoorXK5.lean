/-
  Of layer 16: what the proof leans on.
-/
import Derived.Great.BuildSlice
import Derived.Test.YtpmgmpihmpifgaaDoorXK4
namespace Go.Proofs.YtpmgmpihmpifgaaDoor
open Go.RowKit
set_option maxRecDepth 100000
set_option linter.unusedSimpArgs false
set_option linter.unusedVariables false
def lowL (x : Int) : Nat → List Int
  | 0 => []
  | k + 1 => x % 256 :: lowL (x / 256) k
theorem lowL_len (x : Int) (k : Nat) : (lowL x k).length = k := by
  induction k generalizing x with
  | zero => rfl
  | succ k ih => simp [lowL, ih]
theorem lowL_isB (x : Int) (k : Nat) : IsB (lowL x k) := by
  induction k generalizing x with
  | zero => intro y hy; cases hy
  | succ k ih =>
    intro y hy
    simp only [lowL, List.mem_cons] at hy
    rcases hy with rfl | hy
    · omega
    · exact ih _ y hy
theorem div_pow (x : Int) (k : Nat) : x / 256 / 256 ^ k = x / 256 ^ (k + 1) := by
  rw [Int.pow_succ, Int.mul_comm, Int.ediv_ediv_of_nonneg (by omega)]
theorem lowL_snoc (x : Int) (k : Nat) : lowL x (k + 1) = lowL x k ++ [x / 256 ^ k % 256] := by
  induction k generalizing x with
  | zero => simp [lowL]
  | succ k ih => rw [lowL, ih, lowL, List.cons_append, div_pow]
def filled (l : List Int) (x : Int) (size k : Nat) : List Int := l ++ (lowL x k ++ List.replicate (size - k) 0)
theorem filled_len (l : List Int) (x : Int) (size k : Nat) (h : k ≤ size) : (filled l x size k).length = l.length + size := by simp [filled, lowL_len]; omega
theorem filled_step (l : List Int) (x : Int) (size k : Nat) (h : k < size) : (filled l x size k).set (l.length + k) (x / 256 ^ k % 256) = filled l x size (k + 1) := by
  unfold filled
  rw [List.set_append_right _ _ (by omega), Nat.add_sub_cancel_left, List.set_append_right _ _ (by rw [lowL_len]; exact Nat.le_refl _), lowL_len, Nat.sub_self, lowL_snoc]
  obtain ⟨j, hj⟩ : ∃ j, size - k = j + 1 := ⟨size - k - 1, by omega⟩
  rw [hj, show size - (k + 1) = j by omega]
  simp [List.replicate_succ]
def lay (C : List Int) (o : Nat) (S : List Int) : List Int := C.take o ++ (S ++ C.drop (o + S.length))
theorem sp_lay (C S : List Int) (o : Nat) (h : o + S.length ≤ C.length) : sp (C.map (Value.int .u8)) o (S.map (Value.int .u8)) = (lay C o S).map (Value.int .u8) := by
  have e : C = C.take o ++ ((C.drop o).take S.length ++ C.drop (o + S.length)) := by rw [← List.drop_drop, List.take_append_drop, List.take_append_drop]
  have h1 := sp_mid (S.map (Value.int .u8)) ((C.take o).map (Value.int .u8)) (((C.drop o).take S.length).map (Value.int .u8)) ((C.drop (o + S.length)).map (Value.int .u8)) (by simp; omega)
  rw [List.length_map, List.length_take, Nat.min_eq_left (by omega), ← List.map_append, ← List.map_append, ← e] at h1
  rw [h1]
  simp [lay]
theorem laid {w : World} {g o : Nat} {C S : List Int} {t : TypeId} (h : w.heap[g]? = some (.cells (kc C) t (0, 0))) (ho : o + S.length ≤ C.length) : (w.setCells g o (S.map (Value.int .u8))).heap[g]? = some (.cells (kc (lay C o S)) t (0, 0)) := by
  rw [setCells_heap _ w g o (C.map (Value.int .u8)) t h, sp_lay C S o ho]
  rfl
def Mkd (L : List Int) (w : World) (r : Ending) (w' : World) : Prop := ∃ g, r = .returned (.slice (some ⟨g, 0, none⟩) L.length L.length) ∧ w.heap.size ≤ g ∧ w'.heap[g]? = some (.cells (kc L) 5 (0, 0)) ∧ Gr w w'
set_option maxHeartbeats 4000000 in
theorem pput_ok (B : List Int) (s : Option Addr) (n cap : Nat) (x : Int) (hx : 0 ≤ x) (hn : n ≤ 1000) (w : World) (lb : Lb w s n cap B) : Calls Tryd.prog 76 #[.slice s n cap, .int .u64 x, .int .i64 8] w (Mkd (B ++ lowL x 8) w) := by
  obtain ⟨T, hT⟩ : ∃ T, T = Mkd (B ++ lowL x 8) w := ⟨_, rfl⟩
  rw [← hT]
  replace hT := hide hT
  obtain ⟨m, hm⟩ : ∃ m, m = n + 8 := ⟨_, rfl⟩
  have i1 : (n : Int) + 8 = (m : Int) := by omega
  have i2 : IntKind.i64.wrap (m : Int) = (m : Int) := by rw [IntKind.wrap_i64]; omega
  replace lb := hide lb
  replace hm := hide hm
  go_enter Tryd.func76, Tryd.ntmps76
  go_upto_region 1 with fail
  have hmb : m ≤ 1008 := by have := unhide hm; omega
  refine wp_region_lit ?_
  refine list_val (.slice s n cap) (by kernel_rfl) (by kernel_rfl) ?_
  simp only [nrm]
  refine list_val (.int .i64 n) (by kernel_rfl) (by kernel_rfl) ?_
  simp only [nrm]
  refine list_val (.int .i64 8) (by kernel_rfl) (by kernel_rfl) ?_
  simp only [nrm]
  refine list_val (.int .i64 m) (by kernel_rfl) (by go_simp) ?_
  simp only [nrm]
  refine wpList_make_room _ rfl (.tmp 12) (.tmp 12) rfl (m : Int) (m : Int) m m (by kernel_rfl) (by kernel_rfl) rfl rfl (Nat.le_refl _) (by omega) ?_
  simp only [nrm]
  have hB := (Bl.nil w).new (kc (List.replicate m 0)) 5
  simp only [List.nil_append] at hB
  generalize World.alloc _ _ = u at *
  replace hB := hide hB
  (refine wpList_step fun K hK => ?_; replace hK := hide hK; go_simp; refine unhide hK _ _ ?_; clear hK K)
  refine wpList_nil ?_
  go_upto_region 2 with fail
  replace hB := unhide hB
  have hnm : n ≤ m := by have := unhide hm; omega
  have lb2 : Hid (Lb u s n cap B) := (unhide lb).gr hB.gr
  refine wp_region_lit ?_
  refine list_val (.slice (some ⟨w.heap.size, 0, none⟩) m m) (by kernel_rfl) (by kernel_rfl) ?_
  simp only [nrm]
  refine list_val (.slice s n cap) (by kernel_rfl) (by kernel_rfl) ?_
  simp only [nrm]
  refine wpList_plain rfl fun K hK => ?_
  refine copy_wp (.tmp 14) (.tmp 15) rfl w.heap.size 0 m m s n cap (by kernel_rfl) (by kernel_rfl) ((List.replicate m 0).map (Value.int .u8)) 5 (hB.get 0 (x := ⟨w.heap.size, kc (List.replicate m 0), 5⟩) rfl) B (by rw [(unhide lb).len]; exact (Nat.min_eq_left (by omega)).symm) (unhide lb2).sl (by rw [(unhide lb).len, List.length_map, List.length_replicate]; omega) ?_
  have hcell := laid (S := B) (o := 0) (hB.get 0 (x := ⟨w.heap.size, kc (List.replicate m 0), 5⟩) rfl) (by rw [(unhide lb).len, List.length_replicate]; omega)
  have hB2 := hB.but (setCells_bt (B.map (Value.int .u8)) u w.heap.size 0) 0 (x := ⟨w.heap.size, kc (List.replicate m 0), 5⟩) rfl rfl hcell
  simp only [List.set_cons_zero] at hB2
  refine hK _ _ ?_
  clear hK K hcell hB
  simp only [nrm]
  generalize World.setCells _ _ _ _ = u1 at *
  rw [(unhide lb).len]
  (refine wpList_step fun K hK => ?_; replace hK := hide hK; go_simp; refine unhide hK _ _ ?_; clear hK K)
  refine wpList_nil ?_
  have hL : lay (List.replicate m 0) 0 B = filled B x 8 0 := by
    unfold lay filled
    rw [List.take_zero, List.nil_append, Nat.zero_add, List.drop_replicate, (unhide lb).len, show m - n = 8 from by have := unhide hm; omega]
    rfl
  rw [hL] at hB2
  replace hB2 := hide hB2
  clear hL lb2
  go_wp2_with fail
  go_loopw [1, 8] (fun y i wr => ∃ k : Nat, k ≤ 8 ∧ y = .int .u64 (x / 256 ^ k) ∧ i = .int .i64 (n + k : Nat) ∧ Hid (Bl w [⟨w.heap.size, kc (filled B x 8 k), 5⟩] wr)) (fun _ i _ => m - (intOf i).toNat)
  case atStart => exact ⟨0, Nat.zero_le _, by simp, rfl, hB2⟩
  case round =>
  clear hB2
  obtain ⟨k, hk, rfl, rfl, hB⟩ := hrel
  have hBn : B.length = n := (unhide lb).len
  have hlen := filled_len B x 8 k hk
  rw [hBn] at hlen
  by_cases hlt : k < 8
  · obtain ⟨q, hq⟩ : ∃ q, q = n + k := ⟨_, rfl⟩
    rw [← hq]
    have hqm : q < m := by have := unhide hm; omega
    have qI : (q : Int) < (m : Int) := by omega
    have c1 := kc_cell ((unhide hB).get 0 (x := ⟨w.heap.size, kc (filled B x 8 k), 5⟩) rfl) q (by omega)
    generalize (filled B x 8 k).getD q 0 = z at c1
    have f1 := froz_of (i := q) ((unhide hB).get 0 (x := ⟨w.heap.size, kc (filled B x 8 k), 5⟩) rfl)
    have hy0 : 0 ≤ x / 256 ^ k := Int.ediv_nonneg hx (Int.pow_nonneg (by omega))
    have hst := filled_step B x 8 k hlt
    have hdv : x / 256 ^ k / 256 = x / 256 ^ (k + 1) := by rw [Int.pow_succ, Int.ediv_ediv_of_nonneg (Int.pow_nonneg (by omega))]
    rw [hBn, ← hq] at hst
    generalize x / 256 ^ k = y at *
    have hB1 := (unhide hB).cell 0 (x := ⟨w.heap.size, kc (filled B x 8 k), 5⟩) rfl q (.int .u8 (y % 256))
    simp only [List.set_cons_zero, List.set_cons_succ, kc_set, hst] at hB1
    replace hB1 := hide hB1
    replace hdv := hide hdv
    replace hq := hide hq
    replace hy0 := hide hy0
    have i3 : IntKind.i64.wrap ((q : Int) + 1) = (q : Int) + 1 := by rw [IntKind.wrap_i64]; omega
    have i4 : IntKind.u8.wrap y = y % 256 := by rw [IntKind.wrap_u8]
    replace hy0 := unhide hy0
    clear hst hlen hB hBn
    go_wp2_with fail
    go_roundw
    case rel => exact ⟨k + 1, by omega, by rw [unhide hdv], by have := unhide hq; go_num, hB1⟩
    case measure => have := unhide hq; simp [intOf]; omega
  · have hqm : ¬ n + k < m := by have := unhide hm; omega
    have qI : ¬ ((n + k : Nat) : Int) < (m : Int) := by omega
    have hk8 : k = 8 := by omega
    have hF : Hid (Mkd (B ++ lowL x 8) w (.returned (.slice (some ⟨w.heap.size, 0, none⟩) m m)) wr) := by
      refine ⟨w.heap.size, ?_, (unhide hB).own 0 (x := ⟨w.heap.size, kc (filled B x 8 k), 5⟩) rfl, ?_, (unhide hB).gr⟩
      · rw [List.length_append, lowL_len, hBn, ← unhide hm]
      · have h := (unhide hB).get 0 (x := ⟨w.heap.size, kc (filled B x 8 k), 5⟩) rfl
        rw [hk8] at h
        have e : filled B x 8 8 = B ++ lowL x 8 := by simp [filled]
        rw [e] at h
        exact h
    clear hlen hB hBn
    generalize n + k = q at *
    go_wp2_with fail
    rw [unhide hT]
    exact unhide hF
set_option maxHeartbeats 400000 in
theorem put64_ok (B : List Int) (s : Option Addr) (n cap : Nat) (x : Int) (hx : 0 ≤ x) (hn : n ≤ 1000) (w : World) (lb : Lb w s n cap B) : Calls Tryd.prog 60 #[.slice s n cap, .int .u64 x] w (Mkd (B ++ lowL x 8) w) := by
  have hp := hide (pput_ok B s n cap x hx hn w lb)
  obtain ⟨T, hT⟩ : ∃ T, T = Mkd (B ++ lowL x 8) w := ⟨_, rfl⟩
  rw [← hT]
  rw [← hT] at hp
  replace hT := hide hT
  go_enter Tryd.func60, Tryd.ntmps60
  go_upto_region 1 with fail
  refine wp_region_lit ?_
  refine list_val (.slice s n cap) (by kernel_rfl) (by kernel_rfl) ?_
  simp only [nrm]
  refine list_val (.int .u64 x) (by kernel_rfl) (by kernel_rfl) ?_
  simp only [nrm]
  refine list_call 76 #[.slice s n cap, .int .u64 x, .int .i64 8] (by kernel_rfl) (by kernel_rfl) ((unhide hp).mono ?_)
  rw [unhide hT]
  rintro r u ⟨g, rfl, hg1, hg2, hg3⟩
  have hF : Hid (Mkd (B ++ lowL x 8) w (.returned (.slice (some ⟨g, 0, none⟩) (B ++ lowL x 8).length (B ++ lowL x 8).length)) u) := ⟨g, rfl, hg1, hg2, hg3⟩
  refine ⟨_, rfl, ?_⟩
  simp only [nrm]
  clear hg1 hg2 hg3
  generalize (B ++ lowL x 8).length = m at *
  generalize B ++ lowL x 8 = L at *
  (refine wpList_step fun K hK => ?_; replace hK := hide hK; go_simp; refine unhide hK _ _ ?_; clear hK K)
  refine wpList_nil ?_
  go_wp2_with fail
  rw [unhide hT]
  exact unhide hF
def okL (r : Int) (K : List Int) (t : ByteArray) : List Int := spL K (infoL (tb t) [lowL r 8]) 32
theorem okL_len (r : Int) (K : List Int) (t : ByteArray) : (okL r K t).length = 32 := spL_len _ _ _
theorem step_storew {P : Program} {ops : Array Oper} {Q : Exit → Act → World → Prop} {a : Act} {w : World} {o : Oper} {K : Act → World → Prop} (ty : TypeId) (x y : Operand) (g : Nat) (c : Array Value) (t : TypeId) (old : Array Value) (hw : Region.wanted o (yielded ops a.tmps) = true) (ho : o.op = .store ty x y)
    (hx : a.eval x = .pointer (some ⟨g, 0, none⟩)) (hy : a.eval y = .agg c) (hg : w.heap[g]? = some (.cells old t (0, 0))) (hi : (P.info? ty).map (·.size) = some c.size) (hold : old.size = c.size) (h1 : c.all (·.oneCell') = true)
    (h : K (a.put o.dst undef) (w.setRow g c)) : if Region.wanted o (yielded ops a.tmps) = true then Oper.wp P o a w K Q else K (a.put o.dst undef) w := by
  rw [if_pos hw]
  exact wp_store_row ty x y ho g c hx hy t old hg hi hold h1 h
theorem small_low (r : Int) : small4 [lowL r 8] := ⟨by simp, fun p hp => by rw [List.mem_singleton.1 hp, lowL_len]; omega⟩
theorem results_cell_tmp {P : Program} {fn : Func} {p q : Tmp} {ty : TypeId} (h : fn.results = #[.cell p ty, .tmp q]) (tmps : Array Value) (w : World) (g : Nat) (t : TypeId) (cs : Array Value) (fr : Nat × Nat) (d : TypeDesc)
    (hp : tmps.getD p undef = .pointer (some ⟨g, 0, none⟩)) (v : Value) (hq : tmps.getD q undef = v) (hg : w.heap[g]? = some (.cells cs t fr))
    (hu : P.underlying ty = some d) (hd : (match d with | .struct _ | .array _ _ => true | _ => false) = true) (hi : (P.info? ty).map (·.size) = some cs.size) :
    (results fn tmps).run P w = .ok (.tuple #[.agg cs, v]) w := by
  have hp' : tmps[p]?.getD undef = .pointer (some ⟨g, 0, none⟩) := by simpa using hp
  have hq' : tmps[q]?.getD undef = v := by simpa using hq
  simp [results, h, hp', hq', asAddr, run_loadVar_row w g t ty cs fr d hg hu hd hi]
def pairv (K : List Int) (f : Bool) : Array Value := (K.map (Value.int .u8) ++ [Value.bool f]).toArray
theorem pairv_size (K : List Int) (f : Bool) : (pairv K f).size = K.length + 1 := by unfold pairv; simp
theorem pairv_one (K : List Int) (f : Bool) : (pairv K f).all (·.oneCell') = true := by unfold pairv; simp [Value.oneCell']
theorem Tryd.infoPair : (Tryd.prog.info? 36).map (·.size) = some 33 := by kernel_rfl
theorem Tryd.infoDrop : (Tryd.prog.info? 42).map (·.size) = some 16 := by kernel_rfl
theorem pairv_key {K : List Int} {f : Bool} {w : World} {g : Nat} (h : w.heap[g]? = some (.cells (pairv K f) 36 (0, 0))) : w.rangeAt g 0 (K.map (Value.int .u8)) := fun j x hj => by
  rw [Nat.zero_add]
  refine cell_of h ?_
  unfold pairv
  rw [List.getElem?_toArray, List.getElem?_append_left (by have := (List.getElem?_eq_some_iff.1 hj).1; exact this)]
  exact hj
theorem pairv_flag {K : List Int} (hK : K.length = 32) {f : Bool} {w : World} {g : Nat} (h : w.heap[g]? = some (.cells (pairv K f) 36 (0, 0))) : w.cell? ⟨g, 32, none⟩ = some (.bool f) := by
  refine cell_of h ?_
  unfold pairv
  rw [List.getElem?_toArray, List.getElem?_append_right (by rw [List.length_map]; omega), List.length_map, hK]
  rfl
theorem exec_pk {op : Oper} {a : Act} (w : World) (x : Operand) (ho : op.op = .load 25 x) (g : Nat) (hx : a.eval x = .pointer (some ⟨g, 0, none⟩)) (K : List Int) (hK : K.length = 32) (f : Bool) (h : w.heap[g]? = some (.cells (pairv K f) 36 (0, 0))) :
    (execOp a.eval op).run Tryd.prog w = .ok (.value (.agg (kc K))) w :=
  exec_row (P := Tryd.prog) w 25 x ho g 0 hx (K.map (Value.int .u8)) _ (pairv_key h) Tryd.underlying25 rfl (by rw [Tryd.infoKey, List.length_map, hK])
theorem exec_pf {op : Oper} {a : Act} (w : World) (x : Operand) (ho : op.op = .load 4 x) (g : Nat) (hx : a.eval x = .pointer (some ⟨g, 32, none⟩)) (K : List Int) (hK : K.length = 32) (f : Bool) (h : w.heap[g]? = some (.cells (pairv K f) 36 (0, 0))) :
    (execOp a.eval op).run Tryd.prog w = .ok (.value (.bool f)) w := by
  have hc := pairv_flag hK h
  unfold execOp
  simp only [ho, hx, Instr.loadAt, Instr.sureAddr, Sem.run_bind, Sem.run_pure, Result.andThen_ok]
  go_simp
theorem exec_pp {op : Oper} {a : Act} (w : World) (x : Operand) (ho : op.op = .load 36 x) (g : Nat) (hx : a.eval x = .pointer (some ⟨g, 0, none⟩)) (K : List Int) (hK : K.length = 32) (f : Bool) (h : w.heap[g]? = some (.cells (pairv K f) 36 (0, 0))) :
    (execOp a.eval op).run Tryd.prog w = .ok (.value (.agg (pairv K f))) w :=
  exec_arr w 36 x ho g hx (pairv K f) 36 _ h Tryd.underlying36 rfl (by rw [Tryd.infoPair, pairv_size, hK])
set_option maxHeartbeats 4000000 in
theorem inround_ok (r : Int) (hr : 0 ≤ r) (K : List Int) (hK : K.length = 32) (hKb : IsB K) (f : Bool) (t : ByteArray) (ht : t.size ≤ 1000) (w : World) (hF : Fst w) : Calls Tryd.prog 38 #[.agg (pairv K f), .string t, .int .u64 r] w (Derd (okL r K t) w) := by
  obtain ⟨T, hT⟩ : ∃ T, T = Derd (okL r K t) w := ⟨_, rfl⟩
  rw [← hT]
  replace hT := hide hT
  obtain ⟨SK, hSK⟩ : ∃ S, S = pairv K f := ⟨_, rfl⟩
  rw [← hSK]
  replace hSK := hide hSK
  replace hKb := hide hKb
  replace hF := hide hF
  go_enter Tryd.func38, Tryd.ntmps38
  go_upto_region 1 with fail
  have hB := (((Bl.nil w).new SK 36).new #[.int .u8 0, .int .u8 0, .int .u8 0, .int .u8 0, .int .u8 0, .int .u8 0, .int .u8 0, .int .u8 0, .int .u8 0, .int .u8 0, .int .u8 0, .int .u8 0, .int .u8 0, .int .u8 0, .int .u8 0, .int .u8 0, .int .u8 0, .int .u8 0, .int .u8 0, .int .u8 0, .int .u8 0, .int .u8 0, .int .u8 0, .int .u8 0, .int .u8 0, .int .u8 0, .int .u8 0, .int .u8 0, .int .u8 0, .int .u8 0, .int .u8 0, .int .u8 0] 25)
  simp only [size_alloc, List.nil_append, List.cons_append] at hB
  generalize World.alloc _ _ = u at *
  rw [unhide hSK] at hB
  replace hB : Bl w [⟨w.heap.size, pairv K f, 36⟩, ⟨w.heap.size + 1, kc Z32, 25⟩] u := hB
  refine any_start (S := fun v => v.heap[w.heap.size]? = some (.cells (pairv K f) 36 (0, 0))) (by kernel_rfl) ?_
  replace hB := hB.drew
  generalize World.drew _ = x0 at *
  simp only [List.size_toArray, List.length_cons, List.length_nil, Array.replicate, List.replicate]
  refine any_take (i := 0) (v := (.pointer (some ⟨w.heap.size, 0, none⟩))) #[false, false, false, false, false, false, false, false] rfl (by kernel_rfl) (by kernel_rfl) (by kernel_rfl) (by kernel_rfl) (fun _ _ _ h => h) (.inl ⟨by kernel_rfl, fun x_ hu => by kernel_rfl⟩) (hB.get 0 (x := ⟨w.heap.size, pairv K f, 36⟩) rfl) ?_
  simp only [nrm]
  refine any_take (i := 1) (v := (.agg (kc K))) #[true, false, false, false, false, false, false, false] rfl (by kernel_rfl) (by kernel_rfl) (by kernel_rfl) (by kernel_rfl) (fun _ _ _ h => h) (.inl ⟨by kernel_rfl, fun x_ hu => exec_pk _ (.tmp 7) rfl (w.heap.size) (by kernel_rfl) K hK f hu⟩) (hB.get 0 (x := ⟨w.heap.size, pairv K f, 36⟩) rfl) ?_
  simp only [nrm]
  refine any_take (i := 2) (v := (.string t)) #[true, true, false, false, false, false, false, false] rfl (by kernel_rfl) (by kernel_rfl) (by kernel_rfl) (by kernel_rfl) (fun _ _ _ h => h) (.inl ⟨by kernel_rfl, fun x_ hu => by kernel_rfl⟩) (hB.get 0 (x := ⟨w.heap.size, pairv K f, 36⟩) rfl) ?_
  simp only [nrm]
  refine any_take (i := 3) (v := (.int .u64 r)) #[true, true, true, false, false, false, false, false] rfl (by kernel_rfl) (by kernel_rfl) (by kernel_rfl) (by kernel_rfl) (fun _ _ _ h => h) (.inl ⟨by kernel_rfl, fun x_ hu => by kernel_rfl⟩) (hB.get 0 (x := ⟨w.heap.size, pairv K f, 36⟩) rfl) ?_
  simp only [nrm]
  refine any_one (i := 4) (by kernel_rfl) rfl (fun K_ hQ => ?_)
  refine step_callw (by kernel_rfl) 60 #[.slice none 0 0, .int .u64 r] (by kernel_rfl) ((put64_ok [] none 0 0 r hr (by omega) x0 (Lb.nil x0)).mono ?_)
  rintro r x1 ⟨gp, rfl, hgp, hpb, hg⟩
  refine ⟨_, rfl, ?_⟩
  simp only [List.nil_append] at hpb ⊢
  rw [lowL_len]
  replace hB := hB.more hg
  have lp := hide (kc_lb (n := 8) hpb (lowL_len r 8) (lowL_isB r 8) (by omega))
  clear hg hgp hpb
  refine hQ.out _ _ (hB.get 0 (x := ⟨w.heap.size, pairv K f, 36⟩) rfl) (fun _ => ?_)
  clear hQ K_
  simp only [nrm]
  refine any_one (i := 5) (by kernel_rfl) rfl (fun K_ hQ => ?_)
  replace hB := hide hB
  replace hQ := hide hQ
  go_simp
  refine (unhide hQ).out _ _ ?_ (fun _ => ?_)
  · exact ((Gr.refl x1).alloc (.cells #[.slice (some ⟨gp, 0, none⟩) 8 8] 33)).blk ((unhide hB).get 0 (x := ⟨w.heap.size, pairv K f, 36⟩) rfl)
  clear hQ K_
  have hg := (Gr.refl x1).alloc (.cells #[.slice (some ⟨gp, 0, none⟩) 8 8] 33 (0, 0))
  have hnew := blk_new x1 (.cells #[.slice (some ⟨gp, 0, none⟩) 8 8] 33 (0, 0))
  replace hB := (unhide hB).more hg
  replace lp := hide ((unhide lp).gr hg)
  generalize World.alloc _ _ = x2 at *
  generalize x1.heap.size = gq at *
  clear hg
  simp only [nrm]
  refine any_one (i := 6) (by kernel_rfl) rfl (fun K_ hQ => ?_)
  refine step_callw (by kernel_rfl) 35 #[.agg (kc K), .string t, .slice (some ⟨gq, 0, none⟩) 1 1] (by kernel_rfl) ((derive_ok K hK (unhide hKb) t ht [lowL r 8] (some ⟨gq, 0, none⟩) 1 1 rfl (small_low r) x2 ((unhide hF).gr hB.gr) (Pr.one hnew (unhide lp))).mono ?_)
  rintro r x3 ⟨rfl, hg⟩
  refine ⟨_, rfl, ?_⟩
  replace hB := hB.more hg
  clear hg lp hnew
  obtain ⟨D, hD⟩ : ∃ D, D = okL r K t := ⟨_, rfl⟩
  rw [show spL K (infoL (tb t) [lowL r 8]) 32 = D from hD.symm]
  have hDl : D.length = 32 := by rw [hD, okL_len]
  replace hD := hide hD
  refine hQ.out _ _ (hB.get 0 (x := ⟨w.heap.size, pairv K f, 36⟩) rfl) (fun _ => ?_)
  clear hQ K_
  simp only [nrm]
  refine any_one (i := 7) (by kernel_rfl) rfl (fun K_ hQ => ?_)
  refine step_storew 25 (.tmp 6) (.tmp 13) (w.heap.size + 1) (kc D) 25 (kc Z32) (by kernel_rfl) rfl (by kernel_rfl) (by kernel_rfl) (hB.get 1 (x := ⟨w.heap.size + 1, kc Z32, 25⟩) rfl) (by rw [Tryd.infoKey, kc_size, hDl]) ((show (kc Z32).size = 32 from rfl).trans ((kc_size _).trans hDl).symm) (kc_one _) ?_
  replace hB := hB.set 1 (x := ⟨w.heap.size + 1, kc Z32, 25⟩) rfl (kc D)
  simp only [List.set_cons_zero, List.set_cons_succ] at hB
  generalize World.setRow _ _ _ = x4 at *
  refine hQ.out _ _ (hB.get 0 (x := ⟨w.heap.size, pairv K f, 36⟩) rfl) (fun _ => ?_)
  clear hQ K_
  simp only [nrm]
  refine any_done (by kernel_rfl) ?_
  replace hB := hide hB
  go_wp2_with fail
  replace hB := unhide hB
  rw [unhide hT]
  exact bodyPost_ret (v := .agg (kc D)) (results_cell_row Tryd.results38 _ _ (w.heap.size + 1) 25 (kc D) (0, 0) _ rfl (hB.get 1 (x := ⟨w.heap.size + 1, kc D, 25⟩) rfl) Tryd.underlying25 rfl (by rw [Tryd.infoKey, kc_size, hDl])) rfl (⟨by rw [unhide hD], hB.gr⟩)
def tFir : ByteArray := ⟨#[102, 105, 114, 115, 116]⟩
def tSec : ByteArray := ⟨#[115, 101, 99, 111, 110, 100]⟩
def tDro : ByteArray := ⟨#[100, 114, 111, 112]⟩
def rkL (r : Int) (K : List Int) (f mine : Bool) : List Int := okL r K (if mine = f then tFir else tSec)
theorem rkL_len (r : Int) (K : List Int) (f mine : Bool) : (rkL r K f mine).length = 32 := okL_len _ _ _
set_option maxHeartbeats 4000000 in
theorem roundkey_ok (r : Int) (hr : 0 ≤ r) (K : List Int) (hK : K.length = 32) (hKb : IsB K) (f mine : Bool) (w : World) (hF : Fst w) : Calls Tryd.prog 24 #[.agg (pairv K f), .int .u64 r, .bool mine] w (Derd (rkL r K f mine) w) := by
  obtain ⟨T, hT⟩ : ∃ T, T = Derd (rkL r K f mine) w := ⟨_, rfl⟩
  rw [← hT]
  replace hT := hide hT
  obtain ⟨SK, hSK⟩ : ∃ S, S = pairv K f := ⟨_, rfl⟩
  rw [← hSK]
  replace hSK := hide hSK
  replace hKb := hide hKb
  replace hF := hide hF
  go_enter Tryd.func24, Tryd.ntmps24
  go_upto_region 1 with fail
  have hB := (((Bl.nil w).new SK 36).new #[.int .u8 0, .int .u8 0, .int .u8 0, .int .u8 0, .int .u8 0, .int .u8 0, .int .u8 0, .int .u8 0, .int .u8 0, .int .u8 0, .int .u8 0, .int .u8 0, .int .u8 0, .int .u8 0, .int .u8 0, .int .u8 0, .int .u8 0, .int .u8 0, .int .u8 0, .int .u8 0, .int .u8 0, .int .u8 0, .int .u8 0, .int .u8 0, .int .u8 0, .int .u8 0, .int .u8 0, .int .u8 0, .int .u8 0, .int .u8 0, .int .u8 0, .int .u8 0] 25)
  simp only [size_alloc, List.nil_append, List.cons_append] at hB
  generalize World.alloc _ _ = u at *
  rw [unhide hSK] at hB
  replace hB : Bl w [⟨w.heap.size, pairv K f, 36⟩, ⟨w.heap.size + 1, kc Z32, 25⟩] u := hB
  by_cases hmf : mine = f
  · have hmh := hide hmf
    clear hmf
    refine wp_region_lit ?_
    refine list_val (.bool mine) (by kernel_rfl) (by kernel_rfl) ?_
    simp only [nrm]
    refine list_val (.pointer (some ⟨w.heap.size, 32, none⟩)) (by kernel_rfl) (by kernel_rfl) ?_
    simp only [nrm]
    refine list_val (.bool f) (by kernel_rfl) (exec_pf _ (.tmp 8) rfl (w.heap.size) (by kernel_rfl) K hK f (hB.get 0 (x := ⟨w.heap.size, pairv K f, 36⟩) rfl)) ?_
    simp only [nrm]
    refine list_val (.bool true) (by kernel_rfl) (by have h := unhide hmh; go_simp; try simpa using h) ?_
    simp only [nrm]
    refine wpList_nil ?_
    replace hB := hide hB
    go_upto_region 2 with fail
    replace hB := unhide hB
    refine wp_region_lit ?_
    refine list_val (.agg (pairv K f)) (by kernel_rfl) (exec_pp _ (.tmp 3) rfl (w.heap.size) (by kernel_rfl) K hK f (hB.get 0 (x := ⟨w.heap.size, pairv K f, 36⟩) rfl)) ?_
    simp only [nrm]
    refine list_val (.int .u64 r) (by kernel_rfl) (by kernel_rfl) ?_
    simp only [nrm]
    refine list_call 38 #[.agg (pairv K f), .string tFir, .int .u64 r] (by kernel_rfl) (by kernel_rfl) ((inround_ok r hr K hK (unhide hKb) f tFir (by decide) u ((unhide hF).gr hB.gr)).mono ?_)
    rintro r_ u1 ⟨rfl, hg⟩
    replace hB := hB.more hg
    clear hg
    obtain ⟨D, hD⟩ : ∃ D, D = okL r K tFir := ⟨_, rfl⟩
    have hDl : D.length = 32 := by rw [hD, okL_len]
    rw [← hD]
    replace hD := hide hD
    refine ⟨_, rfl, ?_⟩
    simp only [nrm]
    refine list_store 25 (.tmp 6) (.tmp 13) (w.heap.size + 1) (kc D) 25 (kc Z32) (by kernel_rfl) rfl (by kernel_rfl) (by kernel_rfl) (hB.get 1 (x := ⟨w.heap.size + 1, kc Z32, 25⟩) rfl) (by rw [Tryd.infoKey, kc_size, hDl]) (by rw [kc_size, kc_size, hDl]; rfl) (kc_one _) ?_
    replace hB := hB.set 1 (x := ⟨w.heap.size + 1, kc Z32, 25⟩) rfl (kc D)
    simp only [List.set_cons_zero, List.set_cons_succ] at hB
    generalize World.setRow _ _ _ = u2 at *
    simp only [nrm]
    refine wpList_nil ?_
    have hDr : D = rkL r K f mine := by
      rw [unhide hD]
      unfold rkL
      rw [if_pos (unhide hmh)]
    replace hDr := hide hDr
    replace hB := hide hB
    go_wp2_with fail
    replace hB := unhide hB
    rw [unhide hT]
    exact bodyPost_ret (v := .agg (kc D)) (results_cell_row Tryd.results24 _ _ (w.heap.size + 1) 25 (kc D) (0, 0) _ rfl (hB.get 1 (x := ⟨w.heap.size + 1, kc D, 25⟩) rfl) Tryd.underlying25 rfl (by rw [Tryd.infoKey, kc_size, hDl])) rfl (⟨by rw [unhide hDr], hB.gr⟩)
  · have hmh := hide hmf
    clear hmf
    refine wp_region_lit ?_
    refine list_val (.bool mine) (by kernel_rfl) (by kernel_rfl) ?_
    simp only [nrm]
    refine list_val (.pointer (some ⟨w.heap.size, 32, none⟩)) (by kernel_rfl) (by kernel_rfl) ?_
    simp only [nrm]
    refine list_val (.bool f) (by kernel_rfl) (exec_pf _ (.tmp 8) rfl (w.heap.size) (by kernel_rfl) K hK f (hB.get 0 (x := ⟨w.heap.size, pairv K f, 36⟩) rfl)) ?_
    simp only [nrm]
    refine list_val (.bool false) (by kernel_rfl) (by have h := unhide hmh; go_simp; try simpa using h) ?_
    simp only [nrm]
    refine wpList_nil ?_
    replace hB := hide hB
    go_upto_region 3 with fail
    replace hB := unhide hB
    refine wp_region_lit ?_
    refine list_val (.agg (pairv K f)) (by kernel_rfl) (exec_pp _ (.tmp 3) rfl (w.heap.size) (by kernel_rfl) K hK f (hB.get 0 (x := ⟨w.heap.size, pairv K f, 36⟩) rfl)) ?_
    simp only [nrm]
    refine list_val (.int .u64 r) (by kernel_rfl) (by kernel_rfl) ?_
    simp only [nrm]
    refine list_call 38 #[.agg (pairv K f), .string tSec, .int .u64 r] (by kernel_rfl) (by kernel_rfl) ((inround_ok r hr K hK (unhide hKb) f tSec (by decide) u ((unhide hF).gr hB.gr)).mono ?_)
    rintro r_ u1 ⟨rfl, hg⟩
    replace hB := hB.more hg
    clear hg
    obtain ⟨D, hD⟩ : ∃ D, D = okL r K tSec := ⟨_, rfl⟩
    have hDl : D.length = 32 := by rw [hD, okL_len]
    rw [← hD]
    replace hD := hide hD
    refine ⟨_, rfl, ?_⟩
    simp only [nrm]
    refine list_store 25 (.tmp 6) (.tmp 16) (w.heap.size + 1) (kc D) 25 (kc Z32) (by kernel_rfl) rfl (by kernel_rfl) (by kernel_rfl) (hB.get 1 (x := ⟨w.heap.size + 1, kc Z32, 25⟩) rfl) (by rw [Tryd.infoKey, kc_size, hDl]) (by rw [kc_size, kc_size, hDl]; rfl) (kc_one _) ?_
    replace hB := hB.set 1 (x := ⟨w.heap.size + 1, kc Z32, 25⟩) rfl (kc D)
    simp only [List.set_cons_zero, List.set_cons_succ] at hB
    generalize World.setRow _ _ _ = u2 at *
    simp only [nrm]
    refine wpList_nil ?_
    have hDr : D = rkL r K f mine := by
      rw [unhide hD]
      unfold rkL
      rw [if_neg (unhide hmh)]
    replace hDr := hide hDr
    replace hB := hide hB
    go_wp2_with fail
    replace hB := unhide hB
    rw [unhide hT]
    exact bodyPost_ret (v := .agg (kc D)) (results_cell_row Tryd.results24 _ _ (w.heap.size + 1) 25 (kc D) (0, 0) _ rfl (hB.get 1 (x := ⟨w.heap.size + 1, kc D, 25⟩) rfl) Tryd.underlying25 rfl (by rw [Tryd.infoKey, kc_size, hDl])) rfl (⟨by rw [unhide hDr], hB.gr⟩)
def drL (r : Int) (K : List Int) : List Int := (okL r K tDro).take 16
theorem drL_len (r : Int) (K : List Int) : (drL r K).length = 16 := by unfold drL; rw [List.length_take, okL_len]; rfl
def Drd (D : List Int) (w : World) (r : Ending) (w' : World) : Prop := r = .returned (.agg (kc D)) ∧ Gr w w'
def ZD16 : List Int := List.replicate 16 0
theorem Bl.copy16 {w v : World} {L : List Blk} (h : Bl w L v) (k : Nat) {g : Nat} {Z D : List Int} (hk : L[k]? = some ⟨g, kc Z, 42⟩) (hZ : Z.length = 16) (hD : D.length = 16) : Bl w (L.set k ⟨g, kc D, 42⟩) (v.setCells g 0 (D.map (Value.int .u8))) := by
  have hv := setCells_heap (D.map (Value.int .u8)) v g 0 (Z.map (Value.int .u8)) 42 (h.get k hk)
  rw [sp_kc D Z (by omega), List.drop_eq_nil_of_le (by omega), List.append_nil] at hv
  exact h.but (setCells_bt (D.map (Value.int .u8)) v g 0) k hk rfl hv
set_option maxHeartbeats 4000000 in
theorem drop_ok (r : Int) (hr : 0 ≤ r) (K : List Int) (hK : K.length = 32) (hKb : IsB K) (f : Bool) (w : World) (hF : Fst w) : Calls Tryd.prog 22 #[.agg (pairv K f), .int .u64 r] w (Drd (drL r K) w) := by
  obtain ⟨T, hT⟩ : ∃ T, T = Drd (drL r K) w := ⟨_, rfl⟩
  rw [← hT]
  replace hT := hide hT
  obtain ⟨SK, hSK⟩ : ∃ S, S = pairv K f := ⟨_, rfl⟩
  rw [← hSK]
  replace hSK := hide hSK
  replace hKb := hide hKb
  replace hF := hide hF
  go_enter Tryd.func22, Tryd.ntmps22
  go_upto_region 2 with fail
  have hB := ((((Bl.nil w).new SK 36).new #[.int .u8 0, .int .u8 0, .int .u8 0, .int .u8 0, .int .u8 0, .int .u8 0, .int .u8 0, .int .u8 0, .int .u8 0, .int .u8 0, .int .u8 0, .int .u8 0, .int .u8 0, .int .u8 0, .int .u8 0, .int .u8 0] 42).new #[.int .u8 0, .int .u8 0, .int .u8 0, .int .u8 0, .int .u8 0, .int .u8 0, .int .u8 0, .int .u8 0, .int .u8 0, .int .u8 0, .int .u8 0, .int .u8 0, .int .u8 0, .int .u8 0, .int .u8 0, .int .u8 0] 42)
  simp only [size_alloc, List.nil_append, List.cons_append] at hB
  generalize World.alloc _ _ = u at *
  rw [unhide hSK] at hB
  replace hB : Bl w [⟨w.heap.size, pairv K f, 36⟩, ⟨w.heap.size + 1, kc ZD16, 42⟩, ⟨w.heap.size + 1 + 1, kc ZD16, 42⟩] u := hB
  refine wp_region_lit ?_
  refine list_val (.agg (pairv K f)) (by kernel_rfl) (exec_pp _ (.tmp 2) rfl (w.heap.size) (by kernel_rfl) K hK f (hB.get 0 (x := ⟨w.heap.size, pairv K f, 36⟩) rfl)) ?_
  simp only [nrm]
  refine list_val (.int .u64 r) (by kernel_rfl) (by kernel_rfl) ?_
  simp only [nrm]
  refine list_call 38 #[.agg (pairv K f), .string tDro, .int .u64 r] (by kernel_rfl) (by kernel_rfl) ((inround_ok r hr K hK (unhide hKb) f tDro (by decide) u ((unhide hF).gr hB.gr)).mono ?_)
  rintro r_ u1 ⟨rfl, hg⟩
  replace hB := hB.more hg
  clear hg
  have hDD : drL r K = (okL r K tDro).take 16 := rfl
  obtain ⟨D, hD⟩ : ∃ D, D = okL r K tDro := ⟨_, rfl⟩
  have hDl : D.length = 32 := by rw [hD, okL_len]
  rw [← hD] at hDD ⊢
  clear hD
  replace hDD := hide hDD
  refine ⟨_, rfl, ?_⟩
  simp only [nrm]
  refine list_valw (.pointer (some ⟨u1.heap.size, 0, none⟩)) (u1.alloc (.cells (kc Z32) 25 (0, 0))) (by kernel_rfl) (by kernel_rfl) ?_
  replace hB := hB.new (kc Z32) 25
  simp only [List.nil_append, List.cons_append] at hB
  generalize World.alloc _ _ = u2 at *
  generalize u1.heap.size = gs at *
  replace hB : Bl w [⟨w.heap.size, pairv K f, 36⟩, ⟨w.heap.size + 1, kc ZD16, 42⟩, ⟨w.heap.size + 1 + 1, kc ZD16, 42⟩, ⟨gs, kc Z32, 25⟩] u2 := hB
  simp only [nrm]
  refine list_store 25 (.tmp 6) (.tmp 9) gs (kc D) 25 (kc Z32) (by kernel_rfl) rfl (by kernel_rfl) (by kernel_rfl) (hB.get 3 (x := ⟨gs, kc Z32, 25⟩) rfl) (by rw [Tryd.infoKey, kc_size, hDl]) (by rw [kc_size, kc_size, hDl]; rfl) (kc_one _) ?_
  replace hB := hB.set 3 (x := ⟨gs, kc Z32, 25⟩) rfl (kc D)
  simp only [List.set_cons_zero, List.set_cons_succ] at hB
  generalize World.setRow _ _ _ = u3 at *
  simp only [nrm]
  refine wpList_nil ?_
  replace hB := hide hB
  go_upto_region 3 with fail
  replace hB := unhide hB
  refine any_start (S := fun (_ : World) => True) (by kernel_rfl) ?_
  replace hB := hB.drew
  generalize World.drew _ = x0 at *
  simp only [List.size_toArray, List.length_cons, List.length_nil, Array.replicate, List.replicate]
  refine any_take (i := 0) (v := (.slice (some ⟨w.heap.size + 1 + 1, 0, none⟩) 16 16)) #[false, false, false] rfl (by kernel_rfl) (by kernel_rfl) (by kernel_rfl) (by kernel_rfl) (fun _ _ _ h => h) (.inl ⟨by kernel_rfl, fun x_ hu => by kernel_rfl⟩) trivial ?_
  simp only [nrm]
  refine any_take (i := 1) (v := (.slice (some ⟨gs, 0, none⟩) 32 32)) #[true, false, false] rfl (by kernel_rfl) (by kernel_rfl) (by kernel_rfl) (by kernel_rfl) (fun _ _ _ h => h) (.inl ⟨by kernel_rfl, fun x_ hu => by kernel_rfl⟩) trivial ?_
  simp only [nrm]
  refine any_one (i := 2) (by kernel_rfl) rfl (fun K_ hQ => ?_)
  obtain ⟨E, hE⟩ : ∃ E, E = D.take 16 := ⟨_, rfl⟩
  have hEl : E.length = 16 := by rw [hE, List.length_take, hDl]; rfl
  have hEa := (kc_at (hB.get 3 (x := ⟨gs, kc D, 25⟩) rfl)).take 16
  rw [← hE] at hEa
  rw [← hE] at hDD
  clear hE
  rw [if_pos (by kernel_rfl)]
  refine copy_wp (.tmp 10) (.tmp 11) rfl (w.heap.size + 1 + 1) 0 16 16 (some ⟨gs, 0, none⟩) 32 32 (by kernel_rfl) (by kernel_rfl) (ZD16.map (Value.int .u8)) 42 (hB.get 2 (x := ⟨w.heap.size + 1 + 1, kc ZD16, 42⟩) rfl) E (by rw [hEl]; rfl) (.inr ⟨gs, 0, rfl, hEa⟩) (by rw [hEl]; decide) ?_
  replace hB := hB.copy16 2 (Z := ZD16) (D := E) rfl rfl hEl
  simp only [List.set_cons_zero, List.set_cons_succ] at hB
  refine hQ.out _ _ trivial (fun _ => ?_)
  clear hQ K_
  generalize World.setCells _ _ _ _ = y3 at *
  try simp only [nrm]
  refine any_done (by kernel_rfl) ?_
  replace hB := hide hB
  go_upto_region 4 with fail
  replace hB := unhide hB
  refine wp_region_lit ?_
  refine list_val (.agg (kc E)) (by kernel_rfl) (exec_arr _ 42 (.tmp 5) rfl (w.heap.size + 1 + 1) (by kernel_rfl) (kc E) 42 _ (hB.get 2 (x := ⟨w.heap.size + 1 + 1, kc E, 42⟩) rfl) Tryd.underlying42 rfl (by rw [Tryd.infoDrop, kc_size, hEl])) ?_
  simp only [nrm]
  refine list_store 42 (.tmp 4) (.tmp 13) (w.heap.size + 1) (kc E) 42 (kc ZD16) (by kernel_rfl) rfl (by kernel_rfl) (by kernel_rfl) (hB.get 1 (x := ⟨w.heap.size + 1, kc ZD16, 42⟩) rfl) (by rw [Tryd.infoDrop, kc_size, hEl]) (by rw [kc_size, kc_size, hEl]; rfl) (kc_one _) ?_
  replace hB := hB.set 1 (x := ⟨w.heap.size + 1, kc ZD16, 42⟩) rfl (kc E)
  simp only [List.set_cons_zero, List.set_cons_succ] at hB
  generalize World.setRow _ _ _ = y4 at *
  simp only [nrm]
  refine wpList_nil ?_
  replace hB := hide hB
  go_wp2_with fail
  replace hB := unhide hB
  rw [unhide hT]
  exact bodyPost_ret (v := .agg (kc E)) (results_cell_row Tryd.results22 _ _ (w.heap.size + 1) 42 (kc E) (0, 0) _ rfl (hB.get 1 (x := ⟨w.heap.size + 1, kc E, 42⟩) rfl) Tryd.underlying42 rfl (by rw [Tryd.infoDrop, kc_size, hEl])) rfl (⟨by rw [unhide hDD], hB.gr⟩)
end Go.Proofs.YtpmgmpihmpifgaaDoor
