/-
  The reference: bytes behind bytes, the same bytes, New and Bytes of dice.
-/
import Derived.Test.YtdfcdklnngfhkaaDoorCaC
namespace Go.Proofs.YtdfcdklnngfhkaaDoor
open Go.RowKit
set_option maxRecDepth 100000
set_option linter.unusedSimpArgs false
set_option linter.unusedVariables false
def Infd (L : List Int) (w : World) (r : Ending) (w' : World) : Prop := ∃ v, r = .returned v ∧ Ob w.heap.size w' v L ∧ Gr w w'
theorem Lb.cellAt {w : World} {a : Option Addr} {n c : Nat} {B : List Int} (h : Lb w a n c B) {k : Nat} (hk : k < n) : ∃ p o, a = some ⟨p, o, none⟩ ∧ w.cell? ⟨p, o + k, none⟩ = some (.int .u8 (B.getD k 0)) := by
  have hl := h.len
  rcases h.sl with h1 | ⟨p, o, h1, h2⟩
  · rw [h1] at hl; simp at hl; omega
  · exact ⟨p, o, h1, h2 k (by omega)⟩
theorem take_next (B : List Int) (k : Nat) (h : k < B.length) : B.take (k + 1) = B.take k ++ [B.getD k 0] := by
  rw [List.take_add_one, List.getElem?_eq_getElem h]
  simp [h]
set_option maxHeartbeats 2000000 in
theorem both_ok (A B : List Int) (a b : Option Addr) (n c m d : Nat) (hb : n + m ≤ 140737488355328) (w : World) (hA : Lb w a n c A) (hB : Lb w b m d B) : Calls Tryd.prog 23 #[.slice a n c, .slice b m d] w (Infd (A ++ B) w) := by
  obtain ⟨T, hT⟩ : ∃ T, T = Infd (A ++ B) w := ⟨_, rfl⟩
  rw [← hT]
  have la := hide hA.len
  have lb := hide hB.len
  replace hT := hide hT
  replace hA := hide hA
  replace hB := hide hB
  have w1 : IntKind.i64.wrap ((n : Int) + (m : Int)) = (n : Int) + (m : Int) := by rw [IntKind.wrap_i64]; omega
  have w2 : (0 : Int) ≤ (n : Int) + (m : Int) := by omega
  go_enter Tryd.func23, Tryd.ntmps23
  go_upto_region 1 with fail
  refine wp_region_lit ?_
  iterate 5 (refine wpList_step fun K hK => ?_; replace hK := hide hK; go_simp; refine unhide hK _ _ ?_; clear hK K)
  refine wpList_make_room w rfl (.const (.int .i64 0)) (.tmp 12) rfl 0 ((n : Int) + (m : Int)) 0 (n + m) (by kernel_rfl) (by kernel_rfl) (by omega) (by omega) (by omega) (by omega) ?_
  have hO : Ob w.heap.size (w.alloc (.cells (kc (List.replicate (n + m) 0)) 5 (0, 0))) (.slice (some ⟨w.heap.size, 0, none⟩) 0 (n + m)) (A.take 0) :=
    ⟨rfl, .inr ⟨w.heap.size, n + m, _, rfl, Nat.le_refl _, blk_new _ _, by simp, by unfold maxLen; omega, by rw [kc_size]; simp, by simp⟩⟩
  have hG := (Gr.refl w).alloc (.cells (kc (List.replicate (n + m) 0)) 5 (0, 0))
  generalize World.alloc _ _ = u at *
  simp only [Act.put, List.setIfInBounds_toArray, List.set_cons_zero, List.set_cons_succ, List.getElem_toArray, List.getElem_cons_zero, List.getElem_cons_succ]
  replace hO := hide hO
  replace hG := hide hG
  iterate 1 (refine wpList_step fun K hK => ?_; replace hK := hide hK; go_simp; refine unhide hK _ _ ?_; clear hK K)
  refine wpList_nil ?_
  go_wp2_with fail
  go_loopw [6, 5] (fun i x wr => ∃ (k : Nat) (a5 : Option Addr) (c5 : Nat), k ≤ n ∧ i = .int .i64 k ∧ x = .slice a5 k c5 ∧ Hid (Ob w.heap.size wr (.slice a5 k c5) (A.take k)) ∧ Hid (Gr w wr)) (fun i _ _ => n - (intOf i).toNat)
  case atStart => exact ⟨0, _, n + m, by omega, rfl, rfl, hO, hG⟩
  case round =>
  clear hO hG
  obtain ⟨k, a5, c5, hk, rfl, rfl, hO, hG⟩ := hrel
  by_cases hl : k < n
  · have kI : (k : Int) < (n : Int) := by omega
    have kJ : 0 ≤ (k : Int) ∧ (k : Int) < (n : Int) := by omega
    have kw : IntKind.i64.wrap ((k : Int) + 1) = (k : Int) + 1 := by rw [IntKind.wrap_i64]; omega
    obtain ⟨p, o, rfl, cc⟩ := ((unhide hA).gr (unhide hG)).cellAt hl
    have hnx := hide (take_next A k (by rw [unhide la]; exact hl))
    have htl : Hid ((A.take k).length = k) := by rw [List.length_take, unhide la]; exact Nat.min_eq_left (by omega)
    generalize A.getD k 0 = x at *
    go_upto_region 5 with fail
    refine wp_region_lit ?_
    iterate 6 (refine wpList_step fun K hK => ?_; replace hK := hide hK; go_simp; refine unhide hK _ _ ?_; clear hK K)
    have hO2 := (unhide hO).gr ((Gr.refl wr).alloc (.cells #[.int .u8 x] 5))
    refine app_bs (by kernel_rfl) (.tmp 20) (.tmp 25) rfl w.heap.size (.slice a5 k c5) (A.take k) (by kernel_rfl) hO2 (some ⟨wr.heap.size, 0, none⟩) 1 1 [x] (by kernel_rfl) rfl (.inr ⟨_, 0, rfl, kc_at (l := [x]) (blk_new _ _)⟩) (by rw [unhide htl]; omega) (by have := (unhide hG).size; simp only [size_alloc]; omega) ?_
    intro v' w2 hO3 hgb
    have hG4 := hO2.grown (Nat.le_refl _) ((unhide hG).alloc _) hgb
    rw [← unhide hnx] at hO3
    obtain ⟨a6, c6, hv', _, _, _⟩ := hO3.slice
    have hl2 : (A.take (k + 1)).length = k + 1 := by rw [List.length_take, unhide la]; omega
    rw [hl2] at hv'
    subst hv'
    clear hO hG hO2 hgb hl2 htl hnx
    replace hO3 := hide hO3
    replace hG4 := hide hG4
    simp only [Act.put, List.setIfInBounds_toArray, List.set_cons_zero, List.set_cons_succ, List.getElem_toArray, List.getElem_cons_zero, List.getElem_cons_succ]
    iterate 1 (refine wpList_step fun K hK => ?_; replace hK := hide hK; go_simp; refine unhide hK _ _ ?_; clear hK K)
    refine wpList_nil ?_
    go_wp2_with fail
    exact ⟨⟨k + 1, a6, c6, by omega, by congr 1, rfl, hO3, hG4⟩, by show n - ((k : Int) + 1).toNat < n - (k : Int).toNat; omega⟩
  · have e : k = n := by omega
    subst e
    have hO2 : Hid (Ob w.heap.size wr (.slice a5 (k + 0) c5) (A ++ B.take 0)) := by
      have h := unhide hO
      rw [List.take_of_length_le (by rw [unhide la]; omega)] at h
      rw [List.take_zero, List.append_nil]
      exact h
    clear hO hl
    go_wp2_with fail
    go_loopw [7, 5] (fun i x wr => ∃ (j : Nat) (a5 : Option Addr) (c5 : Nat), j ≤ m ∧ i = .int .i64 j ∧ x = .slice a5 (k + j) c5 ∧ Hid (Ob w.heap.size wr (.slice a5 (k + j) c5) (A ++ B.take j)) ∧ Hid (Gr w wr)) (fun i _ _ => m - (intOf i).toNat)
    case atStart => exact ⟨0, a5, c5, by omega, rfl, rfl, hO2, hG⟩
    case round =>
    clear hO2 hG
    obtain ⟨j, a5, c5, hj, rfl, rfl, hO, hG⟩ := hrel
    by_cases hl : j < m
    · have kI : (j : Int) < (m : Int) := by omega
      have kJ : 0 ≤ (j : Int) ∧ (j : Int) < (m : Int) := by omega
      have kw : IntKind.i64.wrap ((j : Int) + 1) = (j : Int) + 1 := by rw [IntKind.wrap_i64]; omega
      obtain ⟨p, o, rfl, cc⟩ := ((unhide hB).gr (unhide hG)).cellAt hl
      have hnx := hide (take_next B j (by rw [unhide lb]; exact hl))
      have htl : Hid ((A ++ B.take j).length = k + j) := by rw [List.length_append, List.length_take, unhide la, unhide lb, Nat.min_eq_left (by omega)]; exact rfl
      generalize B.getD j 0 = x at *
      go_upto_region 9 with fail
      refine wp_region_lit ?_
      iterate 6 (refine wpList_step fun K hK => ?_; replace hK := hide hK; go_simp; refine unhide hK _ _ ?_; clear hK K)
      have hO2 := (unhide hO).gr ((Gr.refl wr).alloc (.cells #[.int .u8 x] 5))
      refine app_bs (by kernel_rfl) (.tmp 33) (.tmp 38) rfl w.heap.size (.slice a5 (k + j) c5) (A ++ B.take j) (by kernel_rfl) hO2 (some ⟨wr.heap.size, 0, none⟩) 1 1 [x] (by kernel_rfl) rfl (.inr ⟨_, 0, rfl, kc_at (l := [x]) (blk_new _ _)⟩) (by rw [unhide htl]; omega) (by have := (unhide hG).size; simp only [size_alloc]; omega) ?_
      intro v' w2 hO3 hgb
      have hG4 := hO2.grown (Nat.le_refl _) ((unhide hG).alloc _) hgb
      rw [List.append_assoc, ← unhide hnx] at hO3
      obtain ⟨a6, c6, hv', _, _, _⟩ := hO3.slice
      have hl2 : (A ++ B.take (j + 1)).length = k + (j + 1) := by rw [List.length_append, List.length_take, unhide la, unhide lb]; omega
      rw [hl2] at hv'
      subst hv'
      clear hO hG hO2 hgb hl2 htl hnx
      replace hO3 := hide hO3
      replace hG4 := hide hG4
      simp only [Act.put, List.setIfInBounds_toArray, List.set_cons_zero, List.set_cons_succ, List.getElem_toArray, List.getElem_cons_zero, List.getElem_cons_succ]
      iterate 1 (refine wpList_step fun K hK => ?_; replace hK := hide hK; go_simp; refine unhide hK _ _ ?_; clear hK K)
      refine wpList_nil ?_
      go_wp2_with fail
      exact ⟨⟨j + 1, a6, c6, by omega, by congr 1, rfl, hO3, hG4⟩, by show m - ((j : Int) + 1).toNat < m - (j : Int).toNat; omega⟩
    · have e : j = m := by omega
      subst e
      have hP : Hid (Infd (A ++ B) w (.returned (.slice a5 (k + j) c5)) wr) := by
        have h := unhide hO
        rw [List.take_of_length_le (by rw [unhide lb]; omega)] at h
        exact ⟨_, rfl, h, unhide hG⟩
      clear hO hG hl
      go_wp2_with fail
      rw [unhide hT]
      exact unhide hP
set_option maxHeartbeats 1000000 in
theorem same_ok (B : List Int) (a b : Option Addr) (n c d : Nat) (w : World) (ha : Lb w a n c B) (hb : Lb w b n d B) (hn : n < 4611686018427387904) : Calls Tryd.prog 14 #[.slice a n c, .slice b n d] w (fun r w' => r = .returned (.bool true) ∧ Gr w w') := by
  replace ha := hide ha
  replace hb := hide hb
  go_enter Tryd.func14, Tryd.ntmps14
  go_wp2_with fail
  go_loopw [5] (fun i wr => ∃ k : Nat, k ≤ n ∧ i = .int .i64 k ∧ Hid (Gr w wr)) (fun i _ => n - (intOf i).toNat)
  case atStart => exact ⟨0, by omega, rfl, Gr.refl w⟩
  case round =>
  obtain ⟨k, hk, rfl, hG⟩ := hrel
  by_cases hl : k < n
  · have kI : (k : Int) < (n : Int) := by omega
    have kJ : 0 ≤ (k : Int) ∧ (k : Int) < (n : Int) := by omega
    have kw : IntKind.i64.wrap ((k : Int) + 1) = (k : Int) + 1 := by rw [IntKind.wrap_i64]; omega
    obtain ⟨p, o, rfl, h1⟩ := ((unhide ha).gr (unhide hG)).cellAt hl
    obtain ⟨p2, o2, rfl, h2⟩ := ((unhide hb).gr (unhide hG)).cellAt hl
    generalize B.getD k 0 = x at *
    go_wp2_with fail
    go_quiet (fail)
    replace hG := hide ((unhide hG).drewN nq)
    clear h1 h2
    generalize World.drewN _ _ = v at *
    go_wp2_with fail
    go_roundw
    case rel => exact ⟨k + 1, by omega, by go_num, hG⟩
    case measure => simp [intOf]; omega
  · have e : k = n := by omega
    subst e
    go_wp2_with fail
    refine bodyPost_ret (v := .bool true) ?_ rfl ⟨rfl, unhide hG⟩
    simp [results, Tryd.results14, go_sem]
theorem results_cell_tmp {P : Program} {fn : Func} {p q : Tmp} {ty : TypeId} (h : fn.results = #[.cell p ty, .tmp q]) (tmps : Array Value) (w : World) (g : Nat) (t : TypeId) (cs : Array Value) (fr : Nat × Nat) (d : TypeDesc)
    (hp : tmps.getD p undef = .pointer (some ⟨g, 0, none⟩)) (v : Value) (hq : tmps.getD q undef = v) (hg : w.heap[g]? = some (.cells cs t fr))
    (hu : P.underlying ty = some d) (hd : (match d with | .struct _ | .array _ _ => true | _ => false) = true) (hi : (P.info? ty).map (·.size) = some cs.size) :
    (results fn tmps).run P w = .ok (.tuple #[.agg cs, v]) w := by
  have hp' : tmps[p]?.getD undef = .pointer (some ⟨g, 0, none⟩) := by simpa using hp
  have hq' : tmps[q]?.getD undef = v := by simpa using hq
  simp [results, h, hp', hq', asAddr, run_loadVar_row w g t ty cs fr d hg hu hd hi]
theorem exec_i64 {op : Oper} {a : Act} (w : World) (x : Operand) (ho : op.op = .load 3 x) (g i : Nat) (hx : a.eval x = .pointer (some ⟨g, i, none⟩)) (v : Int) (hc : w.cell? ⟨g, i, none⟩ = some (.int .i64 v)) : (execOp a.eval op).run Tryd.prog w = .ok (.value (.int .i64 v)) w := by
  unfold execOp
  simp only [ho, hx, Instr.loadAt, Instr.sureAddr, Sem.run_bind, Sem.run_pure, Result.andThen_ok]
  go_simp
theorem exec_b {op : Oper} {a : Act} (w : World) (x : Operand) (ho : op.op = .load 5 x) (g i : Nat) (hx : a.eval x = .pointer (some ⟨g, i, none⟩)) (v : Int) (hc : w.cell? ⟨g, i, none⟩ = some (.int .u8 v)) : (execOp a.eval op).run Tryd.prog w = .ok (.value (.int .u8 v)) w := by
  unfold execOp
  simp only [ho, hx, Instr.loadAt, Instr.sureAddr, Sem.run_bind, Sem.run_pure, Result.andThen_ok]
  go_simp
theorem list32 : ∀ (M : List Int), M.length = 32 → ∃ x0 x1 x2 x3 x4 x5 x6 x7 x8 x9 x10 x11 x12 x13 x14 x15 x16 x17 x18 x19 x20 x21 x22 x23 x24 x25 x26 x27 x28 x29 x30 x31, M = [x0, x1, x2, x3, x4, x5, x6, x7, x8, x9, x10, x11, x12, x13, x14, x15, x16, x17, x18, x19, x20, x21, x22, x23, x24, x25, x26, x27, x28, x29, x30, x31]
  | [x0, x1, x2, x3, x4, x5, x6, x7, x8, x9, x10, x11, x12, x13, x14, x15, x16, x17, x18, x19, x20, x21, x22, x23, x24, x25, x26, x27, x28, x29, x30, x31], _ => ⟨_, _, _, _, _, _, _, _, _, _, _, _, _, _, _, _, _, _, _, _, _, _, _, _, _, _, _, _, _, _, _, _, rfl⟩
def ZN : List Int := List.replicate 12 0
theorem ZN_isB : IsB ZN := fun x hx => by have := List.eq_of_mem_replicate hx; omega
theorem sumL_isB (B : List Int) : IsB (sumL B) := keyL_isB _
/-- the cells of the reference's dice -/
def dcl (K : List Int) (t : Nat) : Array Value := (K.map (Value.int .u8) ++ [Value.int .i64 (t : Int)]).toArray
theorem dcl_size {K : List Int} (hK : K.length = 32) (t : Nat) : (dcl K t).size = 33 := by unfold dcl; simp [hK]
theorem dcl_one (K : List Int) (t : Nat) : (dcl K t).all (·.oneCell') = true := by unfold dcl; simp [Value.oneCell']
theorem dcl_key {w : World} {g : Nat} {K : List Int} {t : Nat} {ty : TypeId} (h : w.heap[g]? = some (.cells (dcl K t) ty (0, 0))) : w.rangeAt g 0 (K.map (Value.int .u8)) := fun j v hj => by
  rw [Nat.zero_add]
  refine cell_of h ?_
  have hl := (List.getElem?_eq_some_iff.1 hj).1
  unfold dcl
  rw [List.getElem?_toArray, List.getElem?_append_left hl]
  exact hj
theorem dcl_get {K : List Int} (hK : K.length = 32) (t : Nat) : (dcl K t)[32]? = some (.int .i64 (t : Int)) := by
  unfold dcl
  rw [List.getElem?_toArray, List.getElem?_append_right (by rw [List.length_map]; omega), List.length_map, hK]
  rfl
theorem dcl_set {K : List Int} (hK : K.length = 32) (t m : Nat) : (dcl K t).setIfInBounds 32 (.int .i64 (m : Int)) = dcl K m := by
  unfold dcl
  rw [List.setIfInBounds_toArray, List.set_append_right _ _ (by rw [List.length_map]; omega), List.length_map, hK]
  rfl
theorem Tryd.infoD : (Tryd.prog.info? 30).map (·.size) = some 33 := by kernel_rfl
/-- dice, by the reference -/
def Diced (K : List Int) (t : Nat) (w : World) (r : Ending) (w' : World) : Prop := r = .returned (.agg (dcl K t)) ∧ Gr w w'
def ZK : List Int := List.replicate 32 0
set_option maxHeartbeats 4000000 in
theorem rnew_ok (B : List Int) (a : Option Addr) (n cap : Nat) (hbig : n ≤ 100000) (w : World) (lb : Lb w a n cap B) : Calls Tryd.prog 11 #[.slice a n cap] w (Diced (sumL B) 0 w) := by
  obtain ⟨T, hT⟩ : ∃ T, T = Diced (sumL B) 0 w := ⟨_, rfl⟩
  rw [← hT]
  replace hT := hide hT
  replace lb := hide lb
  go_enter Tryd.func11, Tryd.ntmps11
  go_upto_region 1 with fail
  have hB := (Bl.nil w).new #[.int .u8 0, .int .u8 0, .int .u8 0, .int .u8 0, .int .u8 0, .int .u8 0, .int .u8 0, .int .u8 0, .int .u8 0, .int .u8 0, .int .u8 0, .int .u8 0, .int .u8 0, .int .u8 0, .int .u8 0, .int .u8 0, .int .u8 0, .int .u8 0, .int .u8 0, .int .u8 0, .int .u8 0, .int .u8 0, .int .u8 0, .int .u8 0, .int .u8 0, .int .u8 0, .int .u8 0, .int .u8 0, .int .u8 0, .int .u8 0, .int .u8 0, .int .u8 0, .int .i64 0] 30
  simp only [List.nil_append, List.cons_append] at hB
  generalize World.alloc _ _ = u at *
  replace hB : Bl w [⟨w.heap.size, dcl ZK 0, 30⟩] u := hB
  refine wp_region_lit ?_
  refine list_val (.slice a n cap) (by kernel_rfl) (by kernel_rfl) ?_
  simp only [Act.put, List.setIfInBounds_toArray, List.set_cons_zero, List.set_cons_succ, List.getElem_toArray, List.getElem_cons_zero, List.getElem_cons_succ]
  refine list_call 26 #[.slice a n cap] (by kernel_rfl) (by kernel_rfl) ((rsum_ok B (unhide lb).isB n (unhide lb).len (by omega) a cap _ ((unhide lb).gr hB.gr).sl).mono ?_)
  rintro r u1 ⟨rfl, hg⟩
  refine ⟨_, rfl, ?_⟩
  replace hB := hB.more hg
  clear hg
  have hXl := sumL_len B
  generalize sumL B = X at *
  simp only [Act.put, List.setIfInBounds_toArray, List.set_cons_zero, List.set_cons_succ, List.getElem_toArray, List.getElem_cons_zero, List.getElem_cons_succ]
  obtain ⟨x0, x1, x2, x3, x4, x5, x6, x7, x8, x9, x10, x11, x12, x13, x14, x15, x16, x17, x18, x19, x20, x21, x22, x23, x24, x25, x26, x27, x28, x29, x30, x31, hX⟩ := list32 X hXl
  rw [hX]
  refine list_val (.agg (dcl [x0, x1, x2, x3, x4, x5, x6, x7, x8, x9, x10, x11, x12, x13, x14, x15, x16, x17, x18, x19, x20, x21, x22, x23, x24, x25, x26, x27, x28, x29, x30, x31] 0)) (by kernel_rfl) (by kernel_rfl) ?_
  simp only [Act.put, List.setIfInBounds_toArray, List.set_cons_zero, List.set_cons_succ, List.getElem_toArray, List.getElem_cons_zero, List.getElem_cons_succ]
  rw [← hX]
  clear hX
  refine list_store 30 (.tmp 2) (.tmp 5) w.heap.size (dcl X 0) 30 (dcl ZK 0) (by kernel_rfl) rfl (by kernel_rfl) (by kernel_rfl) (hB.get 0 (x := ⟨w.heap.size, dcl ZK 0, 30⟩) rfl) (by rw [Tryd.infoD, dcl_size hXl]) ((show (dcl ZK 0).size = 33 from rfl).trans (dcl_size hXl 0).symm) (dcl_one _ _) ?_
  replace hB := hB.set 0 (x := ⟨w.heap.size, dcl ZK 0, 30⟩) rfl (dcl X 0)
  simp only [List.set_cons_zero, List.set_cons_succ] at hB
  generalize World.setRow _ _ _ = u2 at *
  simp only [Act.put, List.setIfInBounds_toArray, List.set_cons_zero, List.set_cons_succ, List.getElem_toArray, List.getElem_cons_zero, List.getElem_cons_succ]
  refine wpList_nil ?_
  replace hB := hide hB
  go_wp2_with fail
  replace hB := unhide hB
  rw [unhide hT]
  exact bodyPost_ret (v := .agg (dcl X 0)) (results_cell_row Tryd.results11 _ _ w.heap.size 30 (dcl X 0) (0, 0) _ rfl (hB.get 0 (x := ⟨w.heap.size, dcl X 0, 30⟩) rfl) Tryd.underlying30 rfl (by rw [Tryd.infoD, dcl_size hXl])) rfl ⟨rfl, hB.gr⟩
end Go.Proofs.YtdfcdklnngfhkaaDoor
