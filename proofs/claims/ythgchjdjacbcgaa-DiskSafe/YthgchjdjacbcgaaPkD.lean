/-
  The program: Pending, copies of lists, Copy.
-/
import Derived.Test.YthgchjdjacbcgaaPkC
namespace Go.Proofs.Ythgchjdjacbcgaa
open Go.RowKit
set_option maxRecDepth 100000
set_option linter.unusedSimpArgs false
set_option linter.unusedVariables false
def iv (l : List Int) : List (List Value) := l.map fun x => [Value.int .i64 x]
def Pnd (l : List Int) (w : World) (r : Ending) (w' : World) : Prop := ∃ v, r = .returned v ∧ Or_ 1 3 w.heap.size w' v (iv l) ∧ Gr w w'
def ic (l : List Int) : Array Value := (l.map (Value.int .i64)).toArray
theorem ic_size (l : List Int) : (ic l).size = l.length := by unfold ic; simp
theorem ic_set (l : List Int) (i : Nat) (x : Int) : (ic l).setIfInBounds i (.int .i64 x) = ic (l.set i x) := by
  unfold ic
  rw [List.setIfInBounds_toArray, List.map_set]
theorem ivp_flat : ∀ (l : List Int), (iv l).flatten = l.map (Value.int .i64)
  | [] => rfl
  | x :: l => by
    have ih := ivp_flat l
    unfold iv at ih ⊢
    rw [List.map_cons, List.flatten_cons, ih]
    rfl
/-- the first j of a list, noughts behind them -/
def tk (L : List Int) (j n : Nat) : List Int := L.take j ++ List.replicate (n - j) 0
theorem tk_len (L : List Int) (j n : Nat) (hL : L.length = n) (h : j ≤ n) : (tk L j n).length = n := by unfold tk; simp; omega
theorem tk_set (L : List Int) (j n : Nat) (hL : L.length = n) (h : j < n) : (tk L j n).set j (L.getD j 0) = tk L (j + 1) n := by
  unfold tk
  have e1 : (L.take j).length = j := by simp; omega
  rw [List.set_append_right _ _ (by omega), e1, Nat.sub_self, show n - j = (n - (j + 1)) + 1 from by omega, List.replicate_succ, List.set_cons_zero]
  rw [List.take_add_one, List.append_assoc, List.getD_eq_getElem?_getD, List.getElem?_eq_getElem (by omega)]
  rfl
theorem tk_all (L : List Int) (n : Nat) (hL : L.length = n) : tk L n n = L := by unfold tk; rw [Nat.sub_self, List.replicate_zero, List.append_nil, List.take_of_length_le (by omega)]
theorem tk_none (L : List Int) (n : Nat) : tk L 0 n = List.replicate n 0 := by unfold tk; simp
theorem Try.infoIz : (Try.prog.info? 3).map (fun i => (i.zero, i.size, i.bytes)) = some (some (.int .i64 0), 1, 8) := by kernel_rfl
/-- numbers are made -/
theorem make_ints (w : World) {ops : Array Oper} {rest : List Oper} {o : Oper} {a : Act} {Q : Exit → Act → World → Prop} (hgd : o.guard = none) (l c : Operand) (hop : o.op = Op.makeSlice 50 l c) (n : Nat) (hl : a.eval l = .int .i64 n) (hc : a.eval c = .int .i64 n) (hn : n ≤ 1000000)
    (h : wpList Try.prog ops Q rest (a.put o.dst (.slice (some ⟨w.heap.size, 0, none⟩) n n)) (w.alloc (.cells (ic (List.replicate n 0)) 3 (0, 0)))) : wpList Try.prog ops Q (o :: rest) a w := by
  obtain ⟨i, h2, h3, h4, h5⟩ := info_parts Try.infoIz
  have hrun := run_make (P := Try.prog) w 50 3 i (.int .i64 0) Try.underlying50 h2 h3 .i64 .i64 (n : Int) (n : Int) (by omega) (by omega) (by rw [h5]; omega) (by omega)
  rw [h4] at hrun
  have e : madeCells (Value.int .i64 0).cells n = ic (List.replicate n 0) := by
    apply Array.ext
    · simp [size_madeCells, ic]
    · intro i h1 h2
      have : i % 1 = 0 := Nat.mod_one i
      simp [madeCells, Value.cells, this, ic]
  simp only [Int.toNat_natCast, Nat.mul_one, e] at hrun
  rw [wpList, if_pos (by simp [Region.wanted, hgd])]
  refine Or.inl ?_
  unfold Oper.wp
  simp [execOp, hop, hl, hc, hrun, Result.andThen]
  exact h
set_option maxHeartbeats 4000000 in
theorem dpending_p (g : Nat) (D : Dk) (sg sc : Nat) (C : List Value) (pa : Option Addr) (pc : Nat) (l : Int) (m : Nat) (hD : D.Ok m) (hm : m ≤ 1000000) (w : World) (hP : Pd g D w sg sc C pa pc l) : Calls Try.prog 20 #[P0 g] w (Pnd (D.pend.map fun x => (x.1 : Int)) w) := by
  obtain ⟨T, hT⟩ : ∃ T, T = Pnd (D.pend.map fun x => (x.1 : Int)) w := ⟨_, rfl⟩
  rw [← hT]
  replace hT := hide hT
  obtain ⟨dd, hdd⟩ : ∃ x, x = D.dead := ⟨_, rfl⟩
  obtain ⟨sn, hsn⟩ : ∃ n, n = D.safe.length := ⟨_, rfl⟩
  obtain ⟨pn, hpn⟩ : ∃ n, n = D.pend.length := ⟨_, rfl⟩
  obtain ⟨os, hos⟩ : ∃ n, n = D.ops := ⟨_, rfl⟩
  have hcl := hP.cel
  rw [← hdd, ← hsn, ← hpn, ← hos] at hcl
  replace hdd := hide hdd; replace hsn := hide hsn; replace hpn := hide hpn; replace hos := hide hos; replace hcl := hide hcl; replace hP := hide hP
  have hpm : pn ≤ 1000000 := by rw [unhide hpn]; exact Nat.le_trans hD.num hm
  obtain ⟨L, hL⟩ : ∃ L : List Int, L = D.pend.map fun x => (x.1 : Int) := ⟨_, rfl⟩
  have hLl : L.length = pn := by rw [hL, List.length_map, unhide hpn]
  replace hD := hide hD; replace hL := hide hL
  go_enter Try.func20, Try.ntmps20
  go_upto_region 1 with fail
  refine wp_region_lit ?_
  refine list_val (.pointer (some ⟨g, 0, none⟩)) (by kernel_rfl) (by kernel_rfl) ?_
  simp only [Act.put, List.setIfInBounds_toArray, List.set_cons_zero, List.set_cons_succ, List.getElem_toArray, List.getElem_cons_zero, List.getElem_cons_succ]
  refine list_val (.bool false) (by kernel_rfl) (by kernel_rfl) ?_
  simp only [Act.put, List.setIfInBounds_toArray, List.set_cons_zero, List.set_cons_succ, List.getElem_toArray, List.getElem_cons_zero, List.getElem_cons_succ]
  refine wpList_nil ?_
  have hB := Bl.nil w
  replace hB := hide hB
  go_upto_region 3 with fail
  replace hB := unhide hB
  refine wp_region_lit ?_
  refine list_val (.pointer (some ⟨g, 0, none⟩)) (by kernel_rfl) (by kernel_rfl) ?_
  simp only [Act.put, List.setIfInBounds_toArray, List.set_cons_zero, List.set_cons_succ, List.getElem_toArray, List.getElem_cons_zero, List.getElem_cons_succ]
  refine list_val (.pointer (some ⟨g, 0, none⟩)) (by kernel_rfl) (by kernel_rfl) ?_
  simp only [Act.put, List.setIfInBounds_toArray, List.set_cons_zero, List.set_cons_succ, List.getElem_toArray, List.getElem_cons_zero, List.getElem_cons_succ]
  refine list_val (.pointer (some ⟨g, 1, none⟩)) (by kernel_rfl) (by kernel_rfl) ?_
  simp only [Act.put, List.setIfInBounds_toArray, List.set_cons_zero, List.set_cons_succ, List.getElem_toArray, List.getElem_cons_zero, List.getElem_cons_succ]
  refine list_val (.slice pa pn pc) (by kernel_rfl) (exec_spw _ (.tmp 10) rfl g 1 (by kernel_rfl) pa pn pc (cell_of (hB.gr.blk (unhide hcl)) (i := 1) rfl)) ?_
  simp only [Act.put, List.setIfInBounds_toArray, List.set_cons_zero, List.set_cons_succ, List.getElem_toArray, List.getElem_cons_zero, List.getElem_cons_succ]
  refine list_val (.int .i64 pn) (by kernel_rfl) (by kernel_rfl) ?_
  simp only [Act.put, List.setIfInBounds_toArray, List.set_cons_zero, List.set_cons_succ, List.getElem_toArray, List.getElem_cons_zero, List.getElem_cons_succ]
  refine make_ints w rfl (.tmp 12) (.tmp 12) rfl pn rfl rfl (by omega) ?_
  simp only [Act.put, List.setIfInBounds_toArray, List.set_cons_zero, List.set_cons_succ, List.getElem_toArray, List.getElem_cons_zero, List.getElem_cons_succ]
  replace hB := hB.new (ic (List.replicate pn 0)) 3
  simp only [List.nil_append, List.cons_append] at hB
  obtain ⟨gk, hgk⟩ : ∃ x, x = w.heap.size := ⟨_, rfl⟩
  rw [← hgk] at hB ⊢
  replace hgk := hide hgk
  generalize World.alloc _ _ = u1 at *
  (refine wpList_step fun K hK => ?_; replace hK := hide hK; go_simp; refine unhide hK _ _ ?_; clear hK K)
  refine wpList_nil ?_
  replace hB := hide hB
  go_upto_region 4 with fail
  replace hB := unhide hB
  refine wp_region_lit ?_
  refine list_val (.pointer (some ⟨g, 0, none⟩)) (by kernel_rfl) (by kernel_rfl) ?_
  simp only [Act.put, List.setIfInBounds_toArray, List.set_cons_zero, List.set_cons_succ, List.getElem_toArray, List.getElem_cons_zero, List.getElem_cons_succ]
  refine list_val (.pointer (some ⟨g, 0, none⟩)) (by kernel_rfl) (by kernel_rfl) ?_
  simp only [Act.put, List.setIfInBounds_toArray, List.set_cons_zero, List.set_cons_succ, List.getElem_toArray, List.getElem_cons_zero, List.getElem_cons_succ]
  refine list_val (.pointer (some ⟨g, 1, none⟩)) (by kernel_rfl) (by kernel_rfl) ?_
  simp only [Act.put, List.setIfInBounds_toArray, List.set_cons_zero, List.set_cons_succ, List.getElem_toArray, List.getElem_cons_zero, List.getElem_cons_succ]
  refine list_val (.slice pa pn pc) (by kernel_rfl) (exec_spw _ (.tmp 16) rfl g 1 (by kernel_rfl) pa pn pc (cell_of (hB.gr.blk (unhide hcl)) (i := 1) rfl)) ?_
  simp only [Act.put, List.setIfInBounds_toArray, List.set_cons_zero, List.set_cons_succ, List.getElem_toArray, List.getElem_cons_zero, List.getElem_cons_succ]
  refine list_val (.int .i64 pn) (by kernel_rfl) (by kernel_rfl) ?_
  simp only [Act.put, List.setIfInBounds_toArray, List.set_cons_zero, List.set_cons_succ, List.getElem_toArray, List.getElem_cons_zero, List.getElem_cons_succ]
  refine list_val (.int .i64 0) (by kernel_rfl) (by kernel_rfl) ?_
  simp only [Act.put, List.setIfInBounds_toArray, List.set_cons_zero, List.set_cons_succ, List.getElem_toArray, List.getElem_cons_zero, List.getElem_cons_succ]
  refine wpList_nil ?_
  rw [← tk_none L pn] at hB
  replace hB := hide hB
  go_wp2_with fail
  go_loopw [19] (fun i wr => ∃ j : Nat, j ≤ pn ∧ i = .int .i64 j ∧ Hid (Bl w [⟨gk, ic (tk L j pn), 3⟩] wr)) (fun i _ => pn - (intOf i).toNat)
  case atStart => exact ⟨0, by omega, rfl, hB⟩
  case round =>
  clear hB
  obtain ⟨j, hj, rfl, hB⟩ := hrel
  by_cases hjl : j < pn
  · skip
    obtain ⟨p2, o2, rfl, hrw⟩ := (unhide hP).pls.at_ j (by rw [← unhide hpn]; exact hjl)
    rw [getD_map wv D.pend j (0, []) [] (by rw [← unhide hpn]; exact hjl)] at hrw
    have hx := (unhide hD).pnd _ (mem_of_getD (d := (0, [])) (by rw [← unhide hpn]; exact hjl))
    obtain ⟨⟨ai, ab⟩, hab⟩ : ∃ x, x = D.pend.getD j (0, []) := ⟨_, rfl⟩
    rw [← hab] at hrw hx
    have hLj : L.getD j 0 = (ai : Int) := by
      rw [unhide hL, getD_map (fun x : Nat × List Int => (x.1 : Int)) D.pend j (0, []) 0 (by rw [← unhide hpn]; exact hjl), ← hab]
    have hal : ab.length = 64 := hx.2.1
    have hwl : (wv (ai, ab)).length = 65 := by rw [wv_len, hal]
    have hset := tk_set L j pn hLl hjl
    rw [hLj] at hset
    replace hab := hide hab; replace hx := hide hx; replace hrw := hide hrw; replace hLj := hide hLj; replace hset := hide hset
    have jI : (j : Int) < (pn : Int) := by omega
    replace hB := hide hB
    go_upto_region 6 with fail
    replace hB := unhide hB
    refine wp_region_lit ?_
    refine list_val (.int .i64 j) (by kernel_rfl) (by kernel_rfl) ?_
    simp only [Act.put, List.setIfInBounds_toArray, List.set_cons_zero, List.set_cons_succ, List.getElem_toArray, List.getElem_cons_zero, List.getElem_cons_succ]
    refine list_val (.pointer (some ⟨p2, o2 + 65 * j, none⟩)) (by kernel_rfl) (exec_ipw _ (.tmp 17) (.tmp 19) rfl p2 o2 pn pc j rfl rfl hjl) ?_
    simp only [Act.put, List.setIfInBounds_toArray, List.set_cons_zero, List.set_cons_succ, List.getElem_toArray, List.getElem_cons_zero, List.getElem_cons_succ]
    refine list_val (.agg ((wv (ai, ab)).toArray)) (by kernel_rfl) (exec_row _ 75 (.tmp 22) rfl p2 (o2 + 65 * j) (by kernel_rfl) (wv (ai, ab)) _ (range_gr (unhide hrw) hB.gr) Try.underlying75 rfl (by rw [Try.infoPW, hwl])) ?_
    simp only [Act.put, List.setIfInBounds_toArray, List.set_cons_zero, List.set_cons_succ, List.getElem_toArray, List.getElem_cons_zero, List.getElem_cons_succ]
    refine list_valw (.pointer (some ⟨wr.heap.size, 0, none⟩)) (wr.alloc (.cells ((wv (0, ZB)).toArray) 75 (0, 0))) (by kernel_rfl) (by kernel_rfl) ?_
    replace hB := hB.new ((wv (0, ZB)).toArray) 75
    simp only [List.nil_append, List.cons_append] at hB
    generalize World.alloc _ _ = v1 at *
    generalize wr.heap.size = g8 at *
    replace hB : Bl w [⟨gk, ic (tk L j pn), 3⟩, ⟨g8, (wv (0, ZB)).toArray, 75⟩] v1 := hB
    simp only [Act.put, List.setIfInBounds_toArray, List.set_cons_zero, List.set_cons_succ, List.getElem_toArray, List.getElem_cons_zero, List.getElem_cons_succ]
    (refine wpList_step fun K hK => ?_; replace hK := hide hK; go_simp; refine unhide hK _ _ ?_; clear hK K)
    refine list_store 75 (.tmp 5) (.tmp 23) g8 ((wv (ai, ab)).toArray) 75 ((wv (0, ZB)).toArray) (by kernel_rfl) rfl (by kernel_rfl) (by kernel_rfl) (hB.get 1 (x := ⟨g8, (wv (0, ZB)).toArray, 75⟩) rfl) (by rw [Try.infoPW, List.size_toArray, hwl]) ((show ((wv (0, ZB)).toArray).size = 65 from rfl).trans (by rw [List.size_toArray, hwl])) (wv_one _) ?_
    replace hB := hB.set 1 (x := ⟨g8, (wv (0, ZB)).toArray, 75⟩) rfl ((wv (ai, ab)).toArray)
    simp only [List.set_cons_zero, List.set_cons_succ] at hB
    generalize World.setRow _ _ _ = v2 at *
    replace hB : Bl w [⟨gk, ic (tk L j pn), 3⟩, ⟨g8, (wv (ai, ab)).toArray, 75⟩] v2 := hB
    simp only [Act.put, List.setIfInBounds_toArray, List.set_cons_zero, List.set_cons_succ, List.getElem_toArray, List.getElem_cons_zero, List.getElem_cons_succ]
    refine wpList_nil ?_
    replace hB := hide hB
    go_upto_region 7 with fail
    replace hB := unhide hB
    refine wp_region_lit ?_
    refine list_val (.slice (some ⟨gk, 0, none⟩) pn pn) (by kernel_rfl) (by kernel_rfl) ?_
    simp only [Act.put, List.setIfInBounds_toArray, List.set_cons_zero, List.set_cons_succ, List.getElem_toArray, List.getElem_cons_zero, List.getElem_cons_succ]
    refine list_val (.int .i64 j) (by kernel_rfl) (by kernel_rfl) ?_
    simp only [Act.put, List.setIfInBounds_toArray, List.set_cons_zero, List.set_cons_succ, List.getElem_toArray, List.getElem_cons_zero, List.getElem_cons_succ]
    refine list_val (.pointer (some ⟨g8, 0, none⟩)) (by kernel_rfl) (by kernel_rfl) ?_
    simp only [Act.put, List.setIfInBounds_toArray, List.set_cons_zero, List.set_cons_succ, List.getElem_toArray, List.getElem_cons_zero, List.getElem_cons_succ]
    refine list_val (.int .i64 (ai : Int)) (by kernel_rfl) (exec_i64 _ (.tmp 26) rfl g8 0 (by kernel_rfl) _ (cell_of (hB.get 1 (x := ⟨g8, (wv (ai, ab)).toArray, 75⟩) rfl) (i := 0) rfl)) ?_
    simp only [Act.put, List.setIfInBounds_toArray, List.set_cons_zero, List.set_cons_succ, List.getElem_toArray, List.getElem_cons_zero, List.getElem_cons_succ]
    refine list_val (.pointer (some ⟨gk, 0 + j, none⟩)) (by kernel_rfl) (exec_ii _ (.tmp 24) (.tmp 25) rfl gk 0 pn pn j rfl rfl hjl) ?_
    simp only [Act.put, List.setIfInBounds_toArray, List.set_cons_zero, List.set_cons_succ, List.getElem_toArray, List.getElem_cons_zero, List.getElem_cons_succ]
    rw [Nat.zero_add]
    have c0 := cell_of (i := j) (hB.get 0 (x := ⟨gk, ic (tk L j pn), 3⟩) rfl) (Array.getElem?_eq_getElem (by dsimp only; rw [ic_size, tk_len _ _ _ hLl hj]; exact hjl))
    have fz := froz_of (i := j) (hB.get 0 (x := ⟨gk, ic (tk L j pn), 3⟩) rfl)
    have hB2 := hB.cell 0 (x := ⟨gk, ic (tk L j pn), 3⟩) rfl j (.int .i64 (ai : Int))
    simp only [List.set_cons_zero, List.set_cons_succ, ic_set, unhide hset] at hB2
    have hB3 : Hid (Bl w [⟨gk, ic (tk L (j + 1) pn), 3⟩] _) := Bl.left (M := [⟨g8, (wv (ai, ab)).toArray, 75⟩]) hB2
    clear hB hB2
    dsimp only at c0 fz
    generalize (ic (tk L j pn))[j]'_ = z at c0
    (refine wpList_step fun K hK => ?_; replace hK := hide hK; go_simp; refine unhide hK _ _ ?_; clear hK K)
    clear c0 fz
    refine wpList_nil ?_
    go_wp2_with fail
    go_roundw
    case rel => exact ⟨j + 1, by omega, by go_num, hB3⟩
    case measure => simp [intOf]; omega
  have jI : ¬ (j : Int) < (pn : Int) := by omega
  have hZ : Hid (Pnd (D.pend.map fun x => (x.1 : Int)) w (.returned (.slice (some ⟨gk, 0, none⟩) pn pn)) wr) := by
    have e : j = pn := by omega
    have h := (unhide hB).get 0 (x := ⟨gk, ic (tk L j pn), 3⟩) rfl
    dsimp only at h
    rw [e, tk_all L pn hLl] at h
    refine ⟨_, rfl, ⟨?_, ?_, .inr ⟨gk, pn, ic L, ?_, (unhide hB).own 0 (x := ⟨gk, ic (tk L j pn), 3⟩) rfl, h, ?_, by unfold maxLen; omega, ?_, ?_⟩⟩, (unhide hB).gr⟩
    · intro r hr
      unfold iv at hr
      obtain ⟨x, _, rfl⟩ := List.mem_map.1 hr
      rfl
    · rw [← unhide hL, ivp_flat, List.length_map]
      unfold iv
      rw [List.length_map, Nat.mul_one]
    · rw [← unhide hL]
      unfold iv
      rw [List.length_map, hLl]
    · rw [← unhide hL]
      unfold iv
      rw [List.length_map, hLl]
      exact Nat.le_refl _
    · rw [ic_size, hLl, Nat.mul_one]
    · rw [← unhide hL, ivp_flat]
      unfold iv ic
      rw [List.length_map, Nat.mul_one, List.take_of_length_le (by simp)]
  clear hB
  go_wp2_with fail
  rw [unhide hT]
  exact unhide hZ
theorem dpending_ok (F : List Nat) (g m : Nat) (D : Dk) (hD : D.Ok m) (hm : m ≤ 1000000) (w : World) (h : Lies F g D w) : Calls Try.prog 20 #[P0 g] w (Pnd (D.pend.map fun x => (x.1 : Int)) w) := by
  obtain ⟨sg, sc, C, pa, pc, l, h, rfl⟩ := h
  exact dpending_p g D sg sc C pa pc l m hD hm w h
theorem dpending_nil (w : World) : Calls Try.prog 20 #[.pointer none] w (fun r w' => ∃ a c, r = .returned (.slice a 0 c) ∧ Gr w w') := by
  obtain ⟨T, hT⟩ : ∃ T : Ending → World → Prop, T = fun r w' => ∃ a c, r = .returned (.slice a 0 c) ∧ Gr w w' := ⟨_, rfl⟩
  rw [← hT]
  replace hT := hide hT
  go_enter Try.func20, Try.ntmps20
  go_wp2_with fail
  rw [unhide hT]
  exact ⟨none, 0, rfl, Gr.refl w⟩
theorem or_down {k : Nat} {e : TypeId} {b : Nat} {w : World} {v : Value} {R : List (List Value)} (h : Or_ k e b w v R) : Or_ k e 0 w v R := by
  refine ⟨h.1, h.2.1, ?_⟩
  rcases h.2.2 with h1 | ⟨g, cap, cur, h1, h2, h3⟩
  · exact .inl h1
  · exact .inr ⟨g, cap, cur, h1, Nat.zero_le _, h3⟩
theorem cov_take {C L : List Value} (h : Cov C L) (hl : L.length ≤ C.length) : C.take L.length = L := by
  apply List.ext_getElem?
  intro i
  rw [List.getElem?_take]
  split
  · rename_i hi
    rw [List.getElem?_eq_getElem hi]
    exact h i _ (List.getElem?_eq_getElem hi)
  · rename_i hi
    rw [List.getElem?_eq_none (by omega)]
theorem Pd.sor {g : Nat} {D : Dk} {v : World} {sg sc : Nat} {C : List Value} {pa : Option Addr} {pc : Nat} {l : Int} (h : Pd g D v sg sc C pa pc l) {m : Nat} (hD : D.Ok m) : Or_ 64 39 0 v (.slice (some ⟨sg, 0, none⟩) D.safe.length sc) (D.safe.map bv) := by
  have h1 := flat_len (D.safe.map bv) 64 (bv_rows hD.blk)
  rw [List.length_map] at h1
  refine ⟨bv_rows hD.blk, by rw [h1, List.length_map], .inr ⟨sg, sc, C.toArray, by rw [List.length_map], Nat.zero_le _, h.saf, by rw [List.length_map]; exact h.cap, h.max, by rw [List.size_toArray]; exact h.len, ?_⟩⟩
  rw [List.length_map, ← h1]
  exact cov_take h.cov (by rw [h1, h.len]; exact Nat.mul_le_mul_right _ h.cap)
/-- what a copy of a list is -/
def Cln (k : Nat) (e : TypeId) (R : List (List Value)) (w : World) (r : Ending) (w' : World) : Prop := ∃ v, r = .returned v ∧ Or_ k e w.heap.size w' v R ∧ Gr w w'
set_option maxHeartbeats 4000000 in
theorem clb_ok (p n c : Nat) (R : List (List Value)) (w : World) (hn : n ≤ 1000000) (hR : Or_ 64 39 0 w (.slice (some ⟨p, 0, none⟩) n c) R) (h1 : ∀ r ∈ R, ∀ u ∈ r, u.oneCell' = true) : Calls Try.prog 38 #[.slice (some ⟨p, 0, none⟩) n c] w (Cln 64 39 R w) := by
  obtain ⟨T, hT⟩ : ∃ T, T = Cln 64 39 R w := ⟨_, rfl⟩
  rw [← hT]
  replace hT := hide hT
  replace hR := hide hR; replace h1 := hide h1
  go_enter Try.func38, Try.ntmps38
  go_upto_region 1 with fail
  refine wp_region_lit ?_
  refine list_val (.slice (some ⟨p, 0, none⟩) n c) (by kernel_rfl) (by kernel_rfl) ?_
  simp only [Act.put, List.setIfInBounds_toArray, List.set_cons_zero, List.set_cons_succ, List.getElem_toArray, List.getElem_cons_zero, List.getElem_cons_succ]
  refine list_val (.bool false) (by kernel_rfl) (by kernel_rfl) ?_
  simp only [Act.put, List.setIfInBounds_toArray, List.set_cons_zero, List.set_cons_succ, List.getElem_toArray, List.getElem_cons_zero, List.getElem_cons_succ]
  refine wpList_nil ?_
  go_upto_region 3 with fail
  refine wp_region_lit ?_
  refine list_valw (.slice (some ⟨w.heap.size, 0, none⟩) 0 0) (w.alloc (.cells #[] 39 (0, 0))) (by kernel_rfl) (by kernel_rfl) ?_
  have ob0 : Or_ 64 39 w.heap.size (w.alloc (.cells #[] 39 (0, 0))) (.slice (some ⟨w.heap.size, 0, none⟩) 0 0) [] := ⟨(fun r hr => by cases hr), rfl, .inr ⟨w.heap.size, 0, #[], rfl, Nat.le_refl _, blk_new _ _, Nat.le_refl _, by unfold maxLen; omega, rfl, rfl⟩⟩
  have hG := (Gr.refl w).alloc (.cells #[] 39 (0, 0))
  generalize World.alloc _ _ = u1 at *
  simp only [Act.put, List.setIfInBounds_toArray, List.set_cons_zero, List.set_cons_succ, List.getElem_toArray, List.getElem_cons_zero, List.getElem_cons_succ]
  refine list_val (.slice (some ⟨p, 0, none⟩) n c) (by kernel_rfl) (by kernel_rfl) ?_
  simp only [Act.put, List.setIfInBounds_toArray, List.set_cons_zero, List.set_cons_succ, List.getElem_toArray, List.getElem_cons_zero, List.getElem_cons_succ]
  refine wpList_step fun K_ hQ => ?_
  rw [if_pos (by kernel_rfl)]
  obtain ⟨a_, c_, he, hls⟩ := ((unhide hR).gr hG).ls
  injection he with he1 he2 he3
  refine app_rows lt_b (.tmp 5) (.tmp 6) rfl w.heap.size _ [] rfl ob0 (some ⟨p, 0, none⟩) n c R rfl (by rw [he1, he2, he3]; exact hls) (unhide h1) (by simp only [List.length_nil, Nat.zero_add]; omega) hG.size ?_
  intro v2_ u2 ob2 hgr
  replace hG := grown_owned ob0.2 (Nat.le_refl _) hG hgr
  rw [List.nil_append] at ob2
  clear ob0 hgr
  refine hQ _ _ ?_
  clear hQ K_
  simp only [Act.put, List.setIfInBounds_toArray, List.set_cons_zero, List.set_cons_succ, List.getElem_toArray, List.getElem_cons_zero, List.getElem_cons_succ]
  (refine wpList_step fun K hK => ?_; replace hK := hide hK; go_simp; refine unhide hK _ _ ?_; clear hK K)
  refine wpList_nil ?_
  have hZ : Hid (Cln 64 39 R w (.returned v2_) u2) := ⟨v2_, rfl, ob2, hG⟩
  replace hG := hide hG; replace ob2 := hide ob2
  go_wp2_with fail
  rw [unhide hT]
  exact unhide hZ
set_option maxHeartbeats 4000000 in
theorem clw_ok (p n c : Nat) (R : List (List Value)) (w : World) (hn : n ≤ 1000000) (hR : Or_ 65 75 0 w (.slice (some ⟨p, 0, none⟩) n c) R) (h1 : ∀ r ∈ R, ∀ u ∈ r, u.oneCell' = true) : Calls Try.prog 39 #[.slice (some ⟨p, 0, none⟩) n c] w (Cln 65 75 R w) := by
  obtain ⟨T, hT⟩ : ∃ T, T = Cln 65 75 R w := ⟨_, rfl⟩
  rw [← hT]
  replace hT := hide hT
  replace hR := hide hR; replace h1 := hide h1
  go_enter Try.func39, Try.ntmps39
  go_upto_region 1 with fail
  refine wp_region_lit ?_
  refine list_val (.slice (some ⟨p, 0, none⟩) n c) (by kernel_rfl) (by kernel_rfl) ?_
  simp only [Act.put, List.setIfInBounds_toArray, List.set_cons_zero, List.set_cons_succ, List.getElem_toArray, List.getElem_cons_zero, List.getElem_cons_succ]
  refine list_val (.bool false) (by kernel_rfl) (by kernel_rfl) ?_
  simp only [Act.put, List.setIfInBounds_toArray, List.set_cons_zero, List.set_cons_succ, List.getElem_toArray, List.getElem_cons_zero, List.getElem_cons_succ]
  refine wpList_nil ?_
  go_upto_region 3 with fail
  refine wp_region_lit ?_
  refine list_valw (.slice (some ⟨w.heap.size, 0, none⟩) 0 0) (w.alloc (.cells #[] 75 (0, 0))) (by kernel_rfl) (by kernel_rfl) ?_
  have ob0 : Or_ 65 75 w.heap.size (w.alloc (.cells #[] 75 (0, 0))) (.slice (some ⟨w.heap.size, 0, none⟩) 0 0) [] := ⟨(fun r hr => by cases hr), rfl, .inr ⟨w.heap.size, 0, #[], rfl, Nat.le_refl _, blk_new _ _, Nat.le_refl _, by unfold maxLen; omega, rfl, rfl⟩⟩
  have hG := (Gr.refl w).alloc (.cells #[] 75 (0, 0))
  generalize World.alloc _ _ = u1 at *
  simp only [Act.put, List.setIfInBounds_toArray, List.set_cons_zero, List.set_cons_succ, List.getElem_toArray, List.getElem_cons_zero, List.getElem_cons_succ]
  refine list_val (.slice (some ⟨p, 0, none⟩) n c) (by kernel_rfl) (by kernel_rfl) ?_
  simp only [Act.put, List.setIfInBounds_toArray, List.set_cons_zero, List.set_cons_succ, List.getElem_toArray, List.getElem_cons_zero, List.getElem_cons_succ]
  refine wpList_step fun K_ hQ => ?_
  rw [if_pos (by kernel_rfl)]
  obtain ⟨a_, c_, he, hls⟩ := ((unhide hR).gr hG).ls
  injection he with he1 he2 he3
  refine app_rows lt_pw (.tmp 5) (.tmp 6) rfl w.heap.size _ [] rfl ob0 (some ⟨p, 0, none⟩) n c R rfl (by rw [he1, he2, he3]; exact hls) (unhide h1) (by simp only [List.length_nil, Nat.zero_add]; omega) hG.size ?_
  intro v2_ u2 ob2 hgr
  replace hG := grown_owned ob0.2 (Nat.le_refl _) hG hgr
  rw [List.nil_append] at ob2
  clear ob0 hgr
  refine hQ _ _ ?_
  clear hQ K_
  simp only [Act.put, List.setIfInBounds_toArray, List.set_cons_zero, List.set_cons_succ, List.getElem_toArray, List.getElem_cons_zero, List.getElem_cons_succ]
  (refine wpList_step fun K hK => ?_; replace hK := hide hK; go_simp; refine unhide hK _ _ ?_; clear hK K)
  refine wpList_nil ?_
  have hZ : Hid (Cln 65 75 R w (.returned v2_) u2) := ⟨v2_, rfl, ob2, hG⟩
  replace hG := hide hG; replace ob2 := hide ob2
  go_wp2_with fail
  rw [unhide hT]
  exact unhide hZ
theorem clw_nil (w : World) : Calls Try.prog 39 #[.slice none 0 0] w (Cln 65 75 [] w) := by
  obtain ⟨T, hT⟩ : ∃ T, T = Cln 65 75 [] w := ⟨_, rfl⟩
  rw [← hT]
  replace hT := hide hT
  go_enter Try.func39, Try.ntmps39
  go_upto_region 1 with fail
  refine wp_region_lit ?_
  refine list_val (.slice none 0 0) (by kernel_rfl) (by kernel_rfl) ?_
  simp only [Act.put, List.setIfInBounds_toArray, List.set_cons_zero, List.set_cons_succ, List.getElem_toArray, List.getElem_cons_zero, List.getElem_cons_succ]
  refine list_val (.bool true) (by kernel_rfl) (by kernel_rfl) ?_
  simp only [Act.put, List.setIfInBounds_toArray, List.set_cons_zero, List.set_cons_succ, List.getElem_toArray, List.getElem_cons_zero, List.getElem_cons_succ]
  refine wpList_nil ?_
  go_wp2_with fail
  rw [unhide hT]
  exact ⟨_, rfl, ⟨(fun r hr => by cases hr), rfl, .inl ⟨rfl, rfl⟩⟩, Gr.refl w⟩
theorem clw_any (a : Option Addr) (n c : Nat) (R : List (List Value)) (w : World) (hn : n ≤ 1000000) (hR : Or_ 65 75 0 w (.slice a n c) R) (h1 : ∀ r ∈ R, ∀ u ∈ r, u.oneCell' = true) : Calls Try.prog 39 #[.slice a n c] w (Cln 65 75 R w) := by
  rcases hR.2.2 with ⟨h2, h3⟩ | ⟨g, cap, cur, h2, h3⟩
  · have e : R = [] := List.eq_nil_of_length_eq_zero h3
    rw [h2, e]
    exact clw_nil w
  · injection h2 with e1 e2 e3
    subst e1
    exact clw_ok g n c R w hn hR h1
theorem or_base {k : Nat} {e : TypeId} {b c : Nat} {w : World} {v : Value} {R : List (List Value)} (h : Or_ k e b w v R) (hc : c ≤ b) : Or_ k e c w v R := by
  refine ⟨h.1, h.2.1, ?_⟩
  rcases h.2.2 with h1 | ⟨g, cap, cur, h1, h2, h3⟩
  · exact .inl h1
  · exact .inr ⟨g, cap, cur, h1, Nat.le_trans hc h2, h3⟩
def Cpy (D : Dk) (w : World) (r : Ending) (w' : World) : Prop := ∃ g F, r = .returned (P0 g) ∧ Lies F g D w' ∧ (∀ i ∈ F, w.heap.size ≤ i) ∧ Gr w w'
theorem or_bt {k : Nat} {e : TypeId} {b : Nat} {u u' : World} {v : Value} {R : List (List Value)} (h : Or_ k e b u v R) {g : Nat} {c : Array Value} {t : TypeId} (hg : u.heap[g]? = some (.cells c t (0, 0))) (ht : t ≠ e) (hk : Bt g u u') : Or_ k e b u' v R := by
  refine ⟨h.1, h.2.1, ?_⟩
  rcases h.2.2 with h1 | ⟨p, cap, cur, h1, h2, h3, h4⟩
  · exact .inl h1
  · exact .inr ⟨p, cap, cur, h1, h2, hk.blk h3 (ty_ne h3 hg (Ne.symm ht)), h4⟩
set_option maxHeartbeats 4000000 in
theorem dcopy_p (g : Nat) (D : Dk) (sg sc : Nat) (C : List Value) (pa : Option Addr) (pc : Nat) (l : Int) (m : Nat) (hD : D.Ok m) (hm : m ≤ 1000000) (w : World) (hP : Pd g D w sg sc C pa pc l) (hP2 : Pd g D w sg sc C pa pc l) : Calls Try.prog 19 #[P0 g] w (Cpy D w) := by
  obtain ⟨T, hT⟩ : ∃ T, T = Cpy D w := ⟨_, rfl⟩
  rw [← hT]
  replace hT := hide hT
  obtain ⟨dd, hdd⟩ : ∃ x, x = D.dead := ⟨_, rfl⟩
  obtain ⟨sn, hsn⟩ : ∃ n, n = D.safe.length := ⟨_, rfl⟩
  obtain ⟨pn, hpn⟩ : ∃ n, n = D.pend.length := ⟨_, rfl⟩
  obtain ⟨os, hos⟩ : ∃ n, n = D.ops := ⟨_, rfl⟩
  have hcl := hP.cel
  rw [← hdd, ← hsn, ← hpn, ← hos] at hcl
  replace hdd := hide hdd; replace hsn := hide hsn; replace hpn := hide hpn; replace hos := hide hos; replace hcl := hide hcl; replace hP := hide hP
  have hpm : pn ≤ 1000000 := by rw [unhide hpn]; exact Nat.le_trans hD.num hm
  have hs512 : sn ≤ 512 := by rw [unhide hsn]; exact hD.hi1
  have hso := hP2.sor hD
  have hpo := hP2.pnd
  rw [← unhide hsn] at hso
  rw [← unhide hpn] at hpo
  replace hD := hide hD; replace hso := hide hso; replace hpo := hide hpo; replace hP2 := hide hP2
  go_enter Try.func19, Try.ntmps19
  go_upto_region 1 with fail
  refine wp_region_lit ?_
  refine list_val (.pointer (some ⟨g, 0, none⟩)) (by kernel_rfl) (by kernel_rfl) ?_
  simp only [Act.put, List.setIfInBounds_toArray, List.set_cons_zero, List.set_cons_succ, List.getElem_toArray, List.getElem_cons_zero, List.getElem_cons_succ]
  refine list_val (.bool false) (by kernel_rfl) (by kernel_rfl) ?_
  simp only [Act.put, List.setIfInBounds_toArray, List.set_cons_zero, List.set_cons_succ, List.getElem_toArray, List.getElem_cons_zero, List.getElem_cons_succ]
  refine wpList_nil ?_
  have hB := Bl.nil w
  replace hB := hide hB
  go_upto_region 3 with fail
  replace hB := unhide hB
  refine wp_region_lit ?_
  refine list_val (.pointer (some ⟨g, 0, none⟩)) (by kernel_rfl) (by kernel_rfl) ?_
  simp only [Act.put, List.setIfInBounds_toArray, List.set_cons_zero, List.set_cons_succ, List.getElem_toArray, List.getElem_cons_zero, List.getElem_cons_succ]
  refine list_val (.pointer (some ⟨g, 0, none⟩)) (by kernel_rfl) (by kernel_rfl) ?_
  simp only [Act.put, List.setIfInBounds_toArray, List.set_cons_zero, List.set_cons_succ, List.getElem_toArray, List.getElem_cons_zero, List.getElem_cons_succ]
  refine list_val (.agg (pdv (some ⟨sg, 0, none⟩) sn sc pa pn pc l os dd)) (by kernel_rfl) (exec_arr _ 67 (.tmp 7) rfl g (by kernel_rfl) (pdv (some ⟨sg, 0, none⟩) sn sc pa pn pc l os dd) 67 _ (hB.gr.blk (unhide hcl)) Try.underlying67 rfl (by rw [Try.infoPD]; rfl)) ?_
  simp only [Act.put, List.setIfInBounds_toArray, List.set_cons_zero, List.set_cons_succ, List.getElem_toArray, List.getElem_cons_zero, List.getElem_cons_succ]
  refine list_valw (.pointer (some ⟨w.heap.size, 0, none⟩)) (w.alloc (.cells (#[.slice none 0 0, .slice none 0 0, .int .i64 0, .int .i64 0, .bool false]) 67 (0, 0))) (by kernel_rfl) (by kernel_rfl) ?_
  replace hB := hB.new (#[.slice none 0 0, .slice none 0 0, .int .i64 0, .int .i64 0, .bool false]) 67
  simp only [List.nil_append, List.cons_append] at hB
  generalize World.alloc _ _ = u1 at *
  replace hB : Bl w [⟨w.heap.size, #[.slice none 0 0, .slice none 0 0, .int .i64 0, .int .i64 0, .bool false], 67⟩] u1 := hB
  simp only [Act.put, List.setIfInBounds_toArray, List.set_cons_zero, List.set_cons_succ, List.getElem_toArray, List.getElem_cons_zero, List.getElem_cons_succ]
  refine list_store 67 (.tmp 3) (.tmp 8) (w.heap.size) (pdv (some ⟨sg, 0, none⟩) sn sc pa pn pc l os dd) 67 (#[.slice none 0 0, .slice none 0 0, .int .i64 0, .int .i64 0, .bool false]) (by kernel_rfl) rfl (by kernel_rfl) (by kernel_rfl) (hB.get 0 (x := ⟨w.heap.size, #[.slice none 0 0, .slice none 0 0, .int .i64 0, .int .i64 0, .bool false], 67⟩) rfl) (by rw [Try.infoPD]; rfl) rfl (pdv_one ..) ?_
  replace hB := hB.set 0 (x := ⟨w.heap.size, #[.slice none 0 0, .slice none 0 0, .int .i64 0, .int .i64 0, .bool false], 67⟩) rfl (pdv (some ⟨sg, 0, none⟩) sn sc pa pn pc l os dd)
  simp only [List.set_cons_zero, List.set_cons_succ] at hB
  generalize World.setRow _ _ _ = u2 at *
  replace hB : Bl w [⟨w.heap.size, pdv (some ⟨sg, 0, none⟩) sn sc pa pn pc l os dd, 67⟩] u2 := hB
  simp only [Act.put, List.setIfInBounds_toArray, List.set_cons_zero, List.set_cons_succ, List.getElem_toArray, List.getElem_cons_zero, List.getElem_cons_succ]
  refine wpList_nil ?_
  replace hB := hide hB
  go_upto_region 4 with fail
  replace hB := unhide hB
  refine anyC_start 11 (fun v => Bl w [⟨w.heap.size, pdv (some ⟨sg, 0, none⟩) sn sc pa pn pc l os dd, 67⟩] v) (by kernel_rfl) ?_
  replace hB := hB.drew
  generalize World.drew _ = x0 at *
  simp only [List.size_toArray, List.length_cons, List.length_nil, Array.replicate, List.replicate]
  refine anyC_take (i := 0) (v := (.pointer (some ⟨g, 0, none⟩))) (fun v => Bl w [⟨w.heap.size, pdv (some ⟨sg, 0, none⟩) sn sc pa pn pc l os dd, 67⟩] v) (fun _ h_ => h_) (.inr (by kernel_rfl)) rfl (by kernel_rfl) (by kernel_rfl) (by kernel_rfl) (by decide) (by kernel_rfl) (by decide) (fun _ _ _ h => h) (.inl ⟨by kernel_rfl, fun x_ hu => by kernel_rfl⟩) hB ?_
  simp only [Act.put, List.setIfInBounds_toArray, List.set_cons_zero, List.set_cons_succ, List.getElem_toArray, List.getElem_cons_zero, List.getElem_cons_succ]
  refine anyC_take (i := 1) (v := (.pointer (some ⟨g, 0, none⟩))) (fun v => Bl w [⟨w.heap.size, pdv (some ⟨sg, 0, none⟩) sn sc pa pn pc l os dd, 67⟩] v) (fun _ h_ => h_) (.inr (by kernel_rfl)) rfl (by kernel_rfl) (by kernel_rfl) (by kernel_rfl) (by decide) (by kernel_rfl) (by decide) (fun _ _ _ h => h) (.inl ⟨by kernel_rfl, fun x_ hu => by kernel_rfl⟩) hB ?_
  simp only [Act.put, List.setIfInBounds_toArray, List.set_cons_zero, List.set_cons_succ, List.getElem_toArray, List.getElem_cons_zero, List.getElem_cons_succ]
  refine anyC_take (i := 2) (v := (.pointer (some ⟨g, 0, none⟩))) (fun v => Bl w [⟨w.heap.size, pdv (some ⟨sg, 0, none⟩) sn sc pa pn pc l os dd, 67⟩] v) (fun _ h_ => h_) (.inr (by kernel_rfl)) rfl (by kernel_rfl) (by kernel_rfl) (by kernel_rfl) (by decide) (by kernel_rfl) (by decide) (fun _ _ _ h => h) (.inl ⟨by kernel_rfl, fun x_ hu => by kernel_rfl⟩) hB ?_
  simp only [Act.put, List.setIfInBounds_toArray, List.set_cons_zero, List.set_cons_succ, List.getElem_toArray, List.getElem_cons_zero, List.getElem_cons_succ]
  refine anyC_take (i := 3) (v := (.slice (some ⟨sg, 0, none⟩) sn sc)) (fun v => Bl w [⟨w.heap.size, pdv (some ⟨sg, 0, none⟩) sn sc pa pn pc l os dd, 67⟩] v) (fun _ h_ => h_) (.inr (by kernel_rfl)) rfl (by kernel_rfl) (by kernel_rfl) (by kernel_rfl) (by decide) (by kernel_rfl) (by decide) (fun _ _ _ h => h) (.inl ⟨by kernel_rfl, fun x_ hu => exec_sb _ (.tmp 11) rfl g 0 (by kernel_rfl) (some ⟨sg, 0, none⟩) sn sc (cell_of (hu.gr.blk (unhide hcl)) (i := 0) rfl)⟩) hB ?_
  simp only [Act.put, List.setIfInBounds_toArray, List.set_cons_zero, List.set_cons_succ, List.getElem_toArray, List.getElem_cons_zero, List.getElem_cons_succ]
  refine anyC_take (i := 5) (v := (.pointer (some ⟨g, 0, none⟩))) (fun _ => True) (fun _ _ => trivial) (.inl (fun _ => trivial)) rfl (by kernel_rfl) (by kernel_rfl) (by kernel_rfl) (by decide) (by kernel_rfl) (by decide) (fun _ _ _ h => h) (.inl ⟨by kernel_rfl, fun x_ hu => by kernel_rfl⟩) hB ?_
  simp only [Act.put, List.setIfInBounds_toArray, List.set_cons_zero, List.set_cons_succ, List.getElem_toArray, List.getElem_cons_zero, List.getElem_cons_succ]
  refine anyC_take (i := 6) (v := (.pointer (some ⟨g, 0, none⟩))) (fun _ => True) (fun _ _ => trivial) (.inl (fun _ => trivial)) rfl (by kernel_rfl) (by kernel_rfl) (by kernel_rfl) (by decide) (by kernel_rfl) (by decide) (fun _ _ _ h => h) (.inl ⟨by kernel_rfl, fun x_ hu => by kernel_rfl⟩) hB ?_
  simp only [Act.put, List.setIfInBounds_toArray, List.set_cons_zero, List.set_cons_succ, List.getElem_toArray, List.getElem_cons_zero, List.getElem_cons_succ]
  refine anyC_take (i := 7) (v := (.pointer (some ⟨g, 1, none⟩))) (fun _ => True) (fun _ _ => trivial) (.inl (fun _ => trivial)) rfl (by kernel_rfl) (by kernel_rfl) (by kernel_rfl) (by decide) (by kernel_rfl) (by decide) (fun _ _ _ h => h) (.inl ⟨by kernel_rfl, fun x_ hu => by kernel_rfl⟩) hB ?_
  simp only [Act.put, List.setIfInBounds_toArray, List.set_cons_zero, List.set_cons_succ, List.getElem_toArray, List.getElem_cons_zero, List.getElem_cons_succ]
  refine anyC_take (i := 8) (v := (.slice pa pn pc)) (fun v => Bl w [⟨w.heap.size, pdv (some ⟨sg, 0, none⟩) sn sc pa pn pc l os dd, 67⟩] v) (fun _ h_ => h_) (.inr (by kernel_rfl)) rfl (by kernel_rfl) (by kernel_rfl) (by kernel_rfl) (by decide) (by kernel_rfl) (by decide) (fun _ _ _ h => h) (.inl ⟨by kernel_rfl, fun x_ hu => exec_spw _ (.tmp 16) rfl g 1 (by kernel_rfl) pa pn pc (cell_of (hu.gr.blk (unhide hcl)) (i := 1) rfl)⟩) hB ?_
  simp only [Act.put, List.setIfInBounds_toArray, List.set_cons_zero, List.set_cons_succ, List.getElem_toArray, List.getElem_cons_zero, List.getElem_cons_succ]
  refine anyC_one (i := 4) (by kernel_rfl) rfl (fun K_ hQ => ?_)
  refine step_callw (by kernel_rfl) 38 #[.slice (some ⟨sg, 0, none⟩) sn sc] (by kernel_rfl) ((clb_ok sg sn sc (D.safe.map bv) _ (by omega) ((unhide hso).gr hB.gr) maps_one).mono ?_)
  rintro r x1 ⟨vb, rfl, hob, hg⟩
  refine ⟨_, rfl, ?_⟩
  replace hob := or_base hob hB.gr.size
  replace hB := hB.more hg
  clear hg
  refine hQ.out _ _ hB (fun _ => ?_)
  clear hQ K_
  simp only [Act.put, List.setIfInBounds_toArray, List.set_cons_zero, List.set_cons_succ, List.getElem_toArray, List.getElem_cons_zero, List.getElem_cons_succ]
  refine anyC_one (i := 9) (by kernel_rfl) rfl (fun K_ hQ => ?_)
  refine step_callw (by kernel_rfl) 39 #[.slice pa pn pc] (by kernel_rfl) ((clw_any pa pn pc (D.pend.map wv) _ (by omega) ((unhide hpo).gr hB.gr) mapw_one).mono ?_)
  rintro r x2 ⟨vw, rfl, how, hg⟩
  refine ⟨_, rfl, ?_⟩
  replace how := or_base how hB.gr.size
  replace hB := hB.more hg
  replace hob := hob.gr hg
  clear hg
  refine hQ.out _ _ hB (fun _ => ?_)
  clear hQ K_
  simp only [Act.put, List.setIfInBounds_toArray, List.set_cons_zero, List.set_cons_succ, List.getElem_toArray, List.getElem_cons_zero, List.getElem_cons_succ]
  refine anyC_take (i := 10) (v := (.pointer (some ⟨w.heap.size, 0, none⟩))) (fun v => Bl w [⟨w.heap.size, pdv (some ⟨sg, 0, none⟩) sn sc pa pn pc l os dd, 67⟩] v) (fun _ h_ => h_) (.inr (by kernel_rfl)) rfl (by kernel_rfl) (by kernel_rfl) (by kernel_rfl) (by decide) (by kernel_rfl) (by decide) (fun _ _ _ h => h) (.inl ⟨by kernel_rfl, fun x_ hu => by kernel_rfl⟩) hB ?_
  simp only [Act.put, List.setIfInBounds_toArray, List.set_cons_zero, List.set_cons_succ, List.getElem_toArray, List.getElem_cons_zero, List.getElem_cons_succ]
  refine anyC_last (by kernel_rfl) rfl (fun K_ hQ => ?_)
  obtain ⟨gs, sc2, C2, rfl, hgs, hgC, hsc, hscm, hCl, hCov⟩ := hob.some (by intro e; have h9 : (D.safe.map bv).length = 0 := (by rw [e]; rfl); rw [List.length_map] at h9; have := (unhide hD).lo1; omega)
  obtain ⟨pb, pd, rfl, hpls⟩ := how.ls
  rw [List.length_map, ← unhide hsn] at hsc ⊢
  rw [List.length_map, ← unhide hpn] at how ⊢
  clear hpls
  have c4 := cell_of (hB.get 0 (x := ⟨w.heap.size, pdv (some ⟨sg, 0, none⟩) sn sc pa pn pc l os dd, 67⟩) rfl) (i := 0) rfl
  have fz := froz_of (i := 0) (hB.get 0 (x := ⟨w.heap.size, pdv (some ⟨sg, 0, none⟩) sn sc pa pn pc l os dd, 67⟩) rfl)
  have hB2 := hB.cell 0 (x := ⟨w.heap.size, pdv (some ⟨sg, 0, none⟩) sn sc pa pn pc l os dd, 67⟩) rfl 0 (.slice (some ⟨gs, 0, none⟩) sn sc2)
  simp only [List.set_cons_zero, List.set_cons_succ] at hB2
  replace hB2 : Bl w [⟨w.heap.size, pdv (some ⟨gs, 0, none⟩) sn sc2 pa pn pc l os dd, 67⟩] _ := hB2
  replace hgC := hide ((Bt.setCell x2 0 (.slice (some ⟨gs, 0, none⟩) sn sc2)).blk hgC (ty_ne hgC (hB.get 0 (x := ⟨w.heap.size, pdv (some ⟨sg, 0, none⟩) sn sc pa pn pc l os dd, 67⟩) rfl) (show (39 : TypeId) ≠ 67 by decide)))
  replace how := hide (or_bt how (hB.get 0 (x := ⟨w.heap.size, pdv (some ⟨sg, 0, none⟩) sn sc pa pn pc l os dd, 67⟩) rfl) (show (67 : TypeId) ≠ 75 by decide) (Bt.setCell x2 0 (.slice (some ⟨gs, 0, none⟩) sn sc2)))
  replace hB2 := hide hB2
  clear hB hob
  dsimp only at c4 fz
  replace hQ := hide hQ
  go_simp
  refine (unhide hQ).out _ _ ?_
  clear hQ K_ c4 fz
  have hB := unhide hB2
  clear hB2
  replace hgC := unhide hgC; replace how := unhide how
  generalize World.setCell _ _ _ = x8 at *
  simp only [Act.put, List.setIfInBounds_toArray, List.set_cons_zero, List.set_cons_succ, List.getElem_toArray, List.getElem_cons_zero, List.getElem_cons_succ]
  refine any_take (i := 12) (v := (.pointer (some ⟨w.heap.size, 1, none⟩))) #[true, true, true, true, true, true, true, true, true, true, true, true, false, false] rfl (by kernel_rfl) (by kernel_rfl) (by kernel_rfl) (by kernel_rfl) (fun _ _ _ h => h) (.inl ⟨by kernel_rfl, fun x_ hu => by kernel_rfl⟩) trivial ?_
  simp only [Act.put, List.setIfInBounds_toArray, List.set_cons_zero, List.set_cons_succ, List.getElem_toArray, List.getElem_cons_zero, List.getElem_cons_succ]
  refine any_one (i := 13) (by kernel_rfl) rfl (fun K_ hQ => ?_)
  have c4 := cell_of (hB.get 0 (x := ⟨w.heap.size, pdv (some ⟨gs, 0, none⟩) sn sc2 pa pn pc l os dd, 67⟩) rfl) (i := 1) rfl
  have fz := froz_of (i := 1) (hB.get 0 (x := ⟨w.heap.size, pdv (some ⟨gs, 0, none⟩) sn sc2 pa pn pc l os dd, 67⟩) rfl)
  have hB2 := hB.cell 0 (x := ⟨w.heap.size, pdv (some ⟨gs, 0, none⟩) sn sc2 pa pn pc l os dd, 67⟩) rfl 1 (.slice pb pn pd)
  simp only [List.set_cons_zero, List.set_cons_succ] at hB2
  replace hB2 : Bl w [⟨w.heap.size, pdv (some ⟨gs, 0, none⟩) sn sc2 pb pn pd l os dd, 67⟩] _ := hB2
  replace hgC := hide ((Bt.setCell x8 1 (.slice pb pn pd)).blk hgC (ty_ne hgC (hB.get 0 (x := ⟨w.heap.size, pdv (some ⟨gs, 0, none⟩) sn sc2 pa pn pc l os dd, 67⟩) rfl) (show (39 : TypeId) ≠ 67 by decide)))
  replace how := hide (or_bt how (hB.get 0 (x := ⟨w.heap.size, pdv (some ⟨gs, 0, none⟩) sn sc2 pa pn pc l os dd, 67⟩) rfl) (show (67 : TypeId) ≠ 75 by decide) (Bt.setCell x8 1 (.slice pb pn pd)))
  replace hB2 := hide hB2
  clear hB
  dsimp only at c4 fz
  replace hQ := hide hQ
  go_simp
  refine (unhide hQ).out _ _ trivial (fun _ => ?_)
  clear hQ K_ c4 fz
  have hB := unhide hB2
  clear hB2
  replace hgC := unhide hgC; replace how := unhide how
  generalize World.setCell _ _ _ = x9 at *
  simp only [Act.put, List.setIfInBounds_toArray, List.set_cons_zero, List.set_cons_succ, List.getElem_toArray, List.getElem_cons_zero, List.getElem_cons_succ]
  refine any_done (by kernel_rfl) ?_
  have hZ : Hid (Cpy D w (.returned (P0 w.heap.size)) x9) := by
    refine ⟨w.heap.size, pdF w.heap.size gs pb, rfl, ⟨gs, sc2, C2, pb, pd, l, ⟨?_, hgC, hCov, hCl, by rw [← unhide hsn]; exact hsc, hscm, ?_, (unhide hP).lf⟩, rfl⟩, ?_, hB.gr⟩
    · rw [← unhide hsn, ← unhide hpn, ← unhide hos, ← unhide hdd]
      exact (hB.get 0 (x := ⟨w.heap.size, pdv (some ⟨gs, 0, none⟩) sn sc2 pb pn pd l os dd, 67⟩) rfl)
    · rw [← unhide hpn]
      exact or_down how
    · intro i hi
      rcases mem_pdF.1 hi with hi | hi | hi
      · rw [hi]
        exact Nat.le_refl _
      · rw [hi]
        exact hgs
      · rcases how.2.2 with ⟨h1, _⟩ | ⟨g_, _, _, h1, h2, _⟩
        · injection h1 with h1 _ _
          rw [h1] at hi
          cases hi
        · injection h1 with h1 _ _
          rw [h1] at hi
          have : g_ = i := by simpa [blkOf] using hi
          rw [← this]
          exact h2
  replace hB := hide hB
  clear hgC how hCov
  go_wp2_with fail
  rw [unhide hT]
  exact unhide hZ
theorem dcopy_ok (F : List Nat) (g m : Nat) (D : Dk) (hD : D.Ok m) (hm : m ≤ 1000000) (w : World) (h : Lies F g D w) : Calls Try.prog 19 #[P0 g] w (Cpy D w) := by
  obtain ⟨sg, sc, C, pa, pc, l, h, rfl⟩ := h
  exact dcopy_p g D sg sc C pa pc l m hD hm w h h
theorem dcopy_nil (w : World) : Calls Try.prog 19 #[.pointer none] w (Vl (.pointer none) w) := by
  obtain ⟨T, hT⟩ : ∃ T, T = Vl (.pointer none) w := ⟨_, rfl⟩
  rw [← hT]
  replace hT := hide hT
  go_enter Try.func19, Try.ntmps19
  go_wp2_with fail
  rw [unhide hT]
  exact ⟨rfl, Gr.refl w⟩
end Go.Proofs.Ythgchjdjacbcgaa
