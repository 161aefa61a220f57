/-
  slices.Delete of the first one.
-/
import Derived.Test.YtcefkkoombmndaaUT
namespace Go.Proofs.Ytcefkkoombmndaa
open Go.RowKit
set_option maxRecDepth 100000
set_option linter.unusedSimpArgs false
set_option linter.unusedVariables false
theorem exec_lhmI {a : Act} {o : Oper} (w : World) (x y z m : Operand) (ho : o.op = .slice 24 x (some y) (some z) (some m)) (p len cap n : Nat) (hx : a.eval x = .slice (some ⟨p, 0, none⟩) len cap) (hy : a.eval y = .int .i64 0) (hz : a.eval z = .int .i64 1) (hm : a.eval m = .int .i64 n) (h1 : 1 ≤ n) (h2 : n ≤ cap) :
    (execOp a.eval o).run Try.prog w = .ok (.value (.slice (some ⟨p, 0, none⟩) 1 n)) w := by
  have h3 : (1 : Int) ≤ (n : Int) := by omega
  have h4 : (n : Int) ≤ cap := by omega
  have hu : Try.prog.underlying 24 = some (.slice (Try.prog.elem 24)) := by kernel_rfl
  have hz2 : (sizeOf (Try.prog.elem 24)).run Try.prog w = .ok 2 w := by kernel_rfl
  have hn0 : ¬ n = 0 := by omega
  simp [execOp, ho, hx, hy, hz, hm, run_sliceAt_slice _ _ _ _ _ _ hu, run_slice_lhm _ _ _ _ _ hu _ _ _ _ _ _ (show (0 : Int) ≤ 0 by omega) (show (0 : Int) ≤ 1 by omega) h3 h4, hz2, sliced, Addr.add]
theorem exec_lhI {a : Act} {o : Oper} (w : World) (x y z : Operand) (ho : o.op = .slice 24 x (some y) (some z) none) (p len cap n m k : Nat) (hx : a.eval x = .slice (some ⟨p, 0, none⟩) len cap) (hy : a.eval y = .int .i64 n) (hz : a.eval z = .int .i64 m) (h1 : n ≤ m) (h2 : m ≤ cap) (h3 : n < cap) (hk : m - n = k) :
    (execOp a.eval o).run Try.prog w = .ok (.value (.slice (some ⟨p, 0 + 2 * n, none⟩) k (cap - n))) w := by
  subst hk
  have h4 : (n : Int) ≤ (m : Int) := by omega
  have h5 : (m : Int) ≤ cap := by omega
  have hu : Try.prog.underlying 24 = some (.slice (Try.prog.elem 24)) := by kernel_rfl
  have hz2 : (sizeOf (Try.prog.elem 24)).run Try.prog w = .ok 2 w := by kernel_rfl
  have e := frA_some 2 p 0 cap n h3
  unfold frA at e
  simp [execOp, ho, hx, hy, hz, run_sliceAt_slice _ _ _ _ _ _ hu, run_slice_lh _ _ _ _ _ hu _ _ _ _ (show (0 : Int) ≤ (n : Int) by omega) h4 h5, hz2, sliced]
  simpa using e
theorem list_clearI {ops : Array Oper} {Q : Exit → Act → World → Prop} {rest : List Oper} {o : Oper} {a : Act} {w : World} (d : Operand) (ho : o.op = .call { callee := .builtin .clear, args := #[d], argTypes := #[24] }) (hw : Region.wanted o (yielded ops a.tmps) = true) (g q c : Nat) (hd : a.eval d = .slice (some ⟨g, q, none⟩) 1 c) {C : List Value} (hg : w.heap[g]? = some (.cells C.toArray 47 (0, 0))) (hq : q + 2 ≤ C.length)
    (h : wpList Try.prog ops Q rest (a.put o.dst (.tuple #[])) (w.setCells g q [.int .u32 0, .string ByteArray.empty])) : wpList Try.prog ops Q (o :: rest) a w := by
  have ht := there_of hg hq
  have hst := run_storeCells_cells (P := Try.prog) g q [.int .u32 0, .string ByteArray.empty] 0 w (fun j hj => (ht j hj).1) (fun j hj => (ht j hj).2) (by intro v hv; simp only [List.mem_cons, List.not_mem_nil, or_false] at hv; rcases hv with rfl | rfl <;> rfl)
  have hz : ∀ w, (zeroValue 47).run Try.prog w = .ok (.agg (fl [[.int .u32 0], [.string ByteArray.empty]])) w := fun w => by kernel_rfl
  have hz2 : (Builtin.zeroCells (Value.agg (fl [[.int .u32 0], [.string ByteArray.empty]])).cells 1).toList = [.int .u32 0, .string ByteArray.empty] := by kernel_rfl
  simp only [Nat.add_zero] at hst
  have hr : (Builtin.clear_ #[24] o.type #[.slice (some ⟨g, q, none⟩) 1 c]).run Try.prog w = .ok (.tuple #[]) (w.setCells g q [.int .u32 0, .string ByteArray.empty]) := by
    simp [Builtin.clear_, run_underlying Try.underlying24, hz, hz2, hst]
  refine wpList_step fun K hK => ?_
  rw [if_pos hw]
  unfold Oper.wp execOp
  simp only [ho, resolve, invoke, builtin, Sem.run_bind, Sem.run_pure, Result.andThen_ok, List.map_toArray, List.map_cons, List.map_nil, hd, hr]
  exact hK _ _ h
theorem step_apr {ops : Array Oper} {Q : Exit → Act → World → Prop} {o : Oper} {a : Act} {w : World} {K : Act → World → Prop} (d s : Operand) (ho : o.op = .call { callee := .builtin .append, args := #[d, s], argTypes := #[24, 24] }) (hw : Region.wanted o (yielded ops a.tmps) = true)
    (v u v' : Value) (w' : World) (hd : a.eval d = v) (hs : a.eval s = u) (hr : (Builtin.append_ #[24, 24] o.type #[v, u]).run Try.prog w = .ok v' w') (h : K (a.put o.dst v') w') : if Region.wanted o (yielded ops a.tmps) = true then Oper.wp Try.prog o a w K Q else K (a.put o.dst undef) w := by
  rw [if_pos hw]
  unfold Oper.wp execOp
  simp only [ho, resolve, invoke, builtin, Sem.run_bind, Sem.run_pure, Result.andThen_ok, List.map_toArray, List.map_cons, List.map_nil, hd, hs, hr]
  exact h
theorem setRow_same (w : World) (g : Nat) (c : Array Value) (d : Array Value) (t : TypeId) (h : w.heap[g]? = some (.cells d t (0, 0))) : (w.setRow g c).heap[g]? = some (.cells c t (0, 0)) := setRow_heap w g d c t (0, 0) h
theorem gb_row {w u : World} {g : Nat} {c : Array Value} (h : Gb w (some g) u) : Gb w (some g) (u.setRow g c) := by
  have m := setRow_bt u g c
  exact ⟨m.os.trans h.os, m.tape.trans h.tape, m.output.trans h.output, Nat.le_trans h.size m.size, fun i hi hx => (m.block i (Nat.lt_of_lt_of_le hi h.size) (fun e => hx (by rw [e]))).trans (h.block i hi hx)⟩
set_option maxHeartbeats 4000000 in
theorem delete_ok (R : List (List Value)) (a : Option Addr) (n c b : Nat) (hn3 : n ≤ 1000) (h0 : 0 < n) (w : World) (hO : Or_ 2 47 b w (.slice a n c) R) (h1R : ∀ r ∈ R, ∀ u ∈ r, u.oneCell' = true) : Calls Try.prog 59 #[.slice a n c, .int .i64 0, .int .i64 1] w (fun r w' => ∃ a' c', r = .returned (.slice a' (n - 1) c') ∧ Or_ 2 47 b w' (.slice a' (n - 1) c') (R.drop 1) ∧ w.grownBy w' (Value.slice a n c).ownBlock) := by
  obtain ⟨T, hT⟩ : ∃ T : Ending → World → Prop, T = (fun r w' => ∃ a' c', r = .returned (.slice a' (n - 1) c') ∧ Or_ 2 47 b w' (.slice a' (n - 1) c') (R.drop 1) ∧ w.grownBy w' (Value.slice a n c).ownBlock) := ⟨_, rfl⟩
  rw [← hT]
  replace hT := hide hT
  have hRn := (or_slice hO).1.symm
  have hLz := (or_slice hO).2
  have hcap := hLz.cap
  have hmax := hLz.max
  have hRr := hO.1
  clear hLz
  obtain ⟨g, c0, C, e1, hbg, hg, hnc, hcm, hCl, hCov⟩ := Or_.some hO (by intro e; rw [e] at hRn; simp at hRn; omega)
  injection e1 with e1 e2 e3
  subst e1 e3
  clear e2 hO hnc
  have hown : Value.ownBlock (Value.slice (some ⟨g, 0, none⟩) n c) = some g := rfl
  rw [hown] at hT
  clear hown
  have hlB : (R.drop 1).flatten.length = 2 * (n - 1) := by rw [flat2 (fun r hr => hRr r (List.mem_of_mem_drop hr)), List.length_drop]; omega
  have hlA : (R.take 1).flatten.length = 2 := by rw [flat2 (fun r hr => hRr r (List.mem_of_mem_take hr)), List.length_take]; omega
  have hRB : ∀ j v, (R.drop 1).flatten[j]? = some v → C[0 + 2 * 1 + j]? = some v := fun j v hj => hCov _ v (by rw [← List.take_append_drop 1 R, List.flatten_append, List.getElem?_append_right (by omega), hlA, show 0 + 2 * 1 + j - 2 = j by omega]; exact hj)
  have h1B : ∀ v ∈ (R.drop 1).flatten, v.oneCell' = true := fun v hv9 => by
    obtain ⟨r, hr, hv9⟩ := List.mem_flatten.1 hv9
    exact h1R r (List.mem_of_mem_drop hr) v hv9
  have hBr : ∀ r ∈ R.drop 1, r.length = 2 := fun r hr => hRr r (List.mem_of_mem_drop hr)
  have hBn : (R.drop 1).length = n - 1 := by rw [List.length_drop]; omega
  obtain ⟨q2, hq2, hq3⟩ : ∃ q2, frA 2 (some ⟨g, 0, none⟩) c 1 = some ⟨g, q2, none⟩ ∧ (1 < n → q2 = 0 + 2 * 1) := by
    by_cases h9 : 1 < c
    · exact ⟨_, frA_some 2 g 0 c 1 h9, fun _ => rfl⟩
    · have : c = 1 := by omega
      exact ⟨0, by unfold frA; rw [if_pos this], fun h => by omega⟩
  replace hg := hide hg; replace hRB := hide hRB; replace h1B := hide h1B; replace hlB := hide hlB; replace hCl := hide hCl; replace hBr := hide hBr; replace hBn := hide hBn; replace hq2 := hide hq2; replace hq3 := hide hq3
  clear hCov h1R hlA hRr hRn
  go_enter Try.func59, Try.ntmps59
  go_upto_region 1 with fail
  obtain ⟨u0, hu_⟩ : ∃ u, u = w := ⟨_, rfl⟩
  rw [← hu_]
  have hB : Bl w [] u0 := hu_ ▸ Bl.nil w
  clear hu_
  have hgb := hide (show Gb w (some g) u0 from gr_grown hB.gr (some g))
  have hG := hide (show Hb g C.toArray 47 u0 from hB.gr.blk (unhide hg))
  clear hB hg
  have hB := Bl.nil u0
  refine wp_region_lit ?_
  refine lvk (.slice (some ⟨g, 0, none⟩) n c) ?_
  simp only [nrm]
  refine lvk (.int .i64 0) ?_
  simp only [nrm]
  refine lvk (.int .i64 1) ?_
  simp only [nrm]
  refine lvk (.slice (some ⟨g, 0, none⟩) n c) ?_
  simp only [nrm]
  refine lvk (.int .i64 (n : Int)) ?_
  simp only [nrm]
  refine list_val (.slice (some ⟨g, 0, none⟩) 1 n) (by kernel_rfl) (exec_lhmI _ (.tmp 8) (.tmp 9) (.tmp 10) (.tmp 12) rfl g n c n (by kernel_rfl) (by kernel_rfl) (by kernel_rfl) (by kernel_rfl) h0 hcap) ?_
  simp only [nrm]
  refine wpList_nil ?_
  replace hB := hide hB
  go_upto_region 2 with fail
  replace hB := unhide hB
  refine wp_region_lit ?_
  refine lvk (.int .i64 0) ?_
  simp only [nrm]
  refine lvk (.int .i64 1) ?_
  simp only [nrm]
  refine list_val (.bool false) (by kernel_rfl) (eql_i _ (.tmp 14) (.tmp 15) 0 1 false rfl (by kernel_rfl) (by kernel_rfl) (by decide)) ?_
  simp only [nrm]
  refine wpList_nil ?_
  replace hB := hide hB
  go_upto_region 4 with fail
  replace hB := unhide hB
  refine wp_region_lit ?_
  refine lvk (.slice (some ⟨g, 0, none⟩) n c) ?_
  simp only [nrm]
  refine lvk (.int .i64 (n : Int)) ?_
  simp only [nrm]
  (refine wpList_step fun K hK => ?_; replace hK := hide hK; go_simp; refine unhide hK _ _ ?_; clear hK K)
  refine wpList_nil ?_
  replace hB := hide hB
  go_upto_region 5 with fail
  replace hB := unhide hB
  refine any_start (S := fun v_ => True) (by kernel_rfl) ?_
  replace hgb := hide ((unhide hgb).gr ((Gr.refl u0).drew))
  replace hG := hide ((unhide hG).gr ((Gr.refl u0).drew))
  replace hB := hB.drew
  generalize World.drew _ = u1 at *
  simp only [List.size_toArray, List.length_cons, List.length_nil, Array.replicate, List.replicate]
  refine any_tk 0 (.slice (some ⟨g, 0, none⟩) n c) (tf 8 0) rfl (fun x_ hu => by kernel_rfl) trivial ?_
  simp only [nrm]
  refine any_tk 1 (.int .i64 0) (tf 8 1) rfl (fun x_ hu => by kernel_rfl) trivial ?_
  simp only [nrm]
  refine any_tk 2 (.slice (some ⟨g, 0, none⟩) 0 c) (tf 8 2) rfl (fun x_ hu => exec_upI _ (.tmp 20) (.tmp 21) rfl (some ⟨g, 0, none⟩) n c 0 (by kernel_rfl) (by kernel_rfl) (by omega)) trivial ?_
  simp only [nrm]
  refine any_tk 3 (.slice (some ⟨g, 0, none⟩) n c) (tf 8 3) rfl (fun x_ hu => by kernel_rfl) trivial ?_
  simp only [nrm]
  refine any_tk 4 (.int .i64 1) (tf 8 4) rfl (fun x_ hu => by kernel_rfl) trivial ?_
  simp only [nrm]
  refine any_tk 5 (.slice (some ⟨g, q2, none⟩) (n - 1) (c - 1)) (tf 8 5) rfl (fun x_ hu => unhide hq2 ▸ exec_frI _ (.tmp 23) (.tmp 24) rfl (some ⟨g, 0, none⟩) n c 1 (by kernel_rfl) (by kernel_rfl) hcap h0) trivial ?_
  simp only [nrm]
  refine any_one (i := 6) (by kernel_rfl) rfl (fun K hK => ?_)
  obtain ⟨i0, hi0, hi1, hi2, hi3⟩ := info_parts Try.infI3
  have hrun := fun ty_ => run_append_room (P := Try.prog) u1 24 ty_ 47 i0 Try.underlying24 hi0 g 0 c C.toArray (unhide hG) ⟨g, q2, none⟩ (n - 1) (c - 1) (R.drop 1).flatten (by rw [hi2]; have := unhide hlB; omega) (fun j v hj => by
    have h7 := (List.getElem?_eq_some_iff.1 hj).1
    have h8 := unhide hlB
    rw [Addr.add_mid, (unhide hq3) (by omega)]
    exact cell_of (unhide hG) (by rw [List.getElem?_toArray]; exact (unhide hRB) j v hj)) (unhide h1B) (by omega) (by rw [hi2]; have h7 := unhide hlB; have h8 := unhide hCl; rw [List.size_toArray]; omega)
  simp only [Nat.zero_mul, List.take_zero, List.nil_append, Nat.zero_add] at hrun
  refine step_apr (.tmp 22) (.tmp 25) rfl (by kernel_rfl) _ _ _ _ (by kernel_rfl) (by kernel_rfl) (hrun _) ?_
  have hN : Hid (Hb g ((R.drop 1).flatten ++ C.drop (R.drop 1).flatten.length).toArray 47 (u1.setRow g ((R.drop 1).flatten ++ C.toArray.toList.drop (R.drop 1).flatten.length).toArray)) := hide (setRow_same _ _ _ _ _ (unhide hG))
  replace hgb := hide (show Gb w (some g) (u1.setRow g ((R.drop 1).flatten ++ C.toArray.toList.drop (R.drop 1).flatten.length).toArray) from gb_row (unhide hgb))
  clear hrun hi0 hi1 hi2 hi3
  generalize World.setRow _ _ _ = u2 at *
  clear hB hG
  have hG := hN
  clear hN
  have hB := Bl.nil u2
  refine hK.out _ _ trivial (fun _ => ?_)
  clear hK K
  simp only [nrm]
  refine any_one (i := 7) (by kernel_rfl) rfl (fun K hK => ?_)
  replace hK := hide hK
  go_simp
  refine (unhide hK).out _ _ trivial (fun _ => ?_)
  clear hK K
  simp only [nrm]
  refine any_done (by kernel_rfl) ?_
  replace hB := hide hB
  go_upto_region 6 with fail
  replace hB := unhide hB
  refine wp_region_lit ?_
  refine lvk (.slice (some ⟨g, 0, none⟩) (n - 1) c) ?_
  simp only [nrm]
  refine lvk (.slice (some ⟨g, 0, none⟩) (n - 1) c) ?_
  simp only [nrm]
  refine lvk (.int .i64 ((n - 1 : Nat) : Int)) ?_
  simp only [nrm]
  refine lvk (.int .i64 (n : Int)) ?_
  simp only [nrm]
  refine list_val (.slice (some ⟨g, 0 + 2 * (n - 1), none⟩) 1 (c - (n - 1))) (by kernel_rfl) (exec_lhI _ (.tmp 27) (.tmp 29) (.tmp 30) rfl g (n - 1) c (n - 1) n 1 (by kernel_rfl) (by kernel_rfl) (by kernel_rfl) (by omega) hcap (by omega) (by omega)) ?_
  simp only [nrm]
  refine list_clearI (.tmp 31) rfl (by kernel_rfl) g (0 + 2 * (n - 1)) (c - (n - 1)) (by kernel_rfl) (unhide hG) (by have h7 := unhide hlB; have h8 := unhide hCl; rw [List.length_append, List.length_drop]; omega) ?_
  have hN : Hid (Hb g (sp ((R.drop 1).flatten ++ C.drop (R.drop 1).flatten.length) (0 + 2 * (n - 1)) [.int .u32 0, .string ByteArray.empty]).toArray 47 (u2.setCells g (0 + 2 * (n - 1)) [.int .u32 0, .string ByteArray.empty])) := setCells_heap _ _ _ _ _ _ (unhide hG)
  replace hgb := hide (show Gb w (some g) (u2.setCells g (0 + 2 * (n - 1)) [.int .u32 0, .string ByteArray.empty]) from grown_cells (unhide hgb))
  generalize World.setCells _ _ _ _ = u3 at *
  clear hB hG
  have hG := hN
  clear hN
  have hB := Bl.nil u3
  simp only [nrm]
  refine wpList_nil ?_
  replace hB := hide hB
  go_upto_region 7 with fail
  replace hB := unhide hB
  refine wp_region_lit ?_
  refine lvk (.slice (some ⟨g, 0, none⟩) (n - 1) c) ?_
  simp only [nrm]
  (refine wpList_step fun K hK => ?_; replace hK := hide hK; go_simp; refine unhide hK _ _ ?_; clear hK K)
  refine wpList_nil ?_
  have hfin : Or_ 2 47 b u3 (.slice (some ⟨g, 0, none⟩) (n - 1) c) (R.drop 1) := by
    have h7 := unhide hlB
    have h8 := unhide hCl
    refine ⟨unhide hBr, ?_⟩
    rw [unhide hBn]
    refine ⟨by rw [h7]; omega, .inr ⟨g, c, _, rfl, hbg, unhide hG, by omega, hcm, by rw [List.size_toArray, sp_len, List.length_append, List.length_drop]; omega, ?_⟩⟩
    have h9 : (C.drop (R.drop 1).flatten.length) = (C.drop (R.drop 1).flatten.length).take 2 ++ (C.drop (R.drop 1).flatten.length).drop 2 := (List.take_append_drop 2 _).symm
    have hd := List.length_drop (i := (R.drop 1).flatten.length) (l := C)
    generalize C.drop (R.drop 1).flatten.length = D at *
    rw [List.toList_toArray, h9, sp_at _ _ (by omega) (by simp [List.length_take]; omega), List.take_append_of_le_length (by omega), List.take_of_length_le (by omega)]
  replace hB := hide hB
  go_wp2_with fail
  replace hB := unhide hB
  rw [unhide hT]
  exact (⟨some ⟨g, 0, none⟩, c, rfl, hfin, unhide hgb⟩)
end Go.Proofs.Ytcefkkoombmndaa
