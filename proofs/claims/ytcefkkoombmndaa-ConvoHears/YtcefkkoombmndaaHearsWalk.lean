/-
  ConvoHears.
-/
import Derived.Test.YtcefkkoombmndaaUZ
namespace Go.Proofs.Ytcefkkoombmndaa
open Go.RowKit
set_option maxRecDepth 100000
set_option linter.unusedSimpArgs false
set_option linter.unusedVariables false
theorem exec_cut {a : Act} {o : Oper} (w : World) (x z : Operand) (ho : o.op = .slice 9 x none (some z) none) (s : ByteArray) (n : Nat) (hx : a.eval x = .string s) (hz : a.eval z = .int .i64 (n : Int)) (hn : n ≤ s.size) (t : ByteArray) (ht : t = s.extract 0 n) :
    (execOp a.eval o).run Try.prog w = .ok (.value (.string t)) w := by
  subst ht
  have h1 := run_slice_string_h (P := Try.prog) w 9 s Try.underlying9 .i64 (n : Int) (by omega) (by omega)
  simp only [Int.toNat_natCast] at h1
  simp [execOp, ho, hx, hz, run_sliceAt_string _ _ _ _ _ _ Try.underlying9, h1]
theorem exec_isS {a : Act} {o : Oper} (w : World) (x y : Operand) (ho : o.op = .indexAddr 49 x y) (g q len cap i : Nat) (hx : a.eval x = .slice (some ⟨g, q, none⟩) len cap) (hy : a.eval y = .int .i64 i) (hi : i < len) :
    (execOp a.eval o).run Try.prog w = .ok (.value (.pointer (some ⟨g, q + i, none⟩))) w := by
  have h1 : (i : Int) < (len : Int) := by omega
  have hs : (Try.prog.info? 9).map (·.size) = some 1 := by kernel_rfl
  obtain ⟨i0, h2, h3⟩ := Option.map_eq_some_iff.1 hs
  have hu := Try.underlying49
  have hc : i * 1 = i := Nat.mul_one _
  unfold execOp
  simp only [ho, hx, hy]
  go_simp
theorem exec_neS {a : Act} {o : Oper} (w : World) (x y : Operand) (ho : o.op = .binOp .neq 9 x y 9) (s : ByteArray) (hx : a.eval x = .string s) (hy : a.eval y = .string s) :
    (execOp a.eval o).run Try.prog w = .ok (.value (.bool false)) w := by
  unfold execOp
  simp only [ho, hx, hy]
  go_simp
theorem exec_neB {a : Act} {o : Oper} (w : World) (x y : Operand) (ho : o.op = .binOp .neq 4 x y 4) (b : Bool) (hx : a.eval x = .bool b) (hy : a.eval y = .bool b) :
    (execOp a.eval o).run Try.prog w = .ok (.value (.bool false)) w := by
  unfold execOp
  simp only [ho, hx, hy]
  cases b <;> go_simp
theorem Bl.sub {w v : World} {L M : List Blk} (h : Bl w L v) (s : M.Sublist L) : Bl w M v := ⟨h.gr, fun x hx => h.at_ x (s.subset hx), h.ne.sublist s⟩
theorem Sh.farI {b g : Nat} {w : World} {c : Cm} {x : Lc} (h : Sh b w c x) (hg : g < b) : blkOf x.ah ≠ some g := by
  obtain ⟨k, h1, h2⟩ := h.h
  rw [h1]
  exact or_far h2 hg
theorem tx_at {b : Nat} {w : World} {a : Option Addr} {n c : Nat} {L : List ByteArray} (h : Or_ 1 9 b w (.slice a n c) (L.map tr1)) (j : Nat) (s : ByteArray) (hj : L[j]? = some s) : ∃ p o, a = some ⟨p, o, none⟩ ∧ w.cell? ⟨p, o + j, none⟩ = some (.string s) := by
  have h1 := (or_slice h).2
  have hl := (List.getElem?_eq_some_iff.1 hj).1
  obtain ⟨p, o, h2, h3⟩ := h1.at_ j (by rw [← h1.len, List.length_map]; exact hl)
  refine ⟨p, o, h2, ?_⟩
  have h4 : (L.map tr1).getD j [] = tr1 s := by simp [List.getD, List.getElem?_map, hj]
  rw [h4] at h3
  have h5 := h3 0 _ rfl
  simpa using h5
set_option maxHeartbeats 4000000 in
theorem hears_law (c : Cm) (x : Lc) (s : It) (r : Int) (w : World) (hc : Cin w c x) (hs : s.Ok) : Calls Try.prog 5 #[.agg (fl [[.int .u32 c.nx], [.slice x.ao x.no x.co], [.int .i64 c.tn], [.int .u32 c.dl], [.slice x.ah x.nh x.ch]]), .agg (fl [[.int .u32 s.n], [.string s.s]]), .int .i64 r] w (Vl (.bool true) w) := by
  obtain ⟨T, hT⟩ : ∃ T : Ending → World → Prop, T = (Vl (.bool true) w) := ⟨_, rfl⟩
  rw [← hT]
  replace hT := hide hT
  have hss := hs.2
  have hsn := hs.1
  replace hc := hide hc; replace hs := hide hs
  obtain ⟨A0_, hA0_⟩ : ∃ S_, S_ = fl [[.int .u32 c.nx], [.slice x.ao x.no x.co], [.int .i64 c.tn], [.int .u32 c.dl], [.slice x.ah x.nh x.ch]] := ⟨_, rfl⟩
  rw [← hA0_]
  replace hA0_ := hide hA0_
  obtain ⟨A1_, hA1_⟩ : ∃ S_, S_ = fl [[.int .u32 s.n], [.string s.s]] := ⟨_, rfl⟩
  rw [← hA1_]
  replace hA1_ := hide hA1_
  go_enter Try.func5, Try.ntmps5
  go_upto_region 1 with fail
  have hB := (((Bl.nil w).new A0_ 26).new A1_ 47)
  simp only [size_alloc, List.nil_append, List.cons_append] at hB
  rw [unhide hA0_, unhide hA1_] at hB
  generalize hu_ : World.alloc _ _ = u0
  replace hB : Bl w [⟨w.heap.size, fl [[.int .u32 c.nx], [.slice x.ao x.no x.co], [.int .i64 c.tn], [.int .u32 c.dl], [.slice x.ah x.nh x.ch]], 26⟩, ⟨w.heap.size + 1, fl [[.int .u32 s.n], [.string s.s]], 47⟩] u0 := by
    rw [← hu_]
    rw [unhide hA0_, unhide hA1_]
    exact hB
  clear hu_ hA0_ hA1_
  refine wp_region_lit ?_
  refine list_call 9 #[] (by kernel_rfl) (by kernel_rfl) ((wakes_ok u0).mono ?_)
  rintro r_ u1 ⟨rfl, hg⟩
  replace hB := hB.more hg
  clear hg
  refine ⟨_, rfl, ?_⟩
  simp only [nrm]
  refine lvk (.bool false) ?_
  simp only [nrm]
  refine wpList_nil ?_
  obtain ⟨e, he⟩ : ∃ e, e = ct c := ⟨_, rfl⟩
  have hnm := (unhide hc).nums.ct
  have e8o := ct_o c
  have e8h := ct_h c
  rw [← he] at hnm e8o e8h
  replace he := hide he; replace hnm := hide hnm
  replace hB := hide hB
  go_upto_region 3 with fail
  replace hB := unhide hB
  refine wp_region_lit ?_
  refine list_val (.agg (fl [[.int .u32 c.nx], [.slice x.ao x.no x.co], [.int .i64 c.tn], [.int .u32 c.dl], [.slice x.ah x.nh x.ch]])) (by kernel_rfl) (exec_sw _ 26 (.tmp 3) rfl (w.heap.size) (by kernel_rfl) (hB.get 0 (x := ⟨w.heap.size, fl [[.int .u32 c.nx], [.slice x.ao x.no x.co], [.int .i64 c.tn], [.int .u32 c.dl], [.slice x.ah x.nh x.ch]], 26⟩) rfl) NC (nC  _ _ _ _ _) Try.underlying26 rfl (by kernel_rfl)) ?_
  simp only [nrm]
  refine list_call 10 #[.agg (fl [[.int .u32 c.nx], [.slice x.ao x.no x.co], [.int .i64 c.tn], [.int .u32 c.dl], [.slice x.ah x.nh x.ch]])] (by kernel_rfl) (by kernel_rfl) (((show Calls Try.prog 10 #[.agg (fl [[.int .u32 c.nx], [.slice x.ao x.no x.co], [.int .i64 c.tn], [.int .u32 c.dl], [.slice x.ah x.nh x.ch]])] u1 (fun r w' => ∃ x', r = .returned (.agg (fl (cvs e x'))) ∧ Sh w.heap.size w' e x' ∧ blkOf x'.ah ≠ some (w.heap.size + 1) ∧ Gr u1 w') from by have h := short_ok c x u1 ((unhide hc).gr hB.gr); have h8 := lt_of_block (hB.get 1 (x := ⟨w.heap.size + 1, fl [[.int .u32 s.n], [.string s.s]], 47⟩) rfl); rw [← unhide he] at h; exact h.mono fun r w' h9 => (by obtain ⟨x', h1, h2, h3⟩ := h9; exact ⟨x', h1, h2.base hB.gr.size, h2.farI h8, h3⟩))).mono ?_)
  rintro r_ u2 ⟨x1, rfl, hSe, hneS, hg⟩
  replace hB := hB.more hg
  clear hg
  replace hSe := hide hSe
  replace hneS := hide hneS
  refine ⟨_, rfl, ?_⟩
  simp only [nrm]
  have hzz_ : Hid (u2.heap[w.heap.size]? = some (.cells (fl [[.int .u32 c.nx], [.slice x.ao x.no x.co], [.int .i64 c.tn], [.int .u32 c.dl], [.slice x.ah x.nh x.ch]]) 26 (0, 0))) := hide (hB.get 0 (x := ⟨w.heap.size, fl [[.int .u32 c.nx], [.slice x.ao x.no x.co], [.int .i64 c.tn], [.int .u32 c.dl], [.slice x.ah x.nh x.ch]], 26⟩) rfl)
  refine list_all 26 (.tmp 3) (.tmp 18) (w.heap.size) (S2 := [[.int .u32 e.nx], [.slice x1.ao x1.no x1.co], [.int .i64 e.tn], [.int .u32 e.dl], [.slice x1.ah x1.nh x1.ch]]) (by kernel_rfl) rfl (by kernel_rfl) (by kernel_rfl) hB 0 rfl NC (nC  _ _ _ _ _) (nC  _ _ _ _ _) (by kernel_rfl) (oC  rfl rfl rfl rfl rfl) ?_
  intro u3 hB_ hbt_
  clear hB
  replace hB : Bl w [⟨w.heap.size, fl [[.int .u32 e.nx], [.slice x1.ao x1.no x1.co], [.int .i64 e.tn], [.int .u32 e.dl], [.slice x1.ah x1.nh x1.ch]], 26⟩, ⟨w.heap.size + 1, fl [[.int .u32 s.n], [.string s.s]], 47⟩] u3 := hB_
  clear hB_
  replace hSe := hide ((unhide hSe).bz (unhide hzz_) hbt_)
  clear hbt_ hzz_
  simp only [nrm]
  refine wpList_nil ?_
  obtain ⟨n, hn⟩ : ∃ n, n = min s.s.size 100 := ⟨_, rfl⟩
  obtain ⟨t, ht⟩ : ∃ t, t = s.s.extract 0 n := ⟨_, rfl⟩
  have hnI : min (s.s.size : Int) 100 = (n : Int) := by omega
  have hi : (⟨s.n, t⟩ : It).Ok := ⟨hsn, by rw [ht]; simp only [ByteArray.size_extract]; omega⟩
  have hnl : n ≤ s.s.size := by omega
  clear hn hsn
  replace hi := hide hi; replace ht := hide ht; replace hnI := hide hnI
  replace hB := hide hB
  go_upto_region 4 with fail
  replace hB := unhide hB
  refine wp_region_lit ?_
  refine lvk (.pointer (some ⟨w.heap.size + 1, 1, none⟩)) ?_
  simp only [nrm]
  refine list_val (.string s.s) (by kernel_rfl) (exec_cst _ (.tmp 19) rfl (w.heap.size + 1) 1 (by kernel_rfl) s.s (seg_cell (nI  _ _) (hB.get 1 (x := ⟨w.heap.size + 1, fl [[.int .u32 s.n], [.string s.s]], 47⟩) rfl) 1 (v := .string s.s) rfl rfl)) ?_
  simp only [nrm]
  refine lvk (.pointer (some ⟨w.heap.size + 1, 1, none⟩)) ?_
  simp only [nrm]
  refine list_val (.string s.s) (by kernel_rfl) (exec_cst _ (.tmp 21) rfl (w.heap.size + 1) 1 (by kernel_rfl) s.s (seg_cell (nI  _ _) (hB.get 1 (x := ⟨w.heap.size + 1, fl [[.int .u32 s.n], [.string s.s]], 47⟩) rfl) 1 (v := .string s.s) rfl rfl)) ?_
  simp only [nrm]
  refine list_val (.int .i64 (s.s.size : Int)) (by kernel_rfl) (len_st _ (.tmp 22) s.s hss rfl (by kernel_rfl)) ?_
  simp only [nrm]
  refine list_val (.int .i64 (n : Int)) (by kernel_rfl) (min_i _ (.tmp 23) (.const (.int .i64 100)) (s.s.size : Int) 100 rfl (by kernel_rfl) rfl (n : Int) (unhide hnI)) ?_
  simp only [nrm]
  refine list_val (.string t) (by kernel_rfl) (exec_cut _ (.tmp 20) (.tmp 24) rfl s.s n (by kernel_rfl) (by kernel_rfl) hnl t (unhide ht)) ?_
  simp only [nrm]
  refine lvk (.pointer (some ⟨w.heap.size + 1, 1, none⟩)) ?_
  simp only [nrm]
  have hzz_ : Hid (u3.heap[w.heap.size + 1]? = some (.cells (fl [[.int .u32 s.n], [.string s.s]]) 47 (0, 0))) := hide (hB.get 1 (x := ⟨w.heap.size + 1, fl [[.int .u32 s.n], [.string s.s]], 47⟩) rfl)
  refine list_cst (.tmp 26) (.tmp 25) (w.heap.size + 1) 1 t (by kernel_rfl) rfl (by kernel_rfl) (by kernel_rfl) hB 1 rfl NI (nI  _ _) 1 _ rfl rfl ?_
  intro u4 hB_ hbt_
  clear hB
  replace hB : Bl w [⟨w.heap.size, fl [[.int .u32 e.nx], [.slice x1.ao x1.no x1.co], [.int .i64 e.tn], [.int .u32 e.dl], [.slice x1.ah x1.nh x1.ch]], 26⟩, ⟨w.heap.size + 1, fl [[.int .u32 s.n], [.string t]], 47⟩] u4 := hB_
  clear hB_
  replace hSe := hide ((unhide hSe).bkI (unhide hzz_) hbt_ (unhide hneS))
  clear hbt_ hzz_
  simp only [nrm]
  refine wpList_nil ?_
  clear hss hnl hnI ht
  have hC1 := hide ((unhide hSe).co (unhide hnm))
  replace hB := hide hB
  go_upto_region 5 with fail
  replace hB := unhide hB
  refine wp_region_lit ?_
  refine list_val (.agg (fl [[.int .u32 e.nx], [.slice x1.ao x1.no x1.co], [.int .i64 e.tn], [.int .u32 e.dl], [.slice x1.ah x1.nh x1.ch]])) (by kernel_rfl) (exec_sw _ 26 (.tmp 3) rfl (w.heap.size) (by kernel_rfl) (hB.get 0 (x := ⟨w.heap.size, fl [[.int .u32 e.nx], [.slice x1.ao x1.no x1.co], [.int .i64 e.tn], [.int .u32 e.dl], [.slice x1.ah x1.nh x1.ch]], 26⟩) rfl) NC (nC  _ _ _ _ _) Try.underlying26 rfl (by kernel_rfl)) ?_
  simp only [nrm]
  refine list_call 11 #[.agg (fl [[.int .u32 e.nx], [.slice x1.ao x1.no x1.co], [.int .i64 e.tn], [.int .u32 e.dl], [.slice x1.ah x1.nh x1.ch]])] (by kernel_rfl) (by kernel_rfl) (((show Calls Try.prog 11 #[.agg (fl [[.int .u32 e.nx], [.slice x1.ao x1.no x1.co], [.int .i64 e.tn], [.int .u32 e.dl], [.slice x1.ah x1.nh x1.ch]])] u4 (fun r w' => ∃ x', r = .returned (.agg (fl (cvs e x'))) ∧ Co w.heap.size w' e x' ∧ Gr u4 w') from (rcopy_ok e x1 u4 (unhide hC1).i (by have := (unhide hC1).i.o.len; omega) (by have := (unhide hC1).i.h.len; omega)).mono fun r w' h9 => (by obtain ⟨x', h1, h2, _, _, h3⟩ := h9; exact ⟨x', h1, ⟨h2.cin (unhide hnm), h2.owx.base hB.gr.size⟩, h3⟩))).mono ?_)
  rintro r_ u5 ⟨y, rfl, hY, hg⟩
  replace hSe := hide ((unhide hSe).gr hg)
  replace hB := hB.more hg
  clear hg
  replace hY := hide hY
  refine ⟨_, rfl, ?_⟩
  simp only [nrm]
  refine list_valw (.pointer (some ⟨u5.heap.size, 0, none⟩)) (u5.alloc (.cells (fl [[.int .u32 0], [.slice none 0 0], [.int .i64 0], [.int .u32 0], [.slice none 0 0]]) 26 (0, 0))) (by kernel_rfl) (by kernel_rfl) ?_
  replace hB := hB.new (fl [[.int .u32 0], [.slice none 0 0], [.int .i64 0], [.int .u32 0], [.slice none 0 0]]) 26
  simp only [List.nil_append, List.cons_append] at hB
  have hg := (Gr.refl u5).alloc (.cells (fl [[.int .u32 0], [.slice none 0 0], [.int .i64 0], [.int .u32 0], [.slice none 0 0]]) 26 (0, 0))
  replace hSe := hide ((unhide hSe).gr hg)
  replace hY := hide ((unhide hY).gr hg)
  clear hg
  generalize World.alloc _ _ = u6 at *
  generalize u5.heap.size = g7 at *
  simp only [nrm]
  have hzz_ : Hid (u6.heap[g7]? = some (.cells (fl [[.int .u32 0], [.slice none 0 0], [.int .i64 0], [.int .u32 0], [.slice none 0 0]]) 26 (0, 0))) := hide (hB.get 2 (x := ⟨g7, fl [[.int .u32 0], [.slice none 0 0], [.int .i64 0], [.int .u32 0], [.slice none 0 0]], 26⟩) rfl)
  refine list_all 26 (.tmp 7) (.tmp 28) (g7) (S2 := [[.int .u32 e.nx], [.slice y.ao y.no y.co], [.int .i64 e.tn], [.int .u32 e.dl], [.slice y.ah y.nh y.ch]]) (by kernel_rfl) rfl (by kernel_rfl) (by kernel_rfl) hB 2 rfl NC (nC  _ _ _ _ _) (nC  _ _ _ _ _) (by kernel_rfl) (oC  rfl rfl rfl rfl rfl) ?_
  intro u7 hB_ hbt_
  clear hB
  replace hB : Bl w [⟨w.heap.size, fl [[.int .u32 e.nx], [.slice x1.ao x1.no x1.co], [.int .i64 e.tn], [.int .u32 e.dl], [.slice x1.ah x1.nh x1.ch]], 26⟩, ⟨w.heap.size + 1, fl [[.int .u32 s.n], [.string t]], 47⟩, ⟨g7, fl [[.int .u32 e.nx], [.slice y.ao y.no y.co], [.int .i64 e.tn], [.int .u32 e.dl], [.slice y.ah y.nh y.ch]], 26⟩] u7 := hB_
  clear hB_
  replace hSe := hide ((unhide hSe).bz (unhide hzz_) hbt_)
  replace hY := hide ((unhide hY).bz (unhide hzz_) hbt_)
  clear hbt_ hzz_
  simp only [nrm]
  refine wpList_nil ?_
  replace hC1 := hide ((unhide hSe).co (unhide hnm))
  obtain ⟨bq, hbq⟩ : ∃ b, wt e s.n r = b := ⟨_, rfl⟩
  replace hbq := hide hbq
  replace hB := hide hB
  go_upto_region 6 with fail
  replace hB := unhide hB
  refine any_start (S := fun v_ => v_.heap[w.heap.size]? = some (.cells (fl [[.int .u32 e.nx], [.slice x1.ao x1.no x1.co], [.int .i64 e.tn], [.int .u32 e.dl], [.slice x1.ah x1.nh x1.ch]]) 26 (0, 0)) ∧ v_.heap[w.heap.size + 1]? = some (.cells (fl [[.int .u32 s.n], [.string t]]) 47 (0, 0))) (by kernel_rfl) ?_
  replace hSe := hide ((unhide hSe).gr ((Gr.refl u7).drew))
  replace hY := hide ((unhide hY).gr ((Gr.refl u7).drew))
  replace hC1 := hide ((unhide hC1).gr ((Gr.refl u7).drew))
  replace hB := hB.drew
  generalize World.drew _ = u8 at *
  simp only [List.size_toArray, List.length_cons, List.length_nil, Array.replicate, List.replicate]
  have hS_ := hide (show (fun v_ => v_.heap[w.heap.size]? = some (.cells (fl [[.int .u32 e.nx], [.slice x1.ao x1.no x1.co], [.int .i64 e.tn], [.int .u32 e.dl], [.slice x1.ah x1.nh x1.ch]]) 26 (0, 0)) ∧ v_.heap[w.heap.size + 1]? = some (.cells (fl [[.int .u32 s.n], [.string t]]) 47 (0, 0))) u8 from ⟨(hB.get 0 (x := ⟨w.heap.size, fl [[.int .u32 e.nx], [.slice x1.ao x1.no x1.co], [.int .i64 e.tn], [.int .u32 e.dl], [.slice x1.ah x1.nh x1.ch]], 26⟩) rfl), (hB.get 1 (x := ⟨w.heap.size + 1, fl [[.int .u32 s.n], [.string t]], 47⟩) rfl)⟩)
  refine any_tk 0 (.agg (fl [[.int .u32 e.nx], [.slice x1.ao x1.no x1.co], [.int .i64 e.tn], [.int .u32 e.dl], [.slice x1.ah x1.nh x1.ch]])) (tf 11 0) rfl (fun x_ hu => exec_sw _ 26 (.tmp 3) rfl (w.heap.size) (by kernel_rfl) hu.1 NC (nC  _ _ _ _ _) Try.underlying26 rfl (by kernel_rfl)) (unhide hS_) ?_
  simp only [nrm]
  refine any_tk 1 (.pointer (some ⟨w.heap.size + 1, 0, none⟩)) (tf 11 1) rfl (fun x_ hu => by kernel_rfl) (unhide hS_) ?_
  simp only [nrm]
  refine any_tk 2 (.int .u32 s.n) (tf 11 2) rfl (fun x_ hu => exec_c32 _ (.tmp 30) rfl (w.heap.size + 1) 0 (by kernel_rfl) s.n (seg_cell (nI  _ _) hu.2 0 (v := .int .u32 s.n) rfl rfl)) (unhide hS_) ?_
  simp only [nrm]
  refine any_tk 3 (.int .i64 r) (tf 11 3) rfl (fun x_ hu => by kernel_rfl) (unhide hS_) ?_
  simp only [nrm]
  refine any_tk 5 (.agg (fl [[.int .u32 e.nx], [.slice x1.ao x1.no x1.co], [.int .i64 e.tn], [.int .u32 e.dl], [.slice x1.ah x1.nh x1.ch]])) (tf 11 4) rfl (fun x_ hu => exec_sw _ 26 (.tmp 3) rfl (w.heap.size) (by kernel_rfl) hu.1 NC (nC  _ _ _ _ _) Try.underlying26 rfl (by kernel_rfl)) (unhide hS_) ?_
  simp only [nrm]
  refine any_tk 6 (.pointer (some ⟨w.heap.size + 1, 0, none⟩)) #[true, true, true, true, false, true, false, false, false, false, false] rfl (fun x_ hu => by kernel_rfl) (unhide hS_) ?_
  simp only [nrm]
  refine any_tk 7 (.int .u32 s.n) #[true, true, true, true, false, true, true, false, false, false, false] rfl (fun x_ hu => exec_c32 _ (.tmp 35) rfl (w.heap.size + 1) 0 (by kernel_rfl) s.n (seg_cell (nI  _ _) hu.2 0 (v := .int .u32 s.n) rfl rfl)) (unhide hS_) ?_
  simp only [nrm]
  refine any_tk 8 (.int .i64 r) #[true, true, true, true, false, true, true, true, false, false, false] rfl (fun x_ hu => by kernel_rfl) (unhide hS_) ?_
  simp only [nrm]
  refine any_one (i := 4) (by kernel_rfl) rfl (fun K hK => ?_)
  refine step_callw (by kernel_rfl) 23 #[.agg (fl [[.int .u32 e.nx], [.slice x1.ao x1.no x1.co], [.int .i64 e.tn], [.int .u32 e.dl], [.slice x1.ah x1.nh x1.ch]]), .int .u32 s.n, .int .i64 r] (by kernel_rfl) (((show Calls Try.prog 23 #[.agg (fl [[.int .u32 e.nx], [.slice x1.ao x1.no x1.co], [.int .i64 e.tn], [.int .u32 e.dl], [.slice x1.ah x1.nh x1.ch]]), .int .u32 s.n, .int .i64 r] u8 (Vl (.bool bq) u8) from unhide hbq ▸ wants_ok e x1 s.n r (unhide hs).1 u8 (unhide hC1).i)).mono ?_)
  rintro r_ u9 ⟨rfl, hg⟩
  replace hSe := hide ((unhide hSe).gr hg)
  replace hY := hide ((unhide hY).gr hg)
  replace hC1 := hide ((unhide hC1).gr hg)
  replace hB := hB.more hg
  clear hg
  refine ⟨_, rfl, ?_⟩
  clear hS_
  have hS_ := hide (show (fun v_ => v_.heap[w.heap.size]? = some (.cells (fl [[.int .u32 e.nx], [.slice x1.ao x1.no x1.co], [.int .i64 e.tn], [.int .u32 e.dl], [.slice x1.ah x1.nh x1.ch]]) 26 (0, 0)) ∧ v_.heap[w.heap.size + 1]? = some (.cells (fl [[.int .u32 s.n], [.string t]]) 47 (0, 0))) u9 from ⟨(hB.get 0 (x := ⟨w.heap.size, fl [[.int .u32 e.nx], [.slice x1.ao x1.no x1.co], [.int .i64 e.tn], [.int .u32 e.dl], [.slice x1.ah x1.nh x1.ch]], 26⟩) rfl), (hB.get 1 (x := ⟨w.heap.size + 1, fl [[.int .u32 s.n], [.string t]], 47⟩) rfl)⟩)
  refine hK.out _ _ (unhide hS_) (fun _ => ?_)
  clear hK K
  simp only [nrm]
  refine any_one (i := 9) (by kernel_rfl) rfl (fun K hK => ?_)
  refine step_callw (by kernel_rfl) 24 #[.agg (fl [[.int .u32 e.nx], [.slice x1.ao x1.no x1.co], [.int .i64 e.tn], [.int .u32 e.dl], [.slice x1.ah x1.nh x1.ch]]), .int .u32 s.n, .int .i64 r] (by kernel_rfl) (((show Calls Try.prog 24 #[.agg (fl [[.int .u32 e.nx], [.slice x1.ao x1.no x1.co], [.int .i64 e.tn], [.int .u32 e.dl], [.slice x1.ah x1.nh x1.ch]]), .int .u32 s.n, .int .i64 r] u9 (Vl (.bool bq) u9) from unhide hbq ▸ rwants_ok e x1 s.n r (unhide hs).1 u9 (unhide hC1).i)).mono ?_)
  rintro r_ u10 ⟨rfl, hg⟩
  replace hSe := hide ((unhide hSe).gr hg)
  replace hY := hide ((unhide hY).gr hg)
  replace hC1 := hide ((unhide hC1).gr hg)
  replace hB := hB.more hg
  clear hg
  refine ⟨_, rfl, ?_⟩
  clear hS_
  have hS_ := hide (show (fun v_ => v_.heap[w.heap.size]? = some (.cells (fl [[.int .u32 e.nx], [.slice x1.ao x1.no x1.co], [.int .i64 e.tn], [.int .u32 e.dl], [.slice x1.ah x1.nh x1.ch]]) 26 (0, 0)) ∧ v_.heap[w.heap.size + 1]? = some (.cells (fl [[.int .u32 s.n], [.string t]]) 47 (0, 0))) u10 from ⟨(hB.get 0 (x := ⟨w.heap.size, fl [[.int .u32 e.nx], [.slice x1.ao x1.no x1.co], [.int .i64 e.tn], [.int .u32 e.dl], [.slice x1.ah x1.nh x1.ch]], 26⟩) rfl), (hB.get 1 (x := ⟨w.heap.size + 1, fl [[.int .u32 s.n], [.string t]], 47⟩) rfl)⟩)
  refine hK.out _ _ (unhide hS_) (fun _ => ?_)
  clear hK K
  simp only [nrm]
  refine any_tk 10 (.bool false) (tf 11 10) rfl (fun x_ hu => exec_neB _ (.tmp 33) (.tmp 38) rfl bq (by kernel_rfl) (by kernel_rfl)) (unhide hS_) ?_
  simp only [nrm]
  refine any_done (by kernel_rfl) ?_
  clear hS_
  obtain ⟨d, TX, er, hak⟩ : ∃ d TX er, tk e ⟨s.n, t⟩ r = (d, TX, er) := ⟨_, _, _, rfl⟩
  replace hak := hide hak
  replace hB := hide hB
  go_upto_region 8 with fail
  replace hB := unhide hB
  refine wp_region_lit ?_
  refine list_val (.agg (fl [[.int .u32 e.nx], [.slice x1.ao x1.no x1.co], [.int .i64 e.tn], [.int .u32 e.dl], [.slice x1.ah x1.nh x1.ch]])) (by kernel_rfl) (exec_sw _ 26 (.tmp 3) rfl (w.heap.size) (by kernel_rfl) (hB.get 0 (x := ⟨w.heap.size, fl [[.int .u32 e.nx], [.slice x1.ao x1.no x1.co], [.int .i64 e.tn], [.int .u32 e.dl], [.slice x1.ah x1.nh x1.ch]], 26⟩) rfl) NC (nC  _ _ _ _ _) Try.underlying26 rfl (by kernel_rfl)) ?_
  simp only [nrm]
  refine list_val (.agg (fl [[.int .u32 s.n], [.string t]])) (by kernel_rfl) (exec_sw _ 47 (.tmp 4) rfl (w.heap.size + 1) (by kernel_rfl) (hB.get 1 (x := ⟨w.heap.size + 1, fl [[.int .u32 s.n], [.string t]], 47⟩) rfl) NI (nI  _ _) Try.underlying47 rfl (by kernel_rfl)) ?_
  simp only [nrm]
  refine lvk (.int .i64 r) ?_
  simp only [nrm]
  refine list_call 25 #[.agg (fl [[.int .u32 e.nx], [.slice x1.ao x1.no x1.co], [.int .i64 e.tn], [.int .u32 e.dl], [.slice x1.ah x1.nh x1.ch]]), .agg (fl [[.int .u32 s.n], [.string t]]), .int .i64 r] (by kernel_rfl) (by kernel_rfl) (((show Calls Try.prog 25 #[.agg (fl [[.int .u32 e.nx], [.slice x1.ao x1.no x1.co], [.int .i64 e.tn], [.int .u32 e.dl], [.slice x1.ah x1.nh x1.ch]]), .agg (fl [[.int .u32 s.n], [.string t]]), .int .i64 r] u10 (fun r w' => ∃ x' a' c', r = .returned (.tuple #[.agg (fl (cvs d x')), .slice a' TX.length c', .int .i64 er]) ∧ Co w.heap.size w' d x' ∧ Or_ 1 9 w.heap.size w' (.slice a' TX.length c') (TX.map tr1) ∧ Gr u10 w') from by have h := rtk_ok e x1 ⟨s.n, t⟩ r u10 (unhide hC1).i (unhide hi); rw [unhide hak] at h; exact h.mono fun r w' h9 => (by obtain ⟨x', a', n', c', h1, h2, h3, h4, h5⟩ := h9; have hnT : n' = TX.length := (by simpa using (or_slice h4).1); subst hnT; exact ⟨x', a', c', h1, ⟨h2, h3.base (hB.gr.size)⟩, or_base h4 hB.gr.size, h5⟩))).mono ?_)
  rintro r_ u11 ⟨x3, t3, c3, rfl, hC3, hT3, hg⟩
  replace hSe := hide ((unhide hSe).gr hg)
  replace hY := hide ((unhide hY).gr hg)
  replace hC1 := hide ((unhide hC1).gr hg)
  replace hB := hB.more hg
  clear hg
  replace hC3 := hide hC3
  replace hT3 := hide hT3
  refine ⟨_, rfl, ?_⟩
  simp only [nrm]
  refine lvk (.tuple #[.agg (fl [[.int .u32 d.nx], [.slice x3.ao x3.no x3.co], [.int .i64 d.tn], [.int .u32 d.dl], [.slice x3.ah x3.nh x3.ch]]), .slice t3 TX.length c3, .int .i64 er]) ?_
  simp only [nrm]
  refine lvk (.agg (fl [[.int .u32 d.nx], [.slice x3.ao x3.no x3.co], [.int .i64 d.tn], [.int .u32 d.dl], [.slice x3.ah x3.nh x3.ch]])) ?_
  simp only [nrm]
  refine lvk (.slice t3 TX.length c3) ?_
  simp only [nrm]
  refine lvk (.int .i64 er) ?_
  simp only [nrm]
  refine list_valw (.pointer (some ⟨u11.heap.size, 0, none⟩)) (u11.alloc (.cells (fl [[.int .u32 0], [.slice none 0 0], [.int .i64 0], [.int .u32 0], [.slice none 0 0]]) 26 (0, 0))) (by kernel_rfl) (by kernel_rfl) ?_
  replace hB := hB.new (fl [[.int .u32 0], [.slice none 0 0], [.int .i64 0], [.int .u32 0], [.slice none 0 0]]) 26
  simp only [List.nil_append, List.cons_append] at hB
  have hg := (Gr.refl u11).alloc (.cells (fl [[.int .u32 0], [.slice none 0 0], [.int .i64 0], [.int .u32 0], [.slice none 0 0]]) 26 (0, 0))
  replace hSe := hide ((unhide hSe).gr hg)
  replace hY := hide ((unhide hY).gr hg)
  replace hC1 := hide ((unhide hC1).gr hg)
  replace hC3 := hide ((unhide hC3).gr hg)
  replace hT3 := hide ((unhide hT3).gr hg)
  clear hg
  generalize World.alloc _ _ = u12 at *
  generalize u11.heap.size = g8 at *
  simp only [nrm]
  have hzz_ : Hid (u12.heap[g8]? = some (.cells (fl [[.int .u32 0], [.slice none 0 0], [.int .i64 0], [.int .u32 0], [.slice none 0 0]]) 26 (0, 0))) := hide (hB.get 3 (x := ⟨g8, fl [[.int .u32 0], [.slice none 0 0], [.int .i64 0], [.int .u32 0], [.slice none 0 0]], 26⟩) rfl)
  refine list_all 26 (.tmp 8) (.tmp 45) (g8) (S2 := [[.int .u32 d.nx], [.slice x3.ao x3.no x3.co], [.int .i64 d.tn], [.int .u32 d.dl], [.slice x3.ah x3.nh x3.ch]]) (by kernel_rfl) rfl (by kernel_rfl) (by kernel_rfl) hB 3 rfl NC (nC  _ _ _ _ _) (nC  _ _ _ _ _) (by kernel_rfl) (oC  rfl rfl rfl rfl rfl) ?_
  intro u13 hB_ hbt_
  clear hB
  replace hB : Bl w [⟨w.heap.size, fl [[.int .u32 e.nx], [.slice x1.ao x1.no x1.co], [.int .i64 e.tn], [.int .u32 e.dl], [.slice x1.ah x1.nh x1.ch]], 26⟩, ⟨w.heap.size + 1, fl [[.int .u32 s.n], [.string t]], 47⟩, ⟨g7, fl [[.int .u32 e.nx], [.slice y.ao y.no y.co], [.int .i64 e.tn], [.int .u32 e.dl], [.slice y.ah y.nh y.ch]], 26⟩, ⟨g8, fl [[.int .u32 d.nx], [.slice x3.ao x3.no x3.co], [.int .i64 d.tn], [.int .u32 d.dl], [.slice x3.ah x3.nh x3.ch]], 26⟩] u13 := hB_
  clear hB_
  replace hSe := hide ((unhide hSe).bz (unhide hzz_) hbt_)
  replace hY := hide ((unhide hY).bz (unhide hzz_) hbt_)
  replace hC1 := hide ((unhide hC1).bz (unhide hzz_) hbt_)
  replace hC3 := hide ((unhide hC3).bz (unhide hzz_) hbt_)
  replace hT3 := hide ((unhide hT3).bz (unhide hzz_) hbt_)
  clear hbt_ hzz_
  simp only [nrm]
  (refine wpList_step fun K hK => ?_; replace hK := hide hK; go_simp; refine unhide hK _ _ ?_; clear hK K)
  (refine wpList_step fun K hK => ?_; replace hK := hide hK; go_simp; refine unhide hK _ _ ?_; clear hK K)
  refine wpList_nil ?_
  replace hB := hide hB
  go_upto_region 9 with fail
  replace hB := unhide hB
  obtain ⟨b, hb⟩ : ∃ b_, b_ = u13.heap.size := ⟨_, rfl⟩
  have hbw : Hid (w.heap.size ≤ b) := hide (by rw [hb]; exact hB.gr.size)
  have hlSb := hide (unhide hSe).lt
  have hlYb := hide (unhide hY).o.lt
  rw [← hb] at hlSb hlYb
  have hbs : Hid (Bz b u13) := hide (Nat.le_of_eq hb)
  refine wp_region_lit ?_
  refine list_val (.agg (fl [[.int .u32 e.nx], [.slice x1.ao x1.no x1.co], [.int .i64 e.tn], [.int .u32 e.dl], [.slice x1.ah x1.nh x1.ch]])) (by kernel_rfl) (exec_sw _ 26 (.tmp 3) rfl (w.heap.size) (by kernel_rfl) (hB.get 0 (x := ⟨w.heap.size, fl [[.int .u32 e.nx], [.slice x1.ao x1.no x1.co], [.int .i64 e.tn], [.int .u32 e.dl], [.slice x1.ah x1.nh x1.ch]], 26⟩) rfl) NC (nC  _ _ _ _ _) Try.underlying26 rfl (by kernel_rfl)) ?_
  simp only [nrm]
  refine list_val (.agg (fl [[.int .u32 s.n], [.string t]])) (by kernel_rfl) (exec_sw _ 47 (.tmp 4) rfl (w.heap.size + 1) (by kernel_rfl) (hB.get 1 (x := ⟨w.heap.size + 1, fl [[.int .u32 s.n], [.string t]], 47⟩) rfl) NI (nI  _ _) Try.underlying47 rfl (by kernel_rfl)) ?_
  simp only [nrm]
  refine lvk (.int .i64 r) ?_
  simp only [nrm]
  refine list_call 26 #[.agg (fl [[.int .u32 e.nx], [.slice x1.ao x1.no x1.co], [.int .i64 e.tn], [.int .u32 e.dl], [.slice x1.ah x1.nh x1.ch]]), .agg (fl [[.int .u32 s.n], [.string t]]), .int .i64 r] (by kernel_rfl) (by kernel_rfl) (((show Calls Try.prog 26 #[.agg (fl [[.int .u32 e.nx], [.slice x1.ao x1.no x1.co], [.int .i64 e.tn], [.int .u32 e.dl], [.slice x1.ah x1.nh x1.ch]]), .agg (fl [[.int .u32 s.n], [.string t]]), .int .i64 r] u13 (fun r w' => ∃ x' a' c', r = .returned (.tuple #[.agg (fl (cvs d x')), .slice a' TX.length c', .int .i64 er]) ∧ Co b w' d x' ∧ Or_ 1 9 w.heap.size w' (.slice a' TX.length c') (TX.map tr1) ∧ Gr u13 w') from by have h := take_ok e x1 ⟨s.n, t⟩ r u13 (unhide hC1).i (unhide hi); rw [unhide hak] at h; exact h.mono fun r w' h9 => (by obtain ⟨x', a', n', c', h1, h2, h3, h4, h5⟩ := h9; have hnT : n' = TX.length := (by simpa using (or_slice h4).1); subst hnT; exact ⟨x', a', c', h1, ⟨h2, h3.base (by rw [hb]; exact Nat.le_refl _)⟩, or_base h4 hB.gr.size, h5⟩))).mono ?_)
  rintro r_ u14 ⟨x4, t4, c4, rfl, hC4, hT4, hg⟩
  replace hSe := hide ((unhide hSe).gr hg)
  replace hY := hide ((unhide hY).gr hg)
  replace hC1 := hide ((unhide hC1).gr hg)
  replace hC3 := hide ((unhide hC3).gr hg)
  replace hT3 := hide ((unhide hT3).gr hg)
  replace hbs := hide ((unhide hbs).gr hg)
  replace hB := hB.more hg
  clear hg
  replace hC4 := hide hC4
  replace hT4 := hide hT4
  refine ⟨_, rfl, ?_⟩
  simp only [nrm]
  refine lvk (.tuple #[.agg (fl [[.int .u32 d.nx], [.slice x4.ao x4.no x4.co], [.int .i64 d.tn], [.int .u32 d.dl], [.slice x4.ah x4.nh x4.ch]]), .slice t4 TX.length c4, .int .i64 er]) ?_
  simp only [nrm]
  refine lvk (.agg (fl [[.int .u32 d.nx], [.slice x4.ao x4.no x4.co], [.int .i64 d.tn], [.int .u32 d.dl], [.slice x4.ah x4.nh x4.ch]])) ?_
  simp only [nrm]
  refine lvk (.slice t4 TX.length c4) ?_
  simp only [nrm]
  refine lvk (.int .i64 er) ?_
  simp only [nrm]
  refine list_valw (.pointer (some ⟨u14.heap.size, 0, none⟩)) (u14.alloc (.cells (fl [[.int .u32 0], [.slice none 0 0], [.int .i64 0], [.int .u32 0], [.slice none 0 0]]) 26 (0, 0))) (by kernel_rfl) (by kernel_rfl) ?_
  replace hB := hB.new (fl [[.int .u32 0], [.slice none 0 0], [.int .i64 0], [.int .u32 0], [.slice none 0 0]]) 26
  simp only [List.nil_append, List.cons_append] at hB
  have hg := (Gr.refl u14).alloc (.cells (fl [[.int .u32 0], [.slice none 0 0], [.int .i64 0], [.int .u32 0], [.slice none 0 0]]) 26 (0, 0))
  replace hSe := hide ((unhide hSe).gr hg)
  replace hY := hide ((unhide hY).gr hg)
  replace hC1 := hide ((unhide hC1).gr hg)
  replace hC3 := hide ((unhide hC3).gr hg)
  replace hT3 := hide ((unhide hT3).gr hg)
  replace hbs := hide ((unhide hbs).gr hg)
  replace hC4 := hide ((unhide hC4).gr hg)
  replace hT4 := hide ((unhide hT4).gr hg)
  clear hg
  generalize World.alloc _ _ = u15 at *
  generalize u14.heap.size = g11 at *
  simp only [nrm]
  have hzz_ : Hid (u15.heap[g11]? = some (.cells (fl [[.int .u32 0], [.slice none 0 0], [.int .i64 0], [.int .u32 0], [.slice none 0 0]]) 26 (0, 0))) := hide (hB.get 4 (x := ⟨g11, fl [[.int .u32 0], [.slice none 0 0], [.int .i64 0], [.int .u32 0], [.slice none 0 0]], 26⟩) rfl)
  refine list_all 26 (.tmp 11) (.tmp 53) (g11) (S2 := [[.int .u32 d.nx], [.slice x4.ao x4.no x4.co], [.int .i64 d.tn], [.int .u32 d.dl], [.slice x4.ah x4.nh x4.ch]]) (by kernel_rfl) rfl (by kernel_rfl) (by kernel_rfl) hB 4 rfl NC (nC  _ _ _ _ _) (nC  _ _ _ _ _) (by kernel_rfl) (oC  rfl rfl rfl rfl rfl) ?_
  intro u16 hB_ hbt_
  clear hB
  replace hB : Bl w [⟨w.heap.size, fl [[.int .u32 e.nx], [.slice x1.ao x1.no x1.co], [.int .i64 e.tn], [.int .u32 e.dl], [.slice x1.ah x1.nh x1.ch]], 26⟩, ⟨w.heap.size + 1, fl [[.int .u32 s.n], [.string t]], 47⟩, ⟨g7, fl [[.int .u32 e.nx], [.slice y.ao y.no y.co], [.int .i64 e.tn], [.int .u32 e.dl], [.slice y.ah y.nh y.ch]], 26⟩, ⟨g8, fl [[.int .u32 d.nx], [.slice x3.ao x3.no x3.co], [.int .i64 d.tn], [.int .u32 d.dl], [.slice x3.ah x3.nh x3.ch]], 26⟩, ⟨g11, fl [[.int .u32 d.nx], [.slice x4.ao x4.no x4.co], [.int .i64 d.tn], [.int .u32 d.dl], [.slice x4.ah x4.nh x4.ch]], 26⟩] u16 := hB_
  clear hB_
  replace hSe := hide ((unhide hSe).bz (unhide hzz_) hbt_)
  replace hY := hide ((unhide hY).bz (unhide hzz_) hbt_)
  replace hC1 := hide ((unhide hC1).bz (unhide hzz_) hbt_)
  replace hC3 := hide ((unhide hC3).bz (unhide hzz_) hbt_)
  replace hT3 := hide ((unhide hT3).bz (unhide hzz_) hbt_)
  replace hbs := hide ((unhide hbs).bz (unhide hzz_) hbt_)
  replace hC4 := hide ((unhide hC4).bz (unhide hzz_) hbt_)
  replace hT4 := hide ((unhide hT4).bz (unhide hzz_) hbt_)
  clear hbt_ hzz_
  simp only [nrm]
  (refine wpList_step fun K hK => ?_; replace hK := hide hK; go_simp; refine unhide hK _ _ ?_; clear hK K)
  (refine wpList_step fun K hK => ?_; replace hK := hide hK; go_simp; refine unhide hK _ _ ?_; clear hK K)
  refine wpList_nil ?_
  replace hB := hide hB
  go_upto_region 10 with fail
  replace hB := unhide hB
  refine wp_region_lit ?_
  refine wpList_gen fun ops_ hops => ?_
  replace hops := hide hops
  refine list_val (.int .i64 er) (by rw [unhide hops]; kernel_rfl) (by kernel_rfl) ?_
  simp only [nrm]
  refine list_val (.int .i64 er) (by rw [unhide hops]; kernel_rfl) (by kernel_rfl) ?_
  simp only [nrm]
  refine list_val (.bool false) (by rw [unhide hops]; kernel_rfl) (neq_e _ (.tmp 56) (.tmp 57) er er false rfl (by kernel_rfl) (by kernel_rfl) (by simp)) ?_
  simp only [nrm]
  refine list_val (.bool false) (by rw [unhide hops]; kernel_rfl) (by kernel_rfl) ?_
  simp only [nrm]
  refine list_val (.agg (fl [[.int .u32 d.nx], [.slice x4.ao x4.no x4.co], [.int .i64 d.tn], [.int .u32 d.dl], [.slice x4.ah x4.nh x4.ch]])) (by rw [unhide hops]; kernel_rfl) (exec_sw _ 26 (.tmp 11) rfl (g11) (by kernel_rfl) (hB.get 4 (x := ⟨g11, fl [[.int .u32 d.nx], [.slice x4.ao x4.no x4.co], [.int .i64 d.tn], [.int .u32 d.dl], [.slice x4.ah x4.nh x4.ch]], 26⟩) rfl) NC (nC  _ _ _ _ _) Try.underlying26 rfl (by kernel_rfl)) ?_
  simp only [nrm]
  refine list_val (.agg (fl [[.int .u32 d.nx], [.slice x3.ao x3.no x3.co], [.int .i64 d.tn], [.int .u32 d.dl], [.slice x3.ah x3.nh x3.ch]])) (by rw [unhide hops]; kernel_rfl) (exec_sw _ 26 (.tmp 8) rfl (g8) (by kernel_rfl) (hB.get 3 (x := ⟨g8, fl [[.int .u32 d.nx], [.slice x3.ao x3.no x3.co], [.int .i64 d.tn], [.int .u32 d.dl], [.slice x3.ah x3.nh x3.ch]], 26⟩) rfl) NC (nC  _ _ _ _ _) Try.underlying26 rfl (by kernel_rfl)) ?_
  simp only [nrm]
  refine list_call 16 #[.agg (fl [[.int .u32 d.nx], [.slice x4.ao x4.no x4.co], [.int .i64 d.tn], [.int .u32 d.dl], [.slice x4.ah x4.nh x4.ch]]), .agg (fl [[.int .u32 d.nx], [.slice x3.ao x3.no x3.co], [.int .i64 d.tn], [.int .u32 d.dl], [.slice x3.ah x3.nh x3.ch]])] (by rw [unhide hops]; kernel_rfl) (by kernel_rfl) (((show Calls Try.prog 16 #[.agg (fl [[.int .u32 d.nx], [.slice x4.ao x4.no x4.co], [.int .i64 d.tn], [.int .u32 d.dl], [.slice x4.ah x4.nh x4.ch]]), .agg (fl [[.int .u32 d.nx], [.slice x3.ao x3.no x3.co], [.int .i64 d.tn], [.int .u32 d.dl], [.slice x3.ah x3.nh x3.ch]])] u16 (Vl (.bool true) u16) from by have h := rsame_ok d d x4 x3 u16 (unhide hC4).i (unhide hC3).i; rw [decide_eq_true rfl] at h; exact h)).mono ?_)
  rintro r_ u17 ⟨rfl, hg⟩
  replace hSe := hide ((unhide hSe).gr hg)
  replace hY := hide ((unhide hY).gr hg)
  replace hC1 := hide ((unhide hC1).gr hg)
  replace hC3 := hide ((unhide hC3).gr hg)
  replace hT3 := hide ((unhide hT3).gr hg)
  replace hbs := hide ((unhide hbs).gr hg)
  replace hC4 := hide ((unhide hC4).gr hg)
  replace hT4 := hide ((unhide hT4).gr hg)
  replace hB := hB.more hg
  clear hg
  refine ⟨_, rfl, ?_⟩
  simp only [nrm]
  refine list_val (.bool false) (by rw [unhide hops]; kernel_rfl) (by kernel_rfl) ?_
  simp only [nrm]
  refine list_val (.bool false) (by rw [unhide hops]; kernel_rfl) (by kernel_rfl) ?_
  simp only [nrm]
  refine list_val (.bool false) (by rw [unhide hops]; kernel_rfl) (by kernel_rfl) ?_
  simp only [nrm]
  refine list_val (.slice t4 TX.length c4) (by rw [unhide hops]; kernel_rfl) (by kernel_rfl) ?_
  simp only [nrm]
  refine list_val (.int .i64 (TX.length : Int)) (by rw [unhide hops]; kernel_rfl) (by kernel_rfl) ?_
  simp only [nrm]
  refine list_val (.slice t3 TX.length c3) (by rw [unhide hops]; kernel_rfl) (by kernel_rfl) ?_
  simp only [nrm]
  refine list_val (.int .i64 (TX.length : Int)) (by rw [unhide hops]; kernel_rfl) (by kernel_rfl) ?_
  simp only [nrm]
  refine list_val (.bool false) (by rw [unhide hops]; kernel_rfl) (neq_i _ (.tmp 67) (.tmp 69) (TX.length : Int) (TX.length : Int) false rfl (by kernel_rfl) (by kernel_rfl) (by simp)) ?_
  simp only [nrm]
  refine list_val (.bool false) (by rw [unhide hops]; kernel_rfl) (by kernel_rfl) ?_
  simp only [nrm]
  refine wpList_nil ?_
  replace hB := hide hB
  go_upto_region 12 with fail
  replace hB := unhide hB
  refine wp_region_lit ?_
  refine lvk (.slice t4 TX.length c4) ?_
  simp only [nrm]
  refine lvk (.int .i64 (TX.length : Int)) ?_
  simp only [nrm]
  refine lvk (.int .i64 0) ?_
  simp only [nrm]
  refine wpList_nil ?_
  clear hC3 hC1 hak hbq hi
  replace hB := hide hB
  go_wp2_with fail
  go_loopw [74] (fun i wr => ∃ j : Nat, j ≤ TX.length ∧ i = .int .i64 (j : Int) ∧ Hid (Bl w [⟨w.heap.size, fl [[.int .u32 e.nx], [.slice x1.ao x1.no x1.co], [.int .i64 e.tn], [.int .u32 e.dl], [.slice x1.ah x1.nh x1.ch]], 26⟩, ⟨w.heap.size + 1, fl [[.int .u32 s.n], [.string t]], 47⟩, ⟨g7, fl [[.int .u32 e.nx], [.slice y.ao y.no y.co], [.int .i64 e.tn], [.int .u32 e.dl], [.slice y.ah y.nh y.ch]], 26⟩, ⟨g8, fl [[.int .u32 d.nx], [.slice x3.ao x3.no x3.co], [.int .i64 d.tn], [.int .u32 d.dl], [.slice x3.ah x3.nh x3.ch]], 26⟩, ⟨g11, fl [[.int .u32 d.nx], [.slice x4.ao x4.no x4.co], [.int .i64 d.tn], [.int .u32 d.dl], [.slice x4.ah x4.nh x4.ch]], 26⟩] wr) ∧ Hid (Sh w.heap.size wr e x1) ∧ Hid (Co w.heap.size wr e y) ∧ Hid (Co b wr d x4) ∧ Hid (Bz b wr) ∧ Hid (Or_ 1 9 w.heap.size wr (.slice t3 TX.length c3) (TX.map tr1)) ∧ Hid (Or_ 1 9 w.heap.size wr (.slice t4 TX.length c4) (TX.map tr1))) (fun i _ => TX.length - (intOf i).toNat)
  case atStart => exact ⟨0, by omega, rfl, hB, hSe, hY, hC4, hbs, hT3, hT4⟩
  case round =>
  clear hB hSe hY hC4 hbs hT3 hT4
  obtain ⟨j, hj, rfl, hB, hSe, hY, hC4, hbs, hT3, hT4⟩ := hrel
  have hB := unhide hB
  have hcp := (or_slice (unhide hT3)).2.cap
  have hmx := (or_slice (unhide hT3)).2.max
  by_cases hlt : j < TX.length
  · have jI : (j : Int) < (TX.length : Int) := by omega
    obtain ⟨u, huj⟩ : ∃ u, TX[j]? = some u := ⟨_, List.getElem?_eq_getElem hlt⟩
    obtain ⟨p3, o3, ha3, hr3⟩ := tx_at (unhide hT3) j u huj
    obtain ⟨p4, o4, ha4, hr4⟩ := tx_at (unhide hT4) j u huj
    replace ha3 := hide ha3; replace ha4 := hide ha4; replace hr3 := hide hr3; replace hr4 := hide hr4
    clear huj
    have hG := hide (Gr.refl wr)
    replace hB := hide hB
    go_upto_region 14 with fail
    replace hB := unhide hB
    refine wp_region_lit ?_
    refine lvk (.int .i64 (j : Int)) ?_
    simp only [nrm]
    (refine wpList_step fun K hK => ?_; replace hK := hide hK; go_simp; refine unhide hK _ _ ?_; clear hK K)
    refine wpList_nil ?_
    replace hB := hide hB
    go_upto_region 15 with fail
    replace hB := unhide hB
    refine any_start (S := fun v_ => Gr wr v_) (by kernel_rfl) ?_
    replace hG := hide ((unhide hG).gr ((Gr.refl wr).drew))
    replace hSe := hide ((unhide hSe).gr ((Gr.refl wr).drew))
    replace hY := hide ((unhide hY).gr ((Gr.refl wr).drew))
    replace hC4 := hide ((unhide hC4).gr ((Gr.refl wr).drew))
    replace hbs := hide ((unhide hbs).gr ((Gr.refl wr).drew))
    replace hT3 := hide ((unhide hT3).gr ((Gr.refl wr).drew))
    replace hT4 := hide ((unhide hT4).gr ((Gr.refl wr).drew))
    replace hB := hB.drew
    generalize World.drew _ = u18 at *
    simp only [List.size_toArray, List.length_cons, List.length_nil, Array.replicate, List.replicate]
    have hS_ := hide (show (fun v_ => Gr wr v_) u18 from (unhide hG))
    refine any_tk 0 (.slice t4 TX.length c4) (tf 9 0) rfl (fun x_ hu => by kernel_rfl) (unhide hS_) ?_
    simp only [nrm]
    refine any_tk 1 (.int .i64 (j : Int)) (tf 9 1) rfl (fun x_ hu => by kernel_rfl) (unhide hS_) ?_
    simp only [nrm]
    refine any_tk 2 (.pointer (some ⟨p4, o4 + j, none⟩)) (tf 9 2) rfl (fun x_ hu => exec_isS _ (.tmp 77) (.tmp 78) rfl p4 o4 TX.length c4 j (by rw [← unhide ha4]; kernel_rfl) (by kernel_rfl) hlt) (unhide hS_) ?_
    simp only [nrm]
    refine any_tk 3 (.string u) (tf 9 3) rfl (fun x_ hu => exec_cst _ (.tmp 79) rfl p4 (o4 + j) (by kernel_rfl) u (hu.cell (unhide hr4))) (unhide hS_) ?_
    simp only [nrm]
    refine any_tk 4 (.slice t3 TX.length c3) (tf 9 4) rfl (fun x_ hu => by kernel_rfl) (unhide hS_) ?_
    simp only [nrm]
    refine any_tk 5 (.int .i64 (j : Int)) (tf 9 5) rfl (fun x_ hu => by kernel_rfl) (unhide hS_) ?_
    simp only [nrm]
    refine any_tk 6 (.pointer (some ⟨p3, o3 + j, none⟩)) (tf 9 6) rfl (fun x_ hu => exec_isS _ (.tmp 81) (.tmp 82) rfl p3 o3 TX.length c3 j (by rw [← unhide ha3]; kernel_rfl) (by kernel_rfl) hlt) (unhide hS_) ?_
    simp only [nrm]
    refine any_tk 7 (.string u) (tf 9 7) rfl (fun x_ hu => exec_cst _ (.tmp 83) rfl p3 (o3 + j) (by kernel_rfl) u (hu.cell (unhide hr3))) (unhide hS_) ?_
    simp only [nrm]
    refine any_tk 8 (.bool false) (tf 9 8) rfl (fun x_ hu => exec_neS _ (.tmp 80) (.tmp 84) rfl u (by kernel_rfl) (by kernel_rfl)) (unhide hS_) ?_
    simp only [nrm]
    refine any_done (by kernel_rfl) ?_
    clear hS_
    have jw : IntKind.i64.wrap ((j : Int) + 1) = (j : Int) + 1 := by rw [IntKind.wrap_i64]; omega
    replace hB := hide hB
    clear ha3 ha4 hr3 hr4 hG
    go_wp2_with fail
    go_roundw
    case rel => exact ⟨j + 1, by omega, by simp, hB, hSe, hY, hC4, hbs, hT3, hT4⟩
    case measure => simp [intOf]; omega
  · have jI : ¬ (j : Int) < (TX.length : Int) := by omega
    clear hT3 hT4
    replace hB := hide hB
    go_upto_region 18 with fail
    replace hB := unhide hB
    replace hB := hB.sub (M := [⟨w.heap.size, fl [[.int .u32 e.nx], [.slice x1.ao x1.no x1.co], [.int .i64 e.tn], [.int .u32 e.dl], [.slice x1.ah x1.nh x1.ch]], 26⟩, ⟨g7, fl [[.int .u32 e.nx], [.slice y.ao y.no y.co], [.int .i64 e.tn], [.int .u32 e.dl], [.slice y.ah y.nh y.ch]], 26⟩, ⟨g8, fl [[.int .u32 d.nx], [.slice x3.ao x3.no x3.co], [.int .i64 d.tn], [.int .u32 d.dl], [.slice x3.ah x3.nh x3.ch]], 26⟩, ⟨g11, fl [[.int .u32 d.nx], [.slice x4.ao x4.no x4.co], [.int .i64 d.tn], [.int .u32 d.dl], [.slice x4.ah x4.nh x4.ch]], 26⟩]) (((List.Sublist.refl _).cons _).cons_cons _)
    replace hB := hide hB
    go_upto_region 18 with fail
    replace hB := unhide hB
    refine wp_region_lit ?_
    refine list_val (.agg (fl [[.int .u32 d.nx], [.slice x4.ao x4.no x4.co], [.int .i64 d.tn], [.int .u32 d.dl], [.slice x4.ah x4.nh x4.ch]])) (by kernel_rfl) (exec_sw _ 26 (.tmp 11) rfl (g11) (by kernel_rfl) (hB.get 3 (x := ⟨g11, fl [[.int .u32 d.nx], [.slice x4.ao x4.no x4.co], [.int .i64 d.tn], [.int .u32 d.dl], [.slice x4.ah x4.nh x4.ch]], 26⟩) rfl) NC (nC  _ _ _ _ _) Try.underlying26 rfl (by kernel_rfl)) ?_
    simp only [nrm]
    refine list_call 17 #[.agg (fl [[.int .u32 d.nx], [.slice x4.ao x4.no x4.co], [.int .i64 d.tn], [.int .u32 d.dl], [.slice x4.ah x4.nh x4.ch]])] (by kernel_rfl) (by kernel_rfl) ((spoil_ok d x4 b wr (unhide hbs) (unhide hC4).i (unhide hC4).o).mono ?_)
    rintro r_ u19 ⟨rfl, hsp⟩
    replace hB := hB.sp hsp (unhide hbw) (by intro y_ hy_; simp only [List.mem_cons, List.not_mem_nil, or_false] at hy_; rcases hy_ with rfl | rfl | rfl | rfl <;> (dsimp only; decide))
    clear hC4
    replace hSe := hide ((unhide hSe).sp hsp (unhide hlSb))
    replace hY := hide ((unhide hY).sp hsp (unhide hlYb))
    clear hsp
    refine ⟨_, rfl, ?_⟩
    simp only [nrm]
    refine wpList_nil ?_
    replace hB := hide hB
    go_upto_region 19 with fail
    replace hB := unhide hB
    refine wp_region_lit ?_
    refine list_val (.agg (fl [[.int .u32 e.nx], [.slice x1.ao x1.no x1.co], [.int .i64 e.tn], [.int .u32 e.dl], [.slice x1.ah x1.nh x1.ch]])) (by kernel_rfl) (exec_sw _ 26 (.tmp 3) rfl (w.heap.size) (by kernel_rfl) (hB.get 0 (x := ⟨w.heap.size, fl [[.int .u32 e.nx], [.slice x1.ao x1.no x1.co], [.int .i64 e.tn], [.int .u32 e.dl], [.slice x1.ah x1.nh x1.ch]], 26⟩) rfl) NC (nC  _ _ _ _ _) Try.underlying26 rfl (by kernel_rfl)) ?_
    simp only [nrm]
    refine list_val (.agg (fl [[.int .u32 e.nx], [.slice y.ao y.no y.co], [.int .i64 e.tn], [.int .u32 e.dl], [.slice y.ah y.nh y.ch]])) (by kernel_rfl) (exec_sw _ 26 (.tmp 7) rfl (g7) (by kernel_rfl) (hB.get 1 (x := ⟨g7, fl [[.int .u32 e.nx], [.slice y.ao y.no y.co], [.int .i64 e.tn], [.int .u32 e.dl], [.slice y.ah y.nh y.ch]], 26⟩) rfl) NC (nC  _ _ _ _ _) Try.underlying26 rfl (by kernel_rfl)) ?_
    simp only [nrm]
    refine list_call 18 #[.agg (fl [[.int .u32 e.nx], [.slice x1.ao x1.no x1.co], [.int .i64 e.tn], [.int .u32 e.dl], [.slice x1.ah x1.nh x1.ch]]), .agg (fl [[.int .u32 e.nx], [.slice y.ao y.no y.co], [.int .i64 e.tn], [.int .u32 e.dl], [.slice y.ah y.nh y.ch]])] (by kernel_rfl) (by kernel_rfl) ((whole_ok e x1 y w.heap.size u19 (unhide hSe) (unhide hnm) (unhide hY).i).mono ?_)
    rintro r_ u20 ⟨rfl, hg⟩
    replace hSe := hide ((unhide hSe).gr hg)
    replace hY := hide ((unhide hY).gr hg)
    replace hB := hB.more hg
    clear hg
    refine ⟨_, rfl, ?_⟩
    simp only [nrm]
    (refine wpList_step fun K hK => ?_; replace hK := hide hK; go_simp; refine unhide hK _ _ ?_; clear hK K)
    refine wpList_nil ?_
    replace hB := hide hB
    go_wp2_with fail
    replace hB := unhide hB
    rw [unhide hT]
    exact (⟨rfl, hB.gr⟩)
end Go.Proofs.Ytcefkkoombmndaa
