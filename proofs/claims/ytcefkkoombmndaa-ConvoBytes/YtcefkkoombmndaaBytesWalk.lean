/-
  ConvoBytes.
-/
import Derived.Test.YtcefkkoombmndaaUP
import Derived.Test.YtcefkkoombmndaaPK
namespace Go.Proofs.Ytcefkkoombmndaa
open Go.RowKit
set_option maxRecDepth 100000
set_option linter.unusedSimpArgs false
set_option linter.unusedVariables false
theorem Lb.take {w : World} {a : Option Addr} {n c : Nat} {L : List Int} (h : Lb w a n c L) (m : Nat) (hm : m ≤ n) : Lb w a m c (L.take m) :=
  ⟨by have := h.len; rw [List.length_take]; omega, fun x hx => h.isB x (List.mem_of_mem_take hx), h.sl.take m, by have := h.cap; omega, h.max⟩
theorem exec_b0b {a : Act} {o : Oper} (w : World) (ho : o.op = .buildSlice 53 0 #[]) :
    (execOp a.eval o).run Try.prog w = .ok (.value (.slice (some ⟨w.heap.size, 0, none⟩) 0 0)) (w.alloc (.cells #[] 5 (0, 0))) := by
  unfold execOp
  simp only [ho, List.map_toArray, List.map_nil]
  kernel_rfl
theorem ob_mt {b g : Nat} {w : World} (h : w.heap[g]? = some (.cells #[] 5 (0, 0))) (hb : b ≤ g) : Ob b w (.slice (some ⟨g, 0, none⟩) 0 0) [] := (or_mt (k := 1) h hb).2
theorem lz_gbb {k b : Nat} {e : TypeId} {w v : World} {a : Option Addr} {n c : Nat} {R : List (List Value)} (h : Lz k w a n c R) {d : Nat} (ho : Ow k e d w a n) {k2 : Nat} {e2 : TypeId} {x : Value} {R2 : List (List Value)} (h2 : Or_ k2 e2 b w x R2) (g : w.grownBy v x.ownBlock) (hne : e ≠ e2) : Lz k v a n c R ∧ Ow k e d v a n := by
  rcases ho with h0 | ⟨q, o, C, rfl, h3, h4, h5⟩
  · exact ⟨⟨h.len, h.row, .inl (List.eq_nil_of_length_eq_zero (by rw [h.len, h0])), h.cap, h.max⟩, .inl h0⟩
  · have hb : v.heap[q]? = w.heap[q]? := g.block q (lt_of_block h4) (fun e1 => by
      rcases h2.2.2 with ⟨e3, _⟩ | ⟨q2, cap, cur, e3, _, h6, _⟩
      · rw [e3] at e1; cases e1
      · rw [e3] at e1
        injection e1 with e1
        dsimp only at e1
        rw [e1, h6] at h4
        injection h4 with h4
        injection h4 with _ h4 _
        exact hne h4.symm)
    refine ⟨⟨h.len, h.row, ?_, h.cap, h.max⟩, .inr ⟨q, o, C, rfl, h3, by rw [hb]; exact h4, h5⟩⟩
    rcases h.sl with h6 | ⟨p, o2, h6, h7⟩
    · exact .inl h6
    · injection h6 with h6
      injection h6 with h6 h8
      subst h6 h8
      exact .inr ⟨_, _, rfl, fun j x hj => by rw [cell_heap hb]; exact h7 j x hj⟩
theorem Rm.gb {k : Nat} {e : TypeId} {b d : Nat} {w v : World} {a : Option Addr} {n c : Nat} {R : List (List Value)} {z : List Value} (h : Rm k e b w a n c R z) {x : Value} {B : List Int} (ho : Ob d w x B) (g : w.grownBy v x.ownBlock) (hne : e ≠ 5) : Rm k e b v a n c R z := by
  obtain ⟨q, h1, h2⟩ := h
  exact ⟨q, h1, or_grown h2 (ob_or ho) g hne⟩
theorem Sh.gb {b d : Nat} {w v : World} {c : Cm} {x : Lc} (h : Sh b w c x) {y : Value} {B : List Int} (ho : Ob d w y B) (g : w.grownBy v y.ownBlock) : Sh b v c x := ⟨h.o.gb ho g (by decide), h.h.gb ho g (by decide)⟩
theorem Co.gb {b d : Nat} {w v : World} {c : Cm} {x : Lc} (h : Co b w c x) {y : Value} {B : List Int} (ho : Ob d w y B) (g : w.grownBy v y.ownBlock) : Co b v c x := by
  have h1 := lz_gbb h.i.o.2 h.o.o (ob_or ho) g (by decide)
  have h2 := lz_gbb h.i.h.2 h.o.h (ob_or ho) g (by decide)
  exact ⟨⟨⟨h.i.o.1, h1.1⟩, ⟨h.i.h.1, h2.1⟩, h.i.nx, h.i.tn, h.i.dl⟩, ⟨h1.2, h2.2⟩⟩
set_option maxHeartbeats 4000000 in
theorem bytes_law (c : Cm) (x : Lc) (l : List Int) (s : Option Addr) (n cp : Nat) (w : World) (hc : Cin w c x) (hb : Lb w s n cp l) : Calls Try.prog 6 #[.agg (fl [[.int .u32 c.nx], [.slice x.ao x.no x.co], [.int .i64 c.tn], [.int .u32 c.dl], [.slice x.ah x.nh x.ch]]), .slice s n cp] w (Vl (.bool true) w) := by
  obtain ⟨T, hT⟩ : ∃ T : Ending → World → Prop, T = (Vl (.bool true) w) := ⟨_, rfl⟩
  rw [← hT]
  replace hT := hide hT
  have hcp := hb.cap
  have hmx := hb.max
  replace hc := hide hc; replace hb := hide hb
  obtain ⟨A0_, hA0_⟩ : ∃ S_, S_ = fl [[.int .u32 c.nx], [.slice x.ao x.no x.co], [.int .i64 c.tn], [.int .u32 c.dl], [.slice x.ah x.nh x.ch]] := ⟨_, rfl⟩
  rw [← hA0_]
  replace hA0_ := hide hA0_
  go_enter Try.func6, Try.ntmps6
  go_upto_region 1 with fail
  have hB := ((Bl.nil w).new A0_ 26)
  simp only [size_alloc, List.nil_append, List.cons_append] at hB
  rw [unhide hA0_] at hB
  generalize hu_ : World.alloc _ _ = u0
  replace hB : Bl w [⟨w.heap.size, fl [[.int .u32 c.nx], [.slice x.ao x.no x.co], [.int .i64 c.tn], [.int .u32 c.dl], [.slice x.ah x.nh x.ch]], 26⟩] u0 := by
    rw [← hu_]
    rw [unhide hA0_]
    exact hB
  clear hu_ hA0_
  refine wp_region_lit ?_
  refine list_call 9 #[] (by kernel_rfl) (by kernel_rfl) ((wakes_ok u0).mono ?_)
  rintro r_ u1 ⟨rfl, hg⟩
  replace hB := hB.more hg
  clear hg
  refine ⟨_, rfl, ?_⟩
  simp only [nrm]
  refine lvk (.bool false) ?_
  simp only [nrm]
  refine wpList_nil ?_
  obtain ⟨e, he⟩ : ∃ e, e = ct c := ⟨_, rfl⟩
  have hnm := (unhide hc).nums.ct
  have e8o := ct_o c
  have e8h := ct_h c
  rw [← he] at hnm e8o e8h
  replace he := hide he; replace hnm := hide hnm
  obtain ⟨m, hm⟩ : ∃ m, m = min n 700 := ⟨_, rfl⟩
  have hmI : min (n : Int) 700 = (m : Int) := by omega
  have hmn : m ≤ n := by omega
  have hm7 : m ≤ 700 := by omega
  clear hm
  obtain ⟨B, hB9⟩ : ∃ B, B = l.take m := ⟨_, rfl⟩
  have hbB : Hid (Lb w s m cp B) := hide (by rw [hB9]; exact (unhide hb).take m hmn)
  clear hB9
  replace hmI := hide hmI
  replace hB := hide hB
  go_upto_region 3 with fail
  replace hB := unhide hB
  refine anyC_start 7 (fun v_ => v_.heap[w.heap.size]? = some (.cells (fl [[.int .u32 c.nx], [.slice x.ao x.no x.co], [.int .i64 c.tn], [.int .u32 c.dl], [.slice x.ah x.nh x.ch]]) 26 (0, 0))) (by kernel_rfl) ?_
  replace hB := hB.drew
  generalize World.drew _ = u2 at *
  simp only [List.size_toArray, List.length_cons, List.length_nil, Array.replicate, List.replicate]
  refine anyC_take (i := 0) (v := (.agg (fl [[.int .u32 c.nx], [.slice x.ao x.no x.co], [.int .i64 c.tn], [.int .u32 c.dl], [.slice x.ah x.nh x.ch]]))) (fun v_ => v_.heap[w.heap.size]? = some (.cells (fl [[.int .u32 c.nx], [.slice x.ao x.no x.co], [.int .i64 c.tn], [.int .u32 c.dl], [.slice x.ah x.nh x.ch]]) 26 (0, 0))) (fun _ h_ => h_) (.inr (by kernel_rfl)) rfl (by kernel_rfl) (by kernel_rfl) (by kernel_rfl) (by decide) (by kernel_rfl) (by decide) (fun _ _ _ h => h) (.inl ⟨by kernel_rfl, fun x_ hu => exec_sw _ 26 (.tmp 2) rfl (w.heap.size) (by kernel_rfl) hu NC (nC  _ _ _ _ _) Try.underlying26 rfl (by kernel_rfl)⟩) (hB.get 0 (x := ⟨w.heap.size, fl [[.int .u32 c.nx], [.slice x.ao x.no x.co], [.int .i64 c.tn], [.int .u32 c.dl], [.slice x.ah x.nh x.ch]], 26⟩) rfl) ?_
  simp only [nrm]
  refine anyC_take (i := 2) (v := (.slice s n cp)) (fun _ => True) (fun _ _ => trivial) (.inl (fun _ => trivial)) rfl (by kernel_rfl) (by kernel_rfl) (by kernel_rfl) (by decide) (by kernel_rfl) (by decide) (fun _ _ _ h => h) (.inl ⟨by kernel_rfl, fun x_ hu => by kernel_rfl⟩) (hB.get 0 (x := ⟨w.heap.size, fl [[.int .u32 c.nx], [.slice x.ao x.no x.co], [.int .i64 c.tn], [.int .u32 c.dl], [.slice x.ah x.nh x.ch]], 26⟩) rfl) ?_
  simp only [nrm]
  refine anyC_take (i := 3) (v := (.slice s n cp)) (fun _ => True) (fun _ _ => trivial) (.inl (fun _ => trivial)) rfl (by kernel_rfl) (by kernel_rfl) (by kernel_rfl) (by decide) (by kernel_rfl) (by decide) (fun _ _ _ h => h) (.inl ⟨by kernel_rfl, fun x_ hu => by kernel_rfl⟩) (hB.get 0 (x := ⟨w.heap.size, fl [[.int .u32 c.nx], [.slice x.ao x.no x.co], [.int .i64 c.tn], [.int .u32 c.dl], [.slice x.ah x.nh x.ch]], 26⟩) rfl) ?_
  simp only [nrm]
  refine anyC_take (i := 4) (v := (.int .i64 (n : Int))) (fun _ => True) (fun _ _ => trivial) (.inl (fun _ => trivial)) rfl (by kernel_rfl) (by kernel_rfl) (by kernel_rfl) (by decide) (by kernel_rfl) (by decide) (fun _ _ _ h => h) (.inl ⟨by kernel_rfl, fun x_ hu => by kernel_rfl⟩) (hB.get 0 (x := ⟨w.heap.size, fl [[.int .u32 c.nx], [.slice x.ao x.no x.co], [.int .i64 c.tn], [.int .u32 c.dl], [.slice x.ah x.nh x.ch]], 26⟩) rfl) ?_
  simp only [nrm]
  refine anyC_take (i := 5) (v := (.int .i64 (m : Int))) (fun _ => True) (fun _ _ => trivial) (.inl (fun _ => trivial)) rfl (by kernel_rfl) (by kernel_rfl) (by kernel_rfl) (by decide) (by kernel_rfl) (by decide) (fun _ _ _ h => h) (.inl ⟨by kernel_rfl, fun x_ hu => min_i _ (.tmp 18) (.const (.int .i64 700)) (n : Int) 700 rfl (by kernel_rfl) rfl (m : Int) (unhide hmI)⟩) (hB.get 0 (x := ⟨w.heap.size, fl [[.int .u32 c.nx], [.slice x.ao x.no x.co], [.int .i64 c.tn], [.int .u32 c.dl], [.slice x.ah x.nh x.ch]], 26⟩) rfl) ?_
  simp only [nrm]
  refine anyC_take (i := 6) (v := (.slice s m cp)) (fun _ => True) (fun _ _ => trivial) (.inl (fun _ => trivial)) rfl (by kernel_rfl) (by kernel_rfl) (by kernel_rfl) (by decide) (by kernel_rfl) (by decide) (fun _ _ _ h => h) (.inl ⟨by kernel_rfl, fun x_ hu => exec_up8 _ (.tmp 16) (.tmp 19) rfl s n cp m (by kernel_rfl) (by kernel_rfl) hcp hmn⟩) (hB.get 0 (x := ⟨w.heap.size, fl [[.int .u32 c.nx], [.slice x.ao x.no x.co], [.int .i64 c.tn], [.int .u32 c.dl], [.slice x.ah x.nh x.ch]], 26⟩) rfl) ?_
  simp only [nrm]
  refine anyC_one (i := 1) (by kernel_rfl) rfl (fun K hK => ?_)
  refine step_callw (by kernel_rfl) 10 #[.agg (fl [[.int .u32 c.nx], [.slice x.ao x.no x.co], [.int .i64 c.tn], [.int .u32 c.dl], [.slice x.ah x.nh x.ch]])] (by kernel_rfl) ((show Calls Try.prog 10 #[.agg (fl [[.int .u32 c.nx], [.slice x.ao x.no x.co], [.int .i64 c.tn], [.int .u32 c.dl], [.slice x.ah x.nh x.ch]])] u2 (fun r w' => ∃ x', r = .returned (.agg (fl (cvs e x'))) ∧ Sh w.heap.size w' e x' ∧ Gr u2 w') from by have h := short_ok c x u2 ((unhide hc).gr hB.gr); rw [← unhide he] at h; exact h.mono fun r w' h9 => (by obtain ⟨x', h1, h2, h3⟩ := h9; exact ⟨x', h1, h2.base hB.gr.size, h3⟩)).mono ?_)
  rintro r u3 ⟨x1, rfl, hSe, hg⟩
  refine ⟨_, rfl, ?_⟩
  have hC1 := hide (hSe.co (unhide hnm))
  replace hSe := hide hSe
  replace hB := hB.more hg
  clear hg
  refine hK.out _ _ (hB.get 0 (x := ⟨w.heap.size, fl [[.int .u32 c.nx], [.slice x.ao x.no x.co], [.int .i64 c.tn], [.int .u32 c.dl], [.slice x.ah x.nh x.ch]], 26⟩) rfl) (fun _ => ?_)
  clear hK K
  simp only [nrm]
  refine anyC_last (by kernel_rfl) rfl (fun K hK => ?_)
  have hzz_ : Hid (u3.heap[w.heap.size]? = some (.cells (fl [[.int .u32 c.nx], [.slice x.ao x.no x.co], [.int .i64 c.tn], [.int .u32 c.dl], [.slice x.ah x.nh x.ch]]) 26 (0, 0))) := hide (hB.get 0 (x := ⟨w.heap.size, fl [[.int .u32 c.nx], [.slice x.ao x.no x.co], [.int .i64 c.tn], [.int .u32 c.dl], [.slice x.ah x.nh x.ch]], 26⟩) rfl)
  refine step_all 26 (.tmp 2) (.tmp 15) (w.heap.size) (S2 := [[.int .u32 e.nx], [.slice x1.ao x1.no x1.co], [.int .i64 e.tn], [.int .u32 e.dl], [.slice x1.ah x1.nh x1.ch]]) (by kernel_rfl) rfl (by kernel_rfl) (by kernel_rfl) hB 0 rfl NC (nC  _ _ _ _ _) (nC  _ _ _ _ _) (by kernel_rfl) (oC  rfl rfl rfl rfl rfl) ?_
  intro u4 hB_ hbt_
  clear hB
  replace hB : Bl w [⟨w.heap.size, fl [[.int .u32 e.nx], [.slice x1.ao x1.no x1.co], [.int .i64 e.tn], [.int .u32 e.dl], [.slice x1.ah x1.nh x1.ch]], 26⟩] u4 := hB_
  clear hB_
  replace hSe := hide ((unhide hSe).bz (unhide hzz_) hbt_)
  replace hC1 := hide ((unhide hC1).bz (unhide hzz_) hbt_)
  clear hbt_ hzz_
  refine hK.out _ _ ?_
  clear hK K
  simp only [nrm]
  refine any_one (i := 8) (by kernel_rfl) rfl (fun K hK => ?_)
  replace hK := hide hK
  go_simp
  refine (unhide hK).out _ _ trivial (fun _ => ?_)
  clear hK K
  refine any_done (by kernel_rfl) ?_
  replace hB := hide hB
  go_upto_region 4 with fail
  replace hB := unhide hB
  refine wp_region_lit ?_
  refine list_val (.agg (fl [[.int .u32 e.nx], [.slice x1.ao x1.no x1.co], [.int .i64 e.tn], [.int .u32 e.dl], [.slice x1.ah x1.nh x1.ch]])) (by kernel_rfl) (exec_sw _ 26 (.tmp 2) rfl (w.heap.size) (by kernel_rfl) (hB.get 0 (x := ⟨w.heap.size, fl [[.int .u32 e.nx], [.slice x1.ao x1.no x1.co], [.int .i64 e.tn], [.int .u32 e.dl], [.slice x1.ah x1.nh x1.ch]], 26⟩) rfl) NC (nC  _ _ _ _ _) Try.underlying26 rfl (by kernel_rfl)) ?_
  simp only [nrm]
  refine list_call 11 #[.agg (fl [[.int .u32 e.nx], [.slice x1.ao x1.no x1.co], [.int .i64 e.tn], [.int .u32 e.dl], [.slice x1.ah x1.nh x1.ch]])] (by kernel_rfl) (by kernel_rfl) (((show Calls Try.prog 11 #[.agg (fl [[.int .u32 e.nx], [.slice x1.ao x1.no x1.co], [.int .i64 e.tn], [.int .u32 e.dl], [.slice x1.ah x1.nh x1.ch]])] u4 (fun r w' => ∃ x', r = .returned (.agg (fl (cvs e x'))) ∧ Co w.heap.size w' e x' ∧ Gr u4 w') from (rcopy_ok e x1 u4 (unhide hC1).i (by have := (unhide hC1).i.o.len; omega) (by have := (unhide hC1).i.h.len; omega)).mono fun r w' h9 => (by obtain ⟨x', h1, h2, _, _, h3⟩ := h9; exact ⟨x', h1, ⟨h2.cin (unhide hnm), h2.owx.base hB.gr.size⟩, h3⟩))).mono ?_)
  rintro r_ u5 ⟨y, rfl, hY, hg⟩
  replace hSe := hide ((unhide hSe).gr hg)
  replace hC1 := hide ((unhide hC1).gr hg)
  replace hB := hB.more hg
  clear hg
  replace hY := hide hY
  refine ⟨_, rfl, ?_⟩
  simp only [nrm]
  refine list_valw (.pointer (some ⟨u5.heap.size, 0, none⟩)) (u5.alloc (.cells (fl [[.int .u32 0], [.slice none 0 0], [.int .i64 0], [.int .u32 0], [.slice none 0 0]]) 26 (0, 0))) (by kernel_rfl) (by kernel_rfl) ?_
  replace hB := hB.new (fl [[.int .u32 0], [.slice none 0 0], [.int .i64 0], [.int .u32 0], [.slice none 0 0]]) 26
  simp only [List.nil_append, List.cons_append] at hB
  have hg := (Gr.refl u5).alloc (.cells (fl [[.int .u32 0], [.slice none 0 0], [.int .i64 0], [.int .u32 0], [.slice none 0 0]]) 26 (0, 0))
  replace hSe := hide ((unhide hSe).gr hg)
  replace hC1 := hide ((unhide hC1).gr hg)
  replace hY := hide ((unhide hY).gr hg)
  clear hg
  generalize World.alloc _ _ = u6 at *
  generalize u5.heap.size = g5 at *
  simp only [nrm]
  have hzz_ : Hid (u6.heap[g5]? = some (.cells (fl [[.int .u32 0], [.slice none 0 0], [.int .i64 0], [.int .u32 0], [.slice none 0 0]]) 26 (0, 0))) := hide (hB.get 1 (x := ⟨g5, fl [[.int .u32 0], [.slice none 0 0], [.int .i64 0], [.int .u32 0], [.slice none 0 0]], 26⟩) rfl)
  refine list_all 26 (.tmp 5) (.tmp 22) (g5) (S2 := [[.int .u32 e.nx], [.slice y.ao y.no y.co], [.int .i64 e.tn], [.int .u32 e.dl], [.slice y.ah y.nh y.ch]]) (by kernel_rfl) rfl (by kernel_rfl) (by kernel_rfl) hB 1 rfl NC (nC  _ _ _ _ _) (nC  _ _ _ _ _) (by kernel_rfl) (oC  rfl rfl rfl rfl rfl) ?_
  intro u7 hB_ hbt_
  clear hB
  replace hB : Bl w [⟨w.heap.size, fl [[.int .u32 e.nx], [.slice x1.ao x1.no x1.co], [.int .i64 e.tn], [.int .u32 e.dl], [.slice x1.ah x1.nh x1.ch]], 26⟩, ⟨g5, fl [[.int .u32 e.nx], [.slice y.ao y.no y.co], [.int .i64 e.tn], [.int .u32 e.dl], [.slice y.ah y.nh y.ch]], 26⟩] u7 := hB_
  clear hB_
  replace hSe := hide ((unhide hSe).bz (unhide hzz_) hbt_)
  replace hC1 := hide ((unhide hC1).bz (unhide hzz_) hbt_)
  replace hY := hide ((unhide hY).bz (unhide hzz_) hbt_)
  clear hbt_ hzz_
  simp only [nrm]
  refine wpList_nil ?_
  obtain ⟨P, hP⟩ : ∃ P, P = (if rt e = true then putL e else []) := ⟨_, rfl⟩
  obtain ⟨d, hd⟩ : ∃ d, d = (gtM B).1 := ⟨_, rfl⟩
  obtain ⟨er, her⟩ : ∃ er, er = (gtM B).2 := ⟨_, rfl⟩
  replace hP := hide hP; replace hd := hide hd; replace her := hide her
  have hBl := (unhide hbB).len
  have hBB := hide (unhide hbB).isB
  cases h1 : rt e with
  | false =>
    replace h1 := hide h1
    replace hB := hide hB
    go_upto_region 5 with fail
    replace hB := unhide hB
    refine wp_region_lit ?_
    refine list_val (.agg (fl [[.int .u32 e.nx], [.slice x1.ao x1.no x1.co], [.int .i64 e.tn], [.int .u32 e.dl], [.slice x1.ah x1.nh x1.ch]])) (by kernel_rfl) (exec_sw _ 26 (.tmp 2) rfl (w.heap.size) (by kernel_rfl) (hB.get 0 (x := ⟨w.heap.size, fl [[.int .u32 e.nx], [.slice x1.ao x1.no x1.co], [.int .i64 e.tn], [.int .u32 e.dl], [.slice x1.ah x1.nh x1.ch]], 26⟩) rfl) NC (nC  _ _ _ _ _) Try.underlying26 rfl (by kernel_rfl)) ?_
    simp only [nrm]
    refine list_call 27 #[.agg (fl [[.int .u32 e.nx], [.slice x1.ao x1.no x1.co], [.int .i64 e.tn], [.int .u32 e.dl], [.slice x1.ah x1.nh x1.ch]])] (by kernel_rfl) (by kernel_rfl) (((show Calls Try.prog 27 #[.agg (fl [[.int .u32 e.nx], [.slice x1.ao x1.no x1.co], [.int .i64 e.tn], [.int .u32 e.dl], [.slice x1.ah x1.nh x1.ch]])] u7 (fun r w' => ∃ v, r = .returned (.tuple #[v, .int .i64 281]) ∧ Ob w.heap.size w' v P ∧ Gr u7 w') from by have h := cput_ok e x1 u7 (unhide hC1).i; rw [← unhide hP] at h; exact h.mono fun r w' h9 => (by obtain ⟨v, q1, q3, q4⟩ := h9; exact ⟨v, by rw [q1, unhide h1]; rfl, ob_base q3 hB.gr.size, q4⟩))).mono ?_)
    rintro r_ u8 ⟨v1, rfl, hO, hg⟩
    replace hSe := hide ((unhide hSe).gr hg)
    replace hC1 := hide ((unhide hC1).gr hg)
    replace hY := hide ((unhide hY).gr hg)
    replace hB := hB.more hg
    clear hg
    replace hO := hide hO
    refine ⟨_, rfl, ?_⟩
    simp only [nrm]
    refine lvk (.tuple #[v1, .int .i64 281]) ?_
    simp only [nrm]
    refine lvk (v1) ?_
    simp only [nrm]
    refine lvk (.int .i64 281) ?_
    simp only [nrm]
    (refine wpList_step fun K hK => ?_; replace hK := hide hK; go_simp; refine unhide hK _ _ ?_; clear hK K)
    (refine wpList_step fun K hK => ?_; replace hK := hide hK; go_simp; refine unhide hK _ _ ?_; clear hK K)
    refine wpList_nil ?_
    have hP2 : P = [] := by rw [unhide hP, if_neg (by rw [unhide h1]; decide)]
    rw [hP2] at hO
    obtain ⟨a2, c2, rfl, -⟩ := (unhide hO).slice
    rw [List.length_nil] at *
    replace hB := hide hB
    go_upto_region 6 with fail
    replace hB := unhide hB
    refine wp_region_lit ?_
    refine list_val (.agg (fl [[.int .u32 e.nx], [.slice x1.ao x1.no x1.co], [.int .i64 e.tn], [.int .u32 e.dl], [.slice x1.ah x1.nh x1.ch]])) (by kernel_rfl) (exec_sw _ 26 (.tmp 2) rfl (w.heap.size) (by kernel_rfl) (hB.get 0 (x := ⟨w.heap.size, fl [[.int .u32 e.nx], [.slice x1.ao x1.no x1.co], [.int .i64 e.tn], [.int .u32 e.dl], [.slice x1.ah x1.nh x1.ch]], 26⟩) rfl) NC (nC  _ _ _ _ _) Try.underlying26 rfl (by kernel_rfl)) ?_
    simp only [nrm]
    refine list_call 13 #[.agg (fl [[.int .u32 e.nx], [.slice x1.ao x1.no x1.co], [.int .i64 e.tn], [.int .u32 e.dl], [.slice x1.ah x1.nh x1.ch]])] (by kernel_rfl) (by kernel_rfl) (((show Calls Try.prog 13 #[.agg (fl [[.int .u32 e.nx], [.slice x1.ao x1.no x1.co], [.int .i64 e.tn], [.int .u32 e.dl], [.slice x1.ah x1.nh x1.ch]])] u8 (Vl (.bool false) u8) from unhide h1 ▸ right_ok e x1 u8 (unhide hC1).i)).mono ?_)
    rintro r_ u9 ⟨rfl, hg⟩
    replace hSe := hide ((unhide hSe).gr hg)
    replace hC1 := hide ((unhide hC1).gr hg)
    replace hY := hide ((unhide hY).gr hg)
    replace hO := hide ((unhide hO).gr hg)
    replace hB := hB.more hg
    clear hg
    refine ⟨_, rfl, ?_⟩
    simp only [nrm]
    refine wpList_nil ?_
    replace hB := hide hB
    go_upto_region 9 with fail
    replace hB := unhide hB
    refine wp_region_lit ?_
    refine wpList_gen fun ops_ hops => ?_
    replace hops := hide hops
    refine list_val (.int .i64 281) (by rw [unhide hops]; kernel_rfl) (by kernel_rfl) ?_
    simp only [nrm]
    refine list_val (.bool false) (by rw [unhide hops]; kernel_rfl) (neq_e _ (.tmp 39) (.const (.int .i64 281)) 281 281 false rfl (by kernel_rfl) (by kernel_rfl) (by decide)) ?_
    simp only [nrm]
    refine list_val (.bool false) (by rw [unhide hops]; kernel_rfl) (by kernel_rfl) ?_
    simp only [nrm]
    refine list_val (.slice a2 0 c2) (by rw [unhide hops]; kernel_rfl) (by kernel_rfl) ?_
    simp only [nrm]
    refine list_val (.int .i64 0) (by rw [unhide hops]; kernel_rfl) (by kernel_rfl) ?_
    simp only [nrm]
    refine list_val (.bool false) (by rw [unhide hops]; kernel_rfl) (neq_i _ (.tmp 43) (.const (.int .i64 0)) 0 0 false rfl (by kernel_rfl) (by kernel_rfl) (by decide)) ?_
    simp only [nrm]
    refine list_val (.bool false) (by rw [unhide hops]; kernel_rfl) (by kernel_rfl) ?_
    simp only [nrm]
    refine wpList_nil ?_
    replace hB := hide hB
    go_upto_region 11 with fail
    replace hB := unhide hB
    refine wp_region_lit ?_
    refine list_valw (.slice (some ⟨u9.heap.size, 0, none⟩) 0 0) (u9.alloc (.cells #[] 5 (0, 0))) (by kernel_rfl) (exec_b0b _ rfl) ?_
    have hO8 := hide (ob_mt (blk_new u9 (.cells #[] 5 (0, 0))) hB.gr.size)
    have hg := (Gr.refl u9).alloc (.cells #[] 5 (0, 0))
    replace hSe := hide ((unhide hSe).gr hg)
    replace hY := hide ((unhide hY).gr hg)
    replace hC1 := hide ((unhide hC1).gr hg)
    replace hB := hB.more hg
    clear hg
    generalize World.alloc _ _ = u10 at *
    generalize u9.heap.size = gm at *
    simp only [nrm]
    refine lvk (.slice s m cp) ?_
    simp only [nrm]
    refine app_bs (by kernel_rfl) (.tmp 46) (.tmp 47) rfl w.heap.size (.slice (some ⟨gm, 0, none⟩) 0 0) [] (by kernel_rfl) (unhide hO8) s m cp B (by kernel_rfl) hBl ((unhide hbB).sl.gr hB.gr) (by rw [List.length_nil]; omega) hB.gr.size ?_
    intro v8 u11 hO9 hgr
    replace hB := hB.grownB (unhide hO8) (Nat.le_refl _) hgr (by intro y_ hy_; simp only [List.mem_cons, List.not_mem_nil, or_false] at hy_; rcases hy_ with rfl | rfl <;> (dsimp only; decide))
    replace hSe := hide ((unhide hSe).gb (unhide hO8) hgr)
    replace hY := hide ((unhide hY).gb (unhide hO8) hgr)
    replace hC1 := hide ((unhide hC1).gb (unhide hO8) hgr)
    rw [List.nil_append] at hO9
    obtain ⟨a8, c8, rfl, -⟩ := ob_lb hO9 (unhide hBB) hBl
    replace hO8 := hide hO9
    clear hO9 hgr
    simp only [nrm]
    (refine wpList_step fun K hK => ?_; replace hK := hide hK; go_simp; refine unhide hK _ _ ?_; clear hK K)
    refine wpList_nil ?_
    replace hB := hide hB
    go_upto_region 12 with fail
    replace hB := unhide hB
    refine wp_region_lit ?_
    refine lvk (.slice a8 m c8) ?_
    simp only [nrm]
    refine list_call 30 #[.slice a8 m c8] (by kernel_rfl) (by kernel_rfl) (((show Calls Try.prog 30 #[.slice a8 m c8] u11 (fun r w' => ∃ x', r = .returned (.tuple #[.agg (fl (cvs d x')), .int .i64 er]) ∧ Co w.heap.size w' d x' ∧ Gr u11 w') from by have h := cget_ok B a8 m c8 (by omega) u11 (ob_lb2 (unhide hO8) (unhide hBB) hBl); rw [← unhide hd, ← unhide her] at h; exact h.mono fun r w' h9 => (by obtain ⟨x', h1, h2, h3, h4⟩ := h9; exact ⟨x', h1, ⟨h2, h3.base hB.gr.size⟩, h4⟩))).mono ?_)
    rintro r_ u12 ⟨x3, rfl, hC3, hg⟩
    replace hSe := hide ((unhide hSe).gr hg)
    replace hY := hide ((unhide hY).gr hg)
    replace hC1 := hide ((unhide hC1).gr hg)
    replace hO8 := hide ((unhide hO8).gr hg)
    replace hB := hB.more hg
    clear hg
    replace hC3 := hide hC3
    refine ⟨_, rfl, ?_⟩
    simp only [nrm]
    refine lvk (.tuple #[.agg (fl [[.int .u32 d.nx], [.slice x3.ao x3.no x3.co], [.int .i64 d.tn], [.int .u32 d.dl], [.slice x3.ah x3.nh x3.ch]]), .int .i64 er]) ?_
    simp only [nrm]
    refine lvk (.agg (fl [[.int .u32 d.nx], [.slice x3.ao x3.no x3.co], [.int .i64 d.tn], [.int .u32 d.dl], [.slice x3.ah x3.nh x3.ch]])) ?_
    simp only [nrm]
    refine lvk (.int .i64 er) ?_
    simp only [nrm]
    refine list_valw (.pointer (some ⟨u12.heap.size, 0, none⟩)) (u12.alloc (.cells (fl [[.int .u32 0], [.slice none 0 0], [.int .i64 0], [.int .u32 0], [.slice none 0 0]]) 26 (0, 0))) (by kernel_rfl) (by kernel_rfl) ?_
    replace hB := hB.new (fl [[.int .u32 0], [.slice none 0 0], [.int .i64 0], [.int .u32 0], [.slice none 0 0]]) 26
    simp only [List.nil_append, List.cons_append] at hB
    have hg := (Gr.refl u12).alloc (.cells (fl [[.int .u32 0], [.slice none 0 0], [.int .i64 0], [.int .u32 0], [.slice none 0 0]]) 26 (0, 0))
    replace hSe := hide ((unhide hSe).gr hg)
    replace hY := hide ((unhide hY).gr hg)
    replace hC1 := hide ((unhide hC1).gr hg)
    replace hO8 := hide ((unhide hO8).gr hg)
    replace hC3 := hide ((unhide hC3).gr hg)
    clear hg
    generalize World.alloc _ _ = u13 at *
    generalize u12.heap.size = g9 at *
    simp only [nrm]
    have hzz_ : Hid (u13.heap[g9]? = some (.cells (fl [[.int .u32 0], [.slice none 0 0], [.int .i64 0], [.int .u32 0], [.slice none 0 0]]) 26 (0, 0))) := hide (hB.get 2 (x := ⟨g9, fl [[.int .u32 0], [.slice none 0 0], [.int .i64 0], [.int .u32 0], [.slice none 0 0]], 26⟩) rfl)
    refine list_all 26 (.tmp 9) (.tmp 52) (g9) (S2 := [[.int .u32 d.nx], [.slice x3.ao x3.no x3.co], [.int .i64 d.tn], [.int .u32 d.dl], [.slice x3.ah x3.nh x3.ch]]) (by kernel_rfl) rfl (by kernel_rfl) (by kernel_rfl) hB 2 rfl NC (nC  _ _ _ _ _) (nC  _ _ _ _ _) (by kernel_rfl) (oC  rfl rfl rfl rfl rfl) ?_
    intro u14 hB_ hbt_
    clear hB
    replace hB : Bl w [⟨w.heap.size, fl [[.int .u32 e.nx], [.slice x1.ao x1.no x1.co], [.int .i64 e.tn], [.int .u32 e.dl], [.slice x1.ah x1.nh x1.ch]], 26⟩, ⟨g5, fl [[.int .u32 e.nx], [.slice y.ao y.no y.co], [.int .i64 e.tn], [.int .u32 e.dl], [.slice y.ah y.nh y.ch]], 26⟩, ⟨g9, fl [[.int .u32 d.nx], [.slice x3.ao x3.no x3.co], [.int .i64 d.tn], [.int .u32 d.dl], [.slice x3.ah x3.nh x3.ch]], 26⟩] u14 := hB_
    clear hB_
    replace hSe := hide ((unhide hSe).bz (unhide hzz_) hbt_)
    replace hY := hide ((unhide hY).bz (unhide hzz_) hbt_)
    replace hC1 := hide ((unhide hC1).bz (unhide hzz_) hbt_)
    replace hO8 := hide ((unhide hO8).bz (unhide hzz_) hbt_)
    replace hC3 := hide ((unhide hC3).bz (unhide hzz_) hbt_)
    clear hbt_ hzz_
    simp only [nrm]
    (refine wpList_step fun K hK => ?_; replace hK := hide hK; go_simp; refine unhide hK _ _ ?_; clear hK K)
    refine wpList_nil ?_
    replace hB := hide hB
    go_upto_region 13 with fail
    replace hB := unhide hB
    refine wp_region_lit ?_
    refine lvk (.slice s m cp) ?_
    simp only [nrm]
    refine list_call 31 #[.slice s m cp] (by kernel_rfl) (by kernel_rfl) (((show Calls Try.prog 31 #[.slice s m cp] u14 (fun r w' => ∃ x', r = .returned (.tuple #[.agg (fl (cvs d x')), .int .i64 er]) ∧ Co w.heap.size w' d x' ∧ Gr u14 w') from by have h := rget_ok B s m cp (by omega) u14 ((unhide hbB).gr hB.gr); rw [← unhide hd, ← unhide her] at h; exact h.mono fun r w' h9 => (by obtain ⟨x', h1, h2, h3, h4⟩ := h9; exact ⟨x', h1, ⟨h2, h3.base hB.gr.size⟩, h4⟩))).mono ?_)
    rintro r_ u15 ⟨x4, rfl, hC4, hg⟩
    replace hSe := hide ((unhide hSe).gr hg)
    replace hY := hide ((unhide hY).gr hg)
    replace hC1 := hide ((unhide hC1).gr hg)
    replace hO8 := hide ((unhide hO8).gr hg)
    replace hC3 := hide ((unhide hC3).gr hg)
    replace hB := hB.more hg
    clear hg
    replace hC4 := hide hC4
    refine ⟨_, rfl, ?_⟩
    simp only [nrm]
    refine lvk (.tuple #[.agg (fl [[.int .u32 d.nx], [.slice x4.ao x4.no x4.co], [.int .i64 d.tn], [.int .u32 d.dl], [.slice x4.ah x4.nh x4.ch]]), .int .i64 er]) ?_
    simp only [nrm]
    refine lvk (.agg (fl [[.int .u32 d.nx], [.slice x4.ao x4.no x4.co], [.int .i64 d.tn], [.int .u32 d.dl], [.slice x4.ah x4.nh x4.ch]])) ?_
    simp only [nrm]
    refine lvk (.int .i64 er) ?_
    simp only [nrm]
    refine list_valw (.pointer (some ⟨u15.heap.size, 0, none⟩)) (u15.alloc (.cells (fl [[.int .u32 0], [.slice none 0 0], [.int .i64 0], [.int .u32 0], [.slice none 0 0]]) 26 (0, 0))) (by kernel_rfl) (by kernel_rfl) ?_
    replace hB := hB.new (fl [[.int .u32 0], [.slice none 0 0], [.int .i64 0], [.int .u32 0], [.slice none 0 0]]) 26
    simp only [List.nil_append, List.cons_append] at hB
    have hg := (Gr.refl u15).alloc (.cells (fl [[.int .u32 0], [.slice none 0 0], [.int .i64 0], [.int .u32 0], [.slice none 0 0]]) 26 (0, 0))
    replace hSe := hide ((unhide hSe).gr hg)
    replace hY := hide ((unhide hY).gr hg)
    replace hC1 := hide ((unhide hC1).gr hg)
    replace hO8 := hide ((unhide hO8).gr hg)
    replace hC3 := hide ((unhide hC3).gr hg)
    replace hC4 := hide ((unhide hC4).gr hg)
    clear hg
    generalize World.alloc _ _ = u16 at *
    generalize u15.heap.size = g10 at *
    simp only [nrm]
    have hzz_ : Hid (u16.heap[g10]? = some (.cells (fl [[.int .u32 0], [.slice none 0 0], [.int .i64 0], [.int .u32 0], [.slice none 0 0]]) 26 (0, 0))) := hide (hB.get 3 (x := ⟨g10, fl [[.int .u32 0], [.slice none 0 0], [.int .i64 0], [.int .u32 0], [.slice none 0 0]], 26⟩) rfl)
    refine list_all 26 (.tmp 10) (.tmp 57) (g10) (S2 := [[.int .u32 d.nx], [.slice x4.ao x4.no x4.co], [.int .i64 d.tn], [.int .u32 d.dl], [.slice x4.ah x4.nh x4.ch]]) (by kernel_rfl) rfl (by kernel_rfl) (by kernel_rfl) hB 3 rfl NC (nC  _ _ _ _ _) (nC  _ _ _ _ _) (by kernel_rfl) (oC  rfl rfl rfl rfl rfl) ?_
    intro u17 hB_ hbt_
    clear hB
    replace hB : Bl w [⟨w.heap.size, fl [[.int .u32 e.nx], [.slice x1.ao x1.no x1.co], [.int .i64 e.tn], [.int .u32 e.dl], [.slice x1.ah x1.nh x1.ch]], 26⟩, ⟨g5, fl [[.int .u32 e.nx], [.slice y.ao y.no y.co], [.int .i64 e.tn], [.int .u32 e.dl], [.slice y.ah y.nh y.ch]], 26⟩, ⟨g9, fl [[.int .u32 d.nx], [.slice x3.ao x3.no x3.co], [.int .i64 d.tn], [.int .u32 d.dl], [.slice x3.ah x3.nh x3.ch]], 26⟩, ⟨g10, fl [[.int .u32 d.nx], [.slice x4.ao x4.no x4.co], [.int .i64 d.tn], [.int .u32 d.dl], [.slice x4.ah x4.nh x4.ch]], 26⟩] u17 := hB_
    clear hB_
    replace hSe := hide ((unhide hSe).bz (unhide hzz_) hbt_)
    replace hY := hide ((unhide hY).bz (unhide hzz_) hbt_)
    replace hC1 := hide ((unhide hC1).bz (unhide hzz_) hbt_)
    replace hO8 := hide ((unhide hO8).bz (unhide hzz_) hbt_)
    replace hC3 := hide ((unhide hC3).bz (unhide hzz_) hbt_)
    replace hC4 := hide ((unhide hC4).bz (unhide hzz_) hbt_)
    clear hbt_ hzz_
    simp only [nrm]
    (refine wpList_step fun K hK => ?_; replace hK := hide hK; go_simp; refine unhide hK _ _ ?_; clear hK K)
    refine wpList_nil ?_
    replace hB := hide hB
    go_upto_region 14 with fail
    replace hB := unhide hB
    refine wp_region_lit ?_
    refine wpList_gen fun ops_ hops => ?_
    replace hops := hide hops
    refine list_val (.int .i64 er) (by rw [unhide hops]; kernel_rfl) (by kernel_rfl) ?_
    simp only [nrm]
    refine list_val (.int .i64 er) (by rw [unhide hops]; kernel_rfl) (by kernel_rfl) ?_
    simp only [nrm]
    refine list_val (.bool true) (by rw [unhide hops]; kernel_rfl) (eql_e _ (.tmp 59) (.tmp 60) er er true rfl (by kernel_rfl) (by kernel_rfl) (by simp)) ?_
    simp only [nrm]
    refine list_val (.bool true) (by rw [unhide hops]; kernel_rfl) (by kernel_rfl) ?_
    simp only [nrm]
    refine list_val (.agg (fl [[.int .u32 d.nx], [.slice x3.ao x3.no x3.co], [.int .i64 d.tn], [.int .u32 d.dl], [.slice x3.ah x3.nh x3.ch]])) (by rw [unhide hops]; kernel_rfl) (exec_sw _ 26 (.tmp 9) rfl (g9) (by kernel_rfl) (hB.get 2 (x := ⟨g9, fl [[.int .u32 d.nx], [.slice x3.ao x3.no x3.co], [.int .i64 d.tn], [.int .u32 d.dl], [.slice x3.ah x3.nh x3.ch]], 26⟩) rfl) NC (nC  _ _ _ _ _) Try.underlying26 rfl (by kernel_rfl)) ?_
    simp only [nrm]
    refine list_val (.agg (fl [[.int .u32 d.nx], [.slice x4.ao x4.no x4.co], [.int .i64 d.tn], [.int .u32 d.dl], [.slice x4.ah x4.nh x4.ch]])) (by rw [unhide hops]; kernel_rfl) (exec_sw _ 26 (.tmp 10) rfl (g10) (by kernel_rfl) (hB.get 3 (x := ⟨g10, fl [[.int .u32 d.nx], [.slice x4.ao x4.no x4.co], [.int .i64 d.tn], [.int .u32 d.dl], [.slice x4.ah x4.nh x4.ch]], 26⟩) rfl) NC (nC  _ _ _ _ _) Try.underlying26 rfl (by kernel_rfl)) ?_
    simp only [nrm]
    refine list_call 16 #[.agg (fl [[.int .u32 d.nx], [.slice x3.ao x3.no x3.co], [.int .i64 d.tn], [.int .u32 d.dl], [.slice x3.ah x3.nh x3.ch]]), .agg (fl [[.int .u32 d.nx], [.slice x4.ao x4.no x4.co], [.int .i64 d.tn], [.int .u32 d.dl], [.slice x4.ah x4.nh x4.ch]])] (by rw [unhide hops]; kernel_rfl) (by kernel_rfl) (((show Calls Try.prog 16 #[.agg (fl [[.int .u32 d.nx], [.slice x3.ao x3.no x3.co], [.int .i64 d.tn], [.int .u32 d.dl], [.slice x3.ah x3.nh x3.ch]]), .agg (fl [[.int .u32 d.nx], [.slice x4.ao x4.no x4.co], [.int .i64 d.tn], [.int .u32 d.dl], [.slice x4.ah x4.nh x4.ch]])] u17 (Vl (.bool true) u17) from by have h := rsame_ok d d x3 x4 u17 (unhide hC3).i (unhide hC4).i; rw [decide_eq_true rfl] at h; exact h)).mono ?_)
    rintro r_ u18 ⟨rfl, hg⟩
    replace hSe := hide ((unhide hSe).gr hg)
    replace hY := hide ((unhide hY).gr hg)
    replace hC1 := hide ((unhide hC1).gr hg)
    replace hO8 := hide ((unhide hO8).gr hg)
    replace hC3 := hide ((unhide hC3).gr hg)
    replace hC4 := hide ((unhide hC4).gr hg)
    replace hB := hB.more hg
    clear hg
    refine ⟨_, rfl, ?_⟩
    simp only [nrm]
    refine list_val (.bool true) (by rw [unhide hops]; kernel_rfl) (by kernel_rfl) ?_
    simp only [nrm]
    refine list_val (.bool true) (by rw [unhide hops]; kernel_rfl) (by kernel_rfl) ?_
    simp only [nrm]
    refine list_val (.slice a8 m c8) (by rw [unhide hops]; kernel_rfl) (by kernel_rfl) ?_
    simp only [nrm]
    refine list_val (.slice s m cp) (by rw [unhide hops]; kernel_rfl) (by kernel_rfl) ?_
    simp only [nrm]
    refine list_call 28 #[.slice a8 m c8, .slice s m cp] (by rw [unhide hops]; kernel_rfl) (by kernel_rfl) (((show Calls Try.prog 28 #[.slice a8 m c8, .slice s m cp] u18 (Vl (.bool true) u18) from by have h := beq_ok B B a8 s m m c8 cp u18 (ob_lb2 (unhide hO8) (unhide hBB) hBl) ((unhide hbB).gr hB.gr); rw [decide_eq_true rfl] at h; exact h)).mono ?_)
    rintro r_ u19 ⟨rfl, hg⟩
    replace hSe := hide ((unhide hSe).gr hg)
    replace hY := hide ((unhide hY).gr hg)
    replace hC1 := hide ((unhide hC1).gr hg)
    replace hO8 := hide ((unhide hO8).gr hg)
    replace hC3 := hide ((unhide hC3).gr hg)
    replace hC4 := hide ((unhide hC4).gr hg)
    replace hB := hB.more hg
    clear hg
    refine ⟨_, rfl, ?_⟩
    simp only [nrm]
    refine list_val (.bool true) (by rw [unhide hops]; kernel_rfl) (by kernel_rfl) ?_
    simp only [nrm]
    refine list_val (.bool true) (by rw [unhide hops]; kernel_rfl) (by kernel_rfl) ?_
    simp only [nrm]
    refine list_val (.agg (fl [[.int .u32 e.nx], [.slice x1.ao x1.no x1.co], [.int .i64 e.tn], [.int .u32 e.dl], [.slice x1.ah x1.nh x1.ch]])) (by rw [unhide hops]; kernel_rfl) (exec_sw _ 26 (.tmp 2) rfl (w.heap.size) (by kernel_rfl) (hB.get 0 (x := ⟨w.heap.size, fl [[.int .u32 e.nx], [.slice x1.ao x1.no x1.co], [.int .i64 e.tn], [.int .u32 e.dl], [.slice x1.ah x1.nh x1.ch]], 26⟩) rfl) NC (nC  _ _ _ _ _) Try.underlying26 rfl (by kernel_rfl)) ?_
    simp only [nrm]
    refine list_val (.agg (fl [[.int .u32 e.nx], [.slice y.ao y.no y.co], [.int .i64 e.tn], [.int .u32 e.dl], [.slice y.ah y.nh y.ch]])) (by rw [unhide hops]; kernel_rfl) (exec_sw _ 26 (.tmp 5) rfl (g5) (by kernel_rfl) (hB.get 1 (x := ⟨g5, fl [[.int .u32 e.nx], [.slice y.ao y.no y.co], [.int .i64 e.tn], [.int .u32 e.dl], [.slice y.ah y.nh y.ch]], 26⟩) rfl) NC (nC  _ _ _ _ _) Try.underlying26 rfl (by kernel_rfl)) ?_
    simp only [nrm]
    refine list_call 18 #[.agg (fl [[.int .u32 e.nx], [.slice x1.ao x1.no x1.co], [.int .i64 e.tn], [.int .u32 e.dl], [.slice x1.ah x1.nh x1.ch]]), .agg (fl [[.int .u32 e.nx], [.slice y.ao y.no y.co], [.int .i64 e.tn], [.int .u32 e.dl], [.slice y.ah y.nh y.ch]])] (by rw [unhide hops]; kernel_rfl) (by kernel_rfl) ((whole_ok e x1 y w.heap.size u19 (unhide hSe) (unhide hnm) (unhide hY).i).mono ?_)
    rintro r_ u20 ⟨rfl, hg⟩
    replace hSe := hide ((unhide hSe).gr hg)
    replace hY := hide ((unhide hY).gr hg)
    replace hC1 := hide ((unhide hC1).gr hg)
    replace hO8 := hide ((unhide hO8).gr hg)
    replace hC3 := hide ((unhide hC3).gr hg)
    replace hC4 := hide ((unhide hC4).gr hg)
    replace hB := hB.more hg
    clear hg
    refine ⟨_, rfl, ?_⟩
    simp only [nrm]
    refine list_val (.bool true) (by rw [unhide hops]; kernel_rfl) (by kernel_rfl) ?_
    simp only [nrm]
    (refine wpList_step fun K hK => ?_; replace hK := hide hK; go_simp; refine unhide hK _ _ ?_; clear hK K)
    refine wpList_nil ?_
    replace hB := hide hB
    go_wp2_with fail
    replace hB := unhide hB
    rw [unhide hT]
    exact (⟨rfl, hB.gr⟩)
  | true =>
    replace h1 := hide h1
    replace hB := hide hB
    go_upto_region 5 with fail
    replace hB := unhide hB
    refine wp_region_lit ?_
    refine list_val (.agg (fl [[.int .u32 e.nx], [.slice x1.ao x1.no x1.co], [.int .i64 e.tn], [.int .u32 e.dl], [.slice x1.ah x1.nh x1.ch]])) (by kernel_rfl) (exec_sw _ 26 (.tmp 2) rfl (w.heap.size) (by kernel_rfl) (hB.get 0 (x := ⟨w.heap.size, fl [[.int .u32 e.nx], [.slice x1.ao x1.no x1.co], [.int .i64 e.tn], [.int .u32 e.dl], [.slice x1.ah x1.nh x1.ch]], 26⟩) rfl) NC (nC  _ _ _ _ _) Try.underlying26 rfl (by kernel_rfl)) ?_
    simp only [nrm]
    refine list_call 27 #[.agg (fl [[.int .u32 e.nx], [.slice x1.ao x1.no x1.co], [.int .i64 e.tn], [.int .u32 e.dl], [.slice x1.ah x1.nh x1.ch]])] (by kernel_rfl) (by kernel_rfl) (((show Calls Try.prog 27 #[.agg (fl [[.int .u32 e.nx], [.slice x1.ao x1.no x1.co], [.int .i64 e.tn], [.int .u32 e.dl], [.slice x1.ah x1.nh x1.ch]])] u7 (fun r w' => ∃ v, r = .returned (.tuple #[v, .int .i64 0]) ∧ Ob w.heap.size w' v P ∧ Gr u7 w') from by have h := cput_ok e x1 u7 (unhide hC1).i; rw [← unhide hP] at h; exact h.mono fun r w' h9 => (by obtain ⟨v, q1, q3, q4⟩ := h9; exact ⟨v, by rw [q1, unhide h1]; rfl, ob_base q3 hB.gr.size, q4⟩))).mono ?_)
    rintro r_ u8 ⟨v1, rfl, hO, hg⟩
    replace hSe := hide ((unhide hSe).gr hg)
    replace hC1 := hide ((unhide hC1).gr hg)
    replace hY := hide ((unhide hY).gr hg)
    replace hB := hB.more hg
    clear hg
    replace hO := hide hO
    refine ⟨_, rfl, ?_⟩
    simp only [nrm]
    refine lvk (.tuple #[v1, .int .i64 0]) ?_
    simp only [nrm]
    refine lvk (v1) ?_
    simp only [nrm]
    refine lvk (.int .i64 0) ?_
    simp only [nrm]
    (refine wpList_step fun K hK => ?_; replace hK := hide hK; go_simp; refine unhide hK _ _ ?_; clear hK K)
    (refine wpList_step fun K hK => ?_; replace hK := hide hK; go_simp; refine unhide hK _ _ ?_; clear hK K)
    refine wpList_nil ?_
    have hP2 : P = putL e := by rw [unhide hP, if_pos (unhide h1)]
    have hPl : P.length = 590 := by rw [hP2]; exact putL_len (unhide h1) (unhide hnm).O
    have hPB : IsB P := by rw [hP2]; exact putL_isB (unhide h1) (unhide hnm).O
    obtain ⟨a2, c2, rfl, -⟩ := ob_lb (unhide hO) hPB hPl
    replace hPB := hide hPB; replace hP2 := hide hP2
    replace hB := hide hB
    go_upto_region 6 with fail
    replace hB := unhide hB
    refine wp_region_lit ?_
    refine list_val (.agg (fl [[.int .u32 e.nx], [.slice x1.ao x1.no x1.co], [.int .i64 e.tn], [.int .u32 e.dl], [.slice x1.ah x1.nh x1.ch]])) (by kernel_rfl) (exec_sw _ 26 (.tmp 2) rfl (w.heap.size) (by kernel_rfl) (hB.get 0 (x := ⟨w.heap.size, fl [[.int .u32 e.nx], [.slice x1.ao x1.no x1.co], [.int .i64 e.tn], [.int .u32 e.dl], [.slice x1.ah x1.nh x1.ch]], 26⟩) rfl) NC (nC  _ _ _ _ _) Try.underlying26 rfl (by kernel_rfl)) ?_
    simp only [nrm]
    refine list_call 13 #[.agg (fl [[.int .u32 e.nx], [.slice x1.ao x1.no x1.co], [.int .i64 e.tn], [.int .u32 e.dl], [.slice x1.ah x1.nh x1.ch]])] (by kernel_rfl) (by kernel_rfl) (((show Calls Try.prog 13 #[.agg (fl [[.int .u32 e.nx], [.slice x1.ao x1.no x1.co], [.int .i64 e.tn], [.int .u32 e.dl], [.slice x1.ah x1.nh x1.ch]])] u8 (Vl (.bool true) u8) from unhide h1 ▸ right_ok e x1 u8 (unhide hC1).i)).mono ?_)
    rintro r_ u9 ⟨rfl, hg⟩
    replace hSe := hide ((unhide hSe).gr hg)
    replace hC1 := hide ((unhide hC1).gr hg)
    replace hY := hide ((unhide hY).gr hg)
    replace hO := hide ((unhide hO).gr hg)
    replace hB := hB.more hg
    clear hg
    refine ⟨_, rfl, ?_⟩
    simp only [nrm]
    refine wpList_nil ?_
    replace hB := hide hB
    go_upto_region 7 with fail
    replace hB := unhide hB
    refine wp_region_lit ?_
    refine wpList_gen fun ops_ hops => ?_
    replace hops := hide hops
    refine list_val (.int .i64 0) (by rw [unhide hops]; kernel_rfl) (by kernel_rfl) ?_
    simp only [nrm]
    refine list_val (.bool false) (by rw [unhide hops]; kernel_rfl) (neq_e _ (.tmp 30) (.const (.int .i64 0)) 0 0 false rfl (by kernel_rfl) (by kernel_rfl) (by decide)) ?_
    simp only [nrm]
    refine list_val (.bool false) (by rw [unhide hops]; kernel_rfl) (by kernel_rfl) ?_
    simp only [nrm]
    refine list_val (.slice a2 590 c2) (by rw [unhide hops]; kernel_rfl) (by kernel_rfl) ?_
    simp only [nrm]
    refine list_val (.agg (fl [[.int .u32 e.nx], [.slice x1.ao x1.no x1.co], [.int .i64 e.tn], [.int .u32 e.dl], [.slice x1.ah x1.nh x1.ch]])) (by rw [unhide hops]; kernel_rfl) (exec_sw _ 26 (.tmp 2) rfl (w.heap.size) (by kernel_rfl) (hB.get 0 (x := ⟨w.heap.size, fl [[.int .u32 e.nx], [.slice x1.ao x1.no x1.co], [.int .i64 e.tn], [.int .u32 e.dl], [.slice x1.ah x1.nh x1.ch]], 26⟩) rfl) NC (nC  _ _ _ _ _) Try.underlying26 rfl (by kernel_rfl)) ?_
    simp only [nrm]
    refine list_call 29 #[.agg (fl [[.int .u32 e.nx], [.slice x1.ao x1.no x1.co], [.int .i64 e.tn], [.int .u32 e.dl], [.slice x1.ah x1.nh x1.ch]])] (by rw [unhide hops]; kernel_rfl) (by kernel_rfl) (((show Calls Try.prog 29 #[.agg (fl [[.int .u32 e.nx], [.slice x1.ao x1.no x1.co], [.int .i64 e.tn], [.int .u32 e.dl], [.slice x1.ah x1.nh x1.ch]])] u9 (fun r w' => ∃ a' c', r = .returned (.slice a' 590 c') ∧ Ob w.heap.size w' (.slice a' 590 c') P ∧ Gr u9 w') from (rput_ok e x1 u9 (unhide hC1).i (unhide h1)).mono fun r w' h9 => (by obtain ⟨v, q1, q2, q3⟩ := h9; rw [← unhide hP2] at q2; obtain ⟨a', c', q4, -⟩ := ob_lb q2 (unhide hPB) hPl; subst q4; exact ⟨a', c', q1, ob_base q2 hB.gr.size, q3⟩))).mono ?_)
    rintro r_ u10 ⟨a9, c9_, rfl, hO9, hg⟩
    replace hSe := hide ((unhide hSe).gr hg)
    replace hC1 := hide ((unhide hC1).gr hg)
    replace hY := hide ((unhide hY).gr hg)
    replace hO := hide ((unhide hO).gr hg)
    replace hB := hB.more hg
    clear hg
    replace hO9 := hide hO9
    refine ⟨_, rfl, ?_⟩
    simp only [nrm]
    refine list_call 28 #[.slice a2 590 c2, .slice a9 590 c9_] (by rw [unhide hops]; kernel_rfl) (by kernel_rfl) (((show Calls Try.prog 28 #[.slice a2 590 c2, .slice a9 590 c9_] u10 (Vl (.bool true) u10) from by have h := beq_ok P P a2 a9 590 590 c2 c9_ u10 (ob_lb2 (unhide hO) (unhide hPB) hPl) (ob_lb2 (unhide hO9) (unhide hPB) hPl); rw [decide_eq_true rfl] at h; exact h)).mono ?_)
    rintro r_ u11 ⟨rfl, hg⟩
    replace hSe := hide ((unhide hSe).gr hg)
    replace hC1 := hide ((unhide hC1).gr hg)
    replace hY := hide ((unhide hY).gr hg)
    replace hO := hide ((unhide hO).gr hg)
    replace hO9 := hide ((unhide hO9).gr hg)
    replace hB := hB.more hg
    clear hg
    refine ⟨_, rfl, ?_⟩
    simp only [nrm]
    refine list_val (.bool false) (by rw [unhide hops]; kernel_rfl) (by kernel_rfl) ?_
    simp only [nrm]
    refine list_val (.bool false) (by rw [unhide hops]; kernel_rfl) (by kernel_rfl) ?_
    simp only [nrm]
    refine wpList_nil ?_
    replace hB := hide hB
    go_upto_region 11 with fail
    replace hB := unhide hB
    refine wp_region_lit ?_
    refine list_valw (.slice (some ⟨u11.heap.size, 0, none⟩) 0 0) (u11.alloc (.cells #[] 5 (0, 0))) (by kernel_rfl) (exec_b0b _ rfl) ?_
    have hO8 := hide (ob_mt (blk_new u11 (.cells #[] 5 (0, 0))) hB.gr.size)
    have hg := (Gr.refl u11).alloc (.cells #[] 5 (0, 0))
    replace hSe := hide ((unhide hSe).gr hg)
    replace hY := hide ((unhide hY).gr hg)
    replace hC1 := hide ((unhide hC1).gr hg)
    replace hB := hB.more hg
    clear hg
    generalize World.alloc _ _ = u12 at *
    generalize u11.heap.size = gm at *
    simp only [nrm]
    refine lvk (.slice s m cp) ?_
    simp only [nrm]
    refine app_bs (by kernel_rfl) (.tmp 46) (.tmp 47) rfl w.heap.size (.slice (some ⟨gm, 0, none⟩) 0 0) [] (by kernel_rfl) (unhide hO8) s m cp B (by kernel_rfl) hBl ((unhide hbB).sl.gr hB.gr) (by rw [List.length_nil]; omega) hB.gr.size ?_
    intro v8 u13 hO9 hgr
    replace hB := hB.grownB (unhide hO8) (Nat.le_refl _) hgr (by intro y_ hy_; simp only [List.mem_cons, List.not_mem_nil, or_false] at hy_; rcases hy_ with rfl | rfl <;> (dsimp only; decide))
    replace hSe := hide ((unhide hSe).gb (unhide hO8) hgr)
    replace hY := hide ((unhide hY).gb (unhide hO8) hgr)
    replace hC1 := hide ((unhide hC1).gb (unhide hO8) hgr)
    rw [List.nil_append] at hO9
    obtain ⟨a8, c8, rfl, -⟩ := ob_lb hO9 (unhide hBB) hBl
    replace hO8 := hide hO9
    clear hO9 hgr
    simp only [nrm]
    (refine wpList_step fun K hK => ?_; replace hK := hide hK; go_simp; refine unhide hK _ _ ?_; clear hK K)
    refine wpList_nil ?_
    replace hB := hide hB
    go_upto_region 12 with fail
    replace hB := unhide hB
    refine wp_region_lit ?_
    refine lvk (.slice a8 m c8) ?_
    simp only [nrm]
    refine list_call 30 #[.slice a8 m c8] (by kernel_rfl) (by kernel_rfl) (((show Calls Try.prog 30 #[.slice a8 m c8] u13 (fun r w' => ∃ x', r = .returned (.tuple #[.agg (fl (cvs d x')), .int .i64 er]) ∧ Co w.heap.size w' d x' ∧ Gr u13 w') from by have h := cget_ok B a8 m c8 (by omega) u13 (ob_lb2 (unhide hO8) (unhide hBB) hBl); rw [← unhide hd, ← unhide her] at h; exact h.mono fun r w' h9 => (by obtain ⟨x', h1, h2, h3, h4⟩ := h9; exact ⟨x', h1, ⟨h2, h3.base hB.gr.size⟩, h4⟩))).mono ?_)
    rintro r_ u14 ⟨x3, rfl, hC3, hg⟩
    replace hSe := hide ((unhide hSe).gr hg)
    replace hY := hide ((unhide hY).gr hg)
    replace hC1 := hide ((unhide hC1).gr hg)
    replace hO8 := hide ((unhide hO8).gr hg)
    replace hB := hB.more hg
    clear hg
    replace hC3 := hide hC3
    refine ⟨_, rfl, ?_⟩
    simp only [nrm]
    refine lvk (.tuple #[.agg (fl [[.int .u32 d.nx], [.slice x3.ao x3.no x3.co], [.int .i64 d.tn], [.int .u32 d.dl], [.slice x3.ah x3.nh x3.ch]]), .int .i64 er]) ?_
    simp only [nrm]
    refine lvk (.agg (fl [[.int .u32 d.nx], [.slice x3.ao x3.no x3.co], [.int .i64 d.tn], [.int .u32 d.dl], [.slice x3.ah x3.nh x3.ch]])) ?_
    simp only [nrm]
    refine lvk (.int .i64 er) ?_
    simp only [nrm]
    refine list_valw (.pointer (some ⟨u14.heap.size, 0, none⟩)) (u14.alloc (.cells (fl [[.int .u32 0], [.slice none 0 0], [.int .i64 0], [.int .u32 0], [.slice none 0 0]]) 26 (0, 0))) (by kernel_rfl) (by kernel_rfl) ?_
    replace hB := hB.new (fl [[.int .u32 0], [.slice none 0 0], [.int .i64 0], [.int .u32 0], [.slice none 0 0]]) 26
    simp only [List.nil_append, List.cons_append] at hB
    have hg := (Gr.refl u14).alloc (.cells (fl [[.int .u32 0], [.slice none 0 0], [.int .i64 0], [.int .u32 0], [.slice none 0 0]]) 26 (0, 0))
    replace hSe := hide ((unhide hSe).gr hg)
    replace hY := hide ((unhide hY).gr hg)
    replace hC1 := hide ((unhide hC1).gr hg)
    replace hO8 := hide ((unhide hO8).gr hg)
    replace hC3 := hide ((unhide hC3).gr hg)
    clear hg
    generalize World.alloc _ _ = u15 at *
    generalize u14.heap.size = g9 at *
    simp only [nrm]
    have hzz_ : Hid (u15.heap[g9]? = some (.cells (fl [[.int .u32 0], [.slice none 0 0], [.int .i64 0], [.int .u32 0], [.slice none 0 0]]) 26 (0, 0))) := hide (hB.get 2 (x := ⟨g9, fl [[.int .u32 0], [.slice none 0 0], [.int .i64 0], [.int .u32 0], [.slice none 0 0]], 26⟩) rfl)
    refine list_all 26 (.tmp 9) (.tmp 52) (g9) (S2 := [[.int .u32 d.nx], [.slice x3.ao x3.no x3.co], [.int .i64 d.tn], [.int .u32 d.dl], [.slice x3.ah x3.nh x3.ch]]) (by kernel_rfl) rfl (by kernel_rfl) (by kernel_rfl) hB 2 rfl NC (nC  _ _ _ _ _) (nC  _ _ _ _ _) (by kernel_rfl) (oC  rfl rfl rfl rfl rfl) ?_
    intro u16 hB_ hbt_
    clear hB
    replace hB : Bl w [⟨w.heap.size, fl [[.int .u32 e.nx], [.slice x1.ao x1.no x1.co], [.int .i64 e.tn], [.int .u32 e.dl], [.slice x1.ah x1.nh x1.ch]], 26⟩, ⟨g5, fl [[.int .u32 e.nx], [.slice y.ao y.no y.co], [.int .i64 e.tn], [.int .u32 e.dl], [.slice y.ah y.nh y.ch]], 26⟩, ⟨g9, fl [[.int .u32 d.nx], [.slice x3.ao x3.no x3.co], [.int .i64 d.tn], [.int .u32 d.dl], [.slice x3.ah x3.nh x3.ch]], 26⟩] u16 := hB_
    clear hB_
    replace hSe := hide ((unhide hSe).bz (unhide hzz_) hbt_)
    replace hY := hide ((unhide hY).bz (unhide hzz_) hbt_)
    replace hC1 := hide ((unhide hC1).bz (unhide hzz_) hbt_)
    replace hO8 := hide ((unhide hO8).bz (unhide hzz_) hbt_)
    replace hC3 := hide ((unhide hC3).bz (unhide hzz_) hbt_)
    clear hbt_ hzz_
    simp only [nrm]
    (refine wpList_step fun K hK => ?_; replace hK := hide hK; go_simp; refine unhide hK _ _ ?_; clear hK K)
    refine wpList_nil ?_
    replace hB := hide hB
    go_upto_region 13 with fail
    replace hB := unhide hB
    refine wp_region_lit ?_
    refine lvk (.slice s m cp) ?_
    simp only [nrm]
    refine list_call 31 #[.slice s m cp] (by kernel_rfl) (by kernel_rfl) (((show Calls Try.prog 31 #[.slice s m cp] u16 (fun r w' => ∃ x', r = .returned (.tuple #[.agg (fl (cvs d x')), .int .i64 er]) ∧ Co w.heap.size w' d x' ∧ Gr u16 w') from by have h := rget_ok B s m cp (by omega) u16 ((unhide hbB).gr hB.gr); rw [← unhide hd, ← unhide her] at h; exact h.mono fun r w' h9 => (by obtain ⟨x', h1, h2, h3, h4⟩ := h9; exact ⟨x', h1, ⟨h2, h3.base hB.gr.size⟩, h4⟩))).mono ?_)
    rintro r_ u17 ⟨x4, rfl, hC4, hg⟩
    replace hSe := hide ((unhide hSe).gr hg)
    replace hY := hide ((unhide hY).gr hg)
    replace hC1 := hide ((unhide hC1).gr hg)
    replace hO8 := hide ((unhide hO8).gr hg)
    replace hC3 := hide ((unhide hC3).gr hg)
    replace hB := hB.more hg
    clear hg
    replace hC4 := hide hC4
    refine ⟨_, rfl, ?_⟩
    simp only [nrm]
    refine lvk (.tuple #[.agg (fl [[.int .u32 d.nx], [.slice x4.ao x4.no x4.co], [.int .i64 d.tn], [.int .u32 d.dl], [.slice x4.ah x4.nh x4.ch]]), .int .i64 er]) ?_
    simp only [nrm]
    refine lvk (.agg (fl [[.int .u32 d.nx], [.slice x4.ao x4.no x4.co], [.int .i64 d.tn], [.int .u32 d.dl], [.slice x4.ah x4.nh x4.ch]])) ?_
    simp only [nrm]
    refine lvk (.int .i64 er) ?_
    simp only [nrm]
    refine list_valw (.pointer (some ⟨u17.heap.size, 0, none⟩)) (u17.alloc (.cells (fl [[.int .u32 0], [.slice none 0 0], [.int .i64 0], [.int .u32 0], [.slice none 0 0]]) 26 (0, 0))) (by kernel_rfl) (by kernel_rfl) ?_
    replace hB := hB.new (fl [[.int .u32 0], [.slice none 0 0], [.int .i64 0], [.int .u32 0], [.slice none 0 0]]) 26
    simp only [List.nil_append, List.cons_append] at hB
    have hg := (Gr.refl u17).alloc (.cells (fl [[.int .u32 0], [.slice none 0 0], [.int .i64 0], [.int .u32 0], [.slice none 0 0]]) 26 (0, 0))
    replace hSe := hide ((unhide hSe).gr hg)
    replace hY := hide ((unhide hY).gr hg)
    replace hC1 := hide ((unhide hC1).gr hg)
    replace hO8 := hide ((unhide hO8).gr hg)
    replace hC3 := hide ((unhide hC3).gr hg)
    replace hC4 := hide ((unhide hC4).gr hg)
    clear hg
    generalize World.alloc _ _ = u18 at *
    generalize u17.heap.size = g10 at *
    simp only [nrm]
    have hzz_ : Hid (u18.heap[g10]? = some (.cells (fl [[.int .u32 0], [.slice none 0 0], [.int .i64 0], [.int .u32 0], [.slice none 0 0]]) 26 (0, 0))) := hide (hB.get 3 (x := ⟨g10, fl [[.int .u32 0], [.slice none 0 0], [.int .i64 0], [.int .u32 0], [.slice none 0 0]], 26⟩) rfl)
    refine list_all 26 (.tmp 10) (.tmp 57) (g10) (S2 := [[.int .u32 d.nx], [.slice x4.ao x4.no x4.co], [.int .i64 d.tn], [.int .u32 d.dl], [.slice x4.ah x4.nh x4.ch]]) (by kernel_rfl) rfl (by kernel_rfl) (by kernel_rfl) hB 3 rfl NC (nC  _ _ _ _ _) (nC  _ _ _ _ _) (by kernel_rfl) (oC  rfl rfl rfl rfl rfl) ?_
    intro u19 hB_ hbt_
    clear hB
    replace hB : Bl w [⟨w.heap.size, fl [[.int .u32 e.nx], [.slice x1.ao x1.no x1.co], [.int .i64 e.tn], [.int .u32 e.dl], [.slice x1.ah x1.nh x1.ch]], 26⟩, ⟨g5, fl [[.int .u32 e.nx], [.slice y.ao y.no y.co], [.int .i64 e.tn], [.int .u32 e.dl], [.slice y.ah y.nh y.ch]], 26⟩, ⟨g9, fl [[.int .u32 d.nx], [.slice x3.ao x3.no x3.co], [.int .i64 d.tn], [.int .u32 d.dl], [.slice x3.ah x3.nh x3.ch]], 26⟩, ⟨g10, fl [[.int .u32 d.nx], [.slice x4.ao x4.no x4.co], [.int .i64 d.tn], [.int .u32 d.dl], [.slice x4.ah x4.nh x4.ch]], 26⟩] u19 := hB_
    clear hB_
    replace hSe := hide ((unhide hSe).bz (unhide hzz_) hbt_)
    replace hY := hide ((unhide hY).bz (unhide hzz_) hbt_)
    replace hC1 := hide ((unhide hC1).bz (unhide hzz_) hbt_)
    replace hO8 := hide ((unhide hO8).bz (unhide hzz_) hbt_)
    replace hC3 := hide ((unhide hC3).bz (unhide hzz_) hbt_)
    replace hC4 := hide ((unhide hC4).bz (unhide hzz_) hbt_)
    clear hbt_ hzz_
    simp only [nrm]
    (refine wpList_step fun K hK => ?_; replace hK := hide hK; go_simp; refine unhide hK _ _ ?_; clear hK K)
    refine wpList_nil ?_
    replace hB := hide hB
    go_upto_region 14 with fail
    replace hB := unhide hB
    refine wp_region_lit ?_
    refine wpList_gen fun ops_ hops => ?_
    replace hops := hide hops
    refine list_val (.int .i64 er) (by rw [unhide hops]; kernel_rfl) (by kernel_rfl) ?_
    simp only [nrm]
    refine list_val (.int .i64 er) (by rw [unhide hops]; kernel_rfl) (by kernel_rfl) ?_
    simp only [nrm]
    refine list_val (.bool true) (by rw [unhide hops]; kernel_rfl) (eql_e _ (.tmp 59) (.tmp 60) er er true rfl (by kernel_rfl) (by kernel_rfl) (by simp)) ?_
    simp only [nrm]
    refine list_val (.bool true) (by rw [unhide hops]; kernel_rfl) (by kernel_rfl) ?_
    simp only [nrm]
    refine list_val (.agg (fl [[.int .u32 d.nx], [.slice x3.ao x3.no x3.co], [.int .i64 d.tn], [.int .u32 d.dl], [.slice x3.ah x3.nh x3.ch]])) (by rw [unhide hops]; kernel_rfl) (exec_sw _ 26 (.tmp 9) rfl (g9) (by kernel_rfl) (hB.get 2 (x := ⟨g9, fl [[.int .u32 d.nx], [.slice x3.ao x3.no x3.co], [.int .i64 d.tn], [.int .u32 d.dl], [.slice x3.ah x3.nh x3.ch]], 26⟩) rfl) NC (nC  _ _ _ _ _) Try.underlying26 rfl (by kernel_rfl)) ?_
    simp only [nrm]
    refine list_val (.agg (fl [[.int .u32 d.nx], [.slice x4.ao x4.no x4.co], [.int .i64 d.tn], [.int .u32 d.dl], [.slice x4.ah x4.nh x4.ch]])) (by rw [unhide hops]; kernel_rfl) (exec_sw _ 26 (.tmp 10) rfl (g10) (by kernel_rfl) (hB.get 3 (x := ⟨g10, fl [[.int .u32 d.nx], [.slice x4.ao x4.no x4.co], [.int .i64 d.tn], [.int .u32 d.dl], [.slice x4.ah x4.nh x4.ch]], 26⟩) rfl) NC (nC  _ _ _ _ _) Try.underlying26 rfl (by kernel_rfl)) ?_
    simp only [nrm]
    refine list_call 16 #[.agg (fl [[.int .u32 d.nx], [.slice x3.ao x3.no x3.co], [.int .i64 d.tn], [.int .u32 d.dl], [.slice x3.ah x3.nh x3.ch]]), .agg (fl [[.int .u32 d.nx], [.slice x4.ao x4.no x4.co], [.int .i64 d.tn], [.int .u32 d.dl], [.slice x4.ah x4.nh x4.ch]])] (by rw [unhide hops]; kernel_rfl) (by kernel_rfl) (((show Calls Try.prog 16 #[.agg (fl [[.int .u32 d.nx], [.slice x3.ao x3.no x3.co], [.int .i64 d.tn], [.int .u32 d.dl], [.slice x3.ah x3.nh x3.ch]]), .agg (fl [[.int .u32 d.nx], [.slice x4.ao x4.no x4.co], [.int .i64 d.tn], [.int .u32 d.dl], [.slice x4.ah x4.nh x4.ch]])] u19 (Vl (.bool true) u19) from by have h := rsame_ok d d x3 x4 u19 (unhide hC3).i (unhide hC4).i; rw [decide_eq_true rfl] at h; exact h)).mono ?_)
    rintro r_ u20 ⟨rfl, hg⟩
    replace hSe := hide ((unhide hSe).gr hg)
    replace hY := hide ((unhide hY).gr hg)
    replace hC1 := hide ((unhide hC1).gr hg)
    replace hO8 := hide ((unhide hO8).gr hg)
    replace hC3 := hide ((unhide hC3).gr hg)
    replace hC4 := hide ((unhide hC4).gr hg)
    replace hB := hB.more hg
    clear hg
    refine ⟨_, rfl, ?_⟩
    simp only [nrm]
    refine list_val (.bool true) (by rw [unhide hops]; kernel_rfl) (by kernel_rfl) ?_
    simp only [nrm]
    refine list_val (.bool true) (by rw [unhide hops]; kernel_rfl) (by kernel_rfl) ?_
    simp only [nrm]
    refine list_val (.slice a8 m c8) (by rw [unhide hops]; kernel_rfl) (by kernel_rfl) ?_
    simp only [nrm]
    refine list_val (.slice s m cp) (by rw [unhide hops]; kernel_rfl) (by kernel_rfl) ?_
    simp only [nrm]
    refine list_call 28 #[.slice a8 m c8, .slice s m cp] (by rw [unhide hops]; kernel_rfl) (by kernel_rfl) (((show Calls Try.prog 28 #[.slice a8 m c8, .slice s m cp] u20 (Vl (.bool true) u20) from by have h := beq_ok B B a8 s m m c8 cp u20 (ob_lb2 (unhide hO8) (unhide hBB) hBl) ((unhide hbB).gr hB.gr); rw [decide_eq_true rfl] at h; exact h)).mono ?_)
    rintro r_ u21 ⟨rfl, hg⟩
    replace hSe := hide ((unhide hSe).gr hg)
    replace hY := hide ((unhide hY).gr hg)
    replace hC1 := hide ((unhide hC1).gr hg)
    replace hO8 := hide ((unhide hO8).gr hg)
    replace hC3 := hide ((unhide hC3).gr hg)
    replace hC4 := hide ((unhide hC4).gr hg)
    replace hB := hB.more hg
    clear hg
    refine ⟨_, rfl, ?_⟩
    simp only [nrm]
    refine list_val (.bool true) (by rw [unhide hops]; kernel_rfl) (by kernel_rfl) ?_
    simp only [nrm]
    refine list_val (.bool true) (by rw [unhide hops]; kernel_rfl) (by kernel_rfl) ?_
    simp only [nrm]
    refine list_val (.agg (fl [[.int .u32 e.nx], [.slice x1.ao x1.no x1.co], [.int .i64 e.tn], [.int .u32 e.dl], [.slice x1.ah x1.nh x1.ch]])) (by rw [unhide hops]; kernel_rfl) (exec_sw _ 26 (.tmp 2) rfl (w.heap.size) (by kernel_rfl) (hB.get 0 (x := ⟨w.heap.size, fl [[.int .u32 e.nx], [.slice x1.ao x1.no x1.co], [.int .i64 e.tn], [.int .u32 e.dl], [.slice x1.ah x1.nh x1.ch]], 26⟩) rfl) NC (nC  _ _ _ _ _) Try.underlying26 rfl (by kernel_rfl)) ?_
    simp only [nrm]
    refine list_val (.agg (fl [[.int .u32 e.nx], [.slice y.ao y.no y.co], [.int .i64 e.tn], [.int .u32 e.dl], [.slice y.ah y.nh y.ch]])) (by rw [unhide hops]; kernel_rfl) (exec_sw _ 26 (.tmp 5) rfl (g5) (by kernel_rfl) (hB.get 1 (x := ⟨g5, fl [[.int .u32 e.nx], [.slice y.ao y.no y.co], [.int .i64 e.tn], [.int .u32 e.dl], [.slice y.ah y.nh y.ch]], 26⟩) rfl) NC (nC  _ _ _ _ _) Try.underlying26 rfl (by kernel_rfl)) ?_
    simp only [nrm]
    refine list_call 18 #[.agg (fl [[.int .u32 e.nx], [.slice x1.ao x1.no x1.co], [.int .i64 e.tn], [.int .u32 e.dl], [.slice x1.ah x1.nh x1.ch]]), .agg (fl [[.int .u32 e.nx], [.slice y.ao y.no y.co], [.int .i64 e.tn], [.int .u32 e.dl], [.slice y.ah y.nh y.ch]])] (by rw [unhide hops]; kernel_rfl) (by kernel_rfl) ((whole_ok e x1 y w.heap.size u21 (unhide hSe) (unhide hnm) (unhide hY).i).mono ?_)
    rintro r_ u22 ⟨rfl, hg⟩
    replace hSe := hide ((unhide hSe).gr hg)
    replace hY := hide ((unhide hY).gr hg)
    replace hC1 := hide ((unhide hC1).gr hg)
    replace hO8 := hide ((unhide hO8).gr hg)
    replace hC3 := hide ((unhide hC3).gr hg)
    replace hC4 := hide ((unhide hC4).gr hg)
    replace hB := hB.more hg
    clear hg
    refine ⟨_, rfl, ?_⟩
    simp only [nrm]
    refine list_val (.bool true) (by rw [unhide hops]; kernel_rfl) (by kernel_rfl) ?_
    simp only [nrm]
    (refine wpList_step fun K hK => ?_; replace hK := hide hK; go_simp; refine unhide hK _ _ ?_; clear hK K)
    refine wpList_nil ?_
    replace hB := hide hB
    go_wp2_with fail
    replace hB := unhide hB
    rw [unhide hT]
    exact (⟨rfl, hB.gr⟩)
end Go.Proofs.Ytcefkkoombmndaa
