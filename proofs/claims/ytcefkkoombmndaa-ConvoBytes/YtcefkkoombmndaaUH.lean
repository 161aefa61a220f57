/-
  Turn.
-/
import Derived.Test.YtcefkkoombmndaaUG
namespace Go.Proofs.Ytcefkkoombmndaa
open Go.RowKit
set_option maxRecDepth 100000
set_option linter.unusedSimpArgs false
set_option linter.unusedVariables false
attribute [local go_sem] zvOut
section
variable {a : Act} {o : Oper} (w : World) (x y : Operand) (m n : Int)
theorem rem_i (ho : o.op = .binOp .rem 3 x y 3) (hx : a.eval x = .int .i64 m) (hy : a.eval y = .int .i64 n) (hm : 0 ≤ m) (hn : 0 < n) (hb : n < 9223372036854775808) : (execOp a.eval o).run Try.prog w = .ok (.value (.int .i64 (m % n))) w := by
  have h0 : n ≠ 0 := by omega
  have h1 := Int.emod_nonneg m h0
  have h2 := Int.emod_lt_of_pos m hn
  have ht : Int.tmod m n = m % n := Int.tmod_eq_emod_of_nonneg hm
  have hw : IntKind.i64.wrap (m % n) = m % n := by rw [IntKind.wrap_i64]; omega
  unfold execOp
  simp only [ho, hx, hy]
  go_simp
end
def tu (c : Cm) : Cm × Ot × Int :=
  if rt c = false then (cz, oZ, 281) else if c.O.length = 0 then (cz, oZ, 4) else ({ c with tn := (c.tn + 1) % (c.O.length : Int) }, c.O.getD c.tn.toNat oZ, 0)
theorem tu_no {c : Cm} (h : rt c = false) : tu c = (cz, oZ, 281) := by unfold tu; rw [if_pos h]
theorem tu_none {c : Cm} (h : rt c = true) (h2 : c.O.length = 0) : tu c = (cz, oZ, 4) := by unfold tu; rw [if_neg (by rw [h]; decide), if_pos h2]
theorem tu_yes {c : Cm} (h : rt c = true) (h2 : ¬ c.O.length = 0) : tu c = ({ c with tn := (c.tn + 1) % (c.O.length : Int) }, c.O.getD c.tn.toNat oZ, 0) := by unfold tu; rw [if_neg (by rw [h]; decide), if_neg h2]
set_option maxHeartbeats 4000000 in
theorem turn_ok (c : Cm) (x : Lc) (w : World) (hc : Cin w c x) : Calls Try.prog 20 #[.agg (fl [[.int .u32 c.nx], [.slice x.ao x.no x.co], [.int .i64 c.tn], [.int .u32 c.dl], [.slice x.ah x.nh x.ch]])] w (Rc (tu c).1 [.agg (fl [[.int .u32 (tu c).2.1.n], bw (tu c).2.1.B]), .int .i64 (tu c).2.2] w) := by
  obtain ⟨T, hT⟩ : ∃ T : Ending → World → Prop, T = (Rc (tu c).1 [.agg (fl [[.int .u32 (tu c).2.1.n], bw (tu c).2.1.B]), .int .i64 (tu c).2.2] w) := ⟨_, rfl⟩
  rw [← hT]
  replace hT := hide hT
  have hn := hc.o.len
  replace hc := hide hc
  obtain ⟨A0_, hA0_⟩ : ∃ S_, S_ = fl [[.int .u32 c.nx], [.slice x.ao x.no x.co], [.int .i64 c.tn], [.int .u32 c.dl], [.slice x.ah x.nh x.ch]] := ⟨_, rfl⟩
  rw [← hA0_]
  replace hA0_ := hide hA0_
  go_enter Try.func20, Try.ntmps20
  go_upto_region 1 with fail
  have hB := ((((Bl.nil w).new A0_ 26).new (fl [[.int .u32 0], [.slice none 0 0], [.int .i64 0], [.int .u32 0], [.slice none 0 0]]) 26).new (fl [[.int .u32 0], bw Z105]) 39)
  simp only [size_alloc, List.nil_append, List.cons_append] at hB
  rw [unhide hA0_] at hB
  generalize hu_ : World.alloc _ _ = u0
  replace hB : Bl w [⟨w.heap.size, fl [[.int .u32 c.nx], [.slice x.ao x.no x.co], [.int .i64 c.tn], [.int .u32 c.dl], [.slice x.ah x.nh x.ch]], 26⟩, ⟨w.heap.size + 1, fl [[.int .u32 0], [.slice none 0 0], [.int .i64 0], [.int .u32 0], [.slice none 0 0]], 26⟩, ⟨w.heap.size + 1 + 1, fl [[.int .u32 0], bw Z105], 39⟩] u0 := by
    rw [← hu_]
    rw [unhide hA0_]
    exact hB
  clear hu_ hA0_
  cases h1 : rt c with
  | false =>
    have hk := chk_f h1
    have hv := tu_no h1
    refine wp_region_lit ?_
    refine list_val (.agg (fl [[.int .u32 c.nx], [.slice x.ao x.no x.co], [.int .i64 c.tn], [.int .u32 c.dl], [.slice x.ah x.nh x.ch]])) (by kernel_rfl) (exec_sw _ 26 (.tmp 1) rfl (w.heap.size) (by kernel_rfl) (hB.get 0 (x := ⟨w.heap.size, fl [[.int .u32 c.nx], [.slice x.ao x.no x.co], [.int .i64 c.tn], [.int .u32 c.dl], [.slice x.ah x.nh x.ch]], 26⟩) rfl) NC (nC  _ _ _ _ _) Try.underlying26 rfl (by kernel_rfl)) ?_
    simp only [nrm]
    refine list_call 12 #[.agg (fl [[.int .u32 c.nx], [.slice x.ao x.no x.co], [.int .i64 c.tn], [.int .u32 c.dl], [.slice x.ah x.nh x.ch]])] (by kernel_rfl) (by kernel_rfl) (((show Calls Try.prog 12 #[.agg (fl [[.int .u32 c.nx], [.slice x.ao x.no x.co], [.int .i64 c.tn], [.int .u32 c.dl], [.slice x.ah x.nh x.ch]])] u0 (Vl (.int .i64 281) u0) from hk ▸ check_ok c x u0 ((unhide hc).gr hB.gr))).mono ?_)
    rintro r_ u1 ⟨rfl, hg⟩
    replace hB := hB.more hg
    clear hg
    refine ⟨_, rfl, ?_⟩
    simp only [nrm]
    (refine wpList_step fun K hK => ?_; replace hK := hide hK; go_simp; refine unhide hK _ _ ?_; clear hK K)
    refine wpList_nil ?_
    replace hB := hide hB
    go_upto_region 2 with fail
    replace hB := unhide hB
    refine wp_region_lit ?_
    refine lvk (.int .i64 281) ?_
    simp only [nrm]
    refine list_val (.bool true) (by kernel_rfl) (neq_e _ (.tmp 9) (.const (.int .i64 0)) 281 0 true rfl (by kernel_rfl) (by kernel_rfl) (by decide)) ?_
    simp only [nrm]
    refine wpList_nil ?_
    replace hB := hide hB
    go_upto_region 3 with fail
    replace hB := unhide hB
    refine wp_region_lit ?_
    refine list_val (.agg (fl [[.int .u32 0], [.slice none 0 0], [.int .i64 0], [.int .u32 0], [.slice none 0 0]])) (by kernel_rfl) (bC _ rfl) ?_
    simp only [nrm]
    refine list_val (.agg (fl [[.int .u32 0], bw Z105])) (by kernel_rfl) (bO _ rfl) ?_
    simp only [nrm]
    refine lvk (.int .i64 281) ?_
    simp only [nrm]
    refine list_all 26 (.tmp 2) (.tmp 11) (w.heap.size + 1) (S2 := [[.int .u32 0], [.slice none 0 0], [.int .i64 0], [.int .u32 0], [.slice none 0 0]]) (by kernel_rfl) rfl (by kernel_rfl) (by kernel_rfl) hB 1 rfl NC (nC  _ _ _ _ _) (nC  _ _ _ _ _) (by kernel_rfl) (oC  rfl rfl rfl rfl rfl) ?_
    intro u2 hB_ hbt_
    clear hB
    replace hB : Bl w [⟨w.heap.size, fl [[.int .u32 c.nx], [.slice x.ao x.no x.co], [.int .i64 c.tn], [.int .u32 c.dl], [.slice x.ah x.nh x.ch]], 26⟩, ⟨w.heap.size + 1, fl [[.int .u32 0], [.slice none 0 0], [.int .i64 0], [.int .u32 0], [.slice none 0 0]], 26⟩, ⟨w.heap.size + 1 + 1, fl [[.int .u32 0], bw Z105], 39⟩] u2 := hB_
    clear hB_
    clear hbt_
    simp only [nrm]
    refine list_all 39 (.tmp 3) (.tmp 12) (w.heap.size + 1 + 1) (S2 := [[.int .u32 0], bw Z105]) (by kernel_rfl) rfl (by kernel_rfl) (by kernel_rfl) hB 2 rfl NO (nO Z105_len _) (nO Z105_len _) (by kernel_rfl) (oO _ rfl) ?_
    intro u3 hB_ hbt_
    clear hB
    replace hB : Bl w [⟨w.heap.size, fl [[.int .u32 c.nx], [.slice x.ao x.no x.co], [.int .i64 c.tn], [.int .u32 c.dl], [.slice x.ah x.nh x.ch]], 26⟩, ⟨w.heap.size + 1, fl [[.int .u32 0], [.slice none 0 0], [.int .i64 0], [.int .u32 0], [.slice none 0 0]], 26⟩, ⟨w.heap.size + 1 + 1, fl [[.int .u32 0], bw Z105], 39⟩] u3 := hB_
    clear hB_
    clear hbt_
    simp only [nrm]
    (refine wpList_step fun K hK => ?_; replace hK := hide hK; go_simp; refine unhide hK _ _ ?_; clear hK K)
    refine wpList_nil ?_
    replace hB := hide hB
    go_wp2_with fail
    replace hB := unhide hB
    rw [unhide hT]
    rw [hv]
    exact bodyPost_ret (v := .tuple #[.agg (fl [[.int .u32 0], [.slice none 0 0], [.int .i64 0], [.int .u32 0], [.slice none 0 0]]), .agg (fl [[.int .u32 0], bw Z105]), .int .i64 281]) (res3 Try.results20 (rv_cell (by kernel_rfl) (hB.get 1 (x := ⟨w.heap.size + 1, fl [[.int .u32 0], [.slice none 0 0], [.int .i64 0], [.int .u32 0], [.slice none 0 0]], 26⟩) rfl) Try.underlying26 rfl (by rw [fl_size (nC  _ _ _ _ _)]; kernel_rfl)) (rv_cell (by kernel_rfl) (hB.get 2 (x := ⟨w.heap.size + 1 + 1, fl [[.int .u32 0], bw Z105], 39⟩) rfl) Try.underlying39 rfl (by rw [fl_size (nO Z105_len _)]; kernel_rfl)) (rv_tmp (by kernel_rfl))) rfl (⟨xz, rfl, cin_z _, owx_z _ _, hB.gr⟩)
  | true =>
    have hk := chk_t h1
    have hle := rt_le h1
    rw [hn] at hle
    replace h1 := hide h1
    refine wp_region_lit ?_
    refine list_val (.agg (fl [[.int .u32 c.nx], [.slice x.ao x.no x.co], [.int .i64 c.tn], [.int .u32 c.dl], [.slice x.ah x.nh x.ch]])) (by kernel_rfl) (exec_sw _ 26 (.tmp 1) rfl (w.heap.size) (by kernel_rfl) (hB.get 0 (x := ⟨w.heap.size, fl [[.int .u32 c.nx], [.slice x.ao x.no x.co], [.int .i64 c.tn], [.int .u32 c.dl], [.slice x.ah x.nh x.ch]], 26⟩) rfl) NC (nC  _ _ _ _ _) Try.underlying26 rfl (by kernel_rfl)) ?_
    simp only [nrm]
    refine list_call 12 #[.agg (fl [[.int .u32 c.nx], [.slice x.ao x.no x.co], [.int .i64 c.tn], [.int .u32 c.dl], [.slice x.ah x.nh x.ch]])] (by kernel_rfl) (by kernel_rfl) (((show Calls Try.prog 12 #[.agg (fl [[.int .u32 c.nx], [.slice x.ao x.no x.co], [.int .i64 c.tn], [.int .u32 c.dl], [.slice x.ah x.nh x.ch]])] u0 (Vl (.int .i64 0) u0) from hk ▸ check_ok c x u0 ((unhide hc).gr hB.gr))).mono ?_)
    rintro r_ u1 ⟨rfl, hg⟩
    replace hB := hB.more hg
    clear hg
    refine ⟨_, rfl, ?_⟩
    simp only [nrm]
    (refine wpList_step fun K hK => ?_; replace hK := hide hK; go_simp; refine unhide hK _ _ ?_; clear hK K)
    refine wpList_nil ?_
    replace hB := hide hB
    go_upto_region 2 with fail
    replace hB := unhide hB
    refine wp_region_lit ?_
    refine lvk (.int .i64 0) ?_
    simp only [nrm]
    refine list_val (.bool false) (by kernel_rfl) (neq_e _ (.tmp 9) (.const (.int .i64 0)) 0 0 false rfl (by kernel_rfl) (by kernel_rfl) (by decide)) ?_
    simp only [nrm]
    refine wpList_nil ?_
    by_cases h2 : (x.no : Int) = 0
    · have hv := tu_none (unhide h1) (by omega)
      replace hB := hide hB
      go_upto_region 4 with fail
      replace hB := unhide hB
      refine wp_region_lit ?_
      refine lvk (.pointer (some ⟨w.heap.size, 1, none⟩)) ?_
      simp only [nrm]
      refine list_val (.slice x.ao x.no x.co) (by kernel_rfl) (exec_csO _ (.tmp 14) rfl (w.heap.size) 1 (by kernel_rfl) x.ao x.no x.co (seg_cell (nC  _ _ _ _ _) (hB.get 0 (x := ⟨w.heap.size, fl [[.int .u32 c.nx], [.slice x.ao x.no x.co], [.int .i64 c.tn], [.int .u32 c.dl], [.slice x.ah x.nh x.ch]], 26⟩) rfl) 1 (v := .slice x.ao x.no x.co) rfl rfl)) ?_
      simp only [nrm]
      refine lvk (.int .i64 (x.no : Int)) ?_
      simp only [nrm]
      refine list_val (.bool true) (by kernel_rfl) (eql_i _ (.tmp 16) (.const (.int .i64 0)) (x.no : Int) 0 true rfl (by kernel_rfl) (by kernel_rfl) (decide_eq_true h2)) ?_
      simp only [nrm]
      refine wpList_nil ?_
      replace hB := hide hB
      go_upto_region 5 with fail
      replace hB := unhide hB
      refine wp_region_lit ?_
      refine list_val (.agg (fl [[.int .u32 0], [.slice none 0 0], [.int .i64 0], [.int .u32 0], [.slice none 0 0]])) (by kernel_rfl) (bC _ rfl) ?_
      simp only [nrm]
      refine list_val (.agg (fl [[.int .u32 0], bw Z105])) (by kernel_rfl) (bO _ rfl) ?_
      simp only [nrm]
      refine list_all 26 (.tmp 2) (.tmp 18) (w.heap.size + 1) (S2 := [[.int .u32 0], [.slice none 0 0], [.int .i64 0], [.int .u32 0], [.slice none 0 0]]) (by kernel_rfl) rfl (by kernel_rfl) (by kernel_rfl) hB 1 rfl NC (nC  _ _ _ _ _) (nC  _ _ _ _ _) (by kernel_rfl) (oC  rfl rfl rfl rfl rfl) ?_
      intro u2 hB_ hbt_
      clear hB
      replace hB : Bl w [⟨w.heap.size, fl [[.int .u32 c.nx], [.slice x.ao x.no x.co], [.int .i64 c.tn], [.int .u32 c.dl], [.slice x.ah x.nh x.ch]], 26⟩, ⟨w.heap.size + 1, fl [[.int .u32 0], [.slice none 0 0], [.int .i64 0], [.int .u32 0], [.slice none 0 0]], 26⟩, ⟨w.heap.size + 1 + 1, fl [[.int .u32 0], bw Z105], 39⟩] u2 := hB_
      clear hB_
      clear hbt_
      simp only [nrm]
      refine list_all 39 (.tmp 3) (.tmp 19) (w.heap.size + 1 + 1) (S2 := [[.int .u32 0], bw Z105]) (by kernel_rfl) rfl (by kernel_rfl) (by kernel_rfl) hB 2 rfl NO (nO Z105_len _) (nO Z105_len _) (by kernel_rfl) (oO _ rfl) ?_
      intro u3 hB_ hbt_
      clear hB
      replace hB : Bl w [⟨w.heap.size, fl [[.int .u32 c.nx], [.slice x.ao x.no x.co], [.int .i64 c.tn], [.int .u32 c.dl], [.slice x.ah x.nh x.ch]], 26⟩, ⟨w.heap.size + 1, fl [[.int .u32 0], [.slice none 0 0], [.int .i64 0], [.int .u32 0], [.slice none 0 0]], 26⟩, ⟨w.heap.size + 1 + 1, fl [[.int .u32 0], bw Z105], 39⟩] u3 := hB_
      clear hB_
      clear hbt_
      simp only [nrm]
      (refine wpList_step fun K hK => ?_; replace hK := hide hK; go_simp; refine unhide hK _ _ ?_; clear hK K)
      refine wpList_nil ?_
      replace hB := hide hB
      go_wp2_with fail
      replace hB := unhide hB
      rw [unhide hT]
      rw [hv]
      exact bodyPost_ret (v := .tuple #[.agg (fl [[.int .u32 0], [.slice none 0 0], [.int .i64 0], [.int .u32 0], [.slice none 0 0]]), .agg (fl [[.int .u32 0], bw Z105]), .int .i64 4]) (res3 Try.results20 (rv_cell (by kernel_rfl) (hB.get 1 (x := ⟨w.heap.size + 1, fl [[.int .u32 0], [.slice none 0 0], [.int .i64 0], [.int .u32 0], [.slice none 0 0]], 26⟩) rfl) Try.underlying26 rfl (by rw [fl_size (nC  _ _ _ _ _)]; kernel_rfl)) (rv_cell (by kernel_rfl) (hB.get 2 (x := ⟨w.heap.size + 1 + 1, fl [[.int .u32 0], bw Z105], 39⟩) rfl) Try.underlying39 rfl (by rw [fl_size (nO Z105_len _)]; kernel_rfl)) (rv_tmp (by kernel_rfl))) rfl (⟨xz, rfl, cin_z _, owx_z _ _, hB.gr⟩)
    have hv := tu_yes (unhide h1) (by omega)
    obtain ⟨t, ht⟩ : ∃ t : Nat, c.tn = (t : Int) := ⟨c.tn.toNat, by omega⟩
    have htl : t < x.no := by omega
    obtain ⟨s, hs⟩ : ∃ s, c.O[t]? = some s := ⟨_, List.getElem?_eq_getElem (by omega)⟩
    have hok := (unhide hc).o.ok t s hs
    have hok2 := hok.2.1
    have e0 : c.O.getD c.tn.toNat oZ = s := by rw [ht, Int.toNat_natCast]; simp [List.getD, hs]
    rw [e0, hn] at hv
    have htn := (unhide hc).tn
    have hmod1 : 0 ≤ (c.tn + 1) % (x.no : Int) := Int.emod_nonneg _ (by omega)
    have hmod2 : (c.tn + 1) % (x.no : Int) < (x.no : Int) := Int.emod_lt_of_pos _ (by omega)
    replace hv := hide hv; replace ht := hide ht; replace hok := hide hok; replace hs := hide hs; replace hok2 := hide hok2; replace hmod1 := hide hmod1; replace hmod2 := hide hmod2
    replace hB := hide hB
    go_upto_region 4 with fail
    replace hB := unhide hB
    refine wp_region_lit ?_
    refine lvk (.pointer (some ⟨w.heap.size, 1, none⟩)) ?_
    simp only [nrm]
    refine list_val (.slice x.ao x.no x.co) (by kernel_rfl) (exec_csO _ (.tmp 14) rfl (w.heap.size) 1 (by kernel_rfl) x.ao x.no x.co (seg_cell (nC  _ _ _ _ _) (hB.get 0 (x := ⟨w.heap.size, fl [[.int .u32 c.nx], [.slice x.ao x.no x.co], [.int .i64 c.tn], [.int .u32 c.dl], [.slice x.ah x.nh x.ch]], 26⟩) rfl) 1 (v := .slice x.ao x.no x.co) rfl rfl)) ?_
    simp only [nrm]
    refine lvk (.int .i64 (x.no : Int)) ?_
    simp only [nrm]
    refine list_val (.bool false) (by kernel_rfl) (eql_i _ (.tmp 16) (.const (.int .i64 0)) (x.no : Int) 0 false rfl (by kernel_rfl) (by kernel_rfl) (decide_eq_false h2)) ?_
    simp only [nrm]
    refine wpList_nil ?_
    replace hB := hide hB
    go_upto_region 6 with fail
    replace hB := unhide hB
    have hlt2 := lt_of_block (hB.get 2 (x := ⟨w.heap.size + 1 + 1, fl [[.int .u32 0], bw Z105], 39⟩) rfl)
    dsimp only at hlt2
    have hb0 : w.heap.size ≤ u1.heap.size := hB.gr.size
    refine wp_region_lit ?_
    refine list_val (.agg (fl [[.int .u32 c.nx], [.slice x.ao x.no x.co], [.int .i64 c.tn], [.int .u32 c.dl], [.slice x.ah x.nh x.ch]])) (by kernel_rfl) (exec_sw _ 26 (.tmp 1) rfl (w.heap.size) (by kernel_rfl) (hB.get 0 (x := ⟨w.heap.size, fl [[.int .u32 c.nx], [.slice x.ao x.no x.co], [.int .i64 c.tn], [.int .u32 c.dl], [.slice x.ah x.nh x.ch]], 26⟩) rfl) NC (nC  _ _ _ _ _) Try.underlying26 rfl (by kernel_rfl)) ?_
    simp only [nrm]
    refine list_call 35 #[.agg (fl [[.int .u32 c.nx], [.slice x.ao x.no x.co], [.int .i64 c.tn], [.int .u32 c.dl], [.slice x.ah x.nh x.ch]])] (by kernel_rfl) (by kernel_rfl) ((copied_ok c x u1 ((unhide hc).gr hB.gr) (by omega) (by rw [← (unhide hc).h.len]; omega)).mono ?_)
    rintro r_ u2 ⟨x1, rfl, hW, hn1, hh1, hg⟩
    replace hB := hB.more hg
    clear hg
    have hne2 := or_far hW.o hlt2
    replace hW := hide (show Own w.heap.size u2 c x1 from ⟨or_base hW.o hb0, or_base hW.h hb0⟩)
    refine ⟨_, rfl, ?_⟩
    simp only [nrm]
    have hzz_ : Hid (u2.heap[w.heap.size]? = some (.cells (fl [[.int .u32 c.nx], [.slice x.ao x.no x.co], [.int .i64 c.tn], [.int .u32 c.dl], [.slice x.ah x.nh x.ch]]) 26 (0, 0))) := hide (hB.get 0 (x := ⟨w.heap.size, fl [[.int .u32 c.nx], [.slice x.ao x.no x.co], [.int .i64 c.tn], [.int .u32 c.dl], [.slice x.ah x.nh x.ch]], 26⟩) rfl)
    refine list_all 26 (.tmp 1) (.tmp 21) (w.heap.size) (S2 := [[.int .u32 c.nx], [.slice x1.ao x1.no x1.co], [.int .i64 c.tn], [.int .u32 c.dl], [.slice x1.ah x1.nh x1.ch]]) (by kernel_rfl) rfl (by kernel_rfl) (by kernel_rfl) hB 0 rfl NC (nC  _ _ _ _ _) (nC  _ _ _ _ _) (by kernel_rfl) (oC  rfl rfl rfl rfl rfl) ?_
    intro u3 hB_ hbt_
    clear hB
    replace hB : Bl w [⟨w.heap.size, fl [[.int .u32 c.nx], [.slice x1.ao x1.no x1.co], [.int .i64 c.tn], [.int .u32 c.dl], [.slice x1.ah x1.nh x1.ch]], 26⟩, ⟨w.heap.size + 1, fl [[.int .u32 0], [.slice none 0 0], [.int .i64 0], [.int .u32 0], [.slice none 0 0]], 26⟩, ⟨w.heap.size + 1 + 1, fl [[.int .u32 0], bw Z105], 39⟩] u3 := hB_
    clear hB_
    replace hW := hide ((unhide hW).bz (unhide hzz_) hbt_)
    clear hbt_ hzz_
    simp only [nrm]
    refine wpList_nil ?_
    replace hB := hide hB
    go_upto_region 7 with fail
    replace hB := unhide hB
    have hne6 := or_new (unhide hW).o
    obtain ⟨p, o, ha, hr⟩ := ((unhide hW).cin (unhide hc).nums).o.at_ t s (unhide hs)
    replace ha := hide ha; replace hr := hide hr
    refine wp_region_lit ?_
    refine lvk (.pointer (some ⟨w.heap.size, 1, none⟩)) ?_
    simp only [nrm]
    refine list_val (.slice x1.ao x1.no x1.co) (by kernel_rfl) (exec_csO _ (.tmp 22) rfl (w.heap.size) 1 (by kernel_rfl) x1.ao x1.no x1.co (seg_cell (nC  _ _ _ _ _) (hB.get 0 (x := ⟨w.heap.size, fl [[.int .u32 c.nx], [.slice x1.ao x1.no x1.co], [.int .i64 c.tn], [.int .u32 c.dl], [.slice x1.ah x1.nh x1.ch]], 26⟩) rfl) 1 (v := .slice x1.ao x1.no x1.co) rfl rfl)) ?_
    simp only [nrm]
    refine lvk (.pointer (some ⟨w.heap.size, 2, none⟩)) ?_
    simp only [nrm]
    refine list_val (.int .i64 c.tn) (by kernel_rfl) (exec_ci _ (.tmp 24) rfl (w.heap.size) 2 (by kernel_rfl) c.tn (seg_cell (nC  _ _ _ _ _) (hB.get 0 (x := ⟨w.heap.size, fl [[.int .u32 c.nx], [.slice x1.ao x1.no x1.co], [.int .i64 c.tn], [.int .u32 c.dl], [.slice x1.ah x1.nh x1.ch]], 26⟩) rfl) 2 (v := .int .i64 c.tn) rfl rfl)) ?_
    simp only [nrm]
    refine list_val (.pointer (some ⟨p, o + 106 * t, none⟩)) (by kernel_rfl) (exec_iso _ (.tmp 23) (.tmp 25) rfl p o x1.no x1.co t (by rw [← unhide ha]; kernel_rfl) (by rw [← unhide ht]; kernel_rfl) (by omega)) ?_
    simp only [nrm]
    refine list_val (.agg (fl [[.int .u32 s.n], bw s.B])) (by kernel_rfl) (exec_lo _ (.tmp 26) rfl p (o + 106 * t) (by kernel_rfl) s (unhide hok) (unhide hr)) ?_
    simp only [nrm]
    refine list_valw (.pointer (some ⟨u3.heap.size, 0, none⟩)) (u3.alloc (.cells (fl [[.int .u32 0], bw Z105]) 39 (0, 0))) (by kernel_rfl) (by kernel_rfl) ?_
    replace hB := hB.new (fl [[.int .u32 0], bw Z105]) 39
    simp only [List.nil_append, List.cons_append] at hB
    have hg := (Gr.refl u3).alloc (.cells (fl [[.int .u32 0], bw Z105]) 39 (0, 0))
    replace hW := hide ((unhide hW).gr hg)
    clear hg
    generalize World.alloc _ _ = u4 at *
    generalize u3.heap.size = g6 at *
    simp only [nrm]
    have hzz_ : Hid (u4.heap[g6]? = some (.cells (fl [[.int .u32 0], bw Z105]) 39 (0, 0))) := hide (hB.get 3 (x := ⟨g6, fl [[.int .u32 0], bw Z105], 39⟩) rfl)
    refine list_all 39 (.tmp 6) (.tmp 27) (g6) (S2 := [[.int .u32 s.n], bw s.B]) (by kernel_rfl) rfl (by kernel_rfl) (by kernel_rfl) hB 3 rfl NO (nO Z105_len _) (nO (unhide hok2) _) (by kernel_rfl) (oO _ rfl) ?_
    intro u5 hB_ hbt_
    clear hB
    replace hB : Bl w [⟨w.heap.size, fl [[.int .u32 c.nx], [.slice x1.ao x1.no x1.co], [.int .i64 c.tn], [.int .u32 c.dl], [.slice x1.ah x1.nh x1.ch]], 26⟩, ⟨w.heap.size + 1, fl [[.int .u32 0], [.slice none 0 0], [.int .i64 0], [.int .u32 0], [.slice none 0 0]], 26⟩, ⟨w.heap.size + 1 + 1, fl [[.int .u32 0], bw Z105], 39⟩, ⟨g6, fl [[.int .u32 s.n], bw s.B], 39⟩] u5 := hB_
    clear hB_
    replace hW := hide ((unhide hW).bkO (unhide hzz_) hbt_ hne6)
    clear hbt_ hzz_
    simp only [nrm]
    refine wpList_nil ?_
    clear hr
    replace hB := hide hB
    go_upto_region 8 with fail
    replace hB := unhide hB
    refine wp_region_lit ?_
    refine lvk (.pointer (some ⟨w.heap.size, 2, none⟩)) ?_
    simp only [nrm]
    refine list_val (.int .i64 c.tn) (by kernel_rfl) (exec_ci _ (.tmp 28) rfl (w.heap.size) 2 (by kernel_rfl) c.tn (seg_cell (nC  _ _ _ _ _) (hB.get 0 (x := ⟨w.heap.size, fl [[.int .u32 c.nx], [.slice x1.ao x1.no x1.co], [.int .i64 c.tn], [.int .u32 c.dl], [.slice x1.ah x1.nh x1.ch]], 26⟩) rfl) 2 (v := .int .i64 c.tn) rfl rfl)) ?_
    simp only [nrm]
    refine list_val (.int .i64 (c.tn + 1)) (by kernel_rfl) (add_i _ (.tmp 29) (.const (.int .i64 1)) c.tn 1 rfl (by kernel_rfl) (by kernel_rfl) _ rfl (by omega)) ?_
    simp only [nrm]
    refine lvk (.pointer (some ⟨w.heap.size, 2, none⟩)) ?_
    simp only [nrm]
    have hzz_ : Hid (u5.heap[w.heap.size]? = some (.cells (fl [[.int .u32 c.nx], [.slice x1.ao x1.no x1.co], [.int .i64 c.tn], [.int .u32 c.dl], [.slice x1.ah x1.nh x1.ch]]) 26 (0, 0))) := hide (hB.get 0 (x := ⟨w.heap.size, fl [[.int .u32 c.nx], [.slice x1.ao x1.no x1.co], [.int .i64 c.tn], [.int .u32 c.dl], [.slice x1.ah x1.nh x1.ch]], 26⟩) rfl)
    refine list_ci (.tmp 31) (.tmp 30) (w.heap.size) 2 (c.tn + 1) (by kernel_rfl) rfl (by kernel_rfl) (by kernel_rfl) hB 0 rfl NC (nC  _ _ _ _ _) 2 _ rfl rfl ?_
    intro u6 hB_ hbt_
    clear hB
    replace hB : Bl w [⟨w.heap.size, fl [[.int .u32 c.nx], [.slice x1.ao x1.no x1.co], [.int .i64 (c.tn + 1)], [.int .u32 c.dl], [.slice x1.ah x1.nh x1.ch]], 26⟩, ⟨w.heap.size + 1, fl [[.int .u32 0], [.slice none 0 0], [.int .i64 0], [.int .u32 0], [.slice none 0 0]], 26⟩, ⟨w.heap.size + 1 + 1, fl [[.int .u32 0], bw Z105], 39⟩, ⟨g6, fl [[.int .u32 s.n], bw s.B], 39⟩] u6 := hB_
    clear hB_
    replace hW := hide ((unhide hW).bz (unhide hzz_) hbt_)
    clear hbt_ hzz_
    simp only [nrm]
    refine wpList_nil ?_
    replace hB := hide hB
    go_upto_region 9 with fail
    replace hB := unhide hB
    refine wp_region_lit ?_
    refine lvk (.pointer (some ⟨w.heap.size, 2, none⟩)) ?_
    simp only [nrm]
    refine list_val (.int .i64 (c.tn + 1)) (by kernel_rfl) (exec_ci _ (.tmp 32) rfl (w.heap.size) 2 (by kernel_rfl) (c.tn + 1) (seg_cell (nC  _ _ _ _ _) (hB.get 0 (x := ⟨w.heap.size, fl [[.int .u32 c.nx], [.slice x1.ao x1.no x1.co], [.int .i64 (c.tn + 1)], [.int .u32 c.dl], [.slice x1.ah x1.nh x1.ch]], 26⟩) rfl) 2 (v := .int .i64 (c.tn + 1)) rfl rfl)) ?_
    simp only [nrm]
    refine lvk (.pointer (some ⟨w.heap.size, 1, none⟩)) ?_
    simp only [nrm]
    refine list_val (.slice x1.ao x1.no x1.co) (by kernel_rfl) (exec_csO _ (.tmp 34) rfl (w.heap.size) 1 (by kernel_rfl) x1.ao x1.no x1.co (seg_cell (nC  _ _ _ _ _) (hB.get 0 (x := ⟨w.heap.size, fl [[.int .u32 c.nx], [.slice x1.ao x1.no x1.co], [.int .i64 (c.tn + 1)], [.int .u32 c.dl], [.slice x1.ah x1.nh x1.ch]], 26⟩) rfl) 1 (v := .slice x1.ao x1.no x1.co) rfl rfl)) ?_
    simp only [nrm]
    refine lvk (.int .i64 (x1.no : Int)) ?_
    simp only [nrm]
    refine list_val (.int .i64 ((c.tn + 1) % (x.no : Int))) (by kernel_rfl) (hn1 ▸ rem_i _ (.tmp 33) (.tmp 36) (c.tn + 1) (x1.no : Int) rfl (by kernel_rfl) (by kernel_rfl) (by omega) (by omega) (by omega)) ?_
    simp only [nrm]
    refine lvk (.pointer (some ⟨w.heap.size, 2, none⟩)) ?_
    simp only [nrm]
    have hzz_ : Hid (u6.heap[w.heap.size]? = some (.cells (fl [[.int .u32 c.nx], [.slice x1.ao x1.no x1.co], [.int .i64 (c.tn + 1)], [.int .u32 c.dl], [.slice x1.ah x1.nh x1.ch]]) 26 (0, 0))) := hide (hB.get 0 (x := ⟨w.heap.size, fl [[.int .u32 c.nx], [.slice x1.ao x1.no x1.co], [.int .i64 (c.tn + 1)], [.int .u32 c.dl], [.slice x1.ah x1.nh x1.ch]], 26⟩) rfl)
    refine list_ci (.tmp 38) (.tmp 37) (w.heap.size) 2 ((c.tn + 1) % (x.no : Int)) (by kernel_rfl) rfl (by kernel_rfl) (by kernel_rfl) hB 0 rfl NC (nC  _ _ _ _ _) 2 _ rfl rfl ?_
    intro u7 hB_ hbt_
    clear hB
    replace hB : Bl w [⟨w.heap.size, fl [[.int .u32 c.nx], [.slice x1.ao x1.no x1.co], [.int .i64 ((c.tn + 1) % (x.no : Int))], [.int .u32 c.dl], [.slice x1.ah x1.nh x1.ch]], 26⟩, ⟨w.heap.size + 1, fl [[.int .u32 0], [.slice none 0 0], [.int .i64 0], [.int .u32 0], [.slice none 0 0]], 26⟩, ⟨w.heap.size + 1 + 1, fl [[.int .u32 0], bw Z105], 39⟩, ⟨g6, fl [[.int .u32 s.n], bw s.B], 39⟩] u7 := hB_
    clear hB_
    replace hW := hide ((unhide hW).bz (unhide hzz_) hbt_)
    clear hbt_ hzz_
    simp only [nrm]
    refine wpList_nil ?_
    replace hW : Hid (Own w.heap.size u7 { c with tn := (c.tn + 1) % (x.no : Int) } x1) := hide ⟨(unhide hW).o, (unhide hW).h⟩
    replace hB := hide hB
    go_upto_region 10 with fail
    replace hB := unhide hB
    refine any_start (S := fun v_ => v_.heap[w.heap.size]? = some (.cells (fl [[.int .u32 c.nx], [.slice x1.ao x1.no x1.co], [.int .i64 ((c.tn + 1) % (x.no : Int))], [.int .u32 c.dl], [.slice x1.ah x1.nh x1.ch]]) 26 (0, 0)) ∧ v_.heap[g6]? = some (.cells (fl [[.int .u32 s.n], bw s.B]) 39 (0, 0))) (by kernel_rfl) ?_
    replace hW := hide ((unhide hW).gr ((Gr.refl u7).drew))
    replace hB := hB.drew
    generalize World.drew _ = u8 at *
    simp only [List.size_toArray, List.length_cons, List.length_nil, Array.replicate, List.replicate]
    have hS_ := hide (show (fun v_ => v_.heap[w.heap.size]? = some (.cells (fl [[.int .u32 c.nx], [.slice x1.ao x1.no x1.co], [.int .i64 ((c.tn + 1) % (x.no : Int))], [.int .u32 c.dl], [.slice x1.ah x1.nh x1.ch]]) 26 (0, 0)) ∧ v_.heap[g6]? = some (.cells (fl [[.int .u32 s.n], bw s.B]) 39 (0, 0))) u8 from ⟨(hB.get 0 (x := ⟨w.heap.size, fl [[.int .u32 c.nx], [.slice x1.ao x1.no x1.co], [.int .i64 ((c.tn + 1) % (x.no : Int))], [.int .u32 c.dl], [.slice x1.ah x1.nh x1.ch]], 26⟩) rfl), (hB.get 3 (x := ⟨g6, fl [[.int .u32 s.n], bw s.B], 39⟩) rfl)⟩)
    refine any_tk 0 (.agg (fl [[.int .u32 c.nx], [.slice x1.ao x1.no x1.co], [.int .i64 ((c.tn + 1) % (x.no : Int))], [.int .u32 c.dl], [.slice x1.ah x1.nh x1.ch]])) (tf 5 0) rfl (fun x_ hu => exec_sw _ 26 (.tmp 1) rfl (w.heap.size) (by kernel_rfl) hu.1 NC (nC  _ _ _ _ _) Try.underlying26 rfl (by kernel_rfl)) (unhide hS_) ?_
    simp only [nrm]
    refine any_tk 1 (.agg (fl [[.int .u32 s.n], bw s.B])) (tf 5 1) rfl (fun x_ hu => exec_sw _ 39 (.tmp 6) rfl (g6) (by kernel_rfl) hu.2 NO (nO (unhide hok2) _) Try.underlying39 rfl (by kernel_rfl)) (unhide hS_) ?_
    simp only [nrm]
    refine any_one (i := 2) (by kernel_rfl) rfl (fun K hK => ?_)
    have hzz_ : Hid (u8.heap[w.heap.size + 1]? = some (.cells (fl [[.int .u32 0], [.slice none 0 0], [.int .i64 0], [.int .u32 0], [.slice none 0 0]]) 26 (0, 0))) := hide (hB.get 1 (x := ⟨w.heap.size + 1, fl [[.int .u32 0], [.slice none 0 0], [.int .i64 0], [.int .u32 0], [.slice none 0 0]], 26⟩) rfl)
    refine step_all 26 (.tmp 2) (.tmp 39) (w.heap.size + 1) (S2 := [[.int .u32 c.nx], [.slice x1.ao x1.no x1.co], [.int .i64 ((c.tn + 1) % (x.no : Int))], [.int .u32 c.dl], [.slice x1.ah x1.nh x1.ch]]) (by kernel_rfl) rfl (by kernel_rfl) (by kernel_rfl) hB 1 rfl NC (nC  _ _ _ _ _) (nC  _ _ _ _ _) (by kernel_rfl) (oC  rfl rfl rfl rfl rfl) ?_
    intro u9 hB_ hbt_
    clear hB
    replace hB : Bl w [⟨w.heap.size, fl [[.int .u32 c.nx], [.slice x1.ao x1.no x1.co], [.int .i64 ((c.tn + 1) % (x.no : Int))], [.int .u32 c.dl], [.slice x1.ah x1.nh x1.ch]], 26⟩, ⟨w.heap.size + 1, fl [[.int .u32 c.nx], [.slice x1.ao x1.no x1.co], [.int .i64 ((c.tn + 1) % (x.no : Int))], [.int .u32 c.dl], [.slice x1.ah x1.nh x1.ch]], 26⟩, ⟨w.heap.size + 1 + 1, fl [[.int .u32 0], bw Z105], 39⟩, ⟨g6, fl [[.int .u32 s.n], bw s.B], 39⟩] u9 := hB_
    clear hB_
    replace hW := hide ((unhide hW).bz (unhide hzz_) hbt_)
    clear hbt_ hzz_
    clear hS_
    have hS_ := hide (show (fun v_ => v_.heap[w.heap.size]? = some (.cells (fl [[.int .u32 c.nx], [.slice x1.ao x1.no x1.co], [.int .i64 ((c.tn + 1) % (x.no : Int))], [.int .u32 c.dl], [.slice x1.ah x1.nh x1.ch]]) 26 (0, 0)) ∧ v_.heap[g6]? = some (.cells (fl [[.int .u32 s.n], bw s.B]) 39 (0, 0))) u9 from ⟨(hB.get 0 (x := ⟨w.heap.size, fl [[.int .u32 c.nx], [.slice x1.ao x1.no x1.co], [.int .i64 ((c.tn + 1) % (x.no : Int))], [.int .u32 c.dl], [.slice x1.ah x1.nh x1.ch]], 26⟩) rfl), (hB.get 3 (x := ⟨g6, fl [[.int .u32 s.n], bw s.B], 39⟩) rfl)⟩)
    refine hK.out _ _ (unhide hS_) (fun _ => ?_)
    clear hK K
    simp only [nrm]
    refine any_one (i := 3) (by kernel_rfl) rfl (fun K hK => ?_)
    have hzz_ : Hid (u9.heap[w.heap.size + 1 + 1]? = some (.cells (fl [[.int .u32 0], bw Z105]) 39 (0, 0))) := hide (hB.get 2 (x := ⟨w.heap.size + 1 + 1, fl [[.int .u32 0], bw Z105], 39⟩) rfl)
    refine step_all 39 (.tmp 3) (.tmp 40) (w.heap.size + 1 + 1) (S2 := [[.int .u32 s.n], bw s.B]) (by kernel_rfl) rfl (by kernel_rfl) (by kernel_rfl) hB 2 rfl NO (nO Z105_len _) (nO (unhide hok2) _) (by kernel_rfl) (oO _ rfl) ?_
    intro u10 hB_ hbt_
    clear hB
    replace hB : Bl w [⟨w.heap.size, fl [[.int .u32 c.nx], [.slice x1.ao x1.no x1.co], [.int .i64 ((c.tn + 1) % (x.no : Int))], [.int .u32 c.dl], [.slice x1.ah x1.nh x1.ch]], 26⟩, ⟨w.heap.size + 1, fl [[.int .u32 c.nx], [.slice x1.ao x1.no x1.co], [.int .i64 ((c.tn + 1) % (x.no : Int))], [.int .u32 c.dl], [.slice x1.ah x1.nh x1.ch]], 26⟩, ⟨w.heap.size + 1 + 1, fl [[.int .u32 s.n], bw s.B], 39⟩, ⟨g6, fl [[.int .u32 s.n], bw s.B], 39⟩] u10 := hB_
    clear hB_
    replace hW := hide ((unhide hW).bkO (unhide hzz_) hbt_ hne2)
    clear hbt_ hzz_
    clear hS_
    have hS_ := hide (show (fun v_ => v_.heap[w.heap.size]? = some (.cells (fl [[.int .u32 c.nx], [.slice x1.ao x1.no x1.co], [.int .i64 ((c.tn + 1) % (x.no : Int))], [.int .u32 c.dl], [.slice x1.ah x1.nh x1.ch]]) 26 (0, 0)) ∧ v_.heap[g6]? = some (.cells (fl [[.int .u32 s.n], bw s.B]) 39 (0, 0))) u10 from ⟨(hB.get 0 (x := ⟨w.heap.size, fl [[.int .u32 c.nx], [.slice x1.ao x1.no x1.co], [.int .i64 ((c.tn + 1) % (x.no : Int))], [.int .u32 c.dl], [.slice x1.ah x1.nh x1.ch]], 26⟩) rfl), (hB.get 3 (x := ⟨g6, fl [[.int .u32 s.n], bw s.B], 39⟩) rfl)⟩)
    refine hK.out _ _ (unhide hS_) (fun _ => ?_)
    clear hK K
    simp only [nrm]
    refine any_one (i := 4) (by kernel_rfl) rfl (fun K hK => ?_)
    replace hK := hide hK
    go_simp
    refine (unhide hK).out _ _ (unhide hS_) (fun _ => ?_)
    clear hK K
    simp only [nrm]
    refine any_done (by kernel_rfl) ?_
    clear hS_
    replace hB := hide hB
    go_wp2_with fail
    replace hB := unhide hB
    rw [unhide hT]
    rw [unhide hv]
    exact bodyPost_ret (v := .tuple #[.agg (fl [[.int .u32 c.nx], [.slice x1.ao x1.no x1.co], [.int .i64 ((c.tn + 1) % (x.no : Int))], [.int .u32 c.dl], [.slice x1.ah x1.nh x1.ch]]), .agg (fl [[.int .u32 s.n], bw s.B]), .int .i64 0]) (res3 Try.results20 (rv_cell (by kernel_rfl) (hB.get 1 (x := ⟨w.heap.size + 1, fl [[.int .u32 c.nx], [.slice x1.ao x1.no x1.co], [.int .i64 ((c.tn + 1) % (x.no : Int))], [.int .u32 c.dl], [.slice x1.ah x1.nh x1.ch]], 26⟩) rfl) Try.underlying26 rfl (by rw [fl_size (nC  _ _ _ _ _)]; kernel_rfl)) (rv_cell (by kernel_rfl) (hB.get 2 (x := ⟨w.heap.size + 1 + 1, fl [[.int .u32 s.n], bw s.B], 39⟩) rfl) Try.underlying39 rfl (by rw [fl_size (nO (unhide hok2) _)]; kernel_rfl)) (rv_tmp (by kernel_rfl))) rfl (⟨x1, rfl, (unhide hW).cin ⟨(unhide hc).o.1, (unhide hc).h.1, (unhide hc).nx, (by have h1 := unhide hmod1; have h2 := unhide hmod2; dsimp only; omega), (unhide hc).dl⟩, (unhide hW).owx, hB.gr⟩)
end Go.Proofs.Ytcefkkoombmndaa
