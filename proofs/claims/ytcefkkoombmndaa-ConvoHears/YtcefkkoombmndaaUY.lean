/-
  The reference's held and Wants.
-/
import Derived.Test.YtcefkkoombmndaaUW
namespace Go.Proofs.Ytcefkkoombmndaa
open Go.RowKit
set_option maxRecDepth 100000
set_option linter.unusedSimpArgs false
set_option linter.unusedVariables false
set_option maxHeartbeats 4000000 in
theorem rheld_ok (H : List It) (m : Int) (a : Option Addr) (n c : Nat) (w : World) (h : IL w a n c H) : Calls Try.prog 38 #[.slice a n c, .int .u32 m] w (Vl (.bool (isIn H m)) w) := by
  obtain ⟨T, hT⟩ : ∃ T : Ending → World → Prop, T = (Vl (.bool (isIn H m)) w) := ⟨_, rfl⟩
  rw [← hT]
  replace hT := hide hT
  have hl := h.len
  have hcp := h.2.cap
  have hmx := h.2.max
  replace h := hide h
  go_enter Try.func38, Try.ntmps38
  go_upto_region 1 with fail
  obtain ⟨u0, hu_⟩ : ∃ u, u = w := ⟨_, rfl⟩
  rw [← hu_]
  have hB : Bl w [] u0 := hu_ ▸ Bl.nil w
  clear hu_
  refine wp_region_lit ?_
  refine lvk (.slice a n c) ?_
  simp only [nrm]
  refine lvk (.int .i64 (n : Int)) ?_
  simp only [nrm]
  refine lvk (.int .i64 0) ?_
  simp only [nrm]
  refine wpList_nil ?_
  replace hB := hide hB
  go_wp2_with fail
  go_loopw [9] (fun i wr => ∃ j : Nat, j ≤ n ∧ i = .int .i64 (j : Int) ∧ Hid (∀ k s, k < j → H[k]? = some s → s.n ≠ m) ∧ Hid (Bl w [] wr)) (fun i _ => n - (intOf i).toNat)
  case atStart => exact ⟨0, by omega, rfl, hide (fun k s hk => absurd hk (by omega)), hB⟩
  case round =>
  clear hB
  obtain ⟨j, hj, rfl, hM, hB⟩ := hrel
  have hB := unhide hB
  by_cases hlt : j < n
  · have jI : (j : Int) < (n : Int) := by omega
    obtain ⟨s, hsj⟩ : ∃ s, H[j]? = some s := ⟨_, List.getElem?_eq_getElem (by omega)⟩
    obtain ⟨p, o, ha, hr⟩ := ((unhide h).gr hB.gr).at_ j s hsj
    replace hr := hide hr; replace hsj := hide hsj; replace ha := hide ha
    replace hB := hide hB
    go_upto_region 3 with fail
    replace hB := unhide hB
    refine wp_region_lit ?_
    refine list_val (.pointer (some ⟨p, o + 2 * j, none⟩)) (by kernel_rfl) (exec_isi _ (.tmp 7) (.tmp 9) rfl p o n c j (by rw [← unhide ha]; kernel_rfl) (by kernel_rfl) hlt) ?_
    simp only [nrm]
    refine list_val (.agg (fl [[.int .u32 s.n], [.string s.s]])) (by kernel_rfl) (exec_li _ (.tmp 11) rfl p (o + 2 * j) (by kernel_rfl) s (unhide hr)) ?_
    simp only [nrm]
    refine list_valw (.pointer (some ⟨wr.heap.size, 0, none⟩)) (wr.alloc (.cells (fl [[.int .u32 0], [.string ByteArray.empty]]) 47 (0, 0))) (by kernel_rfl) (by kernel_rfl) ?_
    replace hB := hB.new (fl [[.int .u32 0], [.string ByteArray.empty]]) 47
    simp only [List.nil_append, List.cons_append] at hB
    generalize World.alloc _ _ = u1 at *
    generalize wr.heap.size = g6 at *
    simp only [nrm]
    refine list_all 47 (.tmp 6) (.tmp 12) (g6) (S2 := [[.int .u32 s.n], [.string s.s]]) (by kernel_rfl) rfl (by kernel_rfl) (by kernel_rfl) hB 0 rfl NI (nI  _ _) (nI  _ _) (by kernel_rfl) (oI  rfl rfl) ?_
    intro u2 hB_ hbt_
    clear hB
    replace hB : Bl w [⟨g6, fl [[.int .u32 s.n], [.string s.s]], 47⟩] u2 := hB_
    clear hB_
    clear hbt_
    simp only [nrm]
    refine wpList_nil ?_
    by_cases hm : s.n = m
    · have hv : isIn H m = true := by
        unfold isIn
        rw [List.any_eq_true]
        exact ⟨s, List.mem_of_getElem? (unhide hsj), decide_eq_true hm⟩
      replace hm := hide hm
      replace hB := hide hB
      go_upto_region 4 with fail
      replace hB := unhide hB
      refine wp_region_lit ?_
      refine lvk (.pointer (some ⟨g6, 0, none⟩)) ?_
      simp only [nrm]
      refine list_val (.int .u32 s.n) (by kernel_rfl) (exec_c32 _ (.tmp 13) rfl (g6) 0 (by kernel_rfl) s.n (seg_cell (nI  _ _) (hB.get 0 (x := ⟨g6, fl [[.int .u32 s.n], [.string s.s]], 47⟩) rfl) 0 (v := .int .u32 s.n) rfl rfl)) ?_
      simp only [nrm]
      refine lvk (.int .u32 m) ?_
      simp only [nrm]
      refine list_val (.bool true) (by kernel_rfl) (eql_32 _ (.tmp 14) (.tmp 15) s.n m true rfl (by kernel_rfl) (by kernel_rfl) (decide_eq_true (unhide hm))) ?_
      simp only [nrm]
      refine wpList_nil ?_
      replace hB := hide hB
      go_upto_region 5 with fail
      replace hB := unhide hB
      refine wp_region_lit ?_
      (refine wpList_step fun K hK => ?_; replace hK := hide hK; go_simp; refine unhide hK _ _ ?_; clear hK K)
      refine wpList_nil ?_
      replace hB := hide hB
      go_wp2_with fail
      replace hB := unhide hB
      rw [unhide hT]
      exact (⟨by rw [hv] <;> rfl, hB.gr⟩)
    · have hM2 : Hid (∀ k s, k < j + 1 → H[k]? = some s → s.n ≠ m) := hide (fun k t hk ht => by
        rcases Nat.lt_or_ge k j with h9 | h9
        · exact (unhide hM) k t h9 ht
        · have : k = j := by omega
          subst this
          have h8 := ht.symm.trans (unhide hsj)
          injection h8 with h8
          rw [h8]; exact hm)
      replace hm := hide hm
      replace hB := hide hB
      go_upto_region 4 with fail
      replace hB := unhide hB
      refine wp_region_lit ?_
      refine lvk (.pointer (some ⟨g6, 0, none⟩)) ?_
      simp only [nrm]
      refine list_val (.int .u32 s.n) (by kernel_rfl) (exec_c32 _ (.tmp 13) rfl (g6) 0 (by kernel_rfl) s.n (seg_cell (nI  _ _) (hB.get 0 (x := ⟨g6, fl [[.int .u32 s.n], [.string s.s]], 47⟩) rfl) 0 (v := .int .u32 s.n) rfl rfl)) ?_
      simp only [nrm]
      refine lvk (.int .u32 m) ?_
      simp only [nrm]
      refine list_val (.bool false) (by kernel_rfl) (eql_32 _ (.tmp 14) (.tmp 15) s.n m false rfl (by kernel_rfl) (by kernel_rfl) (decide_eq_false (unhide hm))) ?_
      simp only [nrm]
      refine wpList_nil ?_
      replace hB := Bl.left (L := []) (M := [⟨g6, fl [[.int .u32 s.n], [.string s.s]], 47⟩]) hB
      have jw : IntKind.i64.wrap ((j : Int) + 1) = (j : Int) + 1 := by rw [IntKind.wrap_i64]; omega
      replace hB := hide hB
      clear hsj hM hm ha hr
      go_wp2_with fail
      go_roundw
      case rel => exact ⟨j + 1, by omega, by simp, hM2, hB⟩
      case measure => simp [intOf]; omega
  · have jI : ¬ (j : Int) < (n : Int) := by omega
    have hv : isIn H m = false := by
      unfold isIn
      rw [List.any_eq_false]
      intro t ht
      obtain ⟨k, hk, rfl⟩ := List.getElem_of_mem ht
      have := (unhide hM) k _ (by omega) (List.getElem?_eq_getElem hk)
      simpa using this
    clear hM
    replace hB := hide hB
    go_upto_region 7 with fail
    replace hB := unhide hB
    refine wp_region_lit ?_
    (refine wpList_step fun K hK => ?_; replace hK := hide hK; go_simp; refine unhide hK _ _ ?_; clear hK K)
    refine wpList_nil ?_
    replace hB := hide hB
    go_wp2_with fail
    replace hB := unhide hB
    rw [unhide hT]
    exact (⟨by rw [hv] <;> rfl, hB.gr⟩)
set_option maxHeartbeats 4000000 in
theorem rwants_ok (c : Cm) (x : Lc) (m r : Int) (hm : 0 ≤ m ∧ m < 4294967296) (w : World) (hc : Cin w c x) : Calls Try.prog 24 #[.agg (fl [[.int .u32 c.nx], [.slice x.ao x.no x.co], [.int .i64 c.tn], [.int .u32 c.dl], [.slice x.ah x.nh x.ch]]), .int .u32 m, .int .i64 r] w (Vl (.bool (wt c m r)) w) := by
  obtain ⟨T, hT⟩ : ∃ T : Ending → World → Prop, T = (Vl (.bool (wt c m r)) w) := ⟨_, rfl⟩
  rw [← hT]
  replace hT := hide hT
  have hdl := hc.dl
  replace hc := hide hc
  obtain ⟨A0_, hA0_⟩ : ∃ S_, S_ = fl [[.int .u32 c.nx], [.slice x.ao x.no x.co], [.int .i64 c.tn], [.int .u32 c.dl], [.slice x.ah x.nh x.ch]] := ⟨_, rfl⟩
  rw [← hA0_]
  replace hA0_ := hide hA0_
  go_enter Try.func24, Try.ntmps24
  go_upto_region 1 with fail
  have hB := ((Bl.nil w).new A0_ 26)
  simp only [size_alloc, List.nil_append, List.cons_append] at hB
  rw [unhide hA0_] at hB
  generalize hu_ : World.alloc _ _ = u0
  replace hB : Bl w [⟨w.heap.size, fl [[.int .u32 c.nx], [.slice x.ao x.no x.co], [.int .i64 c.tn], [.int .u32 c.dl], [.slice x.ah x.nh x.ch]], 26⟩] u0 := by
    rw [← hu_]
    rw [unhide hA0_]
    exact hB
  clear hu_ hA0_
  cases h1 : rt c with
  | false =>
    have hv : wt c m r = false := by unfold wt; rw [h1]; rfl
    refine wp_region_lit ?_
    refine wpList_gen fun ops_ hops => ?_
    replace hops := hide hops
    refine list_val (.agg (fl [[.int .u32 c.nx], [.slice x.ao x.no x.co], [.int .i64 c.tn], [.int .u32 c.dl], [.slice x.ah x.nh x.ch]])) (by rw [unhide hops]; kernel_rfl) (exec_sw _ 26 (.tmp 3) rfl (w.heap.size) (by kernel_rfl) (hB.get 0 (x := ⟨w.heap.size, fl [[.int .u32 c.nx], [.slice x.ao x.no x.co], [.int .i64 c.tn], [.int .u32 c.dl], [.slice x.ah x.nh x.ch]], 26⟩) rfl) NC (nC  _ _ _ _ _) Try.underlying26 rfl (by kernel_rfl)) ?_
    simp only [nrm]
    refine list_call 13 #[.agg (fl [[.int .u32 c.nx], [.slice x.ao x.no x.co], [.int .i64 c.tn], [.int .u32 c.dl], [.slice x.ah x.nh x.ch]])] (by rw [unhide hops]; kernel_rfl) (by kernel_rfl) (((show Calls Try.prog 13 #[.agg (fl [[.int .u32 c.nx], [.slice x.ao x.no x.co], [.int .i64 c.tn], [.int .u32 c.dl], [.slice x.ah x.nh x.ch]])] u0 (Vl (.bool false) u0) from h1 ▸ right_ok c x u0 ((unhide hc).gr hB.gr))).mono ?_)
    rintro r_ u1 ⟨rfl, hg⟩
    replace hB := hB.more hg
    clear hg
    refine ⟨_, rfl, ?_⟩
    simp only [nrm]
    refine list_val (.bool true) (by rw [unhide hops]; kernel_rfl) (by kernel_rfl) ?_
    simp only [nrm]
    refine list_val (.bool true) (by rw [unhide hops]; kernel_rfl) (by kernel_rfl) ?_
    simp only [nrm]
    refine list_off (by rw [unhide hops]; kernel_rfl) ?_
    simp only [nrm]
    refine list_off (by rw [unhide hops]; kernel_rfl) ?_
    simp only [nrm]
    refine list_val (.bool true) (by rw [unhide hops]; kernel_rfl) (by kernel_rfl) ?_
    simp only [nrm]
    refine list_val (.bool true) (by rw [unhide hops]; kernel_rfl) (by kernel_rfl) ?_
    simp only [nrm]
    refine list_off (by rw [unhide hops]; kernel_rfl) ?_
    simp only [nrm]
    refine list_off (by rw [unhide hops]; kernel_rfl) ?_
    simp only [nrm]
    refine list_val (.bool true) (by rw [unhide hops]; kernel_rfl) (by kernel_rfl) ?_
    simp only [nrm]
    refine list_val (.bool true) (by rw [unhide hops]; kernel_rfl) (by kernel_rfl) ?_
    simp only [nrm]
    refine list_off (by rw [unhide hops]; kernel_rfl) ?_
    simp only [nrm]
    refine list_off (by rw [unhide hops]; kernel_rfl) ?_
    simp only [nrm]
    refine list_off (by rw [unhide hops]; kernel_rfl) ?_
    simp only [nrm]
    refine list_off (by rw [unhide hops]; kernel_rfl) ?_
    simp only [nrm]
    refine list_val (.bool true) (by rw [unhide hops]; kernel_rfl) (by kernel_rfl) ?_
    simp only [nrm]
    refine wpList_nil ?_
    replace hB := hide hB
    go_upto_region 2 with fail
    replace hB := unhide hB
    refine wp_region_lit ?_
    (refine wpList_step fun K hK => ?_; replace hK := hide hK; go_simp; refine unhide hK _ _ ?_; clear hK K)
    refine wpList_nil ?_
    replace hB := hide hB
    go_wp2_with fail
    replace hB := unhide hB
    rw [unhide hT]
    exact (⟨by rw [hv] <;> rfl, hB.gr⟩)
  | true =>
    have hle := rt_le h1
    have hw : wt c m r = (decide (c.dl ≤ m) && (decide (m < 2147483648) && (decide (m - c.dl < min 4 r) && !isIn c.H m))) := by unfold wt; rw [h1, Bool.true_and]
    replace hw := hide hw; replace h1 := hide h1
    by_cases h2 : r < 1
    · have hv : wt c m r = false := by
        rw [unhide hw]
        by_cases h9 : c.dl ≤ m
        · rw [decide_eq_false (show ¬ m - c.dl < min 4 r by omega)]
          simp
        · rw [decide_eq_false h9, Bool.false_and]
      replace h2 := hide h2
      refine wp_region_lit ?_
      refine wpList_gen fun ops_ hops => ?_
      replace hops := hide hops
      refine list_val (.agg (fl [[.int .u32 c.nx], [.slice x.ao x.no x.co], [.int .i64 c.tn], [.int .u32 c.dl], [.slice x.ah x.nh x.ch]])) (by rw [unhide hops]; kernel_rfl) (exec_sw _ 26 (.tmp 3) rfl (w.heap.size) (by kernel_rfl) (hB.get 0 (x := ⟨w.heap.size, fl [[.int .u32 c.nx], [.slice x.ao x.no x.co], [.int .i64 c.tn], [.int .u32 c.dl], [.slice x.ah x.nh x.ch]], 26⟩) rfl) NC (nC  _ _ _ _ _) Try.underlying26 rfl (by kernel_rfl)) ?_
      simp only [nrm]
      refine list_call 13 #[.agg (fl [[.int .u32 c.nx], [.slice x.ao x.no x.co], [.int .i64 c.tn], [.int .u32 c.dl], [.slice x.ah x.nh x.ch]])] (by rw [unhide hops]; kernel_rfl) (by kernel_rfl) (((show Calls Try.prog 13 #[.agg (fl [[.int .u32 c.nx], [.slice x.ao x.no x.co], [.int .i64 c.tn], [.int .u32 c.dl], [.slice x.ah x.nh x.ch]])] u0 (Vl (.bool true) u0) from unhide h1 ▸ right_ok c x u0 ((unhide hc).gr hB.gr))).mono ?_)
      rintro r_ u1 ⟨rfl, hg⟩
      replace hB := hB.more hg
      clear hg
      refine ⟨_, rfl, ?_⟩
      simp only [nrm]
      refine list_val (.bool false) (by rw [unhide hops]; kernel_rfl) (by kernel_rfl) ?_
      simp only [nrm]
      refine list_val (.bool false) (by rw [unhide hops]; kernel_rfl) (by kernel_rfl) ?_
      simp only [nrm]
      refine list_val (.int .i64 r) (by rw [unhide hops]; kernel_rfl) (by kernel_rfl) ?_
      simp only [nrm]
      refine list_val (.bool true) (by rw [unhide hops]; kernel_rfl) (lss_i _ (.tmp 11) (.const (.int .i64 1)) r 1 true rfl (by kernel_rfl) (by kernel_rfl) (decide_eq_true (unhide h2))) ?_
      simp only [nrm]
      refine list_val (.bool true) (by rw [unhide hops]; kernel_rfl) (by kernel_rfl) ?_
      simp only [nrm]
      refine list_val (.bool true) (by rw [unhide hops]; kernel_rfl) (by kernel_rfl) ?_
      simp only [nrm]
      refine list_off (by rw [unhide hops]; kernel_rfl) ?_
      simp only [nrm]
      refine list_off (by rw [unhide hops]; kernel_rfl) ?_
      simp only [nrm]
      refine list_val (.bool true) (by rw [unhide hops]; kernel_rfl) (by kernel_rfl) ?_
      simp only [nrm]
      refine list_val (.bool true) (by rw [unhide hops]; kernel_rfl) (by kernel_rfl) ?_
      simp only [nrm]
      refine list_off (by rw [unhide hops]; kernel_rfl) ?_
      simp only [nrm]
      refine list_off (by rw [unhide hops]; kernel_rfl) ?_
      simp only [nrm]
      refine list_off (by rw [unhide hops]; kernel_rfl) ?_
      simp only [nrm]
      refine list_off (by rw [unhide hops]; kernel_rfl) ?_
      simp only [nrm]
      refine list_val (.bool true) (by rw [unhide hops]; kernel_rfl) (by kernel_rfl) ?_
      simp only [nrm]
      refine wpList_nil ?_
      replace hB := hide hB
      go_upto_region 2 with fail
      replace hB := unhide hB
      refine wp_region_lit ?_
      (refine wpList_step fun K hK => ?_; replace hK := hide hK; go_simp; refine unhide hK _ _ ?_; clear hK K)
      refine wpList_nil ?_
      replace hB := hide hB
      go_wp2_with fail
      replace hB := unhide hB
      rw [unhide hT]
      exact (⟨by rw [hv] <;> rfl, hB.gr⟩)
    by_cases h3 : 2147483648 ≤ m
    · have hv : wt c m r = false := by rw [unhide hw, decide_eq_false (show ¬ m < 2147483648 by omega), Bool.false_and, Bool.and_false]
      replace h3 := hide h3
      refine wp_region_lit ?_
      refine wpList_gen fun ops_ hops => ?_
      replace hops := hide hops
      refine list_val (.agg (fl [[.int .u32 c.nx], [.slice x.ao x.no x.co], [.int .i64 c.tn], [.int .u32 c.dl], [.slice x.ah x.nh x.ch]])) (by rw [unhide hops]; kernel_rfl) (exec_sw _ 26 (.tmp 3) rfl (w.heap.size) (by kernel_rfl) (hB.get 0 (x := ⟨w.heap.size, fl [[.int .u32 c.nx], [.slice x.ao x.no x.co], [.int .i64 c.tn], [.int .u32 c.dl], [.slice x.ah x.nh x.ch]], 26⟩) rfl) NC (nC  _ _ _ _ _) Try.underlying26 rfl (by kernel_rfl)) ?_
      simp only [nrm]
      refine list_call 13 #[.agg (fl [[.int .u32 c.nx], [.slice x.ao x.no x.co], [.int .i64 c.tn], [.int .u32 c.dl], [.slice x.ah x.nh x.ch]])] (by rw [unhide hops]; kernel_rfl) (by kernel_rfl) (((show Calls Try.prog 13 #[.agg (fl [[.int .u32 c.nx], [.slice x.ao x.no x.co], [.int .i64 c.tn], [.int .u32 c.dl], [.slice x.ah x.nh x.ch]])] u0 (Vl (.bool true) u0) from unhide h1 ▸ right_ok c x u0 ((unhide hc).gr hB.gr))).mono ?_)
      rintro r_ u1 ⟨rfl, hg⟩
      replace hB := hB.more hg
      clear hg
      refine ⟨_, rfl, ?_⟩
      simp only [nrm]
      refine list_val (.bool false) (by rw [unhide hops]; kernel_rfl) (by kernel_rfl) ?_
      simp only [nrm]
      refine list_val (.bool false) (by rw [unhide hops]; kernel_rfl) (by kernel_rfl) ?_
      simp only [nrm]
      refine list_val (.int .i64 r) (by rw [unhide hops]; kernel_rfl) (by kernel_rfl) ?_
      simp only [nrm]
      refine list_val (.bool false) (by rw [unhide hops]; kernel_rfl) (lss_i _ (.tmp 11) (.const (.int .i64 1)) r 1 false rfl (by kernel_rfl) (by kernel_rfl) (decide_eq_false h2)) ?_
      simp only [nrm]
      refine list_val (.bool false) (by rw [unhide hops]; kernel_rfl) (by kernel_rfl) ?_
      simp only [nrm]
      refine list_val (.bool false) (by rw [unhide hops]; kernel_rfl) (by kernel_rfl) ?_
      simp only [nrm]
      refine list_val (.int .u32 m) (by rw [unhide hops]; kernel_rfl) (by kernel_rfl) ?_
      simp only [nrm]
      refine list_val (.bool true) (by rw [unhide hops]; kernel_rfl) (geq_32 _ (.tmp 15) (.const (.int .u32 2147483648)) m 2147483648 true rfl (by kernel_rfl) (by kernel_rfl) (decide_eq_true (unhide h3))) ?_
      simp only [nrm]
      refine list_val (.bool true) (by rw [unhide hops]; kernel_rfl) (by kernel_rfl) ?_
      simp only [nrm]
      refine list_val (.bool true) (by rw [unhide hops]; kernel_rfl) (by kernel_rfl) ?_
      simp only [nrm]
      refine list_off (by rw [unhide hops]; kernel_rfl) ?_
      simp only [nrm]
      refine list_off (by rw [unhide hops]; kernel_rfl) ?_
      simp only [nrm]
      refine list_off (by rw [unhide hops]; kernel_rfl) ?_
      simp only [nrm]
      refine list_off (by rw [unhide hops]; kernel_rfl) ?_
      simp only [nrm]
      refine list_val (.bool true) (by rw [unhide hops]; kernel_rfl) (by kernel_rfl) ?_
      simp only [nrm]
      refine wpList_nil ?_
      replace hB := hide hB
      go_upto_region 2 with fail
      replace hB := unhide hB
      refine wp_region_lit ?_
      (refine wpList_step fun K hK => ?_; replace hK := hide hK; go_simp; refine unhide hK _ _ ?_; clear hK K)
      refine wpList_nil ?_
      replace hB := hide hB
      go_wp2_with fail
      replace hB := unhide hB
      rw [unhide hT]
      exact (⟨by rw [hv] <;> rfl, hB.gr⟩)
    cases h4 : isIn c.H m with
    | true =>
      have hv : wt c m r = false := by rw [unhide hw, h4]; simp
      refine wp_region_lit ?_
      refine wpList_gen fun ops_ hops => ?_
      replace hops := hide hops
      refine list_val (.agg (fl [[.int .u32 c.nx], [.slice x.ao x.no x.co], [.int .i64 c.tn], [.int .u32 c.dl], [.slice x.ah x.nh x.ch]])) (by rw [unhide hops]; kernel_rfl) (exec_sw _ 26 (.tmp 3) rfl (w.heap.size) (by kernel_rfl) (hB.get 0 (x := ⟨w.heap.size, fl [[.int .u32 c.nx], [.slice x.ao x.no x.co], [.int .i64 c.tn], [.int .u32 c.dl], [.slice x.ah x.nh x.ch]], 26⟩) rfl) NC (nC  _ _ _ _ _) Try.underlying26 rfl (by kernel_rfl)) ?_
      simp only [nrm]
      refine list_call 13 #[.agg (fl [[.int .u32 c.nx], [.slice x.ao x.no x.co], [.int .i64 c.tn], [.int .u32 c.dl], [.slice x.ah x.nh x.ch]])] (by rw [unhide hops]; kernel_rfl) (by kernel_rfl) (((show Calls Try.prog 13 #[.agg (fl [[.int .u32 c.nx], [.slice x.ao x.no x.co], [.int .i64 c.tn], [.int .u32 c.dl], [.slice x.ah x.nh x.ch]])] u0 (Vl (.bool true) u0) from unhide h1 ▸ right_ok c x u0 ((unhide hc).gr hB.gr))).mono ?_)
      rintro r_ u1 ⟨rfl, hg⟩
      replace hB := hB.more hg
      clear hg
      refine ⟨_, rfl, ?_⟩
      simp only [nrm]
      refine list_val (.bool false) (by rw [unhide hops]; kernel_rfl) (by kernel_rfl) ?_
      simp only [nrm]
      refine list_val (.bool false) (by rw [unhide hops]; kernel_rfl) (by kernel_rfl) ?_
      simp only [nrm]
      refine list_val (.int .i64 r) (by rw [unhide hops]; kernel_rfl) (by kernel_rfl) ?_
      simp only [nrm]
      refine list_val (.bool false) (by rw [unhide hops]; kernel_rfl) (lss_i _ (.tmp 11) (.const (.int .i64 1)) r 1 false rfl (by kernel_rfl) (by kernel_rfl) (decide_eq_false h2)) ?_
      simp only [nrm]
      refine list_val (.bool false) (by rw [unhide hops]; kernel_rfl) (by kernel_rfl) ?_
      simp only [nrm]
      refine list_val (.bool false) (by rw [unhide hops]; kernel_rfl) (by kernel_rfl) ?_
      simp only [nrm]
      refine list_val (.int .u32 m) (by rw [unhide hops]; kernel_rfl) (by kernel_rfl) ?_
      simp only [nrm]
      refine list_val (.bool false) (by rw [unhide hops]; kernel_rfl) (geq_32 _ (.tmp 15) (.const (.int .u32 2147483648)) m 2147483648 false rfl (by kernel_rfl) (by kernel_rfl) (decide_eq_false h3)) ?_
      simp only [nrm]
      refine list_val (.bool false) (by rw [unhide hops]; kernel_rfl) (by kernel_rfl) ?_
      simp only [nrm]
      refine list_val (.bool false) (by rw [unhide hops]; kernel_rfl) (by kernel_rfl) ?_
      simp only [nrm]
      refine list_val (.pointer (some ⟨w.heap.size, 4, none⟩)) (by rw [unhide hops]; kernel_rfl) (by kernel_rfl) ?_
      simp only [nrm]
      refine list_val (.slice x.ah x.nh x.ch) (by rw [unhide hops]; kernel_rfl) (exec_csI _ (.tmp 19) rfl (w.heap.size) 4 (by kernel_rfl) x.ah x.nh x.ch (seg_cell (nC  _ _ _ _ _) (hB.get 0 (x := ⟨w.heap.size, fl [[.int .u32 c.nx], [.slice x.ao x.no x.co], [.int .i64 c.tn], [.int .u32 c.dl], [.slice x.ah x.nh x.ch]], 26⟩) rfl) 4 (v := .slice x.ah x.nh x.ch) rfl rfl)) ?_
      simp only [nrm]
      refine list_val (.int .u32 m) (by rw [unhide hops]; kernel_rfl) (by kernel_rfl) ?_
      simp only [nrm]
      refine list_call 38 #[.slice x.ah x.nh x.ch, .int .u32 m] (by rw [unhide hops]; kernel_rfl) (by kernel_rfl) (((show Calls Try.prog 38 #[.slice x.ah x.nh x.ch, .int .u32 m] u1 (Vl (.bool true) u1) from h4 ▸ rheld_ok c.H m x.ah x.nh x.ch u1 ((unhide hc).gr hB.gr).h)).mono ?_)
      rintro r_ u2 ⟨rfl, hg⟩
      replace hB := hB.more hg
      clear hg
      refine ⟨_, rfl, ?_⟩
      simp only [nrm]
      refine list_val (.bool true) (by rw [unhide hops]; kernel_rfl) (by kernel_rfl) ?_
      simp only [nrm]
      refine wpList_nil ?_
      replace hB := hide hB
      go_upto_region 2 with fail
      replace hB := unhide hB
      refine wp_region_lit ?_
      (refine wpList_step fun K hK => ?_; replace hK := hide hK; go_simp; refine unhide hK _ _ ?_; clear hK K)
      refine wpList_nil ?_
      replace hB := hide hB
      go_wp2_with fail
      replace hB := unhide hB
      rw [unhide hT]
      exact (⟨by rw [hv] <;> rfl, hB.gr⟩)
    | false =>
      refine wp_region_lit ?_
      refine wpList_gen fun ops_ hops => ?_
      replace hops := hide hops
      refine list_val (.agg (fl [[.int .u32 c.nx], [.slice x.ao x.no x.co], [.int .i64 c.tn], [.int .u32 c.dl], [.slice x.ah x.nh x.ch]])) (by rw [unhide hops]; kernel_rfl) (exec_sw _ 26 (.tmp 3) rfl (w.heap.size) (by kernel_rfl) (hB.get 0 (x := ⟨w.heap.size, fl [[.int .u32 c.nx], [.slice x.ao x.no x.co], [.int .i64 c.tn], [.int .u32 c.dl], [.slice x.ah x.nh x.ch]], 26⟩) rfl) NC (nC  _ _ _ _ _) Try.underlying26 rfl (by kernel_rfl)) ?_
      simp only [nrm]
      refine list_call 13 #[.agg (fl [[.int .u32 c.nx], [.slice x.ao x.no x.co], [.int .i64 c.tn], [.int .u32 c.dl], [.slice x.ah x.nh x.ch]])] (by rw [unhide hops]; kernel_rfl) (by kernel_rfl) (((show Calls Try.prog 13 #[.agg (fl [[.int .u32 c.nx], [.slice x.ao x.no x.co], [.int .i64 c.tn], [.int .u32 c.dl], [.slice x.ah x.nh x.ch]])] u0 (Vl (.bool true) u0) from unhide h1 ▸ right_ok c x u0 ((unhide hc).gr hB.gr))).mono ?_)
      rintro r_ u1 ⟨rfl, hg⟩
      replace hB := hB.more hg
      clear hg
      refine ⟨_, rfl, ?_⟩
      simp only [nrm]
      refine list_val (.bool false) (by rw [unhide hops]; kernel_rfl) (by kernel_rfl) ?_
      simp only [nrm]
      refine list_val (.bool false) (by rw [unhide hops]; kernel_rfl) (by kernel_rfl) ?_
      simp only [nrm]
      refine list_val (.int .i64 r) (by rw [unhide hops]; kernel_rfl) (by kernel_rfl) ?_
      simp only [nrm]
      refine list_val (.bool false) (by rw [unhide hops]; kernel_rfl) (lss_i _ (.tmp 11) (.const (.int .i64 1)) r 1 false rfl (by kernel_rfl) (by kernel_rfl) (decide_eq_false h2)) ?_
      simp only [nrm]
      refine list_val (.bool false) (by rw [unhide hops]; kernel_rfl) (by kernel_rfl) ?_
      simp only [nrm]
      refine list_val (.bool false) (by rw [unhide hops]; kernel_rfl) (by kernel_rfl) ?_
      simp only [nrm]
      refine list_val (.int .u32 m) (by rw [unhide hops]; kernel_rfl) (by kernel_rfl) ?_
      simp only [nrm]
      refine list_val (.bool false) (by rw [unhide hops]; kernel_rfl) (geq_32 _ (.tmp 15) (.const (.int .u32 2147483648)) m 2147483648 false rfl (by kernel_rfl) (by kernel_rfl) (decide_eq_false h3)) ?_
      simp only [nrm]
      refine list_val (.bool false) (by rw [unhide hops]; kernel_rfl) (by kernel_rfl) ?_
      simp only [nrm]
      refine list_val (.bool false) (by rw [unhide hops]; kernel_rfl) (by kernel_rfl) ?_
      simp only [nrm]
      refine list_val (.pointer (some ⟨w.heap.size, 4, none⟩)) (by rw [unhide hops]; kernel_rfl) (by kernel_rfl) ?_
      simp only [nrm]
      refine list_val (.slice x.ah x.nh x.ch) (by rw [unhide hops]; kernel_rfl) (exec_csI _ (.tmp 19) rfl (w.heap.size) 4 (by kernel_rfl) x.ah x.nh x.ch (seg_cell (nC  _ _ _ _ _) (hB.get 0 (x := ⟨w.heap.size, fl [[.int .u32 c.nx], [.slice x.ao x.no x.co], [.int .i64 c.tn], [.int .u32 c.dl], [.slice x.ah x.nh x.ch]], 26⟩) rfl) 4 (v := .slice x.ah x.nh x.ch) rfl rfl)) ?_
      simp only [nrm]
      refine list_val (.int .u32 m) (by rw [unhide hops]; kernel_rfl) (by kernel_rfl) ?_
      simp only [nrm]
      refine list_call 38 #[.slice x.ah x.nh x.ch, .int .u32 m] (by rw [unhide hops]; kernel_rfl) (by kernel_rfl) (((show Calls Try.prog 38 #[.slice x.ah x.nh x.ch, .int .u32 m] u1 (Vl (.bool false) u1) from h4 ▸ rheld_ok c.H m x.ah x.nh x.ch u1 ((unhide hc).gr hB.gr).h)).mono ?_)
      rintro r_ u2 ⟨rfl, hg⟩
      replace hB := hB.more hg
      clear hg
      refine ⟨_, rfl, ?_⟩
      simp only [nrm]
      refine list_val (.bool false) (by rw [unhide hops]; kernel_rfl) (by kernel_rfl) ?_
      simp only [nrm]
      refine wpList_nil ?_
      by_cases h5 : c.dl ≤ m
      · obtain ⟨e, he⟩ : ∃ e, e = min r 4 := ⟨_, rfl⟩
        have hv : wt c m r = decide (m - c.dl < e) := by
          rw [unhide hw, h4, decide_eq_true h5, decide_eq_true (show m < 2147483648 by omega), he, show min 4 r = min r 4 by omega]
          simp
        have heb : 1 ≤ e ∧ e ≤ 4 := by omega
        replace he := hide he
        replace hv := hide hv
        replace hB := hide hB
        go_upto_region 3 with fail
        replace hB := unhide hB
        refine wp_region_lit ?_
        refine wpList_gen fun ops_ hops => ?_
        replace hops := hide hops
        refine list_val (.int .u32 m) (by rw [unhide hops]; kernel_rfl) (by kernel_rfl) ?_
        simp only [nrm]
        refine list_val (.pointer (some ⟨w.heap.size, 3, none⟩)) (by rw [unhide hops]; kernel_rfl) (by kernel_rfl) ?_
        simp only [nrm]
        refine list_val (.int .u32 c.dl) (by rw [unhide hops]; kernel_rfl) (exec_c32 _ (.tmp 25) rfl (w.heap.size) 3 (by kernel_rfl) c.dl (seg_cell (nC  _ _ _ _ _) (hB.get 0 (x := ⟨w.heap.size, fl [[.int .u32 c.nx], [.slice x.ao x.no x.co], [.int .i64 c.tn], [.int .u32 c.dl], [.slice x.ah x.nh x.ch]], 26⟩) rfl) 3 (v := .int .u32 c.dl) rfl rfl)) ?_
        simp only [nrm]
        refine list_val (.bool true) (by rw [unhide hops]; kernel_rfl) (geq_32 _ (.tmp 24) (.tmp 26) m c.dl true rfl (by kernel_rfl) (by kernel_rfl) (decide_eq_true h5)) ?_
        simp only [nrm]
        refine list_val (.bool true) (by rw [unhide hops]; kernel_rfl) (by kernel_rfl) ?_
        simp only [nrm]
        refine list_val (.int .u32 m) (by rw [unhide hops]; kernel_rfl) (by kernel_rfl) ?_
        simp only [nrm]
        refine list_val (.pointer (some ⟨w.heap.size, 3, none⟩)) (by rw [unhide hops]; kernel_rfl) (by kernel_rfl) ?_
        simp only [nrm]
        refine list_val (.int .u32 c.dl) (by rw [unhide hops]; kernel_rfl) (exec_c32 _ (.tmp 30) rfl (w.heap.size) 3 (by kernel_rfl) c.dl (seg_cell (nC  _ _ _ _ _) (hB.get 0 (x := ⟨w.heap.size, fl [[.int .u32 c.nx], [.slice x.ao x.no x.co], [.int .i64 c.tn], [.int .u32 c.dl], [.slice x.ah x.nh x.ch]], 26⟩) rfl) 3 (v := .int .u32 c.dl) rfl rfl)) ?_
        simp only [nrm]
        refine list_val (.int .u32 (m - c.dl)) (by rw [unhide hops]; kernel_rfl) (sub_32 _ (.tmp 29) (.tmp 31) m c.dl rfl (by kernel_rfl) (by kernel_rfl) _ rfl (by omega)) ?_
        simp only [nrm]
        refine list_val (.int .i64 r) (by rw [unhide hops]; kernel_rfl) (by kernel_rfl) ?_
        simp only [nrm]
        refine list_val (.int .i64 e) (by rw [unhide hops]; kernel_rfl) (min_i _ (.tmp 33) (.const (.int .i64 4)) r 4 rfl (by kernel_rfl) (by kernel_rfl) e (unhide he).symm) ?_
        simp only [nrm]
        refine list_val (.int .u32 e) (by rw [unhide hops]; kernel_rfl) (conv_u32 _ (.tmp 34) e rfl (by kernel_rfl) (by omega)) ?_
        simp only [nrm]
        refine list_val (.bool (decide (m - c.dl < e))) (by rw [unhide hops]; kernel_rfl) (lss_32 _ (.tmp 32) (.tmp 35) (m - c.dl) e _ rfl (by kernel_rfl) (by kernel_rfl) rfl) ?_
        simp only [nrm]
        refine list_val (.bool (decide (m - c.dl < e))) (by rw [unhide hops]; kernel_rfl) (by kernel_rfl) ?_
        simp only [nrm]
        (refine wpList_step fun K hK => ?_; replace hK := hide hK; go_simp; refine unhide hK _ _ ?_; clear hK K)
        refine wpList_nil ?_
        replace hB := hide hB
        go_wp2_with fail
        replace hB := unhide hB
        rw [unhide hT]
        exact (⟨by rw [unhide hv] <;> rfl, hB.gr⟩)
      · have hv : wt c m r = false := by rw [unhide hw, decide_eq_false h5, Bool.false_and]
        replace h5 := hide h5
        replace hB := hide hB
        go_upto_region 3 with fail
        replace hB := unhide hB
        refine wp_region_lit ?_
        refine wpList_gen fun ops_ hops => ?_
        replace hops := hide hops
        refine list_val (.int .u32 m) (by rw [unhide hops]; kernel_rfl) (by kernel_rfl) ?_
        simp only [nrm]
        refine list_val (.pointer (some ⟨w.heap.size, 3, none⟩)) (by rw [unhide hops]; kernel_rfl) (by kernel_rfl) ?_
        simp only [nrm]
        refine list_val (.int .u32 c.dl) (by rw [unhide hops]; kernel_rfl) (exec_c32 _ (.tmp 25) rfl (w.heap.size) 3 (by kernel_rfl) c.dl (seg_cell (nC  _ _ _ _ _) (hB.get 0 (x := ⟨w.heap.size, fl [[.int .u32 c.nx], [.slice x.ao x.no x.co], [.int .i64 c.tn], [.int .u32 c.dl], [.slice x.ah x.nh x.ch]], 26⟩) rfl) 3 (v := .int .u32 c.dl) rfl rfl)) ?_
        simp only [nrm]
        refine list_val (.bool false) (by rw [unhide hops]; kernel_rfl) (geq_32 _ (.tmp 24) (.tmp 26) m c.dl false rfl (by kernel_rfl) (by kernel_rfl) (decide_eq_false (unhide h5))) ?_
        simp only [nrm]
        refine list_val (.bool false) (by rw [unhide hops]; kernel_rfl) (by kernel_rfl) ?_
        simp only [nrm]
        refine list_off (by rw [unhide hops]; kernel_rfl) ?_
        simp only [nrm]
        refine list_off (by rw [unhide hops]; kernel_rfl) ?_
        simp only [nrm]
        refine list_off (by rw [unhide hops]; kernel_rfl) ?_
        simp only [nrm]
        refine list_off (by rw [unhide hops]; kernel_rfl) ?_
        simp only [nrm]
        refine list_off (by rw [unhide hops]; kernel_rfl) ?_
        simp only [nrm]
        refine list_off (by rw [unhide hops]; kernel_rfl) ?_
        simp only [nrm]
        refine list_off (by rw [unhide hops]; kernel_rfl) ?_
        simp only [nrm]
        refine list_off (by rw [unhide hops]; kernel_rfl) ?_
        simp only [nrm]
        refine list_val (.bool false) (by rw [unhide hops]; kernel_rfl) (by kernel_rfl) ?_
        simp only [nrm]
        (refine wpList_step fun K hK => ?_; replace hK := hide hK; go_simp; refine unhide hK _ _ ?_; clear hK K)
        refine wpList_nil ?_
        replace hB := hide hB
        go_wp2_with fail
        replace hB := unhide hB
        rw [unhide hT]
        exact (⟨by rw [hv] <;> rfl, hB.gr⟩)
end Go.Proofs.Ytcefkkoombmndaa
