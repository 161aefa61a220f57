/-
  What step answers.
-/
import Derived.Test.YtpmgmpihmpifgaaDoorXK1
import Derived.Test.YtpmgmpihmpifgaaDoorVNeeds
namespace Go.Proofs.YtpmgmpihmpifgaaDoor.Cv
open Go.RowKit
set_option maxRecDepth 100000
set_option linter.unusedSimpArgs false

set_option maxHeartbeats 4000000 in
theorem step_ec {x1 x2 z2 x3 z3 : Int} {u a b c d : Array Value} (hu0 : EC x1 u) (ha : EC x2 a) (hb : EC z2 b) (hc : EC x3 c) (hd : EC z3 d) (w : World) :
    Calls Tryd.prog 79 #[.agg u, .agg a, .agg b, .agg c, .agg d] w (fun r w' => ∃ e1 e2 e3 e4, r = .returned (.tuple #[.agg e1, .agg e2, .agg e3, .agg e4]) ∧ EC (((x2 + z2) * (x2 + z2)) * ((x2 - z2) * (x2 - z2))) e1 ∧ EC (((x2 + z2) * (x2 + z2) - (x2 - z2) * (x2 - z2)) * ((x2 + z2) * (x2 + z2) + 121665 * ((x2 + z2) * (x2 + z2) - (x2 - z2) * (x2 - z2)))) e2 ∧
      EC (((x3 - z3) * (x2 + z2) + (x3 + z3) * (x2 - z2)) * ((x3 - z3) * (x2 + z2) + (x3 + z3) * (x2 - z2))) e3 ∧ EC (x1 * (((x3 - z3) * (x2 + z2) - (x3 + z3) * (x2 - z2)) * ((x3 - z3) * (x2 + z2) - (x3 + z3) * (x2 - z2)))) e4 ∧ Gr w w') := by
  go_enter Tryd.func79, Tryd.ntmps79
  go_upto_region 1 with fail
  have hB := ((((((((((Bl.nil w).new u 91).new a 91).new b 91).new c 91).new d 91).new #[.int .u64 0, .int .u64 0, .int .u64 0, .int .u64 0, .int .u64 0] 91).new #[.int .u64 0, .int .u64 0, .int .u64 0, .int .u64 0, .int .u64 0] 91).new #[.int .u64 0, .int .u64 0, .int .u64 0, .int .u64 0, .int .u64 0] 91).new #[.int .u64 0, .int .u64 0, .int .u64 0, .int .u64 0, .int .u64 0] 91)
  simp only [size_alloc, List.nil_append, List.cons_append] at hB
  generalize World.alloc _ _ = v1_ at *
  refine wp_region_lit ?_
  refine list_val (.agg a) (by kernel_rfl) (exec_arr _ 91 (.tmp 6) rfl (w.heap.size + 1) (by kernel_rfl) a 91 _ (hB.get 1 (x := ⟨w.heap.size + 1, a, 91⟩) rfl) Tryd.underlying91 rfl (by rw [Tryd.infoElem, EC.size _ ha])) ?_
  simp only [nrm]
  refine list_val (.agg b) (by kernel_rfl) (exec_arr _ 91 (.tmp 7) rfl (w.heap.size + 1 + 1) (by kernel_rfl) b 91 _ (hB.get 2 (x := ⟨w.heap.size + 1 + 1, b, 91⟩) rfl) Tryd.underlying91 rfl (by rw [Tryd.infoElem, EC.size _ hb])) ?_
  simp only [nrm]
  refine list_val (.agg c) (by kernel_rfl) (exec_arr _ 91 (.tmp 8) rfl (w.heap.size + 1 + 1 + 1) (by kernel_rfl) c 91 _ (hB.get 3 (x := ⟨w.heap.size + 1 + 1 + 1, c, 91⟩) rfl) Tryd.underlying91 rfl (by rw [Tryd.infoElem, EC.size _ hc])) ?_
  simp only [nrm]
  refine list_val (.agg d) (by kernel_rfl) (exec_arr _ 91 (.tmp 9) rfl (w.heap.size + 1 + 1 + 1 + 1) (by kernel_rfl) d 91 _ (hB.get 4 (x := ⟨w.heap.size + 1 + 1 + 1 + 1, d, 91⟩) rfl) Tryd.underlying91 rfl (by rw [Tryd.infoElem, EC.size _ hd])) ?_
  simp only [nrm]
  refine list_call 95 #[.agg a, .agg b, .agg c, .agg d] (by kernel_rfl) (by kernel_rfl) ((needs_ec ha hb hc hd _).mono ?_)
  rintro r v2_ ⟨c1, c2, c3, c4, c5, rfl, hc1, hc2, hc3, hc4, hc5, hg⟩
  refine ⟨_, rfl, ?_⟩
  replace hB := hB.more hg
  clear hg
  simp only [nrm]
  refine list_val (.tuple #[.agg c1, .agg c2, .agg c3, .agg c4, .agg c5]) (by kernel_rfl) (by kernel_rfl) ?_
  simp only [nrm]
  refine list_val (.agg c1) (by kernel_rfl) (by kernel_rfl) ?_
  simp only [nrm]
  refine list_val (.agg c2) (by kernel_rfl) (by kernel_rfl) ?_
  simp only [nrm]
  refine list_val (.agg c3) (by kernel_rfl) (by kernel_rfl) ?_
  simp only [nrm]
  refine list_val (.agg c4) (by kernel_rfl) (by kernel_rfl) ?_
  simp only [nrm]
  refine list_val (.agg c5) (by kernel_rfl) (by kernel_rfl) ?_
  simp only [nrm]
  refine wpList_step fun K hK => ?_
  replace hK := hide hK
  go_simp
  refine unhide hK _ _ ?_
  clear hK K
  replace hB := hB.new #[.int .u64 0, .int .u64 0, .int .u64 0, .int .u64 0, .int .u64 0] 91
  simp only [List.cons_append, List.nil_append] at hB
  generalize v2_.heap.size = g1_11 at *
  generalize World.alloc _ _ = v3_ at *
  refine wpList_step fun K hK => ?_
  replace hK := hide hK
  go_simp
  refine unhide hK _ _ ?_
  clear hK K
  replace hB := hB.new #[.int .u64 0, .int .u64 0, .int .u64 0, .int .u64 0, .int .u64 0] 91
  simp only [List.cons_append, List.nil_append] at hB
  generalize v3_.heap.size = g1_12 at *
  generalize World.alloc _ _ = v4_ at *
  refine wpList_step fun K hK => ?_
  replace hK := hide hK
  go_simp
  refine unhide hK _ _ ?_
  clear hK K
  replace hB := hB.new #[.int .u64 0, .int .u64 0, .int .u64 0, .int .u64 0, .int .u64 0] 91
  simp only [List.cons_append, List.nil_append] at hB
  generalize v4_.heap.size = g1_13 at *
  generalize World.alloc _ _ = v5_ at *
  refine wpList_step fun K hK => ?_
  replace hK := hide hK
  go_simp
  refine unhide hK _ _ ?_
  clear hK K
  replace hB := hB.new #[.int .u64 0, .int .u64 0, .int .u64 0, .int .u64 0, .int .u64 0] 91
  simp only [List.cons_append, List.nil_append] at hB
  generalize v5_.heap.size = g1_14 at *
  generalize World.alloc _ _ = v6_ at *
  refine wpList_step fun K hK => ?_
  replace hK := hide hK
  go_simp
  refine unhide hK _ _ ?_
  clear hK K
  replace hB := hB.new #[.int .u64 0, .int .u64 0, .int .u64 0, .int .u64 0, .int .u64 0] 91
  simp only [List.cons_append, List.nil_append] at hB
  generalize v6_.heap.size = g1_15 at *
  generalize World.alloc _ _ = v7_ at *
  refine list_store 91 (.tmp 14) (.tmp 25) g1_11 c1 91 #[.int .u64 0, .int .u64 0, .int .u64 0, .int .u64 0, .int .u64 0] (by kernel_rfl) rfl (by kernel_rfl) (by kernel_rfl) (hB.get 9 (x := ⟨g1_11, #[.int .u64 0, .int .u64 0, .int .u64 0, .int .u64 0, .int .u64 0], 91⟩) rfl) (by rw [Tryd.infoElem, EC.size _ hc1]) ((show (#[.int .u64 0, .int .u64 0, .int .u64 0, .int .u64 0, .int .u64 0] : Array Value).size = 5 from rfl).trans (EC.size _ hc1).symm) (EC.one _ hc1) ?_
  replace hB := hB.set 9 (x := ⟨g1_11, #[.int .u64 0, .int .u64 0, .int .u64 0, .int .u64 0, .int .u64 0], 91⟩) rfl c1
  simp only [List.set_cons_zero, List.set_cons_succ] at hB
  generalize World.setRow _ _ _ = v8_ at *
  simp only [nrm]
  refine list_store 91 (.tmp 15) (.tmp 26) g1_12 c2 91 #[.int .u64 0, .int .u64 0, .int .u64 0, .int .u64 0, .int .u64 0] (by kernel_rfl) rfl (by kernel_rfl) (by kernel_rfl) (hB.get 10 (x := ⟨g1_12, #[.int .u64 0, .int .u64 0, .int .u64 0, .int .u64 0, .int .u64 0], 91⟩) rfl) (by rw [Tryd.infoElem, EC.size _ hc2]) ((show (#[.int .u64 0, .int .u64 0, .int .u64 0, .int .u64 0, .int .u64 0] : Array Value).size = 5 from rfl).trans (EC.size _ hc2).symm) (EC.one _ hc2) ?_
  replace hB := hB.set 10 (x := ⟨g1_12, #[.int .u64 0, .int .u64 0, .int .u64 0, .int .u64 0, .int .u64 0], 91⟩) rfl c2
  simp only [List.set_cons_zero, List.set_cons_succ] at hB
  generalize World.setRow _ _ _ = v9_ at *
  simp only [nrm]
  refine list_store 91 (.tmp 16) (.tmp 27) g1_13 c3 91 #[.int .u64 0, .int .u64 0, .int .u64 0, .int .u64 0, .int .u64 0] (by kernel_rfl) rfl (by kernel_rfl) (by kernel_rfl) (hB.get 11 (x := ⟨g1_13, #[.int .u64 0, .int .u64 0, .int .u64 0, .int .u64 0, .int .u64 0], 91⟩) rfl) (by rw [Tryd.infoElem, EC.size _ hc3]) ((show (#[.int .u64 0, .int .u64 0, .int .u64 0, .int .u64 0, .int .u64 0] : Array Value).size = 5 from rfl).trans (EC.size _ hc3).symm) (EC.one _ hc3) ?_
  replace hB := hB.set 11 (x := ⟨g1_13, #[.int .u64 0, .int .u64 0, .int .u64 0, .int .u64 0, .int .u64 0], 91⟩) rfl c3
  simp only [List.set_cons_zero, List.set_cons_succ] at hB
  generalize World.setRow _ _ _ = v10_ at *
  simp only [nrm]
  refine list_store 91 (.tmp 17) (.tmp 28) g1_14 c4 91 #[.int .u64 0, .int .u64 0, .int .u64 0, .int .u64 0, .int .u64 0] (by kernel_rfl) rfl (by kernel_rfl) (by kernel_rfl) (hB.get 12 (x := ⟨g1_14, #[.int .u64 0, .int .u64 0, .int .u64 0, .int .u64 0, .int .u64 0], 91⟩) rfl) (by rw [Tryd.infoElem, EC.size _ hc4]) ((show (#[.int .u64 0, .int .u64 0, .int .u64 0, .int .u64 0, .int .u64 0] : Array Value).size = 5 from rfl).trans (EC.size _ hc4).symm) (EC.one _ hc4) ?_
  replace hB := hB.set 12 (x := ⟨g1_14, #[.int .u64 0, .int .u64 0, .int .u64 0, .int .u64 0, .int .u64 0], 91⟩) rfl c4
  simp only [List.set_cons_zero, List.set_cons_succ] at hB
  generalize World.setRow _ _ _ = v11_ at *
  simp only [nrm]
  refine list_store 91 (.tmp 18) (.tmp 29) g1_15 c5 91 #[.int .u64 0, .int .u64 0, .int .u64 0, .int .u64 0, .int .u64 0] (by kernel_rfl) rfl (by kernel_rfl) (by kernel_rfl) (hB.get 13 (x := ⟨g1_15, #[.int .u64 0, .int .u64 0, .int .u64 0, .int .u64 0, .int .u64 0], 91⟩) rfl) (by rw [Tryd.infoElem, EC.size _ hc5]) ((show (#[.int .u64 0, .int .u64 0, .int .u64 0, .int .u64 0, .int .u64 0] : Array Value).size = 5 from rfl).trans (EC.size _ hc5).symm) (EC.one _ hc5) ?_
  replace hB := hB.set 13 (x := ⟨g1_15, #[.int .u64 0, .int .u64 0, .int .u64 0, .int .u64 0, .int .u64 0], 91⟩) rfl c5
  simp only [List.set_cons_zero, List.set_cons_succ] at hB
  generalize World.setRow _ _ _ = v12_ at *
  simp only [nrm]
  refine wpList_nil ?_
  go_upto_region 2 with fail
  refine wp_region_lit ?_
  refine list_val (.agg c3) (by kernel_rfl) (exec_arr _ 91 (.tmp 16) rfl g1_13 (by kernel_rfl) c3 91 _ (hB.get 11 (x := ⟨g1_13, c3, 91⟩) rfl) Tryd.underlying91 rfl (by rw [Tryd.infoElem, EC.size _ hc3])) ?_
  simp only [nrm]
  refine list_val (.agg c4) (by kernel_rfl) (exec_arr _ 91 (.tmp 17) rfl g1_14 (by kernel_rfl) c4 91 _ (hB.get 12 (x := ⟨g1_14, c4, 91⟩) rfl) Tryd.underlying91 rfl (by rw [Tryd.infoElem, EC.size _ hc4])) ?_
  simp only [nrm]
  refine list_call 64 #[.agg c3, .agg c4] (by kernel_rfl) (by kernel_rfl) ((mul_ec hc3 hc4 _).mono ?_)
  rintro r v13_ ⟨c6, rfl, hc6, hg⟩
  refine ⟨_, rfl, ?_⟩
  replace hB := hB.more hg
  clear hg
  simp only [nrm]
  refine list_store 91 (.tmp 10) (.tmp 32) (w.heap.size + 1 + 1 + 1 + 1 + 1) c6 91 #[.int .u64 0, .int .u64 0, .int .u64 0, .int .u64 0, .int .u64 0] (by kernel_rfl) rfl (by kernel_rfl) (by kernel_rfl) (hB.get 5 (x := ⟨w.heap.size + 1 + 1 + 1 + 1 + 1, #[.int .u64 0, .int .u64 0, .int .u64 0, .int .u64 0, .int .u64 0], 91⟩) rfl) (by rw [Tryd.infoElem, EC.size _ hc6]) ((show (#[.int .u64 0, .int .u64 0, .int .u64 0, .int .u64 0, .int .u64 0] : Array Value).size = 5 from rfl).trans (EC.size _ hc6).symm) (EC.one _ hc6) ?_
  replace hB := hB.set 5 (x := ⟨w.heap.size + 1 + 1 + 1 + 1 + 1, #[.int .u64 0, .int .u64 0, .int .u64 0, .int .u64 0, .int .u64 0], 91⟩) rfl c6
  simp only [List.set_cons_zero, List.set_cons_succ] at hB
  generalize World.setRow _ _ _ = v14_ at *
  simp only [nrm]
  refine wpList_nil ?_
  go_upto_region 3 with fail
  refine any_start (S := fun v => v.heap[g1_13]? = some (.cells c3 91 (0, 0)) ∧ v.heap[g1_15]? = some (.cells c5 91 (0, 0)) ∧ True) (by kernel_rfl) ?_
  replace hB := hB.drew
  generalize World.drew _ = v15_ at *
  simp only [List.size_toArray, List.length_cons, List.length_nil, Array.replicate, List.replicate]
  refine any_take (i := 0) (v := (.agg c5)) #[false, false, false, false, false, false, false] rfl (by kernel_rfl) (by kernel_rfl) (by kernel_rfl) (by kernel_rfl) (fun _ _ _ h => h) (.inl ⟨by kernel_rfl, fun x hu => exec_arr x 91 (.tmp 18) rfl g1_15 (by kernel_rfl) c5 91 _ hu.2.1 Tryd.underlying91 rfl (by rw [Tryd.infoElem, EC.size _ hc5])⟩) ⟨(hB.get 11 (x := ⟨g1_13, c3, 91⟩) rfl), (hB.get 13 (x := ⟨g1_15, c5, 91⟩) rfl), trivial⟩ ?_
  simp only [nrm]
  refine any_take (i := 1) (v := (.agg c3)) #[true, false, false, false, false, false, false] rfl (by kernel_rfl) (by kernel_rfl) (by kernel_rfl) (by kernel_rfl) (fun _ _ _ h => h) (.inl ⟨by kernel_rfl, fun x hu => exec_arr x 91 (.tmp 16) rfl g1_13 (by kernel_rfl) c3 91 _ hu.1 Tryd.underlying91 rfl (by rw [Tryd.infoElem, EC.size _ hc3])⟩) ⟨(hB.get 11 (x := ⟨g1_13, c3, 91⟩) rfl), (hB.get 13 (x := ⟨g1_15, c5, 91⟩) rfl), trivial⟩ ?_
  simp only [nrm]
  refine any_take (i := 2) (v := (.agg c5)) #[true, true, false, false, false, false, false] rfl (by kernel_rfl) (by kernel_rfl) (by kernel_rfl) (by kernel_rfl) (fun _ _ _ h => h) (.inl ⟨by kernel_rfl, fun x hu => exec_arr x 91 (.tmp 18) rfl g1_15 (by kernel_rfl) c5 91 _ hu.2.1 Tryd.underlying91 rfl (by rw [Tryd.infoElem, EC.size _ hc5])⟩) ⟨(hB.get 11 (x := ⟨g1_13, c3, 91⟩) rfl), (hB.get 13 (x := ⟨g1_15, c5, 91⟩) rfl), trivial⟩ ?_
  simp only [nrm]
  refine any_one (i := 3) (by kernel_rfl) rfl (fun K hK => ?_)
  refine step_callw (by kernel_rfl) 97 #[.agg c5, .int .u32 121665] (by kernel_rfl) ((times_ec 121665 (by omega) hc5 _).mono ?_)
  rintro r v16_ ⟨c7, rfl, hc7, hg⟩
  refine ⟨_, rfl, ?_⟩
  replace hB := hB.more hg
  clear hg
  refine hK.out _ _ ⟨(hB.get 11 (x := ⟨g1_13, c3, 91⟩) rfl), (hB.get 13 (x := ⟨g1_15, c5, 91⟩) rfl), trivial⟩ (fun _ => ?_)
  clear hK K
  simp only [nrm]
  refine any_one (i := 4) (by kernel_rfl) rfl (fun K hK => ?_)
  refine step_callw (by kernel_rfl) 96 #[.agg c3, .agg c7] (by kernel_rfl) ((add_ec hc3 hc7 _).mono ?_)
  rintro r v17_ ⟨c8, rfl, hc8, hg⟩
  refine ⟨_, rfl, ?_⟩
  replace hB := hB.more hg
  clear hg
  refine hK.out _ _ ⟨(hB.get 11 (x := ⟨g1_13, c3, 91⟩) rfl), (hB.get 13 (x := ⟨g1_15, c5, 91⟩) rfl), trivial⟩ (fun _ => ?_)
  clear hK K
  simp only [nrm]
  refine any_one (i := 5) (by kernel_rfl) rfl (fun K hK => ?_)
  refine step_callw (by kernel_rfl) 64 #[.agg c5, .agg c8] (by kernel_rfl) ((mul_ec hc5 hc8 _).mono ?_)
  rintro r v18_ ⟨c9, rfl, hc9, hg⟩
  refine ⟨_, rfl, ?_⟩
  replace hB := hB.more hg
  clear hg
  refine hK.out _ _ ⟨(hB.get 11 (x := ⟨g1_13, c3, 91⟩) rfl), (hB.get 13 (x := ⟨g1_15, c5, 91⟩) rfl), trivial⟩ (fun _ => ?_)
  clear hK K
  simp only [nrm]
  refine any_one (i := 6) (by kernel_rfl) rfl (fun K hK => ?_)
  rw [if_pos (by kernel_rfl)]
  refine wp_store_row 91 (.tmp 11) (.tmp 38) rfl (w.heap.size + 1 + 1 + 1 + 1 + 1 + 1) c9 (by kernel_rfl) (by kernel_rfl) 91 #[.int .u64 0, .int .u64 0, .int .u64 0, .int .u64 0, .int .u64 0] (hB.get 6 (x := ⟨w.heap.size + 1 + 1 + 1 + 1 + 1 + 1, #[.int .u64 0, .int .u64 0, .int .u64 0, .int .u64 0, .int .u64 0], 91⟩) rfl) (by rw [Tryd.infoElem, EC.size _ hc9]) ((show (#[.int .u64 0, .int .u64 0, .int .u64 0, .int .u64 0, .int .u64 0] : Array Value).size = 5 from rfl).trans (EC.size _ hc9).symm) (EC.one _ hc9) ?_
  replace hB := hB.set 6 (x := ⟨w.heap.size + 1 + 1 + 1 + 1 + 1 + 1, #[.int .u64 0, .int .u64 0, .int .u64 0, .int .u64 0, .int .u64 0], 91⟩) rfl c9
  simp only [List.set_cons_zero, List.set_cons_succ] at hB
  refine hK.out _ _ ⟨(hB.get 11 (x := ⟨g1_13, c3, 91⟩) rfl), (hB.get 13 (x := ⟨g1_15, c5, 91⟩) rfl), trivial⟩ (fun _ => ?_)
  clear hK K
  generalize World.setRow _ _ _ = v19_ at *
  simp only [nrm]
  refine any_done (by kernel_rfl) ?_
  go_upto_region 4 with fail
  refine wp_region_lit ?_
  refine list_val (.agg c1) (by kernel_rfl) (exec_arr _ 91 (.tmp 14) rfl g1_11 (by kernel_rfl) c1 91 _ (hB.get 9 (x := ⟨g1_11, c1, 91⟩) rfl) Tryd.underlying91 rfl (by rw [Tryd.infoElem, EC.size _ hc1])) ?_
  simp only [nrm]
  refine list_val (.agg c2) (by kernel_rfl) (exec_arr _ 91 (.tmp 15) rfl g1_12 (by kernel_rfl) c2 91 _ (hB.get 10 (x := ⟨g1_12, c2, 91⟩) rfl) Tryd.underlying91 rfl (by rw [Tryd.infoElem, EC.size _ hc2])) ?_
  simp only [nrm]
  refine list_call 96 #[.agg c1, .agg c2] (by kernel_rfl) (by kernel_rfl) ((add_ec hc1 hc2 _).mono ?_)
  rintro r v20_ ⟨c10, rfl, hc10, hg⟩
  refine ⟨_, rfl, ?_⟩
  replace hB := hB.more hg
  clear hg
  simp only [nrm]
  refine list_call 98 #[.agg c10] (by kernel_rfl) (by kernel_rfl) ((square_ec hc10 _).mono ?_)
  rintro r v21_ ⟨c11, rfl, hc11, hg⟩
  refine ⟨_, rfl, ?_⟩
  replace hB := hB.more hg
  clear hg
  simp only [nrm]
  refine list_store 91 (.tmp 12) (.tmp 42) (w.heap.size + 1 + 1 + 1 + 1 + 1 + 1 + 1) c11 91 #[.int .u64 0, .int .u64 0, .int .u64 0, .int .u64 0, .int .u64 0] (by kernel_rfl) rfl (by kernel_rfl) (by kernel_rfl) (hB.get 7 (x := ⟨w.heap.size + 1 + 1 + 1 + 1 + 1 + 1 + 1, #[.int .u64 0, .int .u64 0, .int .u64 0, .int .u64 0, .int .u64 0], 91⟩) rfl) (by rw [Tryd.infoElem, EC.size _ hc11]) ((show (#[.int .u64 0, .int .u64 0, .int .u64 0, .int .u64 0, .int .u64 0] : Array Value).size = 5 from rfl).trans (EC.size _ hc11).symm) (EC.one _ hc11) ?_
  replace hB := hB.set 7 (x := ⟨w.heap.size + 1 + 1 + 1 + 1 + 1 + 1 + 1, #[.int .u64 0, .int .u64 0, .int .u64 0, .int .u64 0, .int .u64 0], 91⟩) rfl c11
  simp only [List.set_cons_zero, List.set_cons_succ] at hB
  generalize World.setRow _ _ _ = v22_ at *
  simp only [nrm]
  refine wpList_nil ?_
  go_upto_region 5 with fail
  refine any_start (S := fun v => v.heap[w.heap.size]? = some (.cells u 91 (0, 0)) ∧ v.heap[g1_11]? = some (.cells c1 91 (0, 0)) ∧ v.heap[g1_12]? = some (.cells c2 91 (0, 0)) ∧ True) (by kernel_rfl) ?_
  replace hB := hB.drew
  generalize World.drew _ = v23_ at *
  simp only [List.size_toArray, List.length_cons, List.length_nil, Array.replicate, List.replicate]
  refine any_take (i := 0) (v := (.agg u)) #[false, false, false, false, false, false, false] rfl (by kernel_rfl) (by kernel_rfl) (by kernel_rfl) (by kernel_rfl) (fun _ _ _ h => h) (.inl ⟨by kernel_rfl, fun x hu => exec_arr x 91 (.tmp 5) rfl w.heap.size (by kernel_rfl) u 91 _ hu.1 Tryd.underlying91 rfl (by rw [Tryd.infoElem, EC.size _ hu0])⟩) ⟨(hB.get 0 (x := ⟨w.heap.size, u, 91⟩) rfl), (hB.get 9 (x := ⟨g1_11, c1, 91⟩) rfl), (hB.get 10 (x := ⟨g1_12, c2, 91⟩) rfl), trivial⟩ ?_
  simp only [nrm]
  refine any_take (i := 1) (v := (.agg c1)) #[true, false, false, false, false, false, false] rfl (by kernel_rfl) (by kernel_rfl) (by kernel_rfl) (by kernel_rfl) (fun _ _ _ h => h) (.inl ⟨by kernel_rfl, fun x hu => exec_arr x 91 (.tmp 14) rfl g1_11 (by kernel_rfl) c1 91 _ hu.2.1 Tryd.underlying91 rfl (by rw [Tryd.infoElem, EC.size _ hc1])⟩) ⟨(hB.get 0 (x := ⟨w.heap.size, u, 91⟩) rfl), (hB.get 9 (x := ⟨g1_11, c1, 91⟩) rfl), (hB.get 10 (x := ⟨g1_12, c2, 91⟩) rfl), trivial⟩ ?_
  simp only [nrm]
  refine any_take (i := 2) (v := (.agg c2)) #[true, true, false, false, false, false, false] rfl (by kernel_rfl) (by kernel_rfl) (by kernel_rfl) (by kernel_rfl) (fun _ _ _ h => h) (.inl ⟨by kernel_rfl, fun x hu => exec_arr x 91 (.tmp 15) rfl g1_12 (by kernel_rfl) c2 91 _ hu.2.2.1 Tryd.underlying91 rfl (by rw [Tryd.infoElem, EC.size _ hc2])⟩) ⟨(hB.get 0 (x := ⟨w.heap.size, u, 91⟩) rfl), (hB.get 9 (x := ⟨g1_11, c1, 91⟩) rfl), (hB.get 10 (x := ⟨g1_12, c2, 91⟩) rfl), trivial⟩ ?_
  simp only [nrm]
  refine any_one (i := 3) (by kernel_rfl) rfl (fun K hK => ?_)
  refine step_callw (by kernel_rfl) 99 #[.agg c1, .agg c2] (by kernel_rfl) ((sub_ec hc1 hc2 _).mono ?_)
  rintro r v24_ ⟨c12, rfl, hc12, hg⟩
  refine ⟨_, rfl, ?_⟩
  replace hB := hB.more hg
  clear hg
  refine hK.out _ _ ⟨(hB.get 0 (x := ⟨w.heap.size, u, 91⟩) rfl), (hB.get 9 (x := ⟨g1_11, c1, 91⟩) rfl), (hB.get 10 (x := ⟨g1_12, c2, 91⟩) rfl), trivial⟩ (fun _ => ?_)
  clear hK K
  simp only [nrm]
  refine any_one (i := 4) (by kernel_rfl) rfl (fun K hK => ?_)
  refine step_callw (by kernel_rfl) 98 #[.agg c12] (by kernel_rfl) ((square_ec hc12 _).mono ?_)
  rintro r v25_ ⟨c13, rfl, hc13, hg⟩
  refine ⟨_, rfl, ?_⟩
  replace hB := hB.more hg
  clear hg
  refine hK.out _ _ ⟨(hB.get 0 (x := ⟨w.heap.size, u, 91⟩) rfl), (hB.get 9 (x := ⟨g1_11, c1, 91⟩) rfl), (hB.get 10 (x := ⟨g1_12, c2, 91⟩) rfl), trivial⟩ (fun _ => ?_)
  clear hK K
  simp only [nrm]
  refine any_one (i := 5) (by kernel_rfl) rfl (fun K hK => ?_)
  refine step_callw (by kernel_rfl) 64 #[.agg u, .agg c13] (by kernel_rfl) ((mul_ec hu0 hc13 _).mono ?_)
  rintro r v26_ ⟨c14, rfl, hc14, hg⟩
  refine ⟨_, rfl, ?_⟩
  replace hB := hB.more hg
  clear hg
  refine hK.out _ _ ⟨(hB.get 0 (x := ⟨w.heap.size, u, 91⟩) rfl), (hB.get 9 (x := ⟨g1_11, c1, 91⟩) rfl), (hB.get 10 (x := ⟨g1_12, c2, 91⟩) rfl), trivial⟩ (fun _ => ?_)
  clear hK K
  simp only [nrm]
  refine any_one (i := 6) (by kernel_rfl) rfl (fun K hK => ?_)
  rw [if_pos (by kernel_rfl)]
  refine wp_store_row 91 (.tmp 13) (.tmp 48) rfl (w.heap.size + 1 + 1 + 1 + 1 + 1 + 1 + 1 + 1) c14 (by kernel_rfl) (by kernel_rfl) 91 #[.int .u64 0, .int .u64 0, .int .u64 0, .int .u64 0, .int .u64 0] (hB.get 8 (x := ⟨w.heap.size + 1 + 1 + 1 + 1 + 1 + 1 + 1 + 1, #[.int .u64 0, .int .u64 0, .int .u64 0, .int .u64 0, .int .u64 0], 91⟩) rfl) (by rw [Tryd.infoElem, EC.size _ hc14]) ((show (#[.int .u64 0, .int .u64 0, .int .u64 0, .int .u64 0, .int .u64 0] : Array Value).size = 5 from rfl).trans (EC.size _ hc14).symm) (EC.one _ hc14) ?_
  replace hB := hB.set 8 (x := ⟨w.heap.size + 1 + 1 + 1 + 1 + 1 + 1 + 1 + 1, #[.int .u64 0, .int .u64 0, .int .u64 0, .int .u64 0, .int .u64 0], 91⟩) rfl c14
  simp only [List.set_cons_zero, List.set_cons_succ] at hB
  refine hK.out _ _ ⟨(hB.get 0 (x := ⟨w.heap.size, u, 91⟩) rfl), (hB.get 9 (x := ⟨g1_11, c1, 91⟩) rfl), (hB.get 10 (x := ⟨g1_12, c2, 91⟩) rfl), trivial⟩ (fun _ => ?_)
  clear hK K
  generalize World.setRow _ _ _ = v27_ at *
  simp only [nrm]
  refine any_done (by kernel_rfl) ?_
  go_upto_region 6 with fail
  refine any_start (S := fun v => v.heap[w.heap.size + 1 + 1 + 1 + 1 + 1]? = some (.cells c6 91 (0, 0)) ∧ v.heap[w.heap.size + 1 + 1 + 1 + 1 + 1 + 1]? = some (.cells c9 91 (0, 0)) ∧ v.heap[w.heap.size + 1 + 1 + 1 + 1 + 1 + 1 + 1]? = some (.cells c11 91 (0, 0)) ∧ v.heap[w.heap.size + 1 + 1 + 1 + 1 + 1 + 1 + 1 + 1]? = some (.cells c14 91 (0, 0)) ∧ True) (by kernel_rfl) ?_
  replace hB := hB.drew
  generalize World.drew _ = v28_ at *
  simp only [List.size_toArray, List.length_cons, List.length_nil, Array.replicate, List.replicate]
  refine any_take (i := 0) (v := (.agg c6)) #[false, false, false, false, false, false, false, false] rfl (by kernel_rfl) (by kernel_rfl) (by kernel_rfl) (by kernel_rfl) (fun _ _ _ h => h) (.inl ⟨by kernel_rfl, fun x hu => exec_arr x 91 (.tmp 10) rfl (w.heap.size + 1 + 1 + 1 + 1 + 1) (by kernel_rfl) c6 91 _ hu.1 Tryd.underlying91 rfl (by rw [Tryd.infoElem, EC.size _ hc6])⟩) ⟨(hB.get 5 (x := ⟨w.heap.size + 1 + 1 + 1 + 1 + 1, c6, 91⟩) rfl), (hB.get 6 (x := ⟨w.heap.size + 1 + 1 + 1 + 1 + 1 + 1, c9, 91⟩) rfl), (hB.get 7 (x := ⟨w.heap.size + 1 + 1 + 1 + 1 + 1 + 1 + 1, c11, 91⟩) rfl), (hB.get 8 (x := ⟨w.heap.size + 1 + 1 + 1 + 1 + 1 + 1 + 1 + 1, c14, 91⟩) rfl), trivial⟩ ?_
  simp only [nrm]
  refine any_take (i := 1) (v := (.agg c9)) #[true, false, false, false, false, false, false, false] rfl (by kernel_rfl) (by kernel_rfl) (by kernel_rfl) (by kernel_rfl) (fun _ _ _ h => h) (.inl ⟨by kernel_rfl, fun x hu => exec_arr x 91 (.tmp 11) rfl (w.heap.size + 1 + 1 + 1 + 1 + 1 + 1) (by kernel_rfl) c9 91 _ hu.2.1 Tryd.underlying91 rfl (by rw [Tryd.infoElem, EC.size _ hc9])⟩) ⟨(hB.get 5 (x := ⟨w.heap.size + 1 + 1 + 1 + 1 + 1, c6, 91⟩) rfl), (hB.get 6 (x := ⟨w.heap.size + 1 + 1 + 1 + 1 + 1 + 1, c9, 91⟩) rfl), (hB.get 7 (x := ⟨w.heap.size + 1 + 1 + 1 + 1 + 1 + 1 + 1, c11, 91⟩) rfl), (hB.get 8 (x := ⟨w.heap.size + 1 + 1 + 1 + 1 + 1 + 1 + 1 + 1, c14, 91⟩) rfl), trivial⟩ ?_
  simp only [nrm]
  refine any_take (i := 2) (v := (.agg c11)) #[true, true, false, false, false, false, false, false] rfl (by kernel_rfl) (by kernel_rfl) (by kernel_rfl) (by kernel_rfl) (fun _ _ _ h => h) (.inl ⟨by kernel_rfl, fun x hu => exec_arr x 91 (.tmp 12) rfl (w.heap.size + 1 + 1 + 1 + 1 + 1 + 1 + 1) (by kernel_rfl) c11 91 _ hu.2.2.1 Tryd.underlying91 rfl (by rw [Tryd.infoElem, EC.size _ hc11])⟩) ⟨(hB.get 5 (x := ⟨w.heap.size + 1 + 1 + 1 + 1 + 1, c6, 91⟩) rfl), (hB.get 6 (x := ⟨w.heap.size + 1 + 1 + 1 + 1 + 1 + 1, c9, 91⟩) rfl), (hB.get 7 (x := ⟨w.heap.size + 1 + 1 + 1 + 1 + 1 + 1 + 1, c11, 91⟩) rfl), (hB.get 8 (x := ⟨w.heap.size + 1 + 1 + 1 + 1 + 1 + 1 + 1 + 1, c14, 91⟩) rfl), trivial⟩ ?_
  simp only [nrm]
  refine any_take (i := 3) (v := (.agg c14)) #[true, true, true, false, false, false, false, false] rfl (by kernel_rfl) (by kernel_rfl) (by kernel_rfl) (by kernel_rfl) (fun _ _ _ h => h) (.inl ⟨by kernel_rfl, fun x hu => exec_arr x 91 (.tmp 13) rfl (w.heap.size + 1 + 1 + 1 + 1 + 1 + 1 + 1 + 1) (by kernel_rfl) c14 91 _ hu.2.2.2.1 Tryd.underlying91 rfl (by rw [Tryd.infoElem, EC.size _ hc14])⟩) ⟨(hB.get 5 (x := ⟨w.heap.size + 1 + 1 + 1 + 1 + 1, c6, 91⟩) rfl), (hB.get 6 (x := ⟨w.heap.size + 1 + 1 + 1 + 1 + 1 + 1, c9, 91⟩) rfl), (hB.get 7 (x := ⟨w.heap.size + 1 + 1 + 1 + 1 + 1 + 1 + 1, c11, 91⟩) rfl), (hB.get 8 (x := ⟨w.heap.size + 1 + 1 + 1 + 1 + 1 + 1 + 1 + 1, c14, 91⟩) rfl), trivial⟩ ?_
  simp only [nrm]
  refine any_one (i := 4) (by kernel_rfl) rfl (fun K hK => ?_)
  rw [if_pos (by kernel_rfl)]
  refine wp_store_row 91 (.tmp 10) (.tmp 49) rfl (w.heap.size + 1 + 1 + 1 + 1 + 1) c6 (by kernel_rfl) (by kernel_rfl) 91 c6 (hB.get 5 (x := ⟨w.heap.size + 1 + 1 + 1 + 1 + 1, c6, 91⟩) rfl) (by rw [Tryd.infoElem, EC.size _ hc6]) ((EC.size _ hc6).trans (EC.size _ hc6).symm) (EC.one _ hc6) ?_
  replace hB := hB.set 5 (x := ⟨w.heap.size + 1 + 1 + 1 + 1 + 1, c6, 91⟩) rfl c6
  simp only [List.set_cons_zero, List.set_cons_succ] at hB
  refine hK.out _ _ ⟨(hB.get 5 (x := ⟨w.heap.size + 1 + 1 + 1 + 1 + 1, c6, 91⟩) rfl), (hB.get 6 (x := ⟨w.heap.size + 1 + 1 + 1 + 1 + 1 + 1, c9, 91⟩) rfl), (hB.get 7 (x := ⟨w.heap.size + 1 + 1 + 1 + 1 + 1 + 1 + 1, c11, 91⟩) rfl), (hB.get 8 (x := ⟨w.heap.size + 1 + 1 + 1 + 1 + 1 + 1 + 1 + 1, c14, 91⟩) rfl), trivial⟩ (fun _ => ?_)
  clear hK K
  generalize World.setRow _ _ _ = v29_ at *
  simp only [nrm]
  refine any_one (i := 5) (by kernel_rfl) rfl (fun K hK => ?_)
  rw [if_pos (by kernel_rfl)]
  refine wp_store_row 91 (.tmp 11) (.tmp 50) rfl (w.heap.size + 1 + 1 + 1 + 1 + 1 + 1) c9 (by kernel_rfl) (by kernel_rfl) 91 c9 (hB.get 6 (x := ⟨w.heap.size + 1 + 1 + 1 + 1 + 1 + 1, c9, 91⟩) rfl) (by rw [Tryd.infoElem, EC.size _ hc9]) ((EC.size _ hc9).trans (EC.size _ hc9).symm) (EC.one _ hc9) ?_
  replace hB := hB.set 6 (x := ⟨w.heap.size + 1 + 1 + 1 + 1 + 1 + 1, c9, 91⟩) rfl c9
  simp only [List.set_cons_zero, List.set_cons_succ] at hB
  refine hK.out _ _ ⟨(hB.get 5 (x := ⟨w.heap.size + 1 + 1 + 1 + 1 + 1, c6, 91⟩) rfl), (hB.get 6 (x := ⟨w.heap.size + 1 + 1 + 1 + 1 + 1 + 1, c9, 91⟩) rfl), (hB.get 7 (x := ⟨w.heap.size + 1 + 1 + 1 + 1 + 1 + 1 + 1, c11, 91⟩) rfl), (hB.get 8 (x := ⟨w.heap.size + 1 + 1 + 1 + 1 + 1 + 1 + 1 + 1, c14, 91⟩) rfl), trivial⟩ (fun _ => ?_)
  clear hK K
  generalize World.setRow _ _ _ = v30_ at *
  simp only [nrm]
  refine any_one (i := 6) (by kernel_rfl) rfl (fun K hK => ?_)
  rw [if_pos (by kernel_rfl)]
  refine wp_store_row 91 (.tmp 12) (.tmp 51) rfl (w.heap.size + 1 + 1 + 1 + 1 + 1 + 1 + 1) c11 (by kernel_rfl) (by kernel_rfl) 91 c11 (hB.get 7 (x := ⟨w.heap.size + 1 + 1 + 1 + 1 + 1 + 1 + 1, c11, 91⟩) rfl) (by rw [Tryd.infoElem, EC.size _ hc11]) ((EC.size _ hc11).trans (EC.size _ hc11).symm) (EC.one _ hc11) ?_
  replace hB := hB.set 7 (x := ⟨w.heap.size + 1 + 1 + 1 + 1 + 1 + 1 + 1, c11, 91⟩) rfl c11
  simp only [List.set_cons_zero, List.set_cons_succ] at hB
  refine hK.out _ _ ⟨(hB.get 5 (x := ⟨w.heap.size + 1 + 1 + 1 + 1 + 1, c6, 91⟩) rfl), (hB.get 6 (x := ⟨w.heap.size + 1 + 1 + 1 + 1 + 1 + 1, c9, 91⟩) rfl), (hB.get 7 (x := ⟨w.heap.size + 1 + 1 + 1 + 1 + 1 + 1 + 1, c11, 91⟩) rfl), (hB.get 8 (x := ⟨w.heap.size + 1 + 1 + 1 + 1 + 1 + 1 + 1 + 1, c14, 91⟩) rfl), trivial⟩ (fun _ => ?_)
  clear hK K
  generalize World.setRow _ _ _ = v31_ at *
  simp only [nrm]
  refine any_one (i := 7) (by kernel_rfl) rfl (fun K hK => ?_)
  rw [if_pos (by kernel_rfl)]
  refine wp_store_row 91 (.tmp 13) (.tmp 52) rfl (w.heap.size + 1 + 1 + 1 + 1 + 1 + 1 + 1 + 1) c14 (by kernel_rfl) (by kernel_rfl) 91 c14 (hB.get 8 (x := ⟨w.heap.size + 1 + 1 + 1 + 1 + 1 + 1 + 1 + 1, c14, 91⟩) rfl) (by rw [Tryd.infoElem, EC.size _ hc14]) ((EC.size _ hc14).trans (EC.size _ hc14).symm) (EC.one _ hc14) ?_
  replace hB := hB.set 8 (x := ⟨w.heap.size + 1 + 1 + 1 + 1 + 1 + 1 + 1 + 1, c14, 91⟩) rfl c14
  simp only [List.set_cons_zero, List.set_cons_succ] at hB
  refine hK.out _ _ ⟨(hB.get 5 (x := ⟨w.heap.size + 1 + 1 + 1 + 1 + 1, c6, 91⟩) rfl), (hB.get 6 (x := ⟨w.heap.size + 1 + 1 + 1 + 1 + 1 + 1, c9, 91⟩) rfl), (hB.get 7 (x := ⟨w.heap.size + 1 + 1 + 1 + 1 + 1 + 1 + 1, c11, 91⟩) rfl), (hB.get 8 (x := ⟨w.heap.size + 1 + 1 + 1 + 1 + 1 + 1 + 1 + 1, c14, 91⟩) rfl), trivial⟩ (fun _ => ?_)
  clear hK K
  generalize World.setRow _ _ _ = v32_ at *
  simp only [nrm]
  refine any_done (by kernel_rfl) ?_
  have hG := hB.gr
  have hr0 := (hB.get 5 (x := ⟨w.heap.size + 1 + 1 + 1 + 1 + 1, c6, 91⟩) rfl)
  have hr1 := (hB.get 6 (x := ⟨w.heap.size + 1 + 1 + 1 + 1 + 1 + 1, c9, 91⟩) rfl)
  have hr2 := (hB.get 7 (x := ⟨w.heap.size + 1 + 1 + 1 + 1 + 1 + 1 + 1, c11, 91⟩) rfl)
  have hr3 := (hB.get 8 (x := ⟨w.heap.size + 1 + 1 + 1 + 1 + 1 + 1 + 1 + 1, c14, 91⟩) rfl)
  clear hB
  have hh0 := hc6
  obtain ⟨c6_0, c6_1, c6_2, c6_3, c6_4, e0, _⟩ := hc6
  rw [e0] at hr0
  have p00 := cell_of (i := 0) hr0 rfl
  have p01 := cell_of (i := 1) hr0 rfl
  have p02 := cell_of (i := 2) hr0 rfl
  have p03 := cell_of (i := 3) hr0 rfl
  have p04 := cell_of (i := 4) hr0 rfl
  have hh1 := hc9
  obtain ⟨c9_0, c9_1, c9_2, c9_3, c9_4, e1, _⟩ := hc9
  rw [e1] at hr1
  have p10 := cell_of (i := 0) hr1 rfl
  have p11 := cell_of (i := 1) hr1 rfl
  have p12 := cell_of (i := 2) hr1 rfl
  have p13 := cell_of (i := 3) hr1 rfl
  have p14 := cell_of (i := 4) hr1 rfl
  have hh2 := hc11
  obtain ⟨c11_0, c11_1, c11_2, c11_3, c11_4, e2, _⟩ := hc11
  rw [e2] at hr2
  have p20 := cell_of (i := 0) hr2 rfl
  have p21 := cell_of (i := 1) hr2 rfl
  have p22 := cell_of (i := 2) hr2 rfl
  have p23 := cell_of (i := 3) hr2 rfl
  have p24 := cell_of (i := 4) hr2 rfl
  have hh3 := hc14
  obtain ⟨c14_0, c14_1, c14_2, c14_3, c14_4, e3, _⟩ := hc14
  rw [e3] at hr3
  have p30 := cell_of (i := 0) hr3 rfl
  have p31 := cell_of (i := 1) hr3 rfl
  have p32 := cell_of (i := 2) hr3 rfl
  have p33 := cell_of (i := 3) hr3 rfl
  have p34 := cell_of (i := 4) hr3 rfl
  go_wp2_with fail
  refine bodyPost_ret (v := .tuple #[.agg #[.int .u64 c6_0, .int .u64 c6_1, .int .u64 c6_2, .int .u64 c6_3, .int .u64 c6_4], .agg #[.int .u64 c9_0, .int .u64 c9_1, .int .u64 c9_2, .int .u64 c9_3, .int .u64 c9_4], .agg #[.int .u64 c11_0, .int .u64 c11_1, .int .u64 c11_2, .int .u64 c11_3, .int .u64 c11_4], .agg #[.int .u64 c14_0, .int .u64 c14_1, .int .u64 c14_2, .int .u64 c14_3, .int .u64 c14_4]]) ?_ rfl ?_
  · simp [results, Tryd.results79, go_sem, p00, p01, p02, p03, p04, p10, p11, p12, p13, p14, p20, p21, p22, p23, p24, p30, p31, p32, p33, p34]
  · rw [← e0, ← e1, ← e2, ← e3]
    exact ⟨_, _, _, _, rfl, hh0, hh1.same (congrArg (· % pp) (by rw [Int.mul_comm _ 121665])), hh2, hh3, hG⟩
end Go.Proofs.YtpmgmpihmpifgaaDoor.Cv
