/-
  What Low answers.
-/
import Derived.Test.YtebgmneffpeahaaDoorLaid
namespace Go.Proofs.YtebgmneffpeahaaDoor
open Go.RowKit
set_option maxRecDepth 100000
set_option linter.unusedSimpArgs false

theorem Gr.range {w v : World} (g : Gr w v) {b o : Nat} {l : List Value} (h : w.rangeAt b o l) : v.rangeAt b o l := fun j x hj => g.cell (h j x hj)
theorem info45 : (Tryd.prog.info? 45).map (·.size) = some lowsL.length := by
  have e : lowsL.length = 160 := by unfold lowsL; simp [digs_len]
  have h : (Tryd.prog.info? 45).map (·.size) = some 160 := by kernel_rfl
  exact h.trans (congrArg some e.symm)
theorem key_diff' {n m : Int} (hn : 0 ≤ n ∧ n < 115792089237316195423570985008687907853269984665640564039457584007913129639936) (hm : 0 ≤ m ∧ m < 115792089237316195423570985008687907853269984665640564039457584007913129639936) (h : n ≠ m) (w : World) : Sem.run Tryd.prog (Op.equalIn 10000 23 (.agg (kc (digs n 32))) (.agg (kc (digs m 32)))) w = .ok false w := by
  rw [key_eq _ _ (digs_len _ _) (digs_len _ _) w]
  have : digs n 32 ≠ digs m 32 := fun e => h (digs_inj n m hn hm e)
  simp [this]

set_option maxHeartbeats 2000000 in
theorem low_0 (U : Nat) (hV : (U : Int) % 57896044618658097711785492504343953926634992332820282019728792003956564819968 % pp = 0) (w : World) (hL : w.rangeAt 0 0 lowsL) :
    Calls Tryd.prog 10 #[.agg (kc (digs (U : Int) 32))] w (fun r w' => r = .returned (.bool true) ∧ Gr w w') := by
  replace hV := hide hV
  replace hL := hide hL
  go_enter Tryd.func10, Tryd.ntmps10
  go_upto_region 1 with fail
  have hB := (Bl.nil w).new (kc (digs (U : Int) 32)) 23
  simp only [List.nil_append] at hB
  generalize World.alloc _ _ = v1_ at *
  refine wp_region_lit ?_
  refine list_val (.agg (kc (digs (U : Int) 32))) (by kernel_rfl) (exec_arr _ 23 (.tmp 1) rfl w.heap.size (by kernel_rfl) (kc (digs (U : Int) 32)) 23 _ (hB.get 0 (x := ⟨w.heap.size, (kc (digs (U : Int) 32)), 23⟩) rfl) Tryd.underlying23 rfl (by rw [Tryd.infoKey, kc32])) ?_
  simp only [Act.put, List.setIfInBounds_toArray, List.set_cons_zero, List.set_cons_succ, List.getElem_toArray, List.getElem_cons_zero, List.getElem_cons_succ]
  refine list_call 21 #[.agg (kc (digs (U : Int) 32))] (by kernel_rfl) (by kernel_rfl) ((from_ec (U : Int) (by omega) _).mono ?_)
  rintro r v2_ ⟨c1, rfl, hc1, hg⟩
  refine ⟨_, rfl, ?_⟩
  replace hB := hB.more hg
  clear hg
  simp only [Act.put, List.setIfInBounds_toArray, List.set_cons_zero, List.set_cons_succ, List.getElem_toArray, List.getElem_cons_zero, List.getElem_cons_succ]
  refine list_call 22 #[.agg c1] (by kernel_rfl) (by kernel_rfl) ((bytes_ec hc1 _).mono ?_)
  rintro r v3_ ⟨rfl, hg⟩
  refine ⟨_, rfl, ?_⟩
  rw [unhide hV]
  replace hB := hB.more hg
  clear hg
  simp only [Act.put, List.setIfInBounds_toArray, List.set_cons_zero, List.set_cons_succ, List.getElem_toArray, List.getElem_cons_zero, List.getElem_cons_succ]
  refine wpList_step fun K hK => ?_
  replace hK := hide hK
  go_simp
  refine unhide hK _ _ ?_
  clear hK K
  replace hB := hB.new #[.int .u8 0, .int .u8 0, .int .u8 0, .int .u8 0, .int .u8 0, .int .u8 0, .int .u8 0, .int .u8 0, .int .u8 0, .int .u8 0, .int .u8 0, .int .u8 0, .int .u8 0, .int .u8 0, .int .u8 0, .int .u8 0, .int .u8 0, .int .u8 0, .int .u8 0, .int .u8 0, .int .u8 0, .int .u8 0, .int .u8 0, .int .u8 0, .int .u8 0, .int .u8 0, .int .u8 0, .int .u8 0, .int .u8 0, .int .u8 0, .int .u8 0, .int .u8 0] 23
  simp only [List.cons_append, List.nil_append] at hB
  generalize v3_.heap.size = g1_3 at *
  generalize World.alloc _ _ = v4_ at *
  replace hB : Bl w [⟨w.heap.size, (kc (digs (U : Int) 32)), 23⟩, ⟨g1_3, Z32, 23⟩] v4_ := hB
  refine list_store 23 (.tmp 3) (.tmp 8) g1_3 (kc (digs (0 : Int) 32)) 23 Z32 (by kernel_rfl) rfl (by kernel_rfl) (by kernel_rfl) (hB.get 1 (x := ⟨g1_3, Z32, 23⟩) rfl) (by rw [Tryd.infoKey, kc32]) (Z32_size.trans (kc32 (0 : Int) 32).symm) (kc_one _) ?_
  replace hB := hB.set 1 (x := ⟨g1_3, Z32, 23⟩) rfl (kc (digs (0 : Int) 32))
  simp only [List.set_cons_zero, List.set_cons_succ] at hB
  generalize World.setRow _ _ _ = v5_ at *
  simp only [Act.put, List.setIfInBounds_toArray, List.set_cons_zero, List.set_cons_succ, List.getElem_toArray, List.getElem_cons_zero, List.getElem_cons_succ]
  refine wpList_nil ?_
  go_upto_region 2 with fail
  refine wp_region_lit ?_
  refine list_val (.agg lowsL.toArray) (by kernel_rfl) (exec_row _ 45 (.global 0) rfl 0 0 (by kernel_rfl) lowsL _ (hB.gr.range (unhide hL)) u45 rfl info45) ?_
  simp only [Act.put, List.setIfInBounds_toArray, List.set_cons_zero, List.set_cons_succ, List.getElem_toArray, List.getElem_cons_zero, List.getElem_cons_succ]
  refine list_val (.int .i64 0) (by kernel_rfl) (by kernel_rfl) ?_
  simp only [Act.put, List.setIfInBounds_toArray, List.set_cons_zero, List.set_cons_succ, List.getElem_toArray, List.getElem_cons_zero, List.getElem_cons_succ]
  refine wpList_nil ?_
  go_wp2_with fail
  refine wp_loop_rounds 6 ?_
  rw [rounds_succ]
  go_upto_region 4 with fail
  refine wp_region_lit ?_
  refine list_val (.agg (kc (digs (0 : Int) 32))) (by kernel_rfl) (by kernel_rfl) ?_
  simp only [Act.put, List.setIfInBounds_toArray, List.set_cons_zero, List.set_cons_succ, List.getElem_toArray, List.getElem_cons_zero, List.getElem_cons_succ]
  refine wpList_step fun K hK => ?_
  replace hK := hide hK
  go_simp
  refine unhide hK _ _ ?_
  clear hK K
  replace hB := hB.new #[.int .u8 0, .int .u8 0, .int .u8 0, .int .u8 0, .int .u8 0, .int .u8 0, .int .u8 0, .int .u8 0, .int .u8 0, .int .u8 0, .int .u8 0, .int .u8 0, .int .u8 0, .int .u8 0, .int .u8 0, .int .u8 0, .int .u8 0, .int .u8 0, .int .u8 0, .int .u8 0, .int .u8 0, .int .u8 0, .int .u8 0, .int .u8 0, .int .u8 0, .int .u8 0, .int .u8 0, .int .u8 0, .int .u8 0, .int .u8 0, .int .u8 0, .int .u8 0] 23
  simp only [List.cons_append, List.nil_append] at hB
  generalize v5_.heap.size = g4_1_0 at *
  generalize World.alloc _ _ = v6_ at *
  replace hB : Bl w [⟨w.heap.size, (kc (digs (U : Int) 32)), 23⟩, ⟨g1_3, (kc (digs (0 : Int) 32)), 23⟩, ⟨g4_1_0, Z32, 23⟩] v6_ := hB
  refine list_store 23 (.tmp 5) (.tmp 12) g4_1_0 (kc (digs (0 : Int) 32)) 23 Z32 (by kernel_rfl) rfl (by kernel_rfl) (by kernel_rfl) (hB.get 2 (x := ⟨g4_1_0, Z32, 23⟩) rfl) (by rw [Tryd.infoKey, kc32]) (Z32_size.trans (kc32 (0 : Int) 32).symm) (kc_one _) ?_
  replace hB := hB.set 2 (x := ⟨g4_1_0, Z32, 23⟩) rfl (kc (digs (0 : Int) 32))
  simp only [List.set_cons_zero, List.set_cons_succ] at hB
  generalize World.setRow _ _ _ = v7_ at *
  simp only [Act.put, List.setIfInBounds_toArray, List.set_cons_zero, List.set_cons_succ, List.getElem_toArray, List.getElem_cons_zero, List.getElem_cons_succ]
  refine wpList_nil ?_
  go_upto_region 5 with fail
  refine wp_region_lit ?_
  refine list_val (.agg (kc (digs (0 : Int) 32))) (by kernel_rfl) (exec_arr _ 23 (.tmp 3) rfl g1_3 (by kernel_rfl) (kc (digs (0 : Int) 32)) 23 _ (hB.get 1 (x := ⟨g1_3, (kc (digs (0 : Int) 32)), 23⟩) rfl) Tryd.underlying23 rfl (by rw [Tryd.infoKey, kc32])) ?_
  simp only [Act.put, List.setIfInBounds_toArray, List.set_cons_zero, List.set_cons_succ, List.getElem_toArray, List.getElem_cons_zero, List.getElem_cons_succ]
  refine list_val (.agg (kc (digs (0 : Int) 32))) (by kernel_rfl) (exec_arr _ 23 (.tmp 5) rfl g4_1_0 (by kernel_rfl) (kc (digs (0 : Int) 32)) 23 _ (hB.get 2 (x := ⟨g4_1_0, (kc (digs (0 : Int) 32)), 23⟩) rfl) Tryd.underlying23 rfl (by rw [Tryd.infoKey, kc32])) ?_
  simp only [Act.put, List.setIfInBounds_toArray, List.set_cons_zero, List.set_cons_succ, List.getElem_toArray, List.getElem_cons_zero, List.getElem_cons_succ]
  refine list_val (.bool true) (by kernel_rfl) (by have e := key_same (0 : Int); go_simp) ?_
  simp only [Act.put, List.setIfInBounds_toArray, List.set_cons_zero, List.set_cons_succ, List.getElem_toArray, List.getElem_cons_zero, List.getElem_cons_succ]
  refine wpList_nil ?_
  have hG := hide hB.gr
  clear hB
  go_wp2_with fail
  refine bodyPost_ret (v := .bool true) ?_ rfl ⟨rfl, unhide hG⟩
  simp [results, Tryd.results10, go_sem]

set_option maxHeartbeats 2000000 in
theorem low_1 (U : Nat) (hV : (U : Int) % 57896044618658097711785492504343953926634992332820282019728792003956564819968 % pp = 1) (w : World) (hL : w.rangeAt 0 0 lowsL) :
    Calls Tryd.prog 10 #[.agg (kc (digs (U : Int) 32))] w (fun r w' => r = .returned (.bool true) ∧ Gr w w') := by
  replace hV := hide hV
  replace hL := hide hL
  go_enter Tryd.func10, Tryd.ntmps10
  go_upto_region 1 with fail
  have hB := (Bl.nil w).new (kc (digs (U : Int) 32)) 23
  simp only [List.nil_append] at hB
  generalize World.alloc _ _ = v1_ at *
  refine wp_region_lit ?_
  refine list_val (.agg (kc (digs (U : Int) 32))) (by kernel_rfl) (exec_arr _ 23 (.tmp 1) rfl w.heap.size (by kernel_rfl) (kc (digs (U : Int) 32)) 23 _ (hB.get 0 (x := ⟨w.heap.size, (kc (digs (U : Int) 32)), 23⟩) rfl) Tryd.underlying23 rfl (by rw [Tryd.infoKey, kc32])) ?_
  simp only [Act.put, List.setIfInBounds_toArray, List.set_cons_zero, List.set_cons_succ, List.getElem_toArray, List.getElem_cons_zero, List.getElem_cons_succ]
  refine list_call 21 #[.agg (kc (digs (U : Int) 32))] (by kernel_rfl) (by kernel_rfl) ((from_ec (U : Int) (by omega) _).mono ?_)
  rintro r v2_ ⟨c1, rfl, hc1, hg⟩
  refine ⟨_, rfl, ?_⟩
  replace hB := hB.more hg
  clear hg
  simp only [Act.put, List.setIfInBounds_toArray, List.set_cons_zero, List.set_cons_succ, List.getElem_toArray, List.getElem_cons_zero, List.getElem_cons_succ]
  refine list_call 22 #[.agg c1] (by kernel_rfl) (by kernel_rfl) ((bytes_ec hc1 _).mono ?_)
  rintro r v3_ ⟨rfl, hg⟩
  refine ⟨_, rfl, ?_⟩
  rw [unhide hV]
  replace hB := hB.more hg
  clear hg
  simp only [Act.put, List.setIfInBounds_toArray, List.set_cons_zero, List.set_cons_succ, List.getElem_toArray, List.getElem_cons_zero, List.getElem_cons_succ]
  refine wpList_step fun K hK => ?_
  replace hK := hide hK
  go_simp
  refine unhide hK _ _ ?_
  clear hK K
  replace hB := hB.new #[.int .u8 0, .int .u8 0, .int .u8 0, .int .u8 0, .int .u8 0, .int .u8 0, .int .u8 0, .int .u8 0, .int .u8 0, .int .u8 0, .int .u8 0, .int .u8 0, .int .u8 0, .int .u8 0, .int .u8 0, .int .u8 0, .int .u8 0, .int .u8 0, .int .u8 0, .int .u8 0, .int .u8 0, .int .u8 0, .int .u8 0, .int .u8 0, .int .u8 0, .int .u8 0, .int .u8 0, .int .u8 0, .int .u8 0, .int .u8 0, .int .u8 0, .int .u8 0] 23
  simp only [List.cons_append, List.nil_append] at hB
  generalize v3_.heap.size = g1_3 at *
  generalize World.alloc _ _ = v4_ at *
  replace hB : Bl w [⟨w.heap.size, (kc (digs (U : Int) 32)), 23⟩, ⟨g1_3, Z32, 23⟩] v4_ := hB
  refine list_store 23 (.tmp 3) (.tmp 8) g1_3 (kc (digs (1 : Int) 32)) 23 Z32 (by kernel_rfl) rfl (by kernel_rfl) (by kernel_rfl) (hB.get 1 (x := ⟨g1_3, Z32, 23⟩) rfl) (by rw [Tryd.infoKey, kc32]) (Z32_size.trans (kc32 (1 : Int) 32).symm) (kc_one _) ?_
  replace hB := hB.set 1 (x := ⟨g1_3, Z32, 23⟩) rfl (kc (digs (1 : Int) 32))
  simp only [List.set_cons_zero, List.set_cons_succ] at hB
  generalize World.setRow _ _ _ = v5_ at *
  simp only [Act.put, List.setIfInBounds_toArray, List.set_cons_zero, List.set_cons_succ, List.getElem_toArray, List.getElem_cons_zero, List.getElem_cons_succ]
  refine wpList_nil ?_
  go_upto_region 2 with fail
  refine wp_region_lit ?_
  refine list_val (.agg lowsL.toArray) (by kernel_rfl) (exec_row _ 45 (.global 0) rfl 0 0 (by kernel_rfl) lowsL _ (hB.gr.range (unhide hL)) u45 rfl info45) ?_
  simp only [Act.put, List.setIfInBounds_toArray, List.set_cons_zero, List.set_cons_succ, List.getElem_toArray, List.getElem_cons_zero, List.getElem_cons_succ]
  refine list_val (.int .i64 0) (by kernel_rfl) (by kernel_rfl) ?_
  simp only [Act.put, List.setIfInBounds_toArray, List.set_cons_zero, List.set_cons_succ, List.getElem_toArray, List.getElem_cons_zero, List.getElem_cons_succ]
  refine wpList_nil ?_
  go_wp2_with fail
  refine wp_loop_rounds 6 ?_
  rw [rounds_succ]
  go_upto_region 4 with fail
  refine wp_region_lit ?_
  refine list_val (.agg (kc (digs (0 : Int) 32))) (by kernel_rfl) (by kernel_rfl) ?_
  simp only [Act.put, List.setIfInBounds_toArray, List.set_cons_zero, List.set_cons_succ, List.getElem_toArray, List.getElem_cons_zero, List.getElem_cons_succ]
  refine wpList_step fun K hK => ?_
  replace hK := hide hK
  go_simp
  refine unhide hK _ _ ?_
  clear hK K
  replace hB := hB.new #[.int .u8 0, .int .u8 0, .int .u8 0, .int .u8 0, .int .u8 0, .int .u8 0, .int .u8 0, .int .u8 0, .int .u8 0, .int .u8 0, .int .u8 0, .int .u8 0, .int .u8 0, .int .u8 0, .int .u8 0, .int .u8 0, .int .u8 0, .int .u8 0, .int .u8 0, .int .u8 0, .int .u8 0, .int .u8 0, .int .u8 0, .int .u8 0, .int .u8 0, .int .u8 0, .int .u8 0, .int .u8 0, .int .u8 0, .int .u8 0, .int .u8 0, .int .u8 0] 23
  simp only [List.cons_append, List.nil_append] at hB
  generalize v5_.heap.size = g4_1_0 at *
  generalize World.alloc _ _ = v6_ at *
  replace hB : Bl w [⟨w.heap.size, (kc (digs (U : Int) 32)), 23⟩, ⟨g1_3, (kc (digs (1 : Int) 32)), 23⟩, ⟨g4_1_0, Z32, 23⟩] v6_ := hB
  refine list_store 23 (.tmp 5) (.tmp 12) g4_1_0 (kc (digs (0 : Int) 32)) 23 Z32 (by kernel_rfl) rfl (by kernel_rfl) (by kernel_rfl) (hB.get 2 (x := ⟨g4_1_0, Z32, 23⟩) rfl) (by rw [Tryd.infoKey, kc32]) (Z32_size.trans (kc32 (0 : Int) 32).symm) (kc_one _) ?_
  replace hB := hB.set 2 (x := ⟨g4_1_0, Z32, 23⟩) rfl (kc (digs (0 : Int) 32))
  simp only [List.set_cons_zero, List.set_cons_succ] at hB
  generalize World.setRow _ _ _ = v7_ at *
  simp only [Act.put, List.setIfInBounds_toArray, List.set_cons_zero, List.set_cons_succ, List.getElem_toArray, List.getElem_cons_zero, List.getElem_cons_succ]
  refine wpList_nil ?_
  go_upto_region 5 with fail
  refine wp_region_lit ?_
  refine list_val (.agg (kc (digs (1 : Int) 32))) (by kernel_rfl) (exec_arr _ 23 (.tmp 3) rfl g1_3 (by kernel_rfl) (kc (digs (1 : Int) 32)) 23 _ (hB.get 1 (x := ⟨g1_3, (kc (digs (1 : Int) 32)), 23⟩) rfl) Tryd.underlying23 rfl (by rw [Tryd.infoKey, kc32])) ?_
  simp only [Act.put, List.setIfInBounds_toArray, List.set_cons_zero, List.set_cons_succ, List.getElem_toArray, List.getElem_cons_zero, List.getElem_cons_succ]
  refine list_val (.agg (kc (digs (0 : Int) 32))) (by kernel_rfl) (exec_arr _ 23 (.tmp 5) rfl g4_1_0 (by kernel_rfl) (kc (digs (0 : Int) 32)) 23 _ (hB.get 2 (x := ⟨g4_1_0, (kc (digs (0 : Int) 32)), 23⟩) rfl) Tryd.underlying23 rfl (by rw [Tryd.infoKey, kc32])) ?_
  simp only [Act.put, List.setIfInBounds_toArray, List.set_cons_zero, List.set_cons_succ, List.getElem_toArray, List.getElem_cons_zero, List.getElem_cons_succ]
  refine list_val (.bool false) (by kernel_rfl) (by have e := key_diff' (n := 1) (m := 0) (by omega) (by omega) (by decide); go_simp) ?_
  simp only [Act.put, List.setIfInBounds_toArray, List.set_cons_zero, List.set_cons_succ, List.getElem_toArray, List.getElem_cons_zero, List.getElem_cons_succ]
  refine wpList_nil ?_
  go_wp2_with fail
  rw [rounds_succ]
  go_upto_region 4 with fail
  refine wp_region_lit ?_
  refine list_val (.agg (kc (digs (1 : Int) 32))) (by kernel_rfl) (by kernel_rfl) ?_
  simp only [Act.put, List.setIfInBounds_toArray, List.set_cons_zero, List.set_cons_succ, List.getElem_toArray, List.getElem_cons_zero, List.getElem_cons_succ]
  refine wpList_step fun K hK => ?_
  replace hK := hide hK
  go_simp
  refine unhide hK _ _ ?_
  clear hK K
  replace hB := hB.new #[.int .u8 0, .int .u8 0, .int .u8 0, .int .u8 0, .int .u8 0, .int .u8 0, .int .u8 0, .int .u8 0, .int .u8 0, .int .u8 0, .int .u8 0, .int .u8 0, .int .u8 0, .int .u8 0, .int .u8 0, .int .u8 0, .int .u8 0, .int .u8 0, .int .u8 0, .int .u8 0, .int .u8 0, .int .u8 0, .int .u8 0, .int .u8 0, .int .u8 0, .int .u8 0, .int .u8 0, .int .u8 0, .int .u8 0, .int .u8 0, .int .u8 0, .int .u8 0] 23
  simp only [List.cons_append, List.nil_append] at hB
  generalize v7_.heap.size = g4_1_1 at *
  generalize World.alloc _ _ = v8_ at *
  replace hB : Bl w [⟨w.heap.size, (kc (digs (U : Int) 32)), 23⟩, ⟨g1_3, (kc (digs (1 : Int) 32)), 23⟩, ⟨g4_1_0, (kc (digs (0 : Int) 32)), 23⟩, ⟨g4_1_1, Z32, 23⟩] v8_ := hB
  refine list_store 23 (.tmp 5) (.tmp 12) g4_1_1 (kc (digs (1 : Int) 32)) 23 Z32 (by kernel_rfl) rfl (by kernel_rfl) (by kernel_rfl) (hB.get 3 (x := ⟨g4_1_1, Z32, 23⟩) rfl) (by rw [Tryd.infoKey, kc32]) (Z32_size.trans (kc32 (1 : Int) 32).symm) (kc_one _) ?_
  replace hB := hB.set 3 (x := ⟨g4_1_1, Z32, 23⟩) rfl (kc (digs (1 : Int) 32))
  simp only [List.set_cons_zero, List.set_cons_succ] at hB
  generalize World.setRow _ _ _ = v9_ at *
  simp only [Act.put, List.setIfInBounds_toArray, List.set_cons_zero, List.set_cons_succ, List.getElem_toArray, List.getElem_cons_zero, List.getElem_cons_succ]
  refine wpList_nil ?_
  go_upto_region 5 with fail
  refine wp_region_lit ?_
  refine list_val (.agg (kc (digs (1 : Int) 32))) (by kernel_rfl) (exec_arr _ 23 (.tmp 3) rfl g1_3 (by kernel_rfl) (kc (digs (1 : Int) 32)) 23 _ (hB.get 1 (x := ⟨g1_3, (kc (digs (1 : Int) 32)), 23⟩) rfl) Tryd.underlying23 rfl (by rw [Tryd.infoKey, kc32])) ?_
  simp only [Act.put, List.setIfInBounds_toArray, List.set_cons_zero, List.set_cons_succ, List.getElem_toArray, List.getElem_cons_zero, List.getElem_cons_succ]
  refine list_val (.agg (kc (digs (1 : Int) 32))) (by kernel_rfl) (exec_arr _ 23 (.tmp 5) rfl g4_1_1 (by kernel_rfl) (kc (digs (1 : Int) 32)) 23 _ (hB.get 3 (x := ⟨g4_1_1, (kc (digs (1 : Int) 32)), 23⟩) rfl) Tryd.underlying23 rfl (by rw [Tryd.infoKey, kc32])) ?_
  simp only [Act.put, List.setIfInBounds_toArray, List.set_cons_zero, List.set_cons_succ, List.getElem_toArray, List.getElem_cons_zero, List.getElem_cons_succ]
  refine list_val (.bool true) (by kernel_rfl) (by have e := key_same (1 : Int); go_simp) ?_
  simp only [Act.put, List.setIfInBounds_toArray, List.set_cons_zero, List.set_cons_succ, List.getElem_toArray, List.getElem_cons_zero, List.getElem_cons_succ]
  refine wpList_nil ?_
  have hG := hide hB.gr
  clear hB
  go_wp2_with fail
  refine bodyPost_ret (v := .bool true) ?_ rfl ⟨rfl, unhide hG⟩
  simp [results, Tryd.results10, go_sem]

set_option maxHeartbeats 2000000 in
theorem low_2 (U : Nat) (hV : (U : Int) % 57896044618658097711785492504343953926634992332820282019728792003956564819968 % pp = 57896044618658097711785492504343953926634992332820282019728792003956564819948) (w : World) (hL : w.rangeAt 0 0 lowsL) :
    Calls Tryd.prog 10 #[.agg (kc (digs (U : Int) 32))] w (fun r w' => r = .returned (.bool true) ∧ Gr w w') := by
  replace hV := hide hV
  replace hL := hide hL
  go_enter Tryd.func10, Tryd.ntmps10
  go_upto_region 1 with fail
  have hB := (Bl.nil w).new (kc (digs (U : Int) 32)) 23
  simp only [List.nil_append] at hB
  generalize World.alloc _ _ = v1_ at *
  refine wp_region_lit ?_
  refine list_val (.agg (kc (digs (U : Int) 32))) (by kernel_rfl) (exec_arr _ 23 (.tmp 1) rfl w.heap.size (by kernel_rfl) (kc (digs (U : Int) 32)) 23 _ (hB.get 0 (x := ⟨w.heap.size, (kc (digs (U : Int) 32)), 23⟩) rfl) Tryd.underlying23 rfl (by rw [Tryd.infoKey, kc32])) ?_
  simp only [Act.put, List.setIfInBounds_toArray, List.set_cons_zero, List.set_cons_succ, List.getElem_toArray, List.getElem_cons_zero, List.getElem_cons_succ]
  refine list_call 21 #[.agg (kc (digs (U : Int) 32))] (by kernel_rfl) (by kernel_rfl) ((from_ec (U : Int) (by omega) _).mono ?_)
  rintro r v2_ ⟨c1, rfl, hc1, hg⟩
  refine ⟨_, rfl, ?_⟩
  replace hB := hB.more hg
  clear hg
  simp only [Act.put, List.setIfInBounds_toArray, List.set_cons_zero, List.set_cons_succ, List.getElem_toArray, List.getElem_cons_zero, List.getElem_cons_succ]
  refine list_call 22 #[.agg c1] (by kernel_rfl) (by kernel_rfl) ((bytes_ec hc1 _).mono ?_)
  rintro r v3_ ⟨rfl, hg⟩
  refine ⟨_, rfl, ?_⟩
  rw [unhide hV]
  replace hB := hB.more hg
  clear hg
  simp only [Act.put, List.setIfInBounds_toArray, List.set_cons_zero, List.set_cons_succ, List.getElem_toArray, List.getElem_cons_zero, List.getElem_cons_succ]
  refine wpList_step fun K hK => ?_
  replace hK := hide hK
  go_simp
  refine unhide hK _ _ ?_
  clear hK K
  replace hB := hB.new #[.int .u8 0, .int .u8 0, .int .u8 0, .int .u8 0, .int .u8 0, .int .u8 0, .int .u8 0, .int .u8 0, .int .u8 0, .int .u8 0, .int .u8 0, .int .u8 0, .int .u8 0, .int .u8 0, .int .u8 0, .int .u8 0, .int .u8 0, .int .u8 0, .int .u8 0, .int .u8 0, .int .u8 0, .int .u8 0, .int .u8 0, .int .u8 0, .int .u8 0, .int .u8 0, .int .u8 0, .int .u8 0, .int .u8 0, .int .u8 0, .int .u8 0, .int .u8 0] 23
  simp only [List.cons_append, List.nil_append] at hB
  generalize v3_.heap.size = g1_3 at *
  generalize World.alloc _ _ = v4_ at *
  replace hB : Bl w [⟨w.heap.size, (kc (digs (U : Int) 32)), 23⟩, ⟨g1_3, Z32, 23⟩] v4_ := hB
  refine list_store 23 (.tmp 3) (.tmp 8) g1_3 (kc (digs (57896044618658097711785492504343953926634992332820282019728792003956564819948 : Int) 32)) 23 Z32 (by kernel_rfl) rfl (by kernel_rfl) (by kernel_rfl) (hB.get 1 (x := ⟨g1_3, Z32, 23⟩) rfl) (by rw [Tryd.infoKey, kc32]) (Z32_size.trans (kc32 (57896044618658097711785492504343953926634992332820282019728792003956564819948 : Int) 32).symm) (kc_one _) ?_
  replace hB := hB.set 1 (x := ⟨g1_3, Z32, 23⟩) rfl (kc (digs (57896044618658097711785492504343953926634992332820282019728792003956564819948 : Int) 32))
  simp only [List.set_cons_zero, List.set_cons_succ] at hB
  generalize World.setRow _ _ _ = v5_ at *
  simp only [Act.put, List.setIfInBounds_toArray, List.set_cons_zero, List.set_cons_succ, List.getElem_toArray, List.getElem_cons_zero, List.getElem_cons_succ]
  refine wpList_nil ?_
  go_upto_region 2 with fail
  refine wp_region_lit ?_
  refine list_val (.agg lowsL.toArray) (by kernel_rfl) (exec_row _ 45 (.global 0) rfl 0 0 (by kernel_rfl) lowsL _ (hB.gr.range (unhide hL)) u45 rfl info45) ?_
  simp only [Act.put, List.setIfInBounds_toArray, List.set_cons_zero, List.set_cons_succ, List.getElem_toArray, List.getElem_cons_zero, List.getElem_cons_succ]
  refine list_val (.int .i64 0) (by kernel_rfl) (by kernel_rfl) ?_
  simp only [Act.put, List.setIfInBounds_toArray, List.set_cons_zero, List.set_cons_succ, List.getElem_toArray, List.getElem_cons_zero, List.getElem_cons_succ]
  refine wpList_nil ?_
  go_wp2_with fail
  refine wp_loop_rounds 6 ?_
  rw [rounds_succ]
  go_upto_region 4 with fail
  refine wp_region_lit ?_
  refine list_val (.agg (kc (digs (0 : Int) 32))) (by kernel_rfl) (by kernel_rfl) ?_
  simp only [Act.put, List.setIfInBounds_toArray, List.set_cons_zero, List.set_cons_succ, List.getElem_toArray, List.getElem_cons_zero, List.getElem_cons_succ]
  refine wpList_step fun K hK => ?_
  replace hK := hide hK
  go_simp
  refine unhide hK _ _ ?_
  clear hK K
  replace hB := hB.new #[.int .u8 0, .int .u8 0, .int .u8 0, .int .u8 0, .int .u8 0, .int .u8 0, .int .u8 0, .int .u8 0, .int .u8 0, .int .u8 0, .int .u8 0, .int .u8 0, .int .u8 0, .int .u8 0, .int .u8 0, .int .u8 0, .int .u8 0, .int .u8 0, .int .u8 0, .int .u8 0, .int .u8 0, .int .u8 0, .int .u8 0, .int .u8 0, .int .u8 0, .int .u8 0, .int .u8 0, .int .u8 0, .int .u8 0, .int .u8 0, .int .u8 0, .int .u8 0] 23
  simp only [List.cons_append, List.nil_append] at hB
  generalize v5_.heap.size = g4_1_0 at *
  generalize World.alloc _ _ = v6_ at *
  replace hB : Bl w [⟨w.heap.size, (kc (digs (U : Int) 32)), 23⟩, ⟨g1_3, (kc (digs (57896044618658097711785492504343953926634992332820282019728792003956564819948 : Int) 32)), 23⟩, ⟨g4_1_0, Z32, 23⟩] v6_ := hB
  refine list_store 23 (.tmp 5) (.tmp 12) g4_1_0 (kc (digs (0 : Int) 32)) 23 Z32 (by kernel_rfl) rfl (by kernel_rfl) (by kernel_rfl) (hB.get 2 (x := ⟨g4_1_0, Z32, 23⟩) rfl) (by rw [Tryd.infoKey, kc32]) (Z32_size.trans (kc32 (0 : Int) 32).symm) (kc_one _) ?_
  replace hB := hB.set 2 (x := ⟨g4_1_0, Z32, 23⟩) rfl (kc (digs (0 : Int) 32))
  simp only [List.set_cons_zero, List.set_cons_succ] at hB
  generalize World.setRow _ _ _ = v7_ at *
  simp only [Act.put, List.setIfInBounds_toArray, List.set_cons_zero, List.set_cons_succ, List.getElem_toArray, List.getElem_cons_zero, List.getElem_cons_succ]
  refine wpList_nil ?_
  go_upto_region 5 with fail
  refine wp_region_lit ?_
  refine list_val (.agg (kc (digs (57896044618658097711785492504343953926634992332820282019728792003956564819948 : Int) 32))) (by kernel_rfl) (exec_arr _ 23 (.tmp 3) rfl g1_3 (by kernel_rfl) (kc (digs (57896044618658097711785492504343953926634992332820282019728792003956564819948 : Int) 32)) 23 _ (hB.get 1 (x := ⟨g1_3, (kc (digs (57896044618658097711785492504343953926634992332820282019728792003956564819948 : Int) 32)), 23⟩) rfl) Tryd.underlying23 rfl (by rw [Tryd.infoKey, kc32])) ?_
  simp only [Act.put, List.setIfInBounds_toArray, List.set_cons_zero, List.set_cons_succ, List.getElem_toArray, List.getElem_cons_zero, List.getElem_cons_succ]
  refine list_val (.agg (kc (digs (0 : Int) 32))) (by kernel_rfl) (exec_arr _ 23 (.tmp 5) rfl g4_1_0 (by kernel_rfl) (kc (digs (0 : Int) 32)) 23 _ (hB.get 2 (x := ⟨g4_1_0, (kc (digs (0 : Int) 32)), 23⟩) rfl) Tryd.underlying23 rfl (by rw [Tryd.infoKey, kc32])) ?_
  simp only [Act.put, List.setIfInBounds_toArray, List.set_cons_zero, List.set_cons_succ, List.getElem_toArray, List.getElem_cons_zero, List.getElem_cons_succ]
  refine list_val (.bool false) (by kernel_rfl) (by have e := key_diff' (n := 57896044618658097711785492504343953926634992332820282019728792003956564819948) (m := 0) (by omega) (by omega) (by decide); go_simp) ?_
  simp only [Act.put, List.setIfInBounds_toArray, List.set_cons_zero, List.set_cons_succ, List.getElem_toArray, List.getElem_cons_zero, List.getElem_cons_succ]
  refine wpList_nil ?_
  go_wp2_with fail
  rw [rounds_succ]
  go_upto_region 4 with fail
  refine wp_region_lit ?_
  refine list_val (.agg (kc (digs (1 : Int) 32))) (by kernel_rfl) (by kernel_rfl) ?_
  simp only [Act.put, List.setIfInBounds_toArray, List.set_cons_zero, List.set_cons_succ, List.getElem_toArray, List.getElem_cons_zero, List.getElem_cons_succ]
  refine wpList_step fun K hK => ?_
  replace hK := hide hK
  go_simp
  refine unhide hK _ _ ?_
  clear hK K
  replace hB := hB.new #[.int .u8 0, .int .u8 0, .int .u8 0, .int .u8 0, .int .u8 0, .int .u8 0, .int .u8 0, .int .u8 0, .int .u8 0, .int .u8 0, .int .u8 0, .int .u8 0, .int .u8 0, .int .u8 0, .int .u8 0, .int .u8 0, .int .u8 0, .int .u8 0, .int .u8 0, .int .u8 0, .int .u8 0, .int .u8 0, .int .u8 0, .int .u8 0, .int .u8 0, .int .u8 0, .int .u8 0, .int .u8 0, .int .u8 0, .int .u8 0, .int .u8 0, .int .u8 0] 23
  simp only [List.cons_append, List.nil_append] at hB
  generalize v7_.heap.size = g4_1_1 at *
  generalize World.alloc _ _ = v8_ at *
  replace hB : Bl w [⟨w.heap.size, (kc (digs (U : Int) 32)), 23⟩, ⟨g1_3, (kc (digs (57896044618658097711785492504343953926634992332820282019728792003956564819948 : Int) 32)), 23⟩, ⟨g4_1_0, (kc (digs (0 : Int) 32)), 23⟩, ⟨g4_1_1, Z32, 23⟩] v8_ := hB
  refine list_store 23 (.tmp 5) (.tmp 12) g4_1_1 (kc (digs (1 : Int) 32)) 23 Z32 (by kernel_rfl) rfl (by kernel_rfl) (by kernel_rfl) (hB.get 3 (x := ⟨g4_1_1, Z32, 23⟩) rfl) (by rw [Tryd.infoKey, kc32]) (Z32_size.trans (kc32 (1 : Int) 32).symm) (kc_one _) ?_
  replace hB := hB.set 3 (x := ⟨g4_1_1, Z32, 23⟩) rfl (kc (digs (1 : Int) 32))
  simp only [List.set_cons_zero, List.set_cons_succ] at hB
  generalize World.setRow _ _ _ = v9_ at *
  simp only [Act.put, List.setIfInBounds_toArray, List.set_cons_zero, List.set_cons_succ, List.getElem_toArray, List.getElem_cons_zero, List.getElem_cons_succ]
  refine wpList_nil ?_
  go_upto_region 5 with fail
  refine wp_region_lit ?_
  refine list_val (.agg (kc (digs (57896044618658097711785492504343953926634992332820282019728792003956564819948 : Int) 32))) (by kernel_rfl) (exec_arr _ 23 (.tmp 3) rfl g1_3 (by kernel_rfl) (kc (digs (57896044618658097711785492504343953926634992332820282019728792003956564819948 : Int) 32)) 23 _ (hB.get 1 (x := ⟨g1_3, (kc (digs (57896044618658097711785492504343953926634992332820282019728792003956564819948 : Int) 32)), 23⟩) rfl) Tryd.underlying23 rfl (by rw [Tryd.infoKey, kc32])) ?_
  simp only [Act.put, List.setIfInBounds_toArray, List.set_cons_zero, List.set_cons_succ, List.getElem_toArray, List.getElem_cons_zero, List.getElem_cons_succ]
  refine list_val (.agg (kc (digs (1 : Int) 32))) (by kernel_rfl) (exec_arr _ 23 (.tmp 5) rfl g4_1_1 (by kernel_rfl) (kc (digs (1 : Int) 32)) 23 _ (hB.get 3 (x := ⟨g4_1_1, (kc (digs (1 : Int) 32)), 23⟩) rfl) Tryd.underlying23 rfl (by rw [Tryd.infoKey, kc32])) ?_
  simp only [Act.put, List.setIfInBounds_toArray, List.set_cons_zero, List.set_cons_succ, List.getElem_toArray, List.getElem_cons_zero, List.getElem_cons_succ]
  refine list_val (.bool false) (by kernel_rfl) (by have e := key_diff' (n := 57896044618658097711785492504343953926634992332820282019728792003956564819948) (m := 1) (by omega) (by omega) (by decide); go_simp) ?_
  simp only [Act.put, List.setIfInBounds_toArray, List.set_cons_zero, List.set_cons_succ, List.getElem_toArray, List.getElem_cons_zero, List.getElem_cons_succ]
  refine wpList_nil ?_
  go_wp2_with fail
  rw [rounds_succ]
  go_upto_region 4 with fail
  refine wp_region_lit ?_
  refine list_val (.agg (kc (digs (57896044618658097711785492504343953926634992332820282019728792003956564819948 : Int) 32))) (by kernel_rfl) (by kernel_rfl) ?_
  simp only [Act.put, List.setIfInBounds_toArray, List.set_cons_zero, List.set_cons_succ, List.getElem_toArray, List.getElem_cons_zero, List.getElem_cons_succ]
  refine wpList_step fun K hK => ?_
  replace hK := hide hK
  go_simp
  refine unhide hK _ _ ?_
  clear hK K
  replace hB := hB.new #[.int .u8 0, .int .u8 0, .int .u8 0, .int .u8 0, .int .u8 0, .int .u8 0, .int .u8 0, .int .u8 0, .int .u8 0, .int .u8 0, .int .u8 0, .int .u8 0, .int .u8 0, .int .u8 0, .int .u8 0, .int .u8 0, .int .u8 0, .int .u8 0, .int .u8 0, .int .u8 0, .int .u8 0, .int .u8 0, .int .u8 0, .int .u8 0, .int .u8 0, .int .u8 0, .int .u8 0, .int .u8 0, .int .u8 0, .int .u8 0, .int .u8 0, .int .u8 0] 23
  simp only [List.cons_append, List.nil_append] at hB
  generalize v9_.heap.size = g4_1_2 at *
  generalize World.alloc _ _ = v10_ at *
  replace hB : Bl w [⟨w.heap.size, (kc (digs (U : Int) 32)), 23⟩, ⟨g1_3, (kc (digs (57896044618658097711785492504343953926634992332820282019728792003956564819948 : Int) 32)), 23⟩, ⟨g4_1_0, (kc (digs (0 : Int) 32)), 23⟩, ⟨g4_1_1, (kc (digs (1 : Int) 32)), 23⟩, ⟨g4_1_2, Z32, 23⟩] v10_ := hB
  refine list_store 23 (.tmp 5) (.tmp 12) g4_1_2 (kc (digs (57896044618658097711785492504343953926634992332820282019728792003956564819948 : Int) 32)) 23 Z32 (by kernel_rfl) rfl (by kernel_rfl) (by kernel_rfl) (hB.get 4 (x := ⟨g4_1_2, Z32, 23⟩) rfl) (by rw [Tryd.infoKey, kc32]) (Z32_size.trans (kc32 (57896044618658097711785492504343953926634992332820282019728792003956564819948 : Int) 32).symm) (kc_one _) ?_
  replace hB := hB.set 4 (x := ⟨g4_1_2, Z32, 23⟩) rfl (kc (digs (57896044618658097711785492504343953926634992332820282019728792003956564819948 : Int) 32))
  simp only [List.set_cons_zero, List.set_cons_succ] at hB
  generalize World.setRow _ _ _ = v11_ at *
  simp only [Act.put, List.setIfInBounds_toArray, List.set_cons_zero, List.set_cons_succ, List.getElem_toArray, List.getElem_cons_zero, List.getElem_cons_succ]
  refine wpList_nil ?_
  go_upto_region 5 with fail
  refine wp_region_lit ?_
  refine list_val (.agg (kc (digs (57896044618658097711785492504343953926634992332820282019728792003956564819948 : Int) 32))) (by kernel_rfl) (exec_arr _ 23 (.tmp 3) rfl g1_3 (by kernel_rfl) (kc (digs (57896044618658097711785492504343953926634992332820282019728792003956564819948 : Int) 32)) 23 _ (hB.get 1 (x := ⟨g1_3, (kc (digs (57896044618658097711785492504343953926634992332820282019728792003956564819948 : Int) 32)), 23⟩) rfl) Tryd.underlying23 rfl (by rw [Tryd.infoKey, kc32])) ?_
  simp only [Act.put, List.setIfInBounds_toArray, List.set_cons_zero, List.set_cons_succ, List.getElem_toArray, List.getElem_cons_zero, List.getElem_cons_succ]
  refine list_val (.agg (kc (digs (57896044618658097711785492504343953926634992332820282019728792003956564819948 : Int) 32))) (by kernel_rfl) (exec_arr _ 23 (.tmp 5) rfl g4_1_2 (by kernel_rfl) (kc (digs (57896044618658097711785492504343953926634992332820282019728792003956564819948 : Int) 32)) 23 _ (hB.get 4 (x := ⟨g4_1_2, (kc (digs (57896044618658097711785492504343953926634992332820282019728792003956564819948 : Int) 32)), 23⟩) rfl) Tryd.underlying23 rfl (by rw [Tryd.infoKey, kc32])) ?_
  simp only [Act.put, List.setIfInBounds_toArray, List.set_cons_zero, List.set_cons_succ, List.getElem_toArray, List.getElem_cons_zero, List.getElem_cons_succ]
  refine list_val (.bool true) (by kernel_rfl) (by have e := key_same (57896044618658097711785492504343953926634992332820282019728792003956564819948 : Int); go_simp) ?_
  simp only [Act.put, List.setIfInBounds_toArray, List.set_cons_zero, List.set_cons_succ, List.getElem_toArray, List.getElem_cons_zero, List.getElem_cons_succ]
  refine wpList_nil ?_
  have hG := hide hB.gr
  clear hB
  go_wp2_with fail
  refine bodyPost_ret (v := .bool true) ?_ rfl ⟨rfl, unhide hG⟩
  simp [results, Tryd.results10, go_sem]

set_option maxHeartbeats 2000000 in
theorem low_3 (U : Nat) (hV : (U : Int) % 57896044618658097711785492504343953926634992332820282019728792003956564819968 % pp = 325606250916557431795983626356110631294008115727848805560023387167927233504) (w : World) (hL : w.rangeAt 0 0 lowsL) :
    Calls Tryd.prog 10 #[.agg (kc (digs (U : Int) 32))] w (fun r w' => r = .returned (.bool true) ∧ Gr w w') := by
  replace hV := hide hV
  replace hL := hide hL
  go_enter Tryd.func10, Tryd.ntmps10
  go_upto_region 1 with fail
  have hB := (Bl.nil w).new (kc (digs (U : Int) 32)) 23
  simp only [List.nil_append] at hB
  generalize World.alloc _ _ = v1_ at *
  refine wp_region_lit ?_
  refine list_val (.agg (kc (digs (U : Int) 32))) (by kernel_rfl) (exec_arr _ 23 (.tmp 1) rfl w.heap.size (by kernel_rfl) (kc (digs (U : Int) 32)) 23 _ (hB.get 0 (x := ⟨w.heap.size, (kc (digs (U : Int) 32)), 23⟩) rfl) Tryd.underlying23 rfl (by rw [Tryd.infoKey, kc32])) ?_
  simp only [Act.put, List.setIfInBounds_toArray, List.set_cons_zero, List.set_cons_succ, List.getElem_toArray, List.getElem_cons_zero, List.getElem_cons_succ]
  refine list_call 21 #[.agg (kc (digs (U : Int) 32))] (by kernel_rfl) (by kernel_rfl) ((from_ec (U : Int) (by omega) _).mono ?_)
  rintro r v2_ ⟨c1, rfl, hc1, hg⟩
  refine ⟨_, rfl, ?_⟩
  replace hB := hB.more hg
  clear hg
  simp only [Act.put, List.setIfInBounds_toArray, List.set_cons_zero, List.set_cons_succ, List.getElem_toArray, List.getElem_cons_zero, List.getElem_cons_succ]
  refine list_call 22 #[.agg c1] (by kernel_rfl) (by kernel_rfl) ((bytes_ec hc1 _).mono ?_)
  rintro r v3_ ⟨rfl, hg⟩
  refine ⟨_, rfl, ?_⟩
  rw [unhide hV]
  replace hB := hB.more hg
  clear hg
  simp only [Act.put, List.setIfInBounds_toArray, List.set_cons_zero, List.set_cons_succ, List.getElem_toArray, List.getElem_cons_zero, List.getElem_cons_succ]
  refine wpList_step fun K hK => ?_
  replace hK := hide hK
  go_simp
  refine unhide hK _ _ ?_
  clear hK K
  replace hB := hB.new #[.int .u8 0, .int .u8 0, .int .u8 0, .int .u8 0, .int .u8 0, .int .u8 0, .int .u8 0, .int .u8 0, .int .u8 0, .int .u8 0, .int .u8 0, .int .u8 0, .int .u8 0, .int .u8 0, .int .u8 0, .int .u8 0, .int .u8 0, .int .u8 0, .int .u8 0, .int .u8 0, .int .u8 0, .int .u8 0, .int .u8 0, .int .u8 0, .int .u8 0, .int .u8 0, .int .u8 0, .int .u8 0, .int .u8 0, .int .u8 0, .int .u8 0, .int .u8 0] 23
  simp only [List.cons_append, List.nil_append] at hB
  generalize v3_.heap.size = g1_3 at *
  generalize World.alloc _ _ = v4_ at *
  replace hB : Bl w [⟨w.heap.size, (kc (digs (U : Int) 32)), 23⟩, ⟨g1_3, Z32, 23⟩] v4_ := hB
  refine list_store 23 (.tmp 3) (.tmp 8) g1_3 (kc (digs (325606250916557431795983626356110631294008115727848805560023387167927233504 : Int) 32)) 23 Z32 (by kernel_rfl) rfl (by kernel_rfl) (by kernel_rfl) (hB.get 1 (x := ⟨g1_3, Z32, 23⟩) rfl) (by rw [Tryd.infoKey, kc32]) (Z32_size.trans (kc32 (325606250916557431795983626356110631294008115727848805560023387167927233504 : Int) 32).symm) (kc_one _) ?_
  replace hB := hB.set 1 (x := ⟨g1_3, Z32, 23⟩) rfl (kc (digs (325606250916557431795983626356110631294008115727848805560023387167927233504 : Int) 32))
  simp only [List.set_cons_zero, List.set_cons_succ] at hB
  generalize World.setRow _ _ _ = v5_ at *
  simp only [Act.put, List.setIfInBounds_toArray, List.set_cons_zero, List.set_cons_succ, List.getElem_toArray, List.getElem_cons_zero, List.getElem_cons_succ]
  refine wpList_nil ?_
  go_upto_region 2 with fail
  refine wp_region_lit ?_
  refine list_val (.agg lowsL.toArray) (by kernel_rfl) (exec_row _ 45 (.global 0) rfl 0 0 (by kernel_rfl) lowsL _ (hB.gr.range (unhide hL)) u45 rfl info45) ?_
  simp only [Act.put, List.setIfInBounds_toArray, List.set_cons_zero, List.set_cons_succ, List.getElem_toArray, List.getElem_cons_zero, List.getElem_cons_succ]
  refine list_val (.int .i64 0) (by kernel_rfl) (by kernel_rfl) ?_
  simp only [Act.put, List.setIfInBounds_toArray, List.set_cons_zero, List.set_cons_succ, List.getElem_toArray, List.getElem_cons_zero, List.getElem_cons_succ]
  refine wpList_nil ?_
  go_wp2_with fail
  refine wp_loop_rounds 6 ?_
  rw [rounds_succ]
  go_upto_region 4 with fail
  refine wp_region_lit ?_
  refine list_val (.agg (kc (digs (0 : Int) 32))) (by kernel_rfl) (by kernel_rfl) ?_
  simp only [Act.put, List.setIfInBounds_toArray, List.set_cons_zero, List.set_cons_succ, List.getElem_toArray, List.getElem_cons_zero, List.getElem_cons_succ]
  refine wpList_step fun K hK => ?_
  replace hK := hide hK
  go_simp
  refine unhide hK _ _ ?_
  clear hK K
  replace hB := hB.new #[.int .u8 0, .int .u8 0, .int .u8 0, .int .u8 0, .int .u8 0, .int .u8 0, .int .u8 0, .int .u8 0, .int .u8 0, .int .u8 0, .int .u8 0, .int .u8 0, .int .u8 0, .int .u8 0, .int .u8 0, .int .u8 0, .int .u8 0, .int .u8 0, .int .u8 0, .int .u8 0, .int .u8 0, .int .u8 0, .int .u8 0, .int .u8 0, .int .u8 0, .int .u8 0, .int .u8 0, .int .u8 0, .int .u8 0, .int .u8 0, .int .u8 0, .int .u8 0] 23
  simp only [List.cons_append, List.nil_append] at hB
  generalize v5_.heap.size = g4_1_0 at *
  generalize World.alloc _ _ = v6_ at *
  replace hB : Bl w [⟨w.heap.size, (kc (digs (U : Int) 32)), 23⟩, ⟨g1_3, (kc (digs (325606250916557431795983626356110631294008115727848805560023387167927233504 : Int) 32)), 23⟩, ⟨g4_1_0, Z32, 23⟩] v6_ := hB
  refine list_store 23 (.tmp 5) (.tmp 12) g4_1_0 (kc (digs (0 : Int) 32)) 23 Z32 (by kernel_rfl) rfl (by kernel_rfl) (by kernel_rfl) (hB.get 2 (x := ⟨g4_1_0, Z32, 23⟩) rfl) (by rw [Tryd.infoKey, kc32]) (Z32_size.trans (kc32 (0 : Int) 32).symm) (kc_one _) ?_
  replace hB := hB.set 2 (x := ⟨g4_1_0, Z32, 23⟩) rfl (kc (digs (0 : Int) 32))
  simp only [List.set_cons_zero, List.set_cons_succ] at hB
  generalize World.setRow _ _ _ = v7_ at *
  simp only [Act.put, List.setIfInBounds_toArray, List.set_cons_zero, List.set_cons_succ, List.getElem_toArray, List.getElem_cons_zero, List.getElem_cons_succ]
  refine wpList_nil ?_
  go_upto_region 5 with fail
  refine wp_region_lit ?_
  refine list_val (.agg (kc (digs (325606250916557431795983626356110631294008115727848805560023387167927233504 : Int) 32))) (by kernel_rfl) (exec_arr _ 23 (.tmp 3) rfl g1_3 (by kernel_rfl) (kc (digs (325606250916557431795983626356110631294008115727848805560023387167927233504 : Int) 32)) 23 _ (hB.get 1 (x := ⟨g1_3, (kc (digs (325606250916557431795983626356110631294008115727848805560023387167927233504 : Int) 32)), 23⟩) rfl) Tryd.underlying23 rfl (by rw [Tryd.infoKey, kc32])) ?_
  simp only [Act.put, List.setIfInBounds_toArray, List.set_cons_zero, List.set_cons_succ, List.getElem_toArray, List.getElem_cons_zero, List.getElem_cons_succ]
  refine list_val (.agg (kc (digs (0 : Int) 32))) (by kernel_rfl) (exec_arr _ 23 (.tmp 5) rfl g4_1_0 (by kernel_rfl) (kc (digs (0 : Int) 32)) 23 _ (hB.get 2 (x := ⟨g4_1_0, (kc (digs (0 : Int) 32)), 23⟩) rfl) Tryd.underlying23 rfl (by rw [Tryd.infoKey, kc32])) ?_
  simp only [Act.put, List.setIfInBounds_toArray, List.set_cons_zero, List.set_cons_succ, List.getElem_toArray, List.getElem_cons_zero, List.getElem_cons_succ]
  refine list_val (.bool false) (by kernel_rfl) (by have e := key_diff' (n := 325606250916557431795983626356110631294008115727848805560023387167927233504) (m := 0) (by omega) (by omega) (by decide); go_simp) ?_
  simp only [Act.put, List.setIfInBounds_toArray, List.set_cons_zero, List.set_cons_succ, List.getElem_toArray, List.getElem_cons_zero, List.getElem_cons_succ]
  refine wpList_nil ?_
  go_wp2_with fail
  rw [rounds_succ]
  go_upto_region 4 with fail
  refine wp_region_lit ?_
  refine list_val (.agg (kc (digs (1 : Int) 32))) (by kernel_rfl) (by kernel_rfl) ?_
  simp only [Act.put, List.setIfInBounds_toArray, List.set_cons_zero, List.set_cons_succ, List.getElem_toArray, List.getElem_cons_zero, List.getElem_cons_succ]
  refine wpList_step fun K hK => ?_
  replace hK := hide hK
  go_simp
  refine unhide hK _ _ ?_
  clear hK K
  replace hB := hB.new #[.int .u8 0, .int .u8 0, .int .u8 0, .int .u8 0, .int .u8 0, .int .u8 0, .int .u8 0, .int .u8 0, .int .u8 0, .int .u8 0, .int .u8 0, .int .u8 0, .int .u8 0, .int .u8 0, .int .u8 0, .int .u8 0, .int .u8 0, .int .u8 0, .int .u8 0, .int .u8 0, .int .u8 0, .int .u8 0, .int .u8 0, .int .u8 0, .int .u8 0, .int .u8 0, .int .u8 0, .int .u8 0, .int .u8 0, .int .u8 0, .int .u8 0, .int .u8 0] 23
  simp only [List.cons_append, List.nil_append] at hB
  generalize v7_.heap.size = g4_1_1 at *
  generalize World.alloc _ _ = v8_ at *
  replace hB : Bl w [⟨w.heap.size, (kc (digs (U : Int) 32)), 23⟩, ⟨g1_3, (kc (digs (325606250916557431795983626356110631294008115727848805560023387167927233504 : Int) 32)), 23⟩, ⟨g4_1_0, (kc (digs (0 : Int) 32)), 23⟩, ⟨g4_1_1, Z32, 23⟩] v8_ := hB
  refine list_store 23 (.tmp 5) (.tmp 12) g4_1_1 (kc (digs (1 : Int) 32)) 23 Z32 (by kernel_rfl) rfl (by kernel_rfl) (by kernel_rfl) (hB.get 3 (x := ⟨g4_1_1, Z32, 23⟩) rfl) (by rw [Tryd.infoKey, kc32]) (Z32_size.trans (kc32 (1 : Int) 32).symm) (kc_one _) ?_
  replace hB := hB.set 3 (x := ⟨g4_1_1, Z32, 23⟩) rfl (kc (digs (1 : Int) 32))
  simp only [List.set_cons_zero, List.set_cons_succ] at hB
  generalize World.setRow _ _ _ = v9_ at *
  simp only [Act.put, List.setIfInBounds_toArray, List.set_cons_zero, List.set_cons_succ, List.getElem_toArray, List.getElem_cons_zero, List.getElem_cons_succ]
  refine wpList_nil ?_
  go_upto_region 5 with fail
  refine wp_region_lit ?_
  refine list_val (.agg (kc (digs (325606250916557431795983626356110631294008115727848805560023387167927233504 : Int) 32))) (by kernel_rfl) (exec_arr _ 23 (.tmp 3) rfl g1_3 (by kernel_rfl) (kc (digs (325606250916557431795983626356110631294008115727848805560023387167927233504 : Int) 32)) 23 _ (hB.get 1 (x := ⟨g1_3, (kc (digs (325606250916557431795983626356110631294008115727848805560023387167927233504 : Int) 32)), 23⟩) rfl) Tryd.underlying23 rfl (by rw [Tryd.infoKey, kc32])) ?_
  simp only [Act.put, List.setIfInBounds_toArray, List.set_cons_zero, List.set_cons_succ, List.getElem_toArray, List.getElem_cons_zero, List.getElem_cons_succ]
  refine list_val (.agg (kc (digs (1 : Int) 32))) (by kernel_rfl) (exec_arr _ 23 (.tmp 5) rfl g4_1_1 (by kernel_rfl) (kc (digs (1 : Int) 32)) 23 _ (hB.get 3 (x := ⟨g4_1_1, (kc (digs (1 : Int) 32)), 23⟩) rfl) Tryd.underlying23 rfl (by rw [Tryd.infoKey, kc32])) ?_
  simp only [Act.put, List.setIfInBounds_toArray, List.set_cons_zero, List.set_cons_succ, List.getElem_toArray, List.getElem_cons_zero, List.getElem_cons_succ]
  refine list_val (.bool false) (by kernel_rfl) (by have e := key_diff' (n := 325606250916557431795983626356110631294008115727848805560023387167927233504) (m := 1) (by omega) (by omega) (by decide); go_simp) ?_
  simp only [Act.put, List.setIfInBounds_toArray, List.set_cons_zero, List.set_cons_succ, List.getElem_toArray, List.getElem_cons_zero, List.getElem_cons_succ]
  refine wpList_nil ?_
  go_wp2_with fail
  rw [rounds_succ]
  go_upto_region 4 with fail
  refine wp_region_lit ?_
  refine list_val (.agg (kc (digs (57896044618658097711785492504343953926634992332820282019728792003956564819948 : Int) 32))) (by kernel_rfl) (by kernel_rfl) ?_
  simp only [Act.put, List.setIfInBounds_toArray, List.set_cons_zero, List.set_cons_succ, List.getElem_toArray, List.getElem_cons_zero, List.getElem_cons_succ]
  refine wpList_step fun K hK => ?_
  replace hK := hide hK
  go_simp
  refine unhide hK _ _ ?_
  clear hK K
  replace hB := hB.new #[.int .u8 0, .int .u8 0, .int .u8 0, .int .u8 0, .int .u8 0, .int .u8 0, .int .u8 0, .int .u8 0, .int .u8 0, .int .u8 0, .int .u8 0, .int .u8 0, .int .u8 0, .int .u8 0, .int .u8 0, .int .u8 0, .int .u8 0, .int .u8 0, .int .u8 0, .int .u8 0, .int .u8 0, .int .u8 0, .int .u8 0, .int .u8 0, .int .u8 0, .int .u8 0, .int .u8 0, .int .u8 0, .int .u8 0, .int .u8 0, .int .u8 0, .int .u8 0] 23
  simp only [List.cons_append, List.nil_append] at hB
  generalize v9_.heap.size = g4_1_2 at *
  generalize World.alloc _ _ = v10_ at *
  replace hB : Bl w [⟨w.heap.size, (kc (digs (U : Int) 32)), 23⟩, ⟨g1_3, (kc (digs (325606250916557431795983626356110631294008115727848805560023387167927233504 : Int) 32)), 23⟩, ⟨g4_1_0, (kc (digs (0 : Int) 32)), 23⟩, ⟨g4_1_1, (kc (digs (1 : Int) 32)), 23⟩, ⟨g4_1_2, Z32, 23⟩] v10_ := hB
  refine list_store 23 (.tmp 5) (.tmp 12) g4_1_2 (kc (digs (57896044618658097711785492504343953926634992332820282019728792003956564819948 : Int) 32)) 23 Z32 (by kernel_rfl) rfl (by kernel_rfl) (by kernel_rfl) (hB.get 4 (x := ⟨g4_1_2, Z32, 23⟩) rfl) (by rw [Tryd.infoKey, kc32]) (Z32_size.trans (kc32 (57896044618658097711785492504343953926634992332820282019728792003956564819948 : Int) 32).symm) (kc_one _) ?_
  replace hB := hB.set 4 (x := ⟨g4_1_2, Z32, 23⟩) rfl (kc (digs (57896044618658097711785492504343953926634992332820282019728792003956564819948 : Int) 32))
  simp only [List.set_cons_zero, List.set_cons_succ] at hB
  generalize World.setRow _ _ _ = v11_ at *
  simp only [Act.put, List.setIfInBounds_toArray, List.set_cons_zero, List.set_cons_succ, List.getElem_toArray, List.getElem_cons_zero, List.getElem_cons_succ]
  refine wpList_nil ?_
  go_upto_region 5 with fail
  refine wp_region_lit ?_
  refine list_val (.agg (kc (digs (325606250916557431795983626356110631294008115727848805560023387167927233504 : Int) 32))) (by kernel_rfl) (exec_arr _ 23 (.tmp 3) rfl g1_3 (by kernel_rfl) (kc (digs (325606250916557431795983626356110631294008115727848805560023387167927233504 : Int) 32)) 23 _ (hB.get 1 (x := ⟨g1_3, (kc (digs (325606250916557431795983626356110631294008115727848805560023387167927233504 : Int) 32)), 23⟩) rfl) Tryd.underlying23 rfl (by rw [Tryd.infoKey, kc32])) ?_
  simp only [Act.put, List.setIfInBounds_toArray, List.set_cons_zero, List.set_cons_succ, List.getElem_toArray, List.getElem_cons_zero, List.getElem_cons_succ]
  refine list_val (.agg (kc (digs (57896044618658097711785492504343953926634992332820282019728792003956564819948 : Int) 32))) (by kernel_rfl) (exec_arr _ 23 (.tmp 5) rfl g4_1_2 (by kernel_rfl) (kc (digs (57896044618658097711785492504343953926634992332820282019728792003956564819948 : Int) 32)) 23 _ (hB.get 4 (x := ⟨g4_1_2, (kc (digs (57896044618658097711785492504343953926634992332820282019728792003956564819948 : Int) 32)), 23⟩) rfl) Tryd.underlying23 rfl (by rw [Tryd.infoKey, kc32])) ?_
  simp only [Act.put, List.setIfInBounds_toArray, List.set_cons_zero, List.set_cons_succ, List.getElem_toArray, List.getElem_cons_zero, List.getElem_cons_succ]
  refine list_val (.bool false) (by kernel_rfl) (by have e := key_diff' (n := 325606250916557431795983626356110631294008115727848805560023387167927233504) (m := 57896044618658097711785492504343953926634992332820282019728792003956564819948) (by omega) (by omega) (by decide); go_simp) ?_
  simp only [Act.put, List.setIfInBounds_toArray, List.set_cons_zero, List.set_cons_succ, List.getElem_toArray, List.getElem_cons_zero, List.getElem_cons_succ]
  refine wpList_nil ?_
  go_wp2_with fail
  rw [rounds_succ]
  go_upto_region 4 with fail
  refine wp_region_lit ?_
  refine list_val (.agg (kc (digs (325606250916557431795983626356110631294008115727848805560023387167927233504 : Int) 32))) (by kernel_rfl) (by kernel_rfl) ?_
  simp only [Act.put, List.setIfInBounds_toArray, List.set_cons_zero, List.set_cons_succ, List.getElem_toArray, List.getElem_cons_zero, List.getElem_cons_succ]
  refine wpList_step fun K hK => ?_
  replace hK := hide hK
  go_simp
  refine unhide hK _ _ ?_
  clear hK K
  replace hB := hB.new #[.int .u8 0, .int .u8 0, .int .u8 0, .int .u8 0, .int .u8 0, .int .u8 0, .int .u8 0, .int .u8 0, .int .u8 0, .int .u8 0, .int .u8 0, .int .u8 0, .int .u8 0, .int .u8 0, .int .u8 0, .int .u8 0, .int .u8 0, .int .u8 0, .int .u8 0, .int .u8 0, .int .u8 0, .int .u8 0, .int .u8 0, .int .u8 0, .int .u8 0, .int .u8 0, .int .u8 0, .int .u8 0, .int .u8 0, .int .u8 0, .int .u8 0, .int .u8 0] 23
  simp only [List.cons_append, List.nil_append] at hB
  generalize v11_.heap.size = g4_1_3 at *
  generalize World.alloc _ _ = v12_ at *
  replace hB : Bl w [⟨w.heap.size, (kc (digs (U : Int) 32)), 23⟩, ⟨g1_3, (kc (digs (325606250916557431795983626356110631294008115727848805560023387167927233504 : Int) 32)), 23⟩, ⟨g4_1_0, (kc (digs (0 : Int) 32)), 23⟩, ⟨g4_1_1, (kc (digs (1 : Int) 32)), 23⟩, ⟨g4_1_2, (kc (digs (57896044618658097711785492504343953926634992332820282019728792003956564819948 : Int) 32)), 23⟩, ⟨g4_1_3, Z32, 23⟩] v12_ := hB
  refine list_store 23 (.tmp 5) (.tmp 12) g4_1_3 (kc (digs (325606250916557431795983626356110631294008115727848805560023387167927233504 : Int) 32)) 23 Z32 (by kernel_rfl) rfl (by kernel_rfl) (by kernel_rfl) (hB.get 5 (x := ⟨g4_1_3, Z32, 23⟩) rfl) (by rw [Tryd.infoKey, kc32]) (Z32_size.trans (kc32 (325606250916557431795983626356110631294008115727848805560023387167927233504 : Int) 32).symm) (kc_one _) ?_
  replace hB := hB.set 5 (x := ⟨g4_1_3, Z32, 23⟩) rfl (kc (digs (325606250916557431795983626356110631294008115727848805560023387167927233504 : Int) 32))
  simp only [List.set_cons_zero, List.set_cons_succ] at hB
  generalize World.setRow _ _ _ = v13_ at *
  simp only [Act.put, List.setIfInBounds_toArray, List.set_cons_zero, List.set_cons_succ, List.getElem_toArray, List.getElem_cons_zero, List.getElem_cons_succ]
  refine wpList_nil ?_
  go_upto_region 5 with fail
  refine wp_region_lit ?_
  refine list_val (.agg (kc (digs (325606250916557431795983626356110631294008115727848805560023387167927233504 : Int) 32))) (by kernel_rfl) (exec_arr _ 23 (.tmp 3) rfl g1_3 (by kernel_rfl) (kc (digs (325606250916557431795983626356110631294008115727848805560023387167927233504 : Int) 32)) 23 _ (hB.get 1 (x := ⟨g1_3, (kc (digs (325606250916557431795983626356110631294008115727848805560023387167927233504 : Int) 32)), 23⟩) rfl) Tryd.underlying23 rfl (by rw [Tryd.infoKey, kc32])) ?_
  simp only [Act.put, List.setIfInBounds_toArray, List.set_cons_zero, List.set_cons_succ, List.getElem_toArray, List.getElem_cons_zero, List.getElem_cons_succ]
  refine list_val (.agg (kc (digs (325606250916557431795983626356110631294008115727848805560023387167927233504 : Int) 32))) (by kernel_rfl) (exec_arr _ 23 (.tmp 5) rfl g4_1_3 (by kernel_rfl) (kc (digs (325606250916557431795983626356110631294008115727848805560023387167927233504 : Int) 32)) 23 _ (hB.get 5 (x := ⟨g4_1_3, (kc (digs (325606250916557431795983626356110631294008115727848805560023387167927233504 : Int) 32)), 23⟩) rfl) Tryd.underlying23 rfl (by rw [Tryd.infoKey, kc32])) ?_
  simp only [Act.put, List.setIfInBounds_toArray, List.set_cons_zero, List.set_cons_succ, List.getElem_toArray, List.getElem_cons_zero, List.getElem_cons_succ]
  refine list_val (.bool true) (by kernel_rfl) (by have e := key_same (325606250916557431795983626356110631294008115727848805560023387167927233504 : Int); go_simp) ?_
  simp only [Act.put, List.setIfInBounds_toArray, List.set_cons_zero, List.set_cons_succ, List.getElem_toArray, List.getElem_cons_zero, List.getElem_cons_succ]
  refine wpList_nil ?_
  have hG := hide hB.gr
  clear hB
  go_wp2_with fail
  refine bodyPost_ret (v := .bool true) ?_ rfl ⟨rfl, unhide hG⟩
  simp [results, Tryd.results10, go_sem]

set_option maxHeartbeats 2000000 in
theorem low_4 (U : Nat) (hV : (U : Int) % 57896044618658097711785492504343953926634992332820282019728792003956564819968 % pp = 39382357235489614581723060781553021112529911719440698176882885853963445705823) (w : World) (hL : w.rangeAt 0 0 lowsL) :
    Calls Tryd.prog 10 #[.agg (kc (digs (U : Int) 32))] w (fun r w' => r = .returned (.bool true) ∧ Gr w w') := by
  replace hV := hide hV
  replace hL := hide hL
  go_enter Tryd.func10, Tryd.ntmps10
  go_upto_region 1 with fail
  have hB := (Bl.nil w).new (kc (digs (U : Int) 32)) 23
  simp only [List.nil_append] at hB
  generalize World.alloc _ _ = v1_ at *
  refine wp_region_lit ?_
  refine list_val (.agg (kc (digs (U : Int) 32))) (by kernel_rfl) (exec_arr _ 23 (.tmp 1) rfl w.heap.size (by kernel_rfl) (kc (digs (U : Int) 32)) 23 _ (hB.get 0 (x := ⟨w.heap.size, (kc (digs (U : Int) 32)), 23⟩) rfl) Tryd.underlying23 rfl (by rw [Tryd.infoKey, kc32])) ?_
  simp only [Act.put, List.setIfInBounds_toArray, List.set_cons_zero, List.set_cons_succ, List.getElem_toArray, List.getElem_cons_zero, List.getElem_cons_succ]
  refine list_call 21 #[.agg (kc (digs (U : Int) 32))] (by kernel_rfl) (by kernel_rfl) ((from_ec (U : Int) (by omega) _).mono ?_)
  rintro r v2_ ⟨c1, rfl, hc1, hg⟩
  refine ⟨_, rfl, ?_⟩
  replace hB := hB.more hg
  clear hg
  simp only [Act.put, List.setIfInBounds_toArray, List.set_cons_zero, List.set_cons_succ, List.getElem_toArray, List.getElem_cons_zero, List.getElem_cons_succ]
  refine list_call 22 #[.agg c1] (by kernel_rfl) (by kernel_rfl) ((bytes_ec hc1 _).mono ?_)
  rintro r v3_ ⟨rfl, hg⟩
  refine ⟨_, rfl, ?_⟩
  rw [unhide hV]
  replace hB := hB.more hg
  clear hg
  simp only [Act.put, List.setIfInBounds_toArray, List.set_cons_zero, List.set_cons_succ, List.getElem_toArray, List.getElem_cons_zero, List.getElem_cons_succ]
  refine wpList_step fun K hK => ?_
  replace hK := hide hK
  go_simp
  refine unhide hK _ _ ?_
  clear hK K
  replace hB := hB.new #[.int .u8 0, .int .u8 0, .int .u8 0, .int .u8 0, .int .u8 0, .int .u8 0, .int .u8 0, .int .u8 0, .int .u8 0, .int .u8 0, .int .u8 0, .int .u8 0, .int .u8 0, .int .u8 0, .int .u8 0, .int .u8 0, .int .u8 0, .int .u8 0, .int .u8 0, .int .u8 0, .int .u8 0, .int .u8 0, .int .u8 0, .int .u8 0, .int .u8 0, .int .u8 0, .int .u8 0, .int .u8 0, .int .u8 0, .int .u8 0, .int .u8 0, .int .u8 0] 23
  simp only [List.cons_append, List.nil_append] at hB
  generalize v3_.heap.size = g1_3 at *
  generalize World.alloc _ _ = v4_ at *
  replace hB : Bl w [⟨w.heap.size, (kc (digs (U : Int) 32)), 23⟩, ⟨g1_3, Z32, 23⟩] v4_ := hB
  refine list_store 23 (.tmp 3) (.tmp 8) g1_3 (kc (digs (39382357235489614581723060781553021112529911719440698176882885853963445705823 : Int) 32)) 23 Z32 (by kernel_rfl) rfl (by kernel_rfl) (by kernel_rfl) (hB.get 1 (x := ⟨g1_3, Z32, 23⟩) rfl) (by rw [Tryd.infoKey, kc32]) (Z32_size.trans (kc32 (39382357235489614581723060781553021112529911719440698176882885853963445705823 : Int) 32).symm) (kc_one _) ?_
  replace hB := hB.set 1 (x := ⟨g1_3, Z32, 23⟩) rfl (kc (digs (39382357235489614581723060781553021112529911719440698176882885853963445705823 : Int) 32))
  simp only [List.set_cons_zero, List.set_cons_succ] at hB
  generalize World.setRow _ _ _ = v5_ at *
  simp only [Act.put, List.setIfInBounds_toArray, List.set_cons_zero, List.set_cons_succ, List.getElem_toArray, List.getElem_cons_zero, List.getElem_cons_succ]
  refine wpList_nil ?_
  go_upto_region 2 with fail
  refine wp_region_lit ?_
  refine list_val (.agg lowsL.toArray) (by kernel_rfl) (exec_row _ 45 (.global 0) rfl 0 0 (by kernel_rfl) lowsL _ (hB.gr.range (unhide hL)) u45 rfl info45) ?_
  simp only [Act.put, List.setIfInBounds_toArray, List.set_cons_zero, List.set_cons_succ, List.getElem_toArray, List.getElem_cons_zero, List.getElem_cons_succ]
  refine list_val (.int .i64 0) (by kernel_rfl) (by kernel_rfl) ?_
  simp only [Act.put, List.setIfInBounds_toArray, List.set_cons_zero, List.set_cons_succ, List.getElem_toArray, List.getElem_cons_zero, List.getElem_cons_succ]
  refine wpList_nil ?_
  go_wp2_with fail
  refine wp_loop_rounds 6 ?_
  rw [rounds_succ]
  go_upto_region 4 with fail
  refine wp_region_lit ?_
  refine list_val (.agg (kc (digs (0 : Int) 32))) (by kernel_rfl) (by kernel_rfl) ?_
  simp only [Act.put, List.setIfInBounds_toArray, List.set_cons_zero, List.set_cons_succ, List.getElem_toArray, List.getElem_cons_zero, List.getElem_cons_succ]
  refine wpList_step fun K hK => ?_
  replace hK := hide hK
  go_simp
  refine unhide hK _ _ ?_
  clear hK K
  replace hB := hB.new #[.int .u8 0, .int .u8 0, .int .u8 0, .int .u8 0, .int .u8 0, .int .u8 0, .int .u8 0, .int .u8 0, .int .u8 0, .int .u8 0, .int .u8 0, .int .u8 0, .int .u8 0, .int .u8 0, .int .u8 0, .int .u8 0, .int .u8 0, .int .u8 0, .int .u8 0, .int .u8 0, .int .u8 0, .int .u8 0, .int .u8 0, .int .u8 0, .int .u8 0, .int .u8 0, .int .u8 0, .int .u8 0, .int .u8 0, .int .u8 0, .int .u8 0, .int .u8 0] 23
  simp only [List.cons_append, List.nil_append] at hB
  generalize v5_.heap.size = g4_1_0 at *
  generalize World.alloc _ _ = v6_ at *
  replace hB : Bl w [⟨w.heap.size, (kc (digs (U : Int) 32)), 23⟩, ⟨g1_3, (kc (digs (39382357235489614581723060781553021112529911719440698176882885853963445705823 : Int) 32)), 23⟩, ⟨g4_1_0, Z32, 23⟩] v6_ := hB
  refine list_store 23 (.tmp 5) (.tmp 12) g4_1_0 (kc (digs (0 : Int) 32)) 23 Z32 (by kernel_rfl) rfl (by kernel_rfl) (by kernel_rfl) (hB.get 2 (x := ⟨g4_1_0, Z32, 23⟩) rfl) (by rw [Tryd.infoKey, kc32]) (Z32_size.trans (kc32 (0 : Int) 32).symm) (kc_one _) ?_
  replace hB := hB.set 2 (x := ⟨g4_1_0, Z32, 23⟩) rfl (kc (digs (0 : Int) 32))
  simp only [List.set_cons_zero, List.set_cons_succ] at hB
  generalize World.setRow _ _ _ = v7_ at *
  simp only [Act.put, List.setIfInBounds_toArray, List.set_cons_zero, List.set_cons_succ, List.getElem_toArray, List.getElem_cons_zero, List.getElem_cons_succ]
  refine wpList_nil ?_
  go_upto_region 5 with fail
  refine wp_region_lit ?_
  refine list_val (.agg (kc (digs (39382357235489614581723060781553021112529911719440698176882885853963445705823 : Int) 32))) (by kernel_rfl) (exec_arr _ 23 (.tmp 3) rfl g1_3 (by kernel_rfl) (kc (digs (39382357235489614581723060781553021112529911719440698176882885853963445705823 : Int) 32)) 23 _ (hB.get 1 (x := ⟨g1_3, (kc (digs (39382357235489614581723060781553021112529911719440698176882885853963445705823 : Int) 32)), 23⟩) rfl) Tryd.underlying23 rfl (by rw [Tryd.infoKey, kc32])) ?_
  simp only [Act.put, List.setIfInBounds_toArray, List.set_cons_zero, List.set_cons_succ, List.getElem_toArray, List.getElem_cons_zero, List.getElem_cons_succ]
  refine list_val (.agg (kc (digs (0 : Int) 32))) (by kernel_rfl) (exec_arr _ 23 (.tmp 5) rfl g4_1_0 (by kernel_rfl) (kc (digs (0 : Int) 32)) 23 _ (hB.get 2 (x := ⟨g4_1_0, (kc (digs (0 : Int) 32)), 23⟩) rfl) Tryd.underlying23 rfl (by rw [Tryd.infoKey, kc32])) ?_
  simp only [Act.put, List.setIfInBounds_toArray, List.set_cons_zero, List.set_cons_succ, List.getElem_toArray, List.getElem_cons_zero, List.getElem_cons_succ]
  refine list_val (.bool false) (by kernel_rfl) (by have e := key_diff' (n := 39382357235489614581723060781553021112529911719440698176882885853963445705823) (m := 0) (by omega) (by omega) (by decide); go_simp) ?_
  simp only [Act.put, List.setIfInBounds_toArray, List.set_cons_zero, List.set_cons_succ, List.getElem_toArray, List.getElem_cons_zero, List.getElem_cons_succ]
  refine wpList_nil ?_
  go_wp2_with fail
  rw [rounds_succ]
  go_upto_region 4 with fail
  refine wp_region_lit ?_
  refine list_val (.agg (kc (digs (1 : Int) 32))) (by kernel_rfl) (by kernel_rfl) ?_
  simp only [Act.put, List.setIfInBounds_toArray, List.set_cons_zero, List.set_cons_succ, List.getElem_toArray, List.getElem_cons_zero, List.getElem_cons_succ]
  refine wpList_step fun K hK => ?_
  replace hK := hide hK
  go_simp
  refine unhide hK _ _ ?_
  clear hK K
  replace hB := hB.new #[.int .u8 0, .int .u8 0, .int .u8 0, .int .u8 0, .int .u8 0, .int .u8 0, .int .u8 0, .int .u8 0, .int .u8 0, .int .u8 0, .int .u8 0, .int .u8 0, .int .u8 0, .int .u8 0, .int .u8 0, .int .u8 0, .int .u8 0, .int .u8 0, .int .u8 0, .int .u8 0, .int .u8 0, .int .u8 0, .int .u8 0, .int .u8 0, .int .u8 0, .int .u8 0, .int .u8 0, .int .u8 0, .int .u8 0, .int .u8 0, .int .u8 0, .int .u8 0] 23
  simp only [List.cons_append, List.nil_append] at hB
  generalize v7_.heap.size = g4_1_1 at *
  generalize World.alloc _ _ = v8_ at *
  replace hB : Bl w [⟨w.heap.size, (kc (digs (U : Int) 32)), 23⟩, ⟨g1_3, (kc (digs (39382357235489614581723060781553021112529911719440698176882885853963445705823 : Int) 32)), 23⟩, ⟨g4_1_0, (kc (digs (0 : Int) 32)), 23⟩, ⟨g4_1_1, Z32, 23⟩] v8_ := hB
  refine list_store 23 (.tmp 5) (.tmp 12) g4_1_1 (kc (digs (1 : Int) 32)) 23 Z32 (by kernel_rfl) rfl (by kernel_rfl) (by kernel_rfl) (hB.get 3 (x := ⟨g4_1_1, Z32, 23⟩) rfl) (by rw [Tryd.infoKey, kc32]) (Z32_size.trans (kc32 (1 : Int) 32).symm) (kc_one _) ?_
  replace hB := hB.set 3 (x := ⟨g4_1_1, Z32, 23⟩) rfl (kc (digs (1 : Int) 32))
  simp only [List.set_cons_zero, List.set_cons_succ] at hB
  generalize World.setRow _ _ _ = v9_ at *
  simp only [Act.put, List.setIfInBounds_toArray, List.set_cons_zero, List.set_cons_succ, List.getElem_toArray, List.getElem_cons_zero, List.getElem_cons_succ]
  refine wpList_nil ?_
  go_upto_region 5 with fail
  refine wp_region_lit ?_
  refine list_val (.agg (kc (digs (39382357235489614581723060781553021112529911719440698176882885853963445705823 : Int) 32))) (by kernel_rfl) (exec_arr _ 23 (.tmp 3) rfl g1_3 (by kernel_rfl) (kc (digs (39382357235489614581723060781553021112529911719440698176882885853963445705823 : Int) 32)) 23 _ (hB.get 1 (x := ⟨g1_3, (kc (digs (39382357235489614581723060781553021112529911719440698176882885853963445705823 : Int) 32)), 23⟩) rfl) Tryd.underlying23 rfl (by rw [Tryd.infoKey, kc32])) ?_
  simp only [Act.put, List.setIfInBounds_toArray, List.set_cons_zero, List.set_cons_succ, List.getElem_toArray, List.getElem_cons_zero, List.getElem_cons_succ]
  refine list_val (.agg (kc (digs (1 : Int) 32))) (by kernel_rfl) (exec_arr _ 23 (.tmp 5) rfl g4_1_1 (by kernel_rfl) (kc (digs (1 : Int) 32)) 23 _ (hB.get 3 (x := ⟨g4_1_1, (kc (digs (1 : Int) 32)), 23⟩) rfl) Tryd.underlying23 rfl (by rw [Tryd.infoKey, kc32])) ?_
  simp only [Act.put, List.setIfInBounds_toArray, List.set_cons_zero, List.set_cons_succ, List.getElem_toArray, List.getElem_cons_zero, List.getElem_cons_succ]
  refine list_val (.bool false) (by kernel_rfl) (by have e := key_diff' (n := 39382357235489614581723060781553021112529911719440698176882885853963445705823) (m := 1) (by omega) (by omega) (by decide); go_simp) ?_
  simp only [Act.put, List.setIfInBounds_toArray, List.set_cons_zero, List.set_cons_succ, List.getElem_toArray, List.getElem_cons_zero, List.getElem_cons_succ]
  refine wpList_nil ?_
  go_wp2_with fail
  rw [rounds_succ]
  go_upto_region 4 with fail
  refine wp_region_lit ?_
  refine list_val (.agg (kc (digs (57896044618658097711785492504343953926634992332820282019728792003956564819948 : Int) 32))) (by kernel_rfl) (by kernel_rfl) ?_
  simp only [Act.put, List.setIfInBounds_toArray, List.set_cons_zero, List.set_cons_succ, List.getElem_toArray, List.getElem_cons_zero, List.getElem_cons_succ]
  refine wpList_step fun K hK => ?_
  replace hK := hide hK
  go_simp
  refine unhide hK _ _ ?_
  clear hK K
  replace hB := hB.new #[.int .u8 0, .int .u8 0, .int .u8 0, .int .u8 0, .int .u8 0, .int .u8 0, .int .u8 0, .int .u8 0, .int .u8 0, .int .u8 0, .int .u8 0, .int .u8 0, .int .u8 0, .int .u8 0, .int .u8 0, .int .u8 0, .int .u8 0, .int .u8 0, .int .u8 0, .int .u8 0, .int .u8 0, .int .u8 0, .int .u8 0, .int .u8 0, .int .u8 0, .int .u8 0, .int .u8 0, .int .u8 0, .int .u8 0, .int .u8 0, .int .u8 0, .int .u8 0] 23
  simp only [List.cons_append, List.nil_append] at hB
  generalize v9_.heap.size = g4_1_2 at *
  generalize World.alloc _ _ = v10_ at *
  replace hB : Bl w [⟨w.heap.size, (kc (digs (U : Int) 32)), 23⟩, ⟨g1_3, (kc (digs (39382357235489614581723060781553021112529911719440698176882885853963445705823 : Int) 32)), 23⟩, ⟨g4_1_0, (kc (digs (0 : Int) 32)), 23⟩, ⟨g4_1_1, (kc (digs (1 : Int) 32)), 23⟩, ⟨g4_1_2, Z32, 23⟩] v10_ := hB
  refine list_store 23 (.tmp 5) (.tmp 12) g4_1_2 (kc (digs (57896044618658097711785492504343953926634992332820282019728792003956564819948 : Int) 32)) 23 Z32 (by kernel_rfl) rfl (by kernel_rfl) (by kernel_rfl) (hB.get 4 (x := ⟨g4_1_2, Z32, 23⟩) rfl) (by rw [Tryd.infoKey, kc32]) (Z32_size.trans (kc32 (57896044618658097711785492504343953926634992332820282019728792003956564819948 : Int) 32).symm) (kc_one _) ?_
  replace hB := hB.set 4 (x := ⟨g4_1_2, Z32, 23⟩) rfl (kc (digs (57896044618658097711785492504343953926634992332820282019728792003956564819948 : Int) 32))
  simp only [List.set_cons_zero, List.set_cons_succ] at hB
  generalize World.setRow _ _ _ = v11_ at *
  simp only [Act.put, List.setIfInBounds_toArray, List.set_cons_zero, List.set_cons_succ, List.getElem_toArray, List.getElem_cons_zero, List.getElem_cons_succ]
  refine wpList_nil ?_
  go_upto_region 5 with fail
  refine wp_region_lit ?_
  refine list_val (.agg (kc (digs (39382357235489614581723060781553021112529911719440698176882885853963445705823 : Int) 32))) (by kernel_rfl) (exec_arr _ 23 (.tmp 3) rfl g1_3 (by kernel_rfl) (kc (digs (39382357235489614581723060781553021112529911719440698176882885853963445705823 : Int) 32)) 23 _ (hB.get 1 (x := ⟨g1_3, (kc (digs (39382357235489614581723060781553021112529911719440698176882885853963445705823 : Int) 32)), 23⟩) rfl) Tryd.underlying23 rfl (by rw [Tryd.infoKey, kc32])) ?_
  simp only [Act.put, List.setIfInBounds_toArray, List.set_cons_zero, List.set_cons_succ, List.getElem_toArray, List.getElem_cons_zero, List.getElem_cons_succ]
  refine list_val (.agg (kc (digs (57896044618658097711785492504343953926634992332820282019728792003956564819948 : Int) 32))) (by kernel_rfl) (exec_arr _ 23 (.tmp 5) rfl g4_1_2 (by kernel_rfl) (kc (digs (57896044618658097711785492504343953926634992332820282019728792003956564819948 : Int) 32)) 23 _ (hB.get 4 (x := ⟨g4_1_2, (kc (digs (57896044618658097711785492504343953926634992332820282019728792003956564819948 : Int) 32)), 23⟩) rfl) Tryd.underlying23 rfl (by rw [Tryd.infoKey, kc32])) ?_
  simp only [Act.put, List.setIfInBounds_toArray, List.set_cons_zero, List.set_cons_succ, List.getElem_toArray, List.getElem_cons_zero, List.getElem_cons_succ]
  refine list_val (.bool false) (by kernel_rfl) (by have e := key_diff' (n := 39382357235489614581723060781553021112529911719440698176882885853963445705823) (m := 57896044618658097711785492504343953926634992332820282019728792003956564819948) (by omega) (by omega) (by decide); go_simp) ?_
  simp only [Act.put, List.setIfInBounds_toArray, List.set_cons_zero, List.set_cons_succ, List.getElem_toArray, List.getElem_cons_zero, List.getElem_cons_succ]
  refine wpList_nil ?_
  go_wp2_with fail
  rw [rounds_succ]
  go_upto_region 4 with fail
  refine wp_region_lit ?_
  refine list_val (.agg (kc (digs (325606250916557431795983626356110631294008115727848805560023387167927233504 : Int) 32))) (by kernel_rfl) (by kernel_rfl) ?_
  simp only [Act.put, List.setIfInBounds_toArray, List.set_cons_zero, List.set_cons_succ, List.getElem_toArray, List.getElem_cons_zero, List.getElem_cons_succ]
  refine wpList_step fun K hK => ?_
  replace hK := hide hK
  go_simp
  refine unhide hK _ _ ?_
  clear hK K
  replace hB := hB.new #[.int .u8 0, .int .u8 0, .int .u8 0, .int .u8 0, .int .u8 0, .int .u8 0, .int .u8 0, .int .u8 0, .int .u8 0, .int .u8 0, .int .u8 0, .int .u8 0, .int .u8 0, .int .u8 0, .int .u8 0, .int .u8 0, .int .u8 0, .int .u8 0, .int .u8 0, .int .u8 0, .int .u8 0, .int .u8 0, .int .u8 0, .int .u8 0, .int .u8 0, .int .u8 0, .int .u8 0, .int .u8 0, .int .u8 0, .int .u8 0, .int .u8 0, .int .u8 0] 23
  simp only [List.cons_append, List.nil_append] at hB
  generalize v11_.heap.size = g4_1_3 at *
  generalize World.alloc _ _ = v12_ at *
  replace hB : Bl w [⟨w.heap.size, (kc (digs (U : Int) 32)), 23⟩, ⟨g1_3, (kc (digs (39382357235489614581723060781553021112529911719440698176882885853963445705823 : Int) 32)), 23⟩, ⟨g4_1_0, (kc (digs (0 : Int) 32)), 23⟩, ⟨g4_1_1, (kc (digs (1 : Int) 32)), 23⟩, ⟨g4_1_2, (kc (digs (57896044618658097711785492504343953926634992332820282019728792003956564819948 : Int) 32)), 23⟩, ⟨g4_1_3, Z32, 23⟩] v12_ := hB
  refine list_store 23 (.tmp 5) (.tmp 12) g4_1_3 (kc (digs (325606250916557431795983626356110631294008115727848805560023387167927233504 : Int) 32)) 23 Z32 (by kernel_rfl) rfl (by kernel_rfl) (by kernel_rfl) (hB.get 5 (x := ⟨g4_1_3, Z32, 23⟩) rfl) (by rw [Tryd.infoKey, kc32]) (Z32_size.trans (kc32 (325606250916557431795983626356110631294008115727848805560023387167927233504 : Int) 32).symm) (kc_one _) ?_
  replace hB := hB.set 5 (x := ⟨g4_1_3, Z32, 23⟩) rfl (kc (digs (325606250916557431795983626356110631294008115727848805560023387167927233504 : Int) 32))
  simp only [List.set_cons_zero, List.set_cons_succ] at hB
  generalize World.setRow _ _ _ = v13_ at *
  simp only [Act.put, List.setIfInBounds_toArray, List.set_cons_zero, List.set_cons_succ, List.getElem_toArray, List.getElem_cons_zero, List.getElem_cons_succ]
  refine wpList_nil ?_
  go_upto_region 5 with fail
  refine wp_region_lit ?_
  refine list_val (.agg (kc (digs (39382357235489614581723060781553021112529911719440698176882885853963445705823 : Int) 32))) (by kernel_rfl) (exec_arr _ 23 (.tmp 3) rfl g1_3 (by kernel_rfl) (kc (digs (39382357235489614581723060781553021112529911719440698176882885853963445705823 : Int) 32)) 23 _ (hB.get 1 (x := ⟨g1_3, (kc (digs (39382357235489614581723060781553021112529911719440698176882885853963445705823 : Int) 32)), 23⟩) rfl) Tryd.underlying23 rfl (by rw [Tryd.infoKey, kc32])) ?_
  simp only [Act.put, List.setIfInBounds_toArray, List.set_cons_zero, List.set_cons_succ, List.getElem_toArray, List.getElem_cons_zero, List.getElem_cons_succ]
  refine list_val (.agg (kc (digs (325606250916557431795983626356110631294008115727848805560023387167927233504 : Int) 32))) (by kernel_rfl) (exec_arr _ 23 (.tmp 5) rfl g4_1_3 (by kernel_rfl) (kc (digs (325606250916557431795983626356110631294008115727848805560023387167927233504 : Int) 32)) 23 _ (hB.get 5 (x := ⟨g4_1_3, (kc (digs (325606250916557431795983626356110631294008115727848805560023387167927233504 : Int) 32)), 23⟩) rfl) Tryd.underlying23 rfl (by rw [Tryd.infoKey, kc32])) ?_
  simp only [Act.put, List.setIfInBounds_toArray, List.set_cons_zero, List.set_cons_succ, List.getElem_toArray, List.getElem_cons_zero, List.getElem_cons_succ]
  refine list_val (.bool false) (by kernel_rfl) (by have e := key_diff' (n := 39382357235489614581723060781553021112529911719440698176882885853963445705823) (m := 325606250916557431795983626356110631294008115727848805560023387167927233504) (by omega) (by omega) (by decide); go_simp) ?_
  simp only [Act.put, List.setIfInBounds_toArray, List.set_cons_zero, List.set_cons_succ, List.getElem_toArray, List.getElem_cons_zero, List.getElem_cons_succ]
  refine wpList_nil ?_
  go_wp2_with fail
  rw [rounds_succ]
  go_upto_region 4 with fail
  refine wp_region_lit ?_
  refine list_val (.agg (kc (digs (39382357235489614581723060781553021112529911719440698176882885853963445705823 : Int) 32))) (by kernel_rfl) (by kernel_rfl) ?_
  simp only [Act.put, List.setIfInBounds_toArray, List.set_cons_zero, List.set_cons_succ, List.getElem_toArray, List.getElem_cons_zero, List.getElem_cons_succ]
  refine wpList_step fun K hK => ?_
  replace hK := hide hK
  go_simp
  refine unhide hK _ _ ?_
  clear hK K
  replace hB := hB.new #[.int .u8 0, .int .u8 0, .int .u8 0, .int .u8 0, .int .u8 0, .int .u8 0, .int .u8 0, .int .u8 0, .int .u8 0, .int .u8 0, .int .u8 0, .int .u8 0, .int .u8 0, .int .u8 0, .int .u8 0, .int .u8 0, .int .u8 0, .int .u8 0, .int .u8 0, .int .u8 0, .int .u8 0, .int .u8 0, .int .u8 0, .int .u8 0, .int .u8 0, .int .u8 0, .int .u8 0, .int .u8 0, .int .u8 0, .int .u8 0, .int .u8 0, .int .u8 0] 23
  simp only [List.cons_append, List.nil_append] at hB
  generalize v13_.heap.size = g4_1_4 at *
  generalize World.alloc _ _ = v14_ at *
  replace hB : Bl w [⟨w.heap.size, (kc (digs (U : Int) 32)), 23⟩, ⟨g1_3, (kc (digs (39382357235489614581723060781553021112529911719440698176882885853963445705823 : Int) 32)), 23⟩, ⟨g4_1_0, (kc (digs (0 : Int) 32)), 23⟩, ⟨g4_1_1, (kc (digs (1 : Int) 32)), 23⟩, ⟨g4_1_2, (kc (digs (57896044618658097711785492504343953926634992332820282019728792003956564819948 : Int) 32)), 23⟩, ⟨g4_1_3, (kc (digs (325606250916557431795983626356110631294008115727848805560023387167927233504 : Int) 32)), 23⟩, ⟨g4_1_4, Z32, 23⟩] v14_ := hB
  refine list_store 23 (.tmp 5) (.tmp 12) g4_1_4 (kc (digs (39382357235489614581723060781553021112529911719440698176882885853963445705823 : Int) 32)) 23 Z32 (by kernel_rfl) rfl (by kernel_rfl) (by kernel_rfl) (hB.get 6 (x := ⟨g4_1_4, Z32, 23⟩) rfl) (by rw [Tryd.infoKey, kc32]) (Z32_size.trans (kc32 (39382357235489614581723060781553021112529911719440698176882885853963445705823 : Int) 32).symm) (kc_one _) ?_
  replace hB := hB.set 6 (x := ⟨g4_1_4, Z32, 23⟩) rfl (kc (digs (39382357235489614581723060781553021112529911719440698176882885853963445705823 : Int) 32))
  simp only [List.set_cons_zero, List.set_cons_succ] at hB
  generalize World.setRow _ _ _ = v15_ at *
  simp only [Act.put, List.setIfInBounds_toArray, List.set_cons_zero, List.set_cons_succ, List.getElem_toArray, List.getElem_cons_zero, List.getElem_cons_succ]
  refine wpList_nil ?_
  go_upto_region 5 with fail
  refine wp_region_lit ?_
  refine list_val (.agg (kc (digs (39382357235489614581723060781553021112529911719440698176882885853963445705823 : Int) 32))) (by kernel_rfl) (exec_arr _ 23 (.tmp 3) rfl g1_3 (by kernel_rfl) (kc (digs (39382357235489614581723060781553021112529911719440698176882885853963445705823 : Int) 32)) 23 _ (hB.get 1 (x := ⟨g1_3, (kc (digs (39382357235489614581723060781553021112529911719440698176882885853963445705823 : Int) 32)), 23⟩) rfl) Tryd.underlying23 rfl (by rw [Tryd.infoKey, kc32])) ?_
  simp only [Act.put, List.setIfInBounds_toArray, List.set_cons_zero, List.set_cons_succ, List.getElem_toArray, List.getElem_cons_zero, List.getElem_cons_succ]
  refine list_val (.agg (kc (digs (39382357235489614581723060781553021112529911719440698176882885853963445705823 : Int) 32))) (by kernel_rfl) (exec_arr _ 23 (.tmp 5) rfl g4_1_4 (by kernel_rfl) (kc (digs (39382357235489614581723060781553021112529911719440698176882885853963445705823 : Int) 32)) 23 _ (hB.get 6 (x := ⟨g4_1_4, (kc (digs (39382357235489614581723060781553021112529911719440698176882885853963445705823 : Int) 32)), 23⟩) rfl) Tryd.underlying23 rfl (by rw [Tryd.infoKey, kc32])) ?_
  simp only [Act.put, List.setIfInBounds_toArray, List.set_cons_zero, List.set_cons_succ, List.getElem_toArray, List.getElem_cons_zero, List.getElem_cons_succ]
  refine list_val (.bool true) (by kernel_rfl) (by have e := key_same (39382357235489614581723060781553021112529911719440698176882885853963445705823 : Int); go_simp) ?_
  simp only [Act.put, List.setIfInBounds_toArray, List.set_cons_zero, List.set_cons_succ, List.getElem_toArray, List.getElem_cons_zero, List.getElem_cons_succ]
  refine wpList_nil ?_
  have hG := hide hB.gr
  clear hB
  go_wp2_with fail
  refine bodyPost_ret (v := .bool true) ?_ rfl ⟨rfl, unhide hG⟩
  simp [results, Tryd.results10, go_sem]

set_option maxHeartbeats 2000000 in
theorem low_5 (U : Nat) (V : Int) (hV : (U : Int) % 57896044618658097711785492504343953926634992332820282019728792003956564819968 % pp = V) (hVr : 0 ≤ V ∧ V < 115792089237316195423570985008687907853269984665640564039457584007913129639936) (hn0 : Hid (V ≠ 0)) (hn1 : Hid (V ≠ 1)) (hn2 : Hid (V ≠ 57896044618658097711785492504343953926634992332820282019728792003956564819948)) (hn3 : Hid (V ≠ 325606250916557431795983626356110631294008115727848805560023387167927233504)) (hn4 : Hid (V ≠ 39382357235489614581723060781553021112529911719440698176882885853963445705823)) (w : World) (hL : w.rangeAt 0 0 lowsL) :
    Calls Tryd.prog 10 #[.agg (kc (digs (U : Int) 32))] w (fun r w' => r = .returned (.bool false) ∧ Gr w w') := by
  replace hV := hide hV
  replace hL := hide hL
  go_enter Tryd.func10, Tryd.ntmps10
  go_upto_region 1 with fail
  have hB := (Bl.nil w).new (kc (digs (U : Int) 32)) 23
  simp only [List.nil_append] at hB
  generalize World.alloc _ _ = v1_ at *
  refine wp_region_lit ?_
  refine list_val (.agg (kc (digs (U : Int) 32))) (by kernel_rfl) (exec_arr _ 23 (.tmp 1) rfl w.heap.size (by kernel_rfl) (kc (digs (U : Int) 32)) 23 _ (hB.get 0 (x := ⟨w.heap.size, (kc (digs (U : Int) 32)), 23⟩) rfl) Tryd.underlying23 rfl (by rw [Tryd.infoKey, kc32])) ?_
  simp only [Act.put, List.setIfInBounds_toArray, List.set_cons_zero, List.set_cons_succ, List.getElem_toArray, List.getElem_cons_zero, List.getElem_cons_succ]
  refine list_call 21 #[.agg (kc (digs (U : Int) 32))] (by kernel_rfl) (by kernel_rfl) ((from_ec (U : Int) (by omega) _).mono ?_)
  rintro r v2_ ⟨c1, rfl, hc1, hg⟩
  refine ⟨_, rfl, ?_⟩
  replace hB := hB.more hg
  clear hg
  simp only [Act.put, List.setIfInBounds_toArray, List.set_cons_zero, List.set_cons_succ, List.getElem_toArray, List.getElem_cons_zero, List.getElem_cons_succ]
  refine list_call 22 #[.agg c1] (by kernel_rfl) (by kernel_rfl) ((bytes_ec hc1 _).mono ?_)
  rintro r v3_ ⟨rfl, hg⟩
  refine ⟨_, rfl, ?_⟩
  rw [unhide hV]
  replace hB := hB.more hg
  clear hg
  simp only [Act.put, List.setIfInBounds_toArray, List.set_cons_zero, List.set_cons_succ, List.getElem_toArray, List.getElem_cons_zero, List.getElem_cons_succ]
  refine wpList_step fun K hK => ?_
  replace hK := hide hK
  go_simp
  refine unhide hK _ _ ?_
  clear hK K
  replace hB := hB.new #[.int .u8 0, .int .u8 0, .int .u8 0, .int .u8 0, .int .u8 0, .int .u8 0, .int .u8 0, .int .u8 0, .int .u8 0, .int .u8 0, .int .u8 0, .int .u8 0, .int .u8 0, .int .u8 0, .int .u8 0, .int .u8 0, .int .u8 0, .int .u8 0, .int .u8 0, .int .u8 0, .int .u8 0, .int .u8 0, .int .u8 0, .int .u8 0, .int .u8 0, .int .u8 0, .int .u8 0, .int .u8 0, .int .u8 0, .int .u8 0, .int .u8 0, .int .u8 0] 23
  simp only [List.cons_append, List.nil_append] at hB
  generalize v3_.heap.size = g1_3 at *
  generalize World.alloc _ _ = v4_ at *
  replace hB : Bl w [⟨w.heap.size, (kc (digs (U : Int) 32)), 23⟩, ⟨g1_3, Z32, 23⟩] v4_ := hB
  refine list_store 23 (.tmp 3) (.tmp 8) g1_3 (kc (digs (V : Int) 32)) 23 Z32 (by kernel_rfl) rfl (by kernel_rfl) (by kernel_rfl) (hB.get 1 (x := ⟨g1_3, Z32, 23⟩) rfl) (by rw [Tryd.infoKey, kc32]) (Z32_size.trans (kc32 (V : Int) 32).symm) (kc_one _) ?_
  replace hB := hB.set 1 (x := ⟨g1_3, Z32, 23⟩) rfl (kc (digs (V : Int) 32))
  simp only [List.set_cons_zero, List.set_cons_succ] at hB
  generalize World.setRow _ _ _ = v5_ at *
  simp only [Act.put, List.setIfInBounds_toArray, List.set_cons_zero, List.set_cons_succ, List.getElem_toArray, List.getElem_cons_zero, List.getElem_cons_succ]
  refine wpList_nil ?_
  go_upto_region 2 with fail
  refine wp_region_lit ?_
  refine list_val (.agg lowsL.toArray) (by kernel_rfl) (exec_row _ 45 (.global 0) rfl 0 0 (by kernel_rfl) lowsL _ (hB.gr.range (unhide hL)) u45 rfl info45) ?_
  simp only [Act.put, List.setIfInBounds_toArray, List.set_cons_zero, List.set_cons_succ, List.getElem_toArray, List.getElem_cons_zero, List.getElem_cons_succ]
  refine list_val (.int .i64 0) (by kernel_rfl) (by kernel_rfl) ?_
  simp only [Act.put, List.setIfInBounds_toArray, List.set_cons_zero, List.set_cons_succ, List.getElem_toArray, List.getElem_cons_zero, List.getElem_cons_succ]
  refine wpList_nil ?_
  go_wp2_with fail
  refine wp_loop_rounds 6 ?_
  rw [rounds_succ]
  go_upto_region 4 with fail
  refine wp_region_lit ?_
  refine list_val (.agg (kc (digs (0 : Int) 32))) (by kernel_rfl) (by kernel_rfl) ?_
  simp only [Act.put, List.setIfInBounds_toArray, List.set_cons_zero, List.set_cons_succ, List.getElem_toArray, List.getElem_cons_zero, List.getElem_cons_succ]
  refine wpList_step fun K hK => ?_
  replace hK := hide hK
  go_simp
  refine unhide hK _ _ ?_
  clear hK K
  replace hB := hB.new #[.int .u8 0, .int .u8 0, .int .u8 0, .int .u8 0, .int .u8 0, .int .u8 0, .int .u8 0, .int .u8 0, .int .u8 0, .int .u8 0, .int .u8 0, .int .u8 0, .int .u8 0, .int .u8 0, .int .u8 0, .int .u8 0, .int .u8 0, .int .u8 0, .int .u8 0, .int .u8 0, .int .u8 0, .int .u8 0, .int .u8 0, .int .u8 0, .int .u8 0, .int .u8 0, .int .u8 0, .int .u8 0, .int .u8 0, .int .u8 0, .int .u8 0, .int .u8 0] 23
  simp only [List.cons_append, List.nil_append] at hB
  generalize v5_.heap.size = g4_1_0 at *
  generalize World.alloc _ _ = v6_ at *
  replace hB : Bl w [⟨w.heap.size, (kc (digs (U : Int) 32)), 23⟩, ⟨g1_3, (kc (digs (V : Int) 32)), 23⟩, ⟨g4_1_0, Z32, 23⟩] v6_ := hB
  refine list_store 23 (.tmp 5) (.tmp 12) g4_1_0 (kc (digs (0 : Int) 32)) 23 Z32 (by kernel_rfl) rfl (by kernel_rfl) (by kernel_rfl) (hB.get 2 (x := ⟨g4_1_0, Z32, 23⟩) rfl) (by rw [Tryd.infoKey, kc32]) (Z32_size.trans (kc32 (0 : Int) 32).symm) (kc_one _) ?_
  replace hB := hB.set 2 (x := ⟨g4_1_0, Z32, 23⟩) rfl (kc (digs (0 : Int) 32))
  simp only [List.set_cons_zero, List.set_cons_succ] at hB
  generalize World.setRow _ _ _ = v7_ at *
  simp only [Act.put, List.setIfInBounds_toArray, List.set_cons_zero, List.set_cons_succ, List.getElem_toArray, List.getElem_cons_zero, List.getElem_cons_succ]
  refine wpList_nil ?_
  go_upto_region 5 with fail
  refine wp_region_lit ?_
  refine list_val (.agg (kc (digs (V : Int) 32))) (by kernel_rfl) (exec_arr _ 23 (.tmp 3) rfl g1_3 (by kernel_rfl) (kc (digs (V : Int) 32)) 23 _ (hB.get 1 (x := ⟨g1_3, (kc (digs (V : Int) 32)), 23⟩) rfl) Tryd.underlying23 rfl (by rw [Tryd.infoKey, kc32])) ?_
  simp only [Act.put, List.setIfInBounds_toArray, List.set_cons_zero, List.set_cons_succ, List.getElem_toArray, List.getElem_cons_zero, List.getElem_cons_succ]
  refine list_val (.agg (kc (digs (0 : Int) 32))) (by kernel_rfl) (exec_arr _ 23 (.tmp 5) rfl g4_1_0 (by kernel_rfl) (kc (digs (0 : Int) 32)) 23 _ (hB.get 2 (x := ⟨g4_1_0, (kc (digs (0 : Int) 32)), 23⟩) rfl) Tryd.underlying23 rfl (by rw [Tryd.infoKey, kc32])) ?_
  simp only [Act.put, List.setIfInBounds_toArray, List.set_cons_zero, List.set_cons_succ, List.getElem_toArray, List.getElem_cons_zero, List.getElem_cons_succ]
  refine list_val (.bool false) (by kernel_rfl) (by have e := key_diff' (n := V) (m := 0) hVr (by omega) (unhide hn0); go_simp) ?_
  simp only [Act.put, List.setIfInBounds_toArray, List.set_cons_zero, List.set_cons_succ, List.getElem_toArray, List.getElem_cons_zero, List.getElem_cons_succ]
  refine wpList_nil ?_
  go_wp2_with fail
  rw [rounds_succ]
  go_upto_region 4 with fail
  refine wp_region_lit ?_
  refine list_val (.agg (kc (digs (1 : Int) 32))) (by kernel_rfl) (by kernel_rfl) ?_
  simp only [Act.put, List.setIfInBounds_toArray, List.set_cons_zero, List.set_cons_succ, List.getElem_toArray, List.getElem_cons_zero, List.getElem_cons_succ]
  refine wpList_step fun K hK => ?_
  replace hK := hide hK
  go_simp
  refine unhide hK _ _ ?_
  clear hK K
  replace hB := hB.new #[.int .u8 0, .int .u8 0, .int .u8 0, .int .u8 0, .int .u8 0, .int .u8 0, .int .u8 0, .int .u8 0, .int .u8 0, .int .u8 0, .int .u8 0, .int .u8 0, .int .u8 0, .int .u8 0, .int .u8 0, .int .u8 0, .int .u8 0, .int .u8 0, .int .u8 0, .int .u8 0, .int .u8 0, .int .u8 0, .int .u8 0, .int .u8 0, .int .u8 0, .int .u8 0, .int .u8 0, .int .u8 0, .int .u8 0, .int .u8 0, .int .u8 0, .int .u8 0] 23
  simp only [List.cons_append, List.nil_append] at hB
  generalize v7_.heap.size = g4_1_1 at *
  generalize World.alloc _ _ = v8_ at *
  replace hB : Bl w [⟨w.heap.size, (kc (digs (U : Int) 32)), 23⟩, ⟨g1_3, (kc (digs (V : Int) 32)), 23⟩, ⟨g4_1_0, (kc (digs (0 : Int) 32)), 23⟩, ⟨g4_1_1, Z32, 23⟩] v8_ := hB
  refine list_store 23 (.tmp 5) (.tmp 12) g4_1_1 (kc (digs (1 : Int) 32)) 23 Z32 (by kernel_rfl) rfl (by kernel_rfl) (by kernel_rfl) (hB.get 3 (x := ⟨g4_1_1, Z32, 23⟩) rfl) (by rw [Tryd.infoKey, kc32]) (Z32_size.trans (kc32 (1 : Int) 32).symm) (kc_one _) ?_
  replace hB := hB.set 3 (x := ⟨g4_1_1, Z32, 23⟩) rfl (kc (digs (1 : Int) 32))
  simp only [List.set_cons_zero, List.set_cons_succ] at hB
  generalize World.setRow _ _ _ = v9_ at *
  simp only [Act.put, List.setIfInBounds_toArray, List.set_cons_zero, List.set_cons_succ, List.getElem_toArray, List.getElem_cons_zero, List.getElem_cons_succ]
  refine wpList_nil ?_
  go_upto_region 5 with fail
  refine wp_region_lit ?_
  refine list_val (.agg (kc (digs (V : Int) 32))) (by kernel_rfl) (exec_arr _ 23 (.tmp 3) rfl g1_3 (by kernel_rfl) (kc (digs (V : Int) 32)) 23 _ (hB.get 1 (x := ⟨g1_3, (kc (digs (V : Int) 32)), 23⟩) rfl) Tryd.underlying23 rfl (by rw [Tryd.infoKey, kc32])) ?_
  simp only [Act.put, List.setIfInBounds_toArray, List.set_cons_zero, List.set_cons_succ, List.getElem_toArray, List.getElem_cons_zero, List.getElem_cons_succ]
  refine list_val (.agg (kc (digs (1 : Int) 32))) (by kernel_rfl) (exec_arr _ 23 (.tmp 5) rfl g4_1_1 (by kernel_rfl) (kc (digs (1 : Int) 32)) 23 _ (hB.get 3 (x := ⟨g4_1_1, (kc (digs (1 : Int) 32)), 23⟩) rfl) Tryd.underlying23 rfl (by rw [Tryd.infoKey, kc32])) ?_
  simp only [Act.put, List.setIfInBounds_toArray, List.set_cons_zero, List.set_cons_succ, List.getElem_toArray, List.getElem_cons_zero, List.getElem_cons_succ]
  refine list_val (.bool false) (by kernel_rfl) (by have e := key_diff' (n := V) (m := 1) hVr (by omega) (unhide hn1); go_simp) ?_
  simp only [Act.put, List.setIfInBounds_toArray, List.set_cons_zero, List.set_cons_succ, List.getElem_toArray, List.getElem_cons_zero, List.getElem_cons_succ]
  refine wpList_nil ?_
  go_wp2_with fail
  rw [rounds_succ]
  go_upto_region 4 with fail
  refine wp_region_lit ?_
  refine list_val (.agg (kc (digs (57896044618658097711785492504343953926634992332820282019728792003956564819948 : Int) 32))) (by kernel_rfl) (by kernel_rfl) ?_
  simp only [Act.put, List.setIfInBounds_toArray, List.set_cons_zero, List.set_cons_succ, List.getElem_toArray, List.getElem_cons_zero, List.getElem_cons_succ]
  refine wpList_step fun K hK => ?_
  replace hK := hide hK
  go_simp
  refine unhide hK _ _ ?_
  clear hK K
  replace hB := hB.new #[.int .u8 0, .int .u8 0, .int .u8 0, .int .u8 0, .int .u8 0, .int .u8 0, .int .u8 0, .int .u8 0, .int .u8 0, .int .u8 0, .int .u8 0, .int .u8 0, .int .u8 0, .int .u8 0, .int .u8 0, .int .u8 0, .int .u8 0, .int .u8 0, .int .u8 0, .int .u8 0, .int .u8 0, .int .u8 0, .int .u8 0, .int .u8 0, .int .u8 0, .int .u8 0, .int .u8 0, .int .u8 0, .int .u8 0, .int .u8 0, .int .u8 0, .int .u8 0] 23
  simp only [List.cons_append, List.nil_append] at hB
  generalize v9_.heap.size = g4_1_2 at *
  generalize World.alloc _ _ = v10_ at *
  replace hB : Bl w [⟨w.heap.size, (kc (digs (U : Int) 32)), 23⟩, ⟨g1_3, (kc (digs (V : Int) 32)), 23⟩, ⟨g4_1_0, (kc (digs (0 : Int) 32)), 23⟩, ⟨g4_1_1, (kc (digs (1 : Int) 32)), 23⟩, ⟨g4_1_2, Z32, 23⟩] v10_ := hB
  refine list_store 23 (.tmp 5) (.tmp 12) g4_1_2 (kc (digs (57896044618658097711785492504343953926634992332820282019728792003956564819948 : Int) 32)) 23 Z32 (by kernel_rfl) rfl (by kernel_rfl) (by kernel_rfl) (hB.get 4 (x := ⟨g4_1_2, Z32, 23⟩) rfl) (by rw [Tryd.infoKey, kc32]) (Z32_size.trans (kc32 (57896044618658097711785492504343953926634992332820282019728792003956564819948 : Int) 32).symm) (kc_one _) ?_
  replace hB := hB.set 4 (x := ⟨g4_1_2, Z32, 23⟩) rfl (kc (digs (57896044618658097711785492504343953926634992332820282019728792003956564819948 : Int) 32))
  simp only [List.set_cons_zero, List.set_cons_succ] at hB
  generalize World.setRow _ _ _ = v11_ at *
  simp only [Act.put, List.setIfInBounds_toArray, List.set_cons_zero, List.set_cons_succ, List.getElem_toArray, List.getElem_cons_zero, List.getElem_cons_succ]
  refine wpList_nil ?_
  go_upto_region 5 with fail
  refine wp_region_lit ?_
  refine list_val (.agg (kc (digs (V : Int) 32))) (by kernel_rfl) (exec_arr _ 23 (.tmp 3) rfl g1_3 (by kernel_rfl) (kc (digs (V : Int) 32)) 23 _ (hB.get 1 (x := ⟨g1_3, (kc (digs (V : Int) 32)), 23⟩) rfl) Tryd.underlying23 rfl (by rw [Tryd.infoKey, kc32])) ?_
  simp only [Act.put, List.setIfInBounds_toArray, List.set_cons_zero, List.set_cons_succ, List.getElem_toArray, List.getElem_cons_zero, List.getElem_cons_succ]
  refine list_val (.agg (kc (digs (57896044618658097711785492504343953926634992332820282019728792003956564819948 : Int) 32))) (by kernel_rfl) (exec_arr _ 23 (.tmp 5) rfl g4_1_2 (by kernel_rfl) (kc (digs (57896044618658097711785492504343953926634992332820282019728792003956564819948 : Int) 32)) 23 _ (hB.get 4 (x := ⟨g4_1_2, (kc (digs (57896044618658097711785492504343953926634992332820282019728792003956564819948 : Int) 32)), 23⟩) rfl) Tryd.underlying23 rfl (by rw [Tryd.infoKey, kc32])) ?_
  simp only [Act.put, List.setIfInBounds_toArray, List.set_cons_zero, List.set_cons_succ, List.getElem_toArray, List.getElem_cons_zero, List.getElem_cons_succ]
  refine list_val (.bool false) (by kernel_rfl) (by have e := key_diff' (n := V) (m := 57896044618658097711785492504343953926634992332820282019728792003956564819948) hVr (by omega) (unhide hn2); go_simp) ?_
  simp only [Act.put, List.setIfInBounds_toArray, List.set_cons_zero, List.set_cons_succ, List.getElem_toArray, List.getElem_cons_zero, List.getElem_cons_succ]
  refine wpList_nil ?_
  go_wp2_with fail
  rw [rounds_succ]
  go_upto_region 4 with fail
  refine wp_region_lit ?_
  refine list_val (.agg (kc (digs (325606250916557431795983626356110631294008115727848805560023387167927233504 : Int) 32))) (by kernel_rfl) (by kernel_rfl) ?_
  simp only [Act.put, List.setIfInBounds_toArray, List.set_cons_zero, List.set_cons_succ, List.getElem_toArray, List.getElem_cons_zero, List.getElem_cons_succ]
  refine wpList_step fun K hK => ?_
  replace hK := hide hK
  go_simp
  refine unhide hK _ _ ?_
  clear hK K
  replace hB := hB.new #[.int .u8 0, .int .u8 0, .int .u8 0, .int .u8 0, .int .u8 0, .int .u8 0, .int .u8 0, .int .u8 0, .int .u8 0, .int .u8 0, .int .u8 0, .int .u8 0, .int .u8 0, .int .u8 0, .int .u8 0, .int .u8 0, .int .u8 0, .int .u8 0, .int .u8 0, .int .u8 0, .int .u8 0, .int .u8 0, .int .u8 0, .int .u8 0, .int .u8 0, .int .u8 0, .int .u8 0, .int .u8 0, .int .u8 0, .int .u8 0, .int .u8 0, .int .u8 0] 23
  simp only [List.cons_append, List.nil_append] at hB
  generalize v11_.heap.size = g4_1_3 at *
  generalize World.alloc _ _ = v12_ at *
  replace hB : Bl w [⟨w.heap.size, (kc (digs (U : Int) 32)), 23⟩, ⟨g1_3, (kc (digs (V : Int) 32)), 23⟩, ⟨g4_1_0, (kc (digs (0 : Int) 32)), 23⟩, ⟨g4_1_1, (kc (digs (1 : Int) 32)), 23⟩, ⟨g4_1_2, (kc (digs (57896044618658097711785492504343953926634992332820282019728792003956564819948 : Int) 32)), 23⟩, ⟨g4_1_3, Z32, 23⟩] v12_ := hB
  refine list_store 23 (.tmp 5) (.tmp 12) g4_1_3 (kc (digs (325606250916557431795983626356110631294008115727848805560023387167927233504 : Int) 32)) 23 Z32 (by kernel_rfl) rfl (by kernel_rfl) (by kernel_rfl) (hB.get 5 (x := ⟨g4_1_3, Z32, 23⟩) rfl) (by rw [Tryd.infoKey, kc32]) (Z32_size.trans (kc32 (325606250916557431795983626356110631294008115727848805560023387167927233504 : Int) 32).symm) (kc_one _) ?_
  replace hB := hB.set 5 (x := ⟨g4_1_3, Z32, 23⟩) rfl (kc (digs (325606250916557431795983626356110631294008115727848805560023387167927233504 : Int) 32))
  simp only [List.set_cons_zero, List.set_cons_succ] at hB
  generalize World.setRow _ _ _ = v13_ at *
  simp only [Act.put, List.setIfInBounds_toArray, List.set_cons_zero, List.set_cons_succ, List.getElem_toArray, List.getElem_cons_zero, List.getElem_cons_succ]
  refine wpList_nil ?_
  go_upto_region 5 with fail
  refine wp_region_lit ?_
  refine list_val (.agg (kc (digs (V : Int) 32))) (by kernel_rfl) (exec_arr _ 23 (.tmp 3) rfl g1_3 (by kernel_rfl) (kc (digs (V : Int) 32)) 23 _ (hB.get 1 (x := ⟨g1_3, (kc (digs (V : Int) 32)), 23⟩) rfl) Tryd.underlying23 rfl (by rw [Tryd.infoKey, kc32])) ?_
  simp only [Act.put, List.setIfInBounds_toArray, List.set_cons_zero, List.set_cons_succ, List.getElem_toArray, List.getElem_cons_zero, List.getElem_cons_succ]
  refine list_val (.agg (kc (digs (325606250916557431795983626356110631294008115727848805560023387167927233504 : Int) 32))) (by kernel_rfl) (exec_arr _ 23 (.tmp 5) rfl g4_1_3 (by kernel_rfl) (kc (digs (325606250916557431795983626356110631294008115727848805560023387167927233504 : Int) 32)) 23 _ (hB.get 5 (x := ⟨g4_1_3, (kc (digs (325606250916557431795983626356110631294008115727848805560023387167927233504 : Int) 32)), 23⟩) rfl) Tryd.underlying23 rfl (by rw [Tryd.infoKey, kc32])) ?_
  simp only [Act.put, List.setIfInBounds_toArray, List.set_cons_zero, List.set_cons_succ, List.getElem_toArray, List.getElem_cons_zero, List.getElem_cons_succ]
  refine list_val (.bool false) (by kernel_rfl) (by have e := key_diff' (n := V) (m := 325606250916557431795983626356110631294008115727848805560023387167927233504) hVr (by omega) (unhide hn3); go_simp) ?_
  simp only [Act.put, List.setIfInBounds_toArray, List.set_cons_zero, List.set_cons_succ, List.getElem_toArray, List.getElem_cons_zero, List.getElem_cons_succ]
  refine wpList_nil ?_
  go_wp2_with fail
  rw [rounds_succ]
  go_upto_region 4 with fail
  refine wp_region_lit ?_
  refine list_val (.agg (kc (digs (39382357235489614581723060781553021112529911719440698176882885853963445705823 : Int) 32))) (by kernel_rfl) (by kernel_rfl) ?_
  simp only [Act.put, List.setIfInBounds_toArray, List.set_cons_zero, List.set_cons_succ, List.getElem_toArray, List.getElem_cons_zero, List.getElem_cons_succ]
  refine wpList_step fun K hK => ?_
  replace hK := hide hK
  go_simp
  refine unhide hK _ _ ?_
  clear hK K
  replace hB := hB.new #[.int .u8 0, .int .u8 0, .int .u8 0, .int .u8 0, .int .u8 0, .int .u8 0, .int .u8 0, .int .u8 0, .int .u8 0, .int .u8 0, .int .u8 0, .int .u8 0, .int .u8 0, .int .u8 0, .int .u8 0, .int .u8 0, .int .u8 0, .int .u8 0, .int .u8 0, .int .u8 0, .int .u8 0, .int .u8 0, .int .u8 0, .int .u8 0, .int .u8 0, .int .u8 0, .int .u8 0, .int .u8 0, .int .u8 0, .int .u8 0, .int .u8 0, .int .u8 0] 23
  simp only [List.cons_append, List.nil_append] at hB
  generalize v13_.heap.size = g4_1_4 at *
  generalize World.alloc _ _ = v14_ at *
  replace hB : Bl w [⟨w.heap.size, (kc (digs (U : Int) 32)), 23⟩, ⟨g1_3, (kc (digs (V : Int) 32)), 23⟩, ⟨g4_1_0, (kc (digs (0 : Int) 32)), 23⟩, ⟨g4_1_1, (kc (digs (1 : Int) 32)), 23⟩, ⟨g4_1_2, (kc (digs (57896044618658097711785492504343953926634992332820282019728792003956564819948 : Int) 32)), 23⟩, ⟨g4_1_3, (kc (digs (325606250916557431795983626356110631294008115727848805560023387167927233504 : Int) 32)), 23⟩, ⟨g4_1_4, Z32, 23⟩] v14_ := hB
  refine list_store 23 (.tmp 5) (.tmp 12) g4_1_4 (kc (digs (39382357235489614581723060781553021112529911719440698176882885853963445705823 : Int) 32)) 23 Z32 (by kernel_rfl) rfl (by kernel_rfl) (by kernel_rfl) (hB.get 6 (x := ⟨g4_1_4, Z32, 23⟩) rfl) (by rw [Tryd.infoKey, kc32]) (Z32_size.trans (kc32 (39382357235489614581723060781553021112529911719440698176882885853963445705823 : Int) 32).symm) (kc_one _) ?_
  replace hB := hB.set 6 (x := ⟨g4_1_4, Z32, 23⟩) rfl (kc (digs (39382357235489614581723060781553021112529911719440698176882885853963445705823 : Int) 32))
  simp only [List.set_cons_zero, List.set_cons_succ] at hB
  generalize World.setRow _ _ _ = v15_ at *
  simp only [Act.put, List.setIfInBounds_toArray, List.set_cons_zero, List.set_cons_succ, List.getElem_toArray, List.getElem_cons_zero, List.getElem_cons_succ]
  refine wpList_nil ?_
  go_upto_region 5 with fail
  refine wp_region_lit ?_
  refine list_val (.agg (kc (digs (V : Int) 32))) (by kernel_rfl) (exec_arr _ 23 (.tmp 3) rfl g1_3 (by kernel_rfl) (kc (digs (V : Int) 32)) 23 _ (hB.get 1 (x := ⟨g1_3, (kc (digs (V : Int) 32)), 23⟩) rfl) Tryd.underlying23 rfl (by rw [Tryd.infoKey, kc32])) ?_
  simp only [Act.put, List.setIfInBounds_toArray, List.set_cons_zero, List.set_cons_succ, List.getElem_toArray, List.getElem_cons_zero, List.getElem_cons_succ]
  refine list_val (.agg (kc (digs (39382357235489614581723060781553021112529911719440698176882885853963445705823 : Int) 32))) (by kernel_rfl) (exec_arr _ 23 (.tmp 5) rfl g4_1_4 (by kernel_rfl) (kc (digs (39382357235489614581723060781553021112529911719440698176882885853963445705823 : Int) 32)) 23 _ (hB.get 6 (x := ⟨g4_1_4, (kc (digs (39382357235489614581723060781553021112529911719440698176882885853963445705823 : Int) 32)), 23⟩) rfl) Tryd.underlying23 rfl (by rw [Tryd.infoKey, kc32])) ?_
  simp only [Act.put, List.setIfInBounds_toArray, List.set_cons_zero, List.set_cons_succ, List.getElem_toArray, List.getElem_cons_zero, List.getElem_cons_succ]
  refine list_val (.bool false) (by kernel_rfl) (by have e := key_diff' (n := V) (m := 39382357235489614581723060781553021112529911719440698176882885853963445705823) hVr (by omega) (unhide hn4); go_simp) ?_
  simp only [Act.put, List.setIfInBounds_toArray, List.set_cons_zero, List.set_cons_succ, List.getElem_toArray, List.getElem_cons_zero, List.getElem_cons_succ]
  refine wpList_nil ?_
  go_wp2_with fail
  rw [rounds_succ]
  go_wp2_with fail
  have hG := hide hB.gr
  clear hB
  go_wp2_with fail
  refine bodyPost_ret (v := .bool false) ?_ rfl ⟨rfl, unhide hG⟩
  simp [results, Tryd.results10, go_sem]
end Go.Proofs.YtebgmneffpeahaaDoor
