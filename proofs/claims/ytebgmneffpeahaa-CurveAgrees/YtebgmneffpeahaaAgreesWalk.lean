/-
  CurveAgrees: which keys make nothing; the walk, for whatever keys.
-/
import Derived.Test.YtebgmneffpeahaaRefLow
import Derived.Test.YtebgmneffpeahaaEdwB
import Derived.Test.YtebgmneffpeahaaLaddersWalk
namespace Go.Proofs.Ytebgmneffpeahaa
open Go.RowKit
set_option maxRecDepth 100000
set_option linter.unusedSimpArgs false

theorem cl_eight (M : Nat) : cl M = 8 * (cl M / 8) ∧ 0 < cl M / 8 ∧ cl M / 8 < 7237005577332262213973186563042994240829374041602535252466099000494570602496 := by unfold cl; omega
theorem l1_big : 7237005577332262213973186563042994240829374041602535252466099000494570602496 ≤ Ed.l1 := by decide +kernel
theorem l2_big : 7237005577332262213973186563042994240829374041602535252466099000494570602496 ≤ Ed.l2 := by decide +kernel
theorem cl_255 (M : Nat) : cl M < 2 ^ 255 := by
  have : (2 : Nat) ^ 255 = 57896044618658097711785492504343953926634992332820282019728792003956564819968 := by decide +kernel
  rw [this]
  unfold cl
  omega
theorem not_dvd {l m : Nat} (h0 : 0 < m) (h : m < l) : ¬ l ∣ m := fun hd => absurd (Nat.le_of_dvd h0 hd) (by omega)
theorem lw_low (u : Int) : Ed.LowP u ↔ Lw (u % pp) := by
  unfold Ed.LowP Lw Ed.p Ed.c8 Ed.c9 pp
  omega
/-- X makes nothing of just the low places -/
theorem xn_low (M U : Nat) : xN M U = 0 ↔ Lw ((U : Int) % 57896044618658097711785492504343953926634992332820282019728792003956564819968 % pp) := by
  rw [← lw_low]
  generalize hu : (U : Int) % 57896044618658097711785492504343953926634992332820282019728792003956564819968 = u
  have h1 : xN M U = 0 ↔ Ed.p ∣ Ed.ans u (Ed.hi (cl M) 255) := by
    have hc := xN_cast M U
    rw [xn_out, hu, pp_p] at hc
    have ho := Ed.out_ans u (cl M)
    constructor
    · intro h
      rw [h] at hc
      have h2 : Ed.p ∣ Ed.out u (cl M) := Int.dvd_of_emod_eq_zero (by rw [← hc]; rfl)
      have := Int.dvd_sub h2 ho
      generalize Ed.out u (cl M) = o at *
      generalize Ed.ans u (Ed.hi (cl M) 255) = a at *
      rwa [show o - (o - a) = a from by omega] at this
    · intro h
      have := Int.dvd_add ho h
      generalize Ed.out u (cl M) = o at *
      generalize Ed.ans u (Ed.hi (cl M) 255) = a at *
      rw [show o - a + a = o from by omega] at this
      rw [Int.emod_eq_zero_of_dvd this] at hc
      omega
  rw [h1]
  obtain ⟨e1, e2, e3⟩ := cl_eight M
  have hn : Ed.num (Ed.hi (cl M) 255) = 8 * (cl M / 8) := by rw [Ed.num_all (cl_255 M)]; exact e1
  constructor
  · exact Ed.low_of hn (not_dvd e2 (Nat.lt_of_lt_of_le e3 l1_big)) (not_dvd e2 (Nat.lt_of_lt_of_le e3 l2_big))
  · exact Ed.of_low hn

set_option maxHeartbeats 4000000 in
theorem agrees_low (M U : Nat) (hU : Hid (U < 115792089237316195423570985008687907853269984665640564039457584007913129639936)) (h0 : Hid (xN M U = 0)) (hL : Hid (Lw ((U : Int) % 57896044618658097711785492504343953926634992332820282019728792003956564819968 % pp))) (w : World) :
    Calls Try.prog 4 #[.agg (kc (digs (M : Int) 32)), .agg (kc (digs (U : Int) 32))] w (fun r w' => r = .returned (.bool true) ∧ Gr w w') := by
  go_enter Try.func4, Try.ntmps4
  go_upto_region 3 with (go_at_call 9; refine (wakes_ok _).mono ?_; rintro r w1 ⟨rfl, hg⟩)
  have hB := (((Bl.nil w).new (kc (digs (M : Int) 32)) 23).new (kc (digs (U : Int) 32)) 23).more hg
  simp only [size_alloc, List.nil_append, List.cons_append] at hB
  clear hg
  refine wp_region_lit ?_
  refine list_val (.agg (kc (digs (M : Int) 32))) (by kernel_rfl) (exec_arr _ 23 (.tmp 2) rfl w.heap.size (by kernel_rfl) (kc (digs (M : Int) 32)) 23 _ (hB.get 0 (x := ⟨w.heap.size, (kc (digs (M : Int) 32)), 23⟩) rfl) Try.underlying23 rfl (by rw [Try.infoKey, kc32])) ?_
  simp only [Act.put, List.setIfInBounds_toArray, List.set_cons_zero, List.set_cons_succ, List.getElem_toArray, List.getElem_cons_zero, List.getElem_cons_succ]
  refine list_val (.agg (kc (digs (U : Int) 32))) (by kernel_rfl) (exec_arr _ 23 (.tmp 3) rfl (w.heap.size + 1) (by kernel_rfl) (kc (digs (U : Int) 32)) 23 _ (hB.get 1 (x := ⟨w.heap.size + 1, (kc (digs (U : Int) 32)), 23⟩) rfl) Try.underlying23 rfl (by rw [Try.infoKey, kc32])) ?_
  simp only [Act.put, List.setIfInBounds_toArray, List.set_cons_zero, List.set_cons_succ, List.getElem_toArray, List.getElem_cons_zero, List.getElem_cons_succ]
  refine list_call 10 #[.agg (kc (digs (M : Int) 32)), .agg (kc (digs (U : Int) 32))] (by kernel_rfl) (by kernel_rfl) ((agree_low M U h0 _).mono ?_)
  rintro r v1_ ⟨rfl, hg⟩
  refine ⟨_, rfl, ?_⟩
  replace hB := hB.more hg
  clear hg
  simp only [Act.put, List.setIfInBounds_toArray, List.set_cons_zero, List.set_cons_succ, List.getElem_toArray, List.getElem_cons_zero, List.getElem_cons_succ]
  refine list_val (.tuple #[.agg (kc (digs (0 : Int) 32)), .int .i64 130]) (by kernel_rfl) (by kernel_rfl) ?_
  simp only [Act.put, List.setIfInBounds_toArray, List.set_cons_zero, List.set_cons_succ, List.getElem_toArray, List.getElem_cons_zero, List.getElem_cons_succ]
  refine list_val (.agg (kc (digs (0 : Int) 32))) (by kernel_rfl) (by kernel_rfl) ?_
  simp only [Act.put, List.setIfInBounds_toArray, List.set_cons_zero, List.set_cons_succ, List.getElem_toArray, List.getElem_cons_zero, List.getElem_cons_succ]
  refine list_val (.int .i64 130) (by kernel_rfl) (by kernel_rfl) ?_
  simp only [Act.put, List.setIfInBounds_toArray, List.set_cons_zero, List.set_cons_succ, List.getElem_toArray, List.getElem_cons_zero, List.getElem_cons_succ]
  refine wpList_step fun K hK => ?_
  replace hK := hide hK
  go_simp
  refine unhide hK _ _ ?_
  clear hK K
  replace hB := hB.new #[.int .u8 0, .int .u8 0, .int .u8 0, .int .u8 0, .int .u8 0, .int .u8 0, .int .u8 0, .int .u8 0, .int .u8 0, .int .u8 0, .int .u8 0, .int .u8 0, .int .u8 0, .int .u8 0, .int .u8 0, .int .u8 0, .int .u8 0, .int .u8 0, .int .u8 0, .int .u8 0, .int .u8 0, .int .u8 0, .int .u8 0, .int .u8 0, .int .u8 0, .int .u8 0, .int .u8 0, .int .u8 0, .int .u8 0, .int .u8 0, .int .u8 0, .int .u8 0] 23
  simp only [List.cons_append, List.nil_append] at hB
  generalize v1_.heap.size = g3_6 at *
  generalize World.alloc _ _ = v2_ at *
  replace hB : Bl w [⟨w.heap.size, (kc (digs (M : Int) 32)), 23⟩, ⟨w.heap.size + 1, (kc (digs (U : Int) 32)), 23⟩, ⟨g3_6, Z32, 23⟩] v2_ := hB
  refine list_store 23 (.tmp 5) (.tmp 13) g3_6 (kc (digs (0 : Int) 32)) 23 Z32 (by kernel_rfl) rfl (by kernel_rfl) (by kernel_rfl) (hB.get 2 (x := ⟨g3_6, Z32, 23⟩) rfl) (by rw [Try.infoKey, kc32]) (Z32_size.trans (kc32 (0 : Int) 32).symm) (kc_one _) ?_
  replace hB := hB.set 2 (x := ⟨g3_6, Z32, 23⟩) rfl (kc (digs (0 : Int) 32))
  simp only [List.set_cons_zero, List.set_cons_succ] at hB
  generalize World.setRow _ _ _ = v3_ at *
  simp only [Act.put, List.setIfInBounds_toArray, List.set_cons_zero, List.set_cons_succ, List.getElem_toArray, List.getElem_cons_zero, List.getElem_cons_succ]
  refine wpList_step fun K hK => ?_
  replace hK := hide hK
  go_simp
  refine unhide hK _ _ ?_
  clear hK K
  refine wpList_nil ?_
  go_upto_region 4 with fail
  refine wp_region_lit ?_
  refine list_val (.agg (kc (digs (U : Int) 32))) (by kernel_rfl) (exec_arr _ 23 (.tmp 3) rfl (w.heap.size + 1) (by kernel_rfl) (kc (digs (U : Int) 32)) 23 _ (hB.get 1 (x := ⟨w.heap.size + 1, (kc (digs (U : Int) 32)), 23⟩) rfl) Try.underlying23 rfl (by rw [Try.infoKey, kc32])) ?_
  simp only [Act.put, List.setIfInBounds_toArray, List.set_cons_zero, List.set_cons_succ, List.getElem_toArray, List.getElem_cons_zero, List.getElem_cons_succ]
  refine list_call 11 #[.agg (kc (digs (U : Int) 32))] (by kernel_rfl) (by kernel_rfl) ((rlow_yes U (unhide hU) (unhide hL) _).mono ?_)
  rintro r v4_ ⟨rfl, hg⟩
  refine ⟨_, rfl, ?_⟩
  replace hB := hB.more hg
  clear hg
  simp only [Act.put, List.setIfInBounds_toArray, List.set_cons_zero, List.set_cons_succ, List.getElem_toArray, List.getElem_cons_zero, List.getElem_cons_succ]
  refine wpList_nil ?_
  go_upto_region 5 with fail
  refine wp_region_lit ?_
  refine list_val (.agg (kc (digs (0 : Int) 32))) (by kernel_rfl) (exec_arr _ 23 (.tmp 5) rfl g3_6 (by kernel_rfl) (kc (digs (0 : Int) 32)) 23 _ (hB.get 2 (x := ⟨g3_6, (kc (digs (0 : Int) 32)), 23⟩) rfl) Try.underlying23 rfl (by rw [Try.infoKey, kc32])) ?_
  simp only [Act.put, List.setIfInBounds_toArray, List.set_cons_zero, List.set_cons_succ, List.getElem_toArray, List.getElem_cons_zero, List.getElem_cons_succ]
  refine list_val (.agg (kc (digs (0 : Int) 32))) (by kernel_rfl) (by kernel_rfl) ?_
  simp only [Act.put, List.setIfInBounds_toArray, List.set_cons_zero, List.set_cons_succ, List.getElem_toArray, List.getElem_cons_zero, List.getElem_cons_succ]
  refine list_val (.bool true) (by kernel_rfl) (by have e := key_same (0 : Int); go_simp) ?_
  simp only [Act.put, List.setIfInBounds_toArray, List.set_cons_zero, List.set_cons_succ, List.getElem_toArray, List.getElem_cons_zero, List.getElem_cons_succ]
  refine list_val (.bool true) (by kernel_rfl) (by kernel_rfl) ?_
  simp only [Act.put, List.setIfInBounds_toArray, List.set_cons_zero, List.set_cons_succ, List.getElem_toArray, List.getElem_cons_zero, List.getElem_cons_succ]
  refine list_val (.int .i64 130) (by kernel_rfl) (by kernel_rfl) ?_
  simp only [Act.put, List.setIfInBounds_toArray, List.set_cons_zero, List.set_cons_succ, List.getElem_toArray, List.getElem_cons_zero, List.getElem_cons_succ]
  refine list_val (.bool true) (by kernel_rfl) (by kernel_rfl) ?_
  simp only [Act.put, List.setIfInBounds_toArray, List.set_cons_zero, List.set_cons_succ, List.getElem_toArray, List.getElem_cons_zero, List.getElem_cons_succ]
  refine list_val (.bool true) (by kernel_rfl) (by kernel_rfl) ?_
  simp only [Act.put, List.setIfInBounds_toArray, List.set_cons_zero, List.set_cons_succ, List.getElem_toArray, List.getElem_cons_zero, List.getElem_cons_succ]
  refine wpList_step fun K hK => ?_
  replace hK := hide hK
  go_simp
  refine unhide hK _ _ ?_
  clear hK K
  refine wpList_nil ?_
  have hG := hide hB.gr
  clear hB
  go_wp2_with fail
  refine bodyPost_ret (v := .bool true) ?_ rfl ⟨rfl, unhide hG⟩
  simp [results, Try.results4, go_sem]

set_option maxHeartbeats 4000000 in
theorem agrees_ok (M U : Nat) (hU : Hid (U < 115792089237316195423570985008687907853269984665640564039457584007913129639936)) (h0 : Hid (xN M U ≠ 0)) (hL : Hid (¬ Lw ((U : Int) % 57896044618658097711785492504343953926634992332820282019728792003956564819968 % pp))) (w : World) :
    Calls Try.prog 4 #[.agg (kc (digs (M : Int) 32)), .agg (kc (digs (U : Int) 32))] w (fun r w' => r = .returned (.bool true) ∧ Gr w w') := by
  go_enter Try.func4, Try.ntmps4
  go_upto_region 3 with (go_at_call 9; refine (wakes_ok _).mono ?_; rintro r w1 ⟨rfl, hg⟩)
  have hB := (((Bl.nil w).new (kc (digs (M : Int) 32)) 23).new (kc (digs (U : Int) 32)) 23).more hg
  simp only [size_alloc, List.nil_append, List.cons_append] at hB
  clear hg
  refine wp_region_lit ?_
  refine list_val (.agg (kc (digs (M : Int) 32))) (by kernel_rfl) (exec_arr _ 23 (.tmp 2) rfl w.heap.size (by kernel_rfl) (kc (digs (M : Int) 32)) 23 _ (hB.get 0 (x := ⟨w.heap.size, (kc (digs (M : Int) 32)), 23⟩) rfl) Try.underlying23 rfl (by rw [Try.infoKey, kc32])) ?_
  simp only [Act.put, List.setIfInBounds_toArray, List.set_cons_zero, List.set_cons_succ, List.getElem_toArray, List.getElem_cons_zero, List.getElem_cons_succ]
  refine list_val (.agg (kc (digs (U : Int) 32))) (by kernel_rfl) (exec_arr _ 23 (.tmp 3) rfl (w.heap.size + 1) (by kernel_rfl) (kc (digs (U : Int) 32)) 23 _ (hB.get 1 (x := ⟨w.heap.size + 1, (kc (digs (U : Int) 32)), 23⟩) rfl) Try.underlying23 rfl (by rw [Try.infoKey, kc32])) ?_
  simp only [Act.put, List.setIfInBounds_toArray, List.set_cons_zero, List.set_cons_succ, List.getElem_toArray, List.getElem_cons_zero, List.getElem_cons_succ]
  refine list_call 10 #[.agg (kc (digs (M : Int) 32)), .agg (kc (digs (U : Int) 32))] (by kernel_rfl) (by kernel_rfl) ((agree_n M U h0 _).mono ?_)
  rintro r v1_ ⟨n1, rfl, hn1, hg⟩
  refine ⟨_, rfl, ?_⟩
  replace hB := hB.more hg
  clear hg
  simp only [Act.put, List.setIfInBounds_toArray, List.set_cons_zero, List.set_cons_succ, List.getElem_toArray, List.getElem_cons_zero, List.getElem_cons_succ]
  refine list_val (.tuple #[.agg (kc (digs (n1 : Int) 32)), .int .i64 0]) (by kernel_rfl) (by kernel_rfl) ?_
  simp only [Act.put, List.setIfInBounds_toArray, List.set_cons_zero, List.set_cons_succ, List.getElem_toArray, List.getElem_cons_zero, List.getElem_cons_succ]
  refine list_val (.agg (kc (digs (n1 : Int) 32))) (by kernel_rfl) (by kernel_rfl) ?_
  simp only [Act.put, List.setIfInBounds_toArray, List.set_cons_zero, List.set_cons_succ, List.getElem_toArray, List.getElem_cons_zero, List.getElem_cons_succ]
  refine list_val (.int .i64 0) (by kernel_rfl) (by kernel_rfl) ?_
  simp only [Act.put, List.setIfInBounds_toArray, List.set_cons_zero, List.set_cons_succ, List.getElem_toArray, List.getElem_cons_zero, List.getElem_cons_succ]
  refine wpList_step fun K hK => ?_
  replace hK := hide hK
  go_simp
  refine unhide hK _ _ ?_
  clear hK K
  replace hB := hB.new #[.int .u8 0, .int .u8 0, .int .u8 0, .int .u8 0, .int .u8 0, .int .u8 0, .int .u8 0, .int .u8 0, .int .u8 0, .int .u8 0, .int .u8 0, .int .u8 0, .int .u8 0, .int .u8 0, .int .u8 0, .int .u8 0, .int .u8 0, .int .u8 0, .int .u8 0, .int .u8 0, .int .u8 0, .int .u8 0, .int .u8 0, .int .u8 0, .int .u8 0, .int .u8 0, .int .u8 0, .int .u8 0, .int .u8 0, .int .u8 0, .int .u8 0, .int .u8 0] 23
  simp only [List.cons_append, List.nil_append] at hB
  generalize v1_.heap.size = g3_6 at *
  generalize World.alloc _ _ = v2_ at *
  replace hB : Bl w [⟨w.heap.size, (kc (digs (M : Int) 32)), 23⟩, ⟨w.heap.size + 1, (kc (digs (U : Int) 32)), 23⟩, ⟨g3_6, Z32, 23⟩] v2_ := hB
  refine list_store 23 (.tmp 5) (.tmp 13) g3_6 (kc (digs (n1 : Int) 32)) 23 Z32 (by kernel_rfl) rfl (by kernel_rfl) (by kernel_rfl) (hB.get 2 (x := ⟨g3_6, Z32, 23⟩) rfl) (by rw [Try.infoKey, kc32]) (Z32_size.trans (kc32 (n1 : Int) 32).symm) (kc_one _) ?_
  replace hB := hB.set 2 (x := ⟨g3_6, Z32, 23⟩) rfl (kc (digs (n1 : Int) 32))
  simp only [List.set_cons_zero, List.set_cons_succ] at hB
  generalize World.setRow _ _ _ = v3_ at *
  simp only [Act.put, List.setIfInBounds_toArray, List.set_cons_zero, List.set_cons_succ, List.getElem_toArray, List.getElem_cons_zero, List.getElem_cons_succ]
  refine wpList_step fun K hK => ?_
  replace hK := hide hK
  go_simp
  refine unhide hK _ _ ?_
  clear hK K
  refine wpList_nil ?_
  go_upto_region 4 with fail
  refine wp_region_lit ?_
  refine list_val (.agg (kc (digs (U : Int) 32))) (by kernel_rfl) (exec_arr _ 23 (.tmp 3) rfl (w.heap.size + 1) (by kernel_rfl) (kc (digs (U : Int) 32)) 23 _ (hB.get 1 (x := ⟨w.heap.size + 1, (kc (digs (U : Int) 32)), 23⟩) rfl) Try.underlying23 rfl (by rw [Try.infoKey, kc32])) ?_
  simp only [Act.put, List.setIfInBounds_toArray, List.set_cons_zero, List.set_cons_succ, List.getElem_toArray, List.getElem_cons_zero, List.getElem_cons_succ]
  refine list_call 11 #[.agg (kc (digs (U : Int) 32))] (by kernel_rfl) (by kernel_rfl) ((rlow_no U (unhide hU) (unhide hL) _).mono ?_)
  rintro r v4_ ⟨rfl, hg⟩
  refine ⟨_, rfl, ?_⟩
  replace hB := hB.more hg
  clear hg
  simp only [Act.put, List.setIfInBounds_toArray, List.set_cons_zero, List.set_cons_succ, List.getElem_toArray, List.getElem_cons_zero, List.getElem_cons_succ]
  refine wpList_nil ?_
  have hz1 : Hid ((n1 : Int) ≠ 0) := hide (fun e => unhide h0 (by rw [← unhide hn1]; omega))
  have hr1 : Hid (0 ≤ (n1 : Int) ∧ (n1 : Int) < 115792089237316195423570985008687907853269984665640564039457584007913129639936) := hide ⟨by omega, by have := xN_256 M U; rw [← unhide hn1] at this; omega⟩
  go_upto_region 6 with fail
  refine any_start (S := fun v => v.heap[w.heap.size]? = some (.cells (kc (digs (M : Int) 32)) 23 (0, 0)) ∧ v.heap[w.heap.size + 1]? = some (.cells (kc (digs (U : Int) 32)) 23 (0, 0)) ∧ v.heap[g3_6]? = some (.cells (kc (digs (n1 : Int) 32)) 23 (0, 0)) ∧ True) (by kernel_rfl) ?_
  replace hB := hB.drew
  generalize World.drew _ = v5_ at *
  simp only [List.size_toArray, List.length_cons, List.length_nil, Array.replicate, List.replicate]
  refine any_take (i := 0) (v := (.int .i64 0)) #[false, false, false, false, false, false, false, false, false, false, false, false, false, false, false] rfl (by kernel_rfl) (by kernel_rfl) (by kernel_rfl) (by kernel_rfl) (fun _ _ _ h => h) (.inl ⟨by kernel_rfl, fun x_ hu => by kernel_rfl⟩) ⟨(hB.get 0 (x := ⟨w.heap.size, (kc (digs (M : Int) 32)), 23⟩) rfl), (hB.get 1 (x := ⟨w.heap.size + 1, (kc (digs (U : Int) 32)), 23⟩) rfl), (hB.get 2 (x := ⟨g3_6, (kc (digs (n1 : Int) 32)), 23⟩) rfl), trivial⟩ ?_
  simp only [Act.put, List.setIfInBounds_toArray, List.set_cons_zero, List.set_cons_succ, List.getElem_toArray, List.getElem_cons_zero, List.getElem_cons_succ]
  refine any_take (i := 1) (v := (.bool true)) #[true, false, false, false, false, false, false, false, false, false, false, false, false, false, false] rfl (by kernel_rfl) (by kernel_rfl) (by kernel_rfl) (by kernel_rfl) (fun _ _ _ h => h) (.inl ⟨by kernel_rfl, fun x_ hu => by kernel_rfl⟩) ⟨(hB.get 0 (x := ⟨w.heap.size, (kc (digs (M : Int) 32)), 23⟩) rfl), (hB.get 1 (x := ⟨w.heap.size + 1, (kc (digs (U : Int) 32)), 23⟩) rfl), (hB.get 2 (x := ⟨g3_6, (kc (digs (n1 : Int) 32)), 23⟩) rfl), trivial⟩ ?_
  simp only [Act.put, List.setIfInBounds_toArray, List.set_cons_zero, List.set_cons_succ, List.getElem_toArray, List.getElem_cons_zero, List.getElem_cons_succ]
  refine any_take (i := 2) (v := (.bool true)) #[true, true, false, false, false, false, false, false, false, false, false, false, false, false, false] rfl (by kernel_rfl) (by kernel_rfl) (by kernel_rfl) (by kernel_rfl) (fun _ _ _ h => h) (.inl ⟨by kernel_rfl, fun x_ hu => by kernel_rfl⟩) ⟨(hB.get 0 (x := ⟨w.heap.size, (kc (digs (M : Int) 32)), 23⟩) rfl), (hB.get 1 (x := ⟨w.heap.size + 1, (kc (digs (U : Int) 32)), 23⟩) rfl), (hB.get 2 (x := ⟨g3_6, (kc (digs (n1 : Int) 32)), 23⟩) rfl), trivial⟩ ?_
  simp only [Act.put, List.setIfInBounds_toArray, List.set_cons_zero, List.set_cons_succ, List.getElem_toArray, List.getElem_cons_zero, List.getElem_cons_succ]
  refine any_take (i := 3) (v := (.agg (kc (digs (n1 : Int) 32)))) #[true, true, true, false, false, false, false, false, false, false, false, false, false, false, false] rfl (by kernel_rfl) (by kernel_rfl) (by kernel_rfl) (by kernel_rfl) (fun _ _ _ h => h) (.inl ⟨by kernel_rfl, fun x_ hu => exec_arr x_ 23 (.tmp 5) rfl g3_6 (by kernel_rfl) (kc (digs (n1 : Int) 32)) 23 _ hu.2.2.1 Try.underlying23 rfl (by rw [Try.infoKey, kc32])⟩) ⟨(hB.get 0 (x := ⟨w.heap.size, (kc (digs (M : Int) 32)), 23⟩) rfl), (hB.get 1 (x := ⟨w.heap.size + 1, (kc (digs (U : Int) 32)), 23⟩) rfl), (hB.get 2 (x := ⟨g3_6, (kc (digs (n1 : Int) 32)), 23⟩) rfl), trivial⟩ ?_
  simp only [Act.put, List.setIfInBounds_toArray, List.set_cons_zero, List.set_cons_succ, List.getElem_toArray, List.getElem_cons_zero, List.getElem_cons_succ]
  refine any_take (i := 4) (v := (.agg (kc (digs (M : Int) 32)))) #[true, true, true, true, false, false, false, false, false, false, false, false, false, false, false] rfl (by kernel_rfl) (by kernel_rfl) (by kernel_rfl) (by kernel_rfl) (fun _ _ _ h => h) (.inl ⟨by kernel_rfl, fun x_ hu => exec_arr x_ 23 (.tmp 2) rfl w.heap.size (by kernel_rfl) (kc (digs (M : Int) 32)) 23 _ hu.1 Try.underlying23 rfl (by rw [Try.infoKey, kc32])⟩) ⟨(hB.get 0 (x := ⟨w.heap.size, (kc (digs (M : Int) 32)), 23⟩) rfl), (hB.get 1 (x := ⟨w.heap.size + 1, (kc (digs (U : Int) 32)), 23⟩) rfl), (hB.get 2 (x := ⟨g3_6, (kc (digs (n1 : Int) 32)), 23⟩) rfl), trivial⟩ ?_
  simp only [Act.put, List.setIfInBounds_toArray, List.set_cons_zero, List.set_cons_succ, List.getElem_toArray, List.getElem_cons_zero, List.getElem_cons_succ]
  refine any_take (i := 5) (v := (.agg (kc (digs (U : Int) 32)))) #[true, true, true, true, true, false, false, false, false, false, false, false, false, false, false] rfl (by kernel_rfl) (by kernel_rfl) (by kernel_rfl) (by kernel_rfl) (fun _ _ _ h => h) (.inl ⟨by kernel_rfl, fun x_ hu => exec_arr x_ 23 (.tmp 3) rfl (w.heap.size + 1) (by kernel_rfl) (kc (digs (U : Int) 32)) 23 _ hu.2.1 Try.underlying23 rfl (by rw [Try.infoKey, kc32])⟩) ⟨(hB.get 0 (x := ⟨w.heap.size, (kc (digs (M : Int) 32)), 23⟩) rfl), (hB.get 1 (x := ⟨w.heap.size + 1, (kc (digs (U : Int) 32)), 23⟩) rfl), (hB.get 2 (x := ⟨g3_6, (kc (digs (n1 : Int) 32)), 23⟩) rfl), trivial⟩ ?_
  simp only [Act.put, List.setIfInBounds_toArray, List.set_cons_zero, List.set_cons_succ, List.getElem_toArray, List.getElem_cons_zero, List.getElem_cons_succ]
  refine any_one (i := 6) (by kernel_rfl) rfl (fun K hK => ?_)
  refine step_callw (by kernel_rfl) 8 #[.agg (kc (digs (M : Int) 32)), .agg (kc (digs (U : Int) 32))] (by kernel_rfl) ((rx_n M U (unhide hU) _).mono ?_)
  rintro r v6_ ⟨n2, rfl, hn2, hg⟩
  refine ⟨_, rfl, ?_⟩
  have en2 : n2 = n1 := by rw [unhide hn2, unhide hn1]
  rw [en2]
  replace hB := hB.more hg
  clear hg
  refine hK.out _ _ ⟨(hB.get 0 (x := ⟨w.heap.size, (kc (digs (M : Int) 32)), 23⟩) rfl), (hB.get 1 (x := ⟨w.heap.size + 1, (kc (digs (U : Int) 32)), 23⟩) rfl), (hB.get 2 (x := ⟨g3_6, (kc (digs (n1 : Int) 32)), 23⟩) rfl), trivial⟩ (fun _ => ?_)
  clear hK K
  simp only [Act.put, List.setIfInBounds_toArray, List.set_cons_zero, List.set_cons_succ, List.getElem_toArray, List.getElem_cons_zero, List.getElem_cons_succ]
  refine any_take (i := 7) (v := (.bool true)) #[true, true, true, true, true, true, true, false, false, false, false, false, false, false, false] rfl (by kernel_rfl) (by kernel_rfl) (by kernel_rfl) (by kernel_rfl) (fun _ _ _ h => h) (.inl ⟨by kernel_rfl, fun x_ hu => by have e := key_same (n1 : Int); go_simp⟩) ⟨(hB.get 0 (x := ⟨w.heap.size, (kc (digs (M : Int) 32)), 23⟩) rfl), (hB.get 1 (x := ⟨w.heap.size + 1, (kc (digs (U : Int) 32)), 23⟩) rfl), (hB.get 2 (x := ⟨g3_6, (kc (digs (n1 : Int) 32)), 23⟩) rfl), trivial⟩ ?_
  simp only [Act.put, List.setIfInBounds_toArray, List.set_cons_zero, List.set_cons_succ, List.getElem_toArray, List.getElem_cons_zero, List.getElem_cons_succ]
  refine any_take (i := 8) (v := (.bool true)) #[true, true, true, true, true, true, true, true, false, false, false, false, false, false, false] rfl (by kernel_rfl) (by kernel_rfl) (by kernel_rfl) (by kernel_rfl) (fun _ _ _ h => h) (.inl ⟨by kernel_rfl, fun x_ hu => by kernel_rfl⟩) ⟨(hB.get 0 (x := ⟨w.heap.size, (kc (digs (M : Int) 32)), 23⟩) rfl), (hB.get 1 (x := ⟨w.heap.size + 1, (kc (digs (U : Int) 32)), 23⟩) rfl), (hB.get 2 (x := ⟨g3_6, (kc (digs (n1 : Int) 32)), 23⟩) rfl), trivial⟩ ?_
  simp only [Act.put, List.setIfInBounds_toArray, List.set_cons_zero, List.set_cons_succ, List.getElem_toArray, List.getElem_cons_zero, List.getElem_cons_succ]
  refine any_take (i := 9) (v := (.bool true)) #[true, true, true, true, true, true, true, true, true, false, false, false, false, false, false] rfl (by kernel_rfl) (by kernel_rfl) (by kernel_rfl) (by kernel_rfl) (fun _ _ _ h => h) (.inl ⟨by kernel_rfl, fun x_ hu => by kernel_rfl⟩) ⟨(hB.get 0 (x := ⟨w.heap.size, (kc (digs (M : Int) 32)), 23⟩) rfl), (hB.get 1 (x := ⟨w.heap.size + 1, (kc (digs (U : Int) 32)), 23⟩) rfl), (hB.get 2 (x := ⟨g3_6, (kc (digs (n1 : Int) 32)), 23⟩) rfl), trivial⟩ ?_
  simp only [Act.put, List.setIfInBounds_toArray, List.set_cons_zero, List.set_cons_succ, List.getElem_toArray, List.getElem_cons_zero, List.getElem_cons_succ]
  refine any_take (i := 10) (v := (.agg (kc (digs (n1 : Int) 32)))) #[true, true, true, true, true, true, true, true, true, true, false, false, false, false, false] rfl (by kernel_rfl) (by kernel_rfl) (by kernel_rfl) (by kernel_rfl) (fun _ _ _ h => h) (.inl ⟨by kernel_rfl, fun x_ hu => exec_arr x_ 23 (.tmp 5) rfl g3_6 (by kernel_rfl) (kc (digs (n1 : Int) 32)) 23 _ hu.2.2.1 Try.underlying23 rfl (by rw [Try.infoKey, kc32])⟩) ⟨(hB.get 0 (x := ⟨w.heap.size, (kc (digs (M : Int) 32)), 23⟩) rfl), (hB.get 1 (x := ⟨w.heap.size + 1, (kc (digs (U : Int) 32)), 23⟩) rfl), (hB.get 2 (x := ⟨g3_6, (kc (digs (n1 : Int) 32)), 23⟩) rfl), trivial⟩ ?_
  simp only [Act.put, List.setIfInBounds_toArray, List.set_cons_zero, List.set_cons_succ, List.getElem_toArray, List.getElem_cons_zero, List.getElem_cons_succ]
  refine any_take (i := 11) (v := (.agg (kc (digs (0 : Int) 32)))) #[true, true, true, true, true, true, true, true, true, true, true, false, false, false, false] rfl (by kernel_rfl) (by kernel_rfl) (by kernel_rfl) (by kernel_rfl) (fun _ _ _ h => h) (.inl ⟨by kernel_rfl, fun x_ hu => by kernel_rfl⟩) ⟨(hB.get 0 (x := ⟨w.heap.size, (kc (digs (M : Int) 32)), 23⟩) rfl), (hB.get 1 (x := ⟨w.heap.size + 1, (kc (digs (U : Int) 32)), 23⟩) rfl), (hB.get 2 (x := ⟨g3_6, (kc (digs (n1 : Int) 32)), 23⟩) rfl), trivial⟩ ?_
  simp only [Act.put, List.setIfInBounds_toArray, List.set_cons_zero, List.set_cons_succ, List.getElem_toArray, List.getElem_cons_zero, List.getElem_cons_succ]
  refine any_take (i := 12) (v := (.bool true)) #[true, true, true, true, true, true, true, true, true, true, true, true, false, false, false] rfl (by kernel_rfl) (by kernel_rfl) (by kernel_rfl) (by kernel_rfl) (fun _ _ _ h => h) (.inl ⟨by kernel_rfl, fun x_ hu => by have e := key_diff (n := (n1 : Int)) (m := 0) (unhide hr1) (by omega) (unhide hz1); go_simp⟩) ⟨(hB.get 0 (x := ⟨w.heap.size, (kc (digs (M : Int) 32)), 23⟩) rfl), (hB.get 1 (x := ⟨w.heap.size + 1, (kc (digs (U : Int) 32)), 23⟩) rfl), (hB.get 2 (x := ⟨g3_6, (kc (digs (n1 : Int) 32)), 23⟩) rfl), trivial⟩ ?_
  simp only [Act.put, List.setIfInBounds_toArray, List.set_cons_zero, List.set_cons_succ, List.getElem_toArray, List.getElem_cons_zero, List.getElem_cons_succ]
  refine any_take (i := 13) (v := (.bool true)) #[true, true, true, true, true, true, true, true, true, true, true, true, true, false, false] rfl (by kernel_rfl) (by kernel_rfl) (by kernel_rfl) (by kernel_rfl) (fun _ _ _ h => h) (.inl ⟨by kernel_rfl, fun x_ hu => by kernel_rfl⟩) ⟨(hB.get 0 (x := ⟨w.heap.size, (kc (digs (M : Int) 32)), 23⟩) rfl), (hB.get 1 (x := ⟨w.heap.size + 1, (kc (digs (U : Int) 32)), 23⟩) rfl), (hB.get 2 (x := ⟨g3_6, (kc (digs (n1 : Int) 32)), 23⟩) rfl), trivial⟩ ?_
  simp only [Act.put, List.setIfInBounds_toArray, List.set_cons_zero, List.set_cons_succ, List.getElem_toArray, List.getElem_cons_zero, List.getElem_cons_succ]
  refine any_one (i := 14) (by kernel_rfl) rfl (fun K hK => ?_)
  replace hK := hide hK
  go_simp
  refine (unhide hK).out _ _ ⟨(hB.get 0 (x := ⟨w.heap.size, (kc (digs (M : Int) 32)), 23⟩) rfl), (hB.get 1 (x := ⟨w.heap.size + 1, (kc (digs (U : Int) 32)), 23⟩) rfl), (hB.get 2 (x := ⟨g3_6, (kc (digs (n1 : Int) 32)), 23⟩) rfl), trivial⟩ (fun _ => ?_)
  clear hK K
  refine any_done (by kernel_rfl) ?_
  have hG := hide hB.gr
  clear hB
  go_wp2_with fail
  refine bodyPost_ret (v := .bool true) ?_ rfl ⟨rfl, unhide hG⟩
  simp [results, Try.results4, go_sem]

theorem agrees_int (n0 n1 : Int) (h0 : 0 ≤ n0 ∧ n0 < 115792089237316195423570985008687907853269984665640564039457584007913129639936) (h1 : 0 ≤ n1 ∧ n1 < 115792089237316195423570985008687907853269984665640564039457584007913129639936) (w : World) :
    Calls Try.prog 4 #[.agg (kc (digs n0 32)), .agg (kc (digs n1 32))] w (fun r w' => r = .returned (.bool true) ∧ Gr w w') := by
  obtain ⟨M, rfl⟩ := Int.eq_ofNat_of_zero_le h0.1
  obtain ⟨U, rfl⟩ := Int.eq_ofNat_of_zero_le h1.1
  by_cases h : xN M U = 0
  · exact agrees_low M U (hide (by omega)) h ((xn_low M U).1 h) w
  · exact agrees_ok M U (hide (by omega)) h (fun k => h ((xn_low M U).2 k)) w
end Go.Proofs.Ytebgmneffpeahaa
