/-
  FieldLaws: the walk, for whatever keys.
-/
import Derived.Test.YtjncnmhigikdoabInvertsWalk
import Derived.Test.YtjncnmhigikdoabRegs3
namespace Go.Proofs.Ytjncnmhigikdoab
open Go.RowKit
set_option maxRecDepth 100000
set_option linter.unusedSimpArgs false
attribute [local go_sem ↓] Go.wp_at_zero Go.wp_at_succ

theorem laws_three (w : World) (o0 o1 o2 : Obj) : (((w.alloc o0).alloc o1).alloc o2).heap[w.heap.size]? = some o0 ∧ (((w.alloc o0).alloc o1).alloc o2).heap[w.heap.size + 1]? = some o1 ∧ (((w.alloc o0).alloc o1).alloc o2).heap[w.heap.size + 1 + 1]? = some o2 := by
  refine ⟨?_, ?_, ?_⟩ <;> (simp only [blk_alloc, size_alloc]; repeat (first | rw [if_pos trivial] | rw [if_pos (by omega)] | rw [if_neg (by omega)]))

set_option maxHeartbeats 4000000 in
theorem laws_any (n m k : Int) (hn : 0 ≤ n ∧ n < 115792089237316195423570985008687907853269984665640564039457584007913129639936) (hm : 0 ≤ m ∧ m < 115792089237316195423570985008687907853269984665640564039457584007913129639936) (hk : 0 ≤ k ∧ k < 115792089237316195423570985008687907853269984665640564039457584007913129639936) (w : World) :
    Calls Try.prog 3 #[.agg (kc (digs n 32)), .agg (kc (digs m 32)), .agg (kc (digs k 32))] w (fun r w' => r = .returned (.bool true) ∧ Gr w w') := by
  obtain ⟨LX, hLX⟩ : ∃ L, L = (digs n 32).map (Value.int .u8) := ⟨_, rfl⟩
  have eX : kc (digs n 32) = LX.toArray := by rw [hLX]; rfl
  have kX : Hid (KeyIs LX n) := hide ⟨hn.1, hLX⟩
  have HiX : Hid ((Try.prog.info? 23).map (·.size) = some LX.length) := hide (by rw [Try.infoKey, hLX, List.length_map, digs_len])
  rw [eX]
  clear hLX eX hn
  generalize hNe : n % 57896044618658097711785492504343953926634992332820282019728792003956564819968 = N
  replace hNe := hide hNe
  obtain ⟨LY, hLY⟩ : ∃ L, L = (digs m 32).map (Value.int .u8) := ⟨_, rfl⟩
  have eY : kc (digs m 32) = LY.toArray := by rw [hLY]; rfl
  have kY : Hid (KeyIs LY m) := hide ⟨hm.1, hLY⟩
  have HiY : Hid ((Try.prog.info? 23).map (·.size) = some LY.length) := hide (by rw [Try.infoKey, hLY, List.length_map, digs_len])
  rw [eY]
  clear hLY eY hm
  generalize hMe : m % 57896044618658097711785492504343953926634992332820282019728792003956564819968 = M
  replace hMe := hide hMe
  obtain ⟨LZ, hLZ⟩ : ∃ L, L = (digs k 32).map (Value.int .u8) := ⟨_, rfl⟩
  have eZ : kc (digs k 32) = LZ.toArray := by rw [hLZ]; rfl
  have kZ : Hid (KeyIs LZ k) := hide ⟨hk.1, hLZ⟩
  have HiZ : Hid ((Try.prog.info? 23).map (·.size) = some LZ.length) := hide (by rw [Try.infoKey, hLZ, List.length_map, digs_len])
  rw [eZ]
  clear hLZ eZ hk
  generalize hRe : k % 57896044618658097711785492504343953926634992332820282019728792003956564819968 = R
  replace hRe := hide hRe
  go_enter Try.func3, Try.ntmps3
  go_upto_region 3 with (go_at_call 7; refine (wakes_at' _).mono ?_; rintro r w1 ⟨rfl, hg⟩; have hG := hide (Gr.trans ((((Gr.refl w).alloc _).alloc _).alloc _) hg); have hX := hide (hg.blk (laws_three w _ _ _).1); have hY := hide (hg.blk (laws_three w _ _ _).2.1); have hZ := hide (hg.blk (laws_three w _ _ _).2.2))
  refine wp_region_held_drew (S := fun v => Gr w1.drew v) (by kernel_rfl) (Gr.refl _) (fun hHeld => ?_)
  refine wpAnyH_take (i := 0) (v := .agg LX.toArray) rfl (by kernel_rfl) (by kernel_rfl) (by kernel_rfl) (fun _ _ _ h => h) (.inl ⟨by kernel_rfl, fun u hu => exec_row u 23 (.tmp 3) rfl w.heap.size 0 (by kernel_rfl) LX (.array 32 5) (range_row (hu.blk (unhide hX))) Try.underlying23 rfl (unhide HiX)⟩) (by assumption) ?_
  simp only [Act.put, List.setIfInBounds_toArray, List.set_cons_zero, List.set_cons_succ, List.getElem_toArray, List.getElem_cons_zero, List.getElem_cons_succ]
  refine wpAnyH_take (i := 2) (v := .agg LY.toArray) rfl (by kernel_rfl) (by kernel_rfl) (by kernel_rfl) (fun _ _ _ h => h) (.inl ⟨by kernel_rfl, fun u hu => exec_row u 23 (.tmp 4) rfl (w.heap.size + 1) 0 (by kernel_rfl) LY (.array 32 5) (range_row (hu.blk (unhide hY))) Try.underlying23 rfl (unhide HiY)⟩) (by assumption) ?_
  simp only [Act.put, List.setIfInBounds_toArray, List.set_cons_zero, List.set_cons_succ, List.getElem_toArray, List.getElem_cons_zero, List.getElem_cons_succ]
  refine wpAnyH_take (i := 4) (v := .agg LZ.toArray) rfl (by kernel_rfl) (by kernel_rfl) (by kernel_rfl) (fun _ _ _ h => h) (.inl ⟨by kernel_rfl, fun u hu => exec_row u 23 (.tmp 5) rfl (w.heap.size + 1 + 1) 0 (by kernel_rfl) LZ (.array 32 5) (range_row (hu.blk (unhide hZ))) Try.underlying23 rfl (unhide HiZ)⟩) (by assumption) ?_
  simp only [Act.put, List.setIfInBounds_toArray, List.set_cons_zero, List.set_cons_succ, List.getElem_toArray, List.getElem_cons_zero, List.getElem_cons_succ]
  refine define3 w1.drew _ (fun b1 b2 b3 b4 b5 b6 b7 b8 b9 => #[true, b1, true, b2, true, b3, b4, b5, b6, b7, b8, b9]) (EC N) (EC M) (EC R) 5 5 5 29 29 29 #[.int .u64 0, .int .u64 0, .int .u64 0, .int .u64 0, .int .u64 0] #[.int .u64 0, .int .u64 0, .int .u64 0, .int .u64 0, .int .u64 0] #[.int .u64 0, .int .u64 0, .int .u64 0, .int .u64 0, .int .u64 0] 1 3 5 6 7 8 9 10 11
    rfl rfl rfl EC.size EC.size EC.size (by kernel_rfl) (fun _ _ _ _ _ _ _ _ _ => ⟨rfl, rfl, rfl, rfl, rfl, rfl, rfl, rfl, rfl⟩) ?_ ?_ ?_ ?_ ?_ ?_ ?_ ?_ ?_ ?_ _ _ _ _ (by decide +kernel) (d3_start _ _ 14 16 18 7 8 9 _ _ _ _ _ _ _ _ _ _ _ _ rfl (Gr.refl _))
  all_goals simp only [fr3, Act.put, List.setIfInBounds_toArray, List.set_cons_zero, List.set_cons_succ, List.getElem_toArray, List.getElem_cons_zero, List.getElem_cons_succ]
  · intro v1 v2 v3 q1 q2 q3 u K hu hK
    refine wpOp_step (o := _) rfl (fun K' hK' => ?_)
    replace hK' := hide hK'
    replace hK := hide hK
    go_simp
    refine (from_L _ _ (by assumption) _).mono ?_
    rintro r w2 ⟨y0, y1, y2, y3, y4, rfl, hB, hg⟩
    rw [unhide hNe] at hB
    exact unhide hK' _ _ (unhide hK _ _ ⟨y0, y1, y2, y3, y4, rfl, hB⟩ hg)
  · intro v1 v2 v3 q1 q2 q3 u K hu hK
    refine wpOp_step (o := _) rfl (fun K' hK' => ?_)
    replace hK' := hide hK'
    replace hK := hide hK
    go_simp
    refine (from_L _ _ (by assumption) _).mono ?_
    rintro r w2 ⟨y0, y1, y2, y3, y4, rfl, hB, hg⟩
    rw [unhide hMe] at hB
    exact unhide hK' _ _ (unhide hK _ _ ⟨y0, y1, y2, y3, y4, rfl, hB⟩ hg)
  · intro v1 v2 v3 q1 q2 q3 u K hu hK
    refine wpOp_step (o := _) rfl (fun K' hK' => ?_)
    replace hK' := hide hK'
    replace hK := hide hK
    go_simp
    refine (from_L _ _ (by assumption) _).mono ?_
    rintro r w2 ⟨y0, y1, y2, y3, y4, rfl, hB, hg⟩
    rw [unhide hRe] at hB
    exact unhide hK' _ _ (unhide hK _ _ ⟨y0, y1, y2, y3, y4, rfl, hB⟩ hg)
  · intro v1 v2 v3 q1 q2 q3 u K hK
    refine wpOp_step (o := _) rfl (fun K' hK' => ?_)
    replace hK' := hide hK'
    replace hK := hide hK
    go_simp
    exact unhide hK' _ _ (unhide hK)
  · intro v1 v2 v3 q1 q2 q3 u K hK
    refine wpOp_step (o := _) rfl (fun K' hK' => ?_)
    replace hK' := hide hK'
    replace hK := hide hK
    go_simp
    exact unhide hK' _ _ (unhide hK)
  · intro v1 v2 v3 q1 q2 q3 u K hK
    refine wpOp_step (o := _) rfl (fun K' hK' => ?_)
    replace hK' := hide hK'
    replace hK := hide hK
    go_simp
    exact unhide hK' _ _ (unhide hK)
  · intro c v2 v3 g q2 q3 u o K hb ho hc hK
    refine wpOp_step (o := _) rfl (fun K' hK' => ?_)
    rw [if_pos (by kernel_rfl)]
    simp only [Go.wp_at_zero, Go.wp_at_succ]
    exact wp_store_row 29 (.tmp 7) (.tmp 14) rfl g c (by kernel_rfl) (by kernel_rfl) 29 o hb (by rw [Try.infoElem, hc.size]) (by rw [ho, hc.size]) hc.one (hK' _ _ hK)
  · intro v1 c v3 q1 g q3 u o K hb ho hc hK
    refine wpOp_step (o := _) rfl (fun K' hK' => ?_)
    rw [if_pos (by kernel_rfl)]
    simp only [Go.wp_at_zero, Go.wp_at_succ]
    exact wp_store_row 29 (.tmp 8) (.tmp 16) rfl g c (by kernel_rfl) (by kernel_rfl) 29 o hb (by rw [Try.infoElem, hc.size]) (by rw [ho, hc.size]) hc.one (hK' _ _ hK)
  · intro v1 v2 c q1 q2 g u o K hb ho hc hK
    refine wpOp_step (o := _) rfl (fun K' hK' => ?_)
    rw [if_pos (by kernel_rfl)]
    simp only [Go.wp_at_zero, Go.wp_at_succ]
    exact wp_store_row 29 (.tmp 9) (.tmp 18) rfl g c (by kernel_rfl) (by kernel_rfl) 29 o hb (by rw [Try.infoElem, hc.size]) (by rw [ho, hc.size]) hc.one (hK' _ _ hK)
  rintro c1 c2 c3 g1 g2 g3 u hgu ⟨a0, a1, a2, a3, a4, rfl, hA⟩ ⟨b0, b1, b2, b3, b4, rfl, hB⟩ ⟨c0, c1, c2, c3, c4, rfl, hC⟩ hz1 hz2 hz3 hn12 hn13 hn23 hb1 hb2 hb3
  replace hG := hide (((unhide hG).drew).trans hgu)
  replace hb1 := hide hb1
  replace hb2 := hide hb2
  replace hb3 := hide hb3
  clear hgu hz1 hz2 hz3 hX hY hZ hg hHeld kX kY kZ hNe hMe hRe HiX HiY HiZ hn12 hn13 hn23
  go_upto_region 4 with fail
  have ha0 : Hid (decide ((N + M) % pp = (M + N) % pp) = true) := hide (decide_eq_true (congrArg (· % pp) (by grind)))
  have ha1 : Hid (decide ((N * M) % pp = (M * N) % pp) = true) := hide (decide_eq_true (congrArg (· % pp) (by grind)))
  have ha2 : Hid (decide ((N + M + R) % pp = (N + (M + R)) % pp) = true) := hide (decide_eq_true (congrArg (· % pp) (by grind)))
  have ha3 : Hid (decide ((N * M * R) % pp = (N * (M * R)) % pp) = true) := hide (decide_eq_true (congrArg (· % pp) (by grind)))
  refine wp_region_held_drew (S := fun x => Gr u.drew x) (by kernel_rfl) (Gr.refl _) (fun hS0 => ?_)
  refine wpAnyH_take (i := 0) (v := (.agg #[.int .u64 a0, .int .u64 a1, .int .u64 a2, .int .u64 a3, .int .u64 a4])) rfl (by kernel_rfl) (by kernel_rfl) (by kernel_rfl) (fun _ _ _ h => h) (.inl ⟨by kernel_rfl, fun u hu => exec_row u 29 (.tmp 7) rfl g1 0 (by kernel_rfl) [.int .u64 a0, .int .u64 a1, .int .u64 a2, .int .u64 a3, .int .u64 a4] _ (range_row (hu.blk (unhide hb1))) Try.underlying29 rfl Try.infoElem⟩) hS0 ?_
  simp only [Act.put, List.setIfInBounds_toArray, List.set_cons_zero, List.set_cons_succ, List.getElem_toArray, List.getElem_cons_zero, List.getElem_cons_succ]
  refine wpAnyH_take (i := 1) (v := (.agg #[.int .u64 b0, .int .u64 b1, .int .u64 b2, .int .u64 b3, .int .u64 b4])) rfl (by kernel_rfl) (by kernel_rfl) (by kernel_rfl) (fun _ _ _ h => h) (.inl ⟨by kernel_rfl, fun u hu => exec_row u 29 (.tmp 8) rfl g2 0 (by kernel_rfl) [.int .u64 b0, .int .u64 b1, .int .u64 b2, .int .u64 b3, .int .u64 b4] _ (range_row (hu.blk (unhide hb2))) Try.underlying29 rfl Try.infoElem⟩) hS0 ?_
  simp only [Act.put, List.setIfInBounds_toArray, List.set_cons_zero, List.set_cons_succ, List.getElem_toArray, List.getElem_cons_zero, List.getElem_cons_succ]
  refine wpAnyH_take (i := 3) (v := (.agg #[.int .u64 b0, .int .u64 b1, .int .u64 b2, .int .u64 b3, .int .u64 b4])) rfl (by kernel_rfl) (by kernel_rfl) (by kernel_rfl) (fun _ _ _ h => h) (.inl ⟨by kernel_rfl, fun u hu => exec_row u 29 (.tmp 8) rfl g2 0 (by kernel_rfl) [.int .u64 b0, .int .u64 b1, .int .u64 b2, .int .u64 b3, .int .u64 b4] _ (range_row (hu.blk (unhide hb2))) Try.underlying29 rfl Try.infoElem⟩) hS0 ?_
  simp only [Act.put, List.setIfInBounds_toArray, List.set_cons_zero, List.set_cons_succ, List.getElem_toArray, List.getElem_cons_zero, List.getElem_cons_succ]
  refine wpAnyH_take (i := 4) (v := (.agg #[.int .u64 a0, .int .u64 a1, .int .u64 a2, .int .u64 a3, .int .u64 a4])) rfl (by kernel_rfl) (by kernel_rfl) (by kernel_rfl) (fun _ _ _ h => h) (.inl ⟨by kernel_rfl, fun u hu => exec_row u 29 (.tmp 7) rfl g1 0 (by kernel_rfl) [.int .u64 a0, .int .u64 a1, .int .u64 a2, .int .u64 a3, .int .u64 a4] _ (range_row (hu.blk (unhide hb1))) Try.underlying29 rfl Try.infoElem⟩) hS0 ?_
  simp only [Act.put, List.setIfInBounds_toArray, List.set_cons_zero, List.set_cons_succ, List.getElem_toArray, List.getElem_cons_zero, List.getElem_cons_succ]
  refine wpAnyH_ready (rs := [2]) (by kernel_rfl) (by simp) (AllReadyH.cons (o := _) rfl (fun K hK => ?_) AllReadyH.nil)
  refine step_callw (by kernel_rfl) 9 #[(.agg #[.int .u64 a0, .int .u64 a1, .int .u64 a2, .int .u64 a3, .int .u64 a4]), (.agg #[.int .u64 b0, .int .u64 b1, .int .u64 b2, .int .u64 b3, .int .u64 b4])] (by kernel_rfl) ((add_at _ _ _ _ _ _ _ _ _ _ _ _ (by assumption) (by assumption) _).mono ?_)
  rintro r w1_ ⟨e2_0, e2_1, e2_2, e2_3, e2_4, rfl, h2_, hg⟩
  refine ⟨_, rfl, ?_⟩
  have hS1_ : Gr u.drew w1_ := Gr.trans hS0 hg
  clear hg
  refine hK.out _ _ hS1_ (fun _ => ?_)
  clear hK K
  simp only [Act.put, List.setIfInBounds_toArray, List.set_cons_zero, List.set_cons_succ, List.getElem_toArray, List.getElem_cons_zero, List.getElem_cons_succ]
  refine wpAnyH_ready (rs := [5]) (by kernel_rfl) (by simp) (AllReadyH.cons (o := _) rfl (fun K hK => ?_) AllReadyH.nil)
  refine step_callw (by kernel_rfl) 9 #[(.agg #[.int .u64 b0, .int .u64 b1, .int .u64 b2, .int .u64 b3, .int .u64 b4]), (.agg #[.int .u64 a0, .int .u64 a1, .int .u64 a2, .int .u64 a3, .int .u64 a4])] (by kernel_rfl) ((add_at _ _ _ _ _ _ _ _ _ _ _ _ (by assumption) (by assumption) _).mono ?_)
  rintro r w2_ ⟨e5_0, e5_1, e5_2, e5_3, e5_4, rfl, h5_, hg⟩
  refine ⟨_, rfl, ?_⟩
  have hS2_ : Gr u.drew w2_ := Gr.trans hS1_ hg
  clear hg
  refine hK.out _ _ hS2_ (fun _ => ?_)
  clear hK K
  simp only [Act.put, List.setIfInBounds_toArray, List.set_cons_zero, List.set_cons_succ, List.getElem_toArray, List.getElem_cons_zero, List.getElem_cons_succ]
  refine wpAnyH_ready (rs := [6]) (by kernel_rfl) (by simp) (AllReadyH.cons (o := _) rfl (fun K hK => ?_) AllReadyH.nil)
  refine step_callw (by kernel_rfl) 10 #[(.agg #[.int .u64 e2_0, .int .u64 e2_1, .int .u64 e2_2, .int .u64 e2_3, .int .u64 e2_4]), (.agg #[.int .u64 e5_0, .int .u64 e5_1, .int .u64 e5_2, .int .u64 e5_3, .int .u64 e5_4])] (by kernel_rfl) ((same_at _ _ _ _ _ _ _ _ _ _ _ _ true (by assumption) (by assumption) (by assumption) _).mono ?_)
  rintro r w3_ ⟨rfl, hg⟩
  refine ⟨_, rfl, ?_⟩
  have hS3_ : Gr u.drew w3_ := Gr.trans hS2_ hg
  clear hg
  refine hK.out _ _ hS3_ (fun _ => ?_)
  clear hK K
  simp only [Act.put, List.setIfInBounds_toArray, List.set_cons_zero, List.set_cons_succ, List.getElem_toArray, List.getElem_cons_zero, List.getElem_cons_succ]
  refine wpAnyH_take (i := 7) (v := (.bool false)) rfl (by kernel_rfl) (by kernel_rfl) (by kernel_rfl) (fun _ _ _ h => h) (.inl ⟨by kernel_rfl, fun u hu => by kernel_rfl⟩) hS3_ ?_
  simp only [Act.put, List.setIfInBounds_toArray, List.set_cons_zero, List.set_cons_succ, List.getElem_toArray, List.getElem_cons_zero, List.getElem_cons_succ]
  refine wpAnyH_take (i := 8) (v := (.bool false)) rfl (by kernel_rfl) (by kernel_rfl) (by kernel_rfl) (fun _ _ _ h => h) (.inl ⟨by kernel_rfl, fun u hu => by kernel_rfl⟩) hS3_ ?_
  simp only [Act.put, List.setIfInBounds_toArray, List.set_cons_zero, List.set_cons_succ, List.getElem_toArray, List.getElem_cons_zero, List.getElem_cons_succ]
  refine wpAnyH_take (i := 9) (v := (.agg #[.int .u64 a0, .int .u64 a1, .int .u64 a2, .int .u64 a3, .int .u64 a4])) rfl (by kernel_rfl) (by kernel_rfl) (by kernel_rfl) (fun _ _ _ h => h) (.inl ⟨by kernel_rfl, fun u hu => exec_row u 29 (.tmp 7) rfl g1 0 (by kernel_rfl) [.int .u64 a0, .int .u64 a1, .int .u64 a2, .int .u64 a3, .int .u64 a4] _ (range_row (hu.blk (unhide hb1))) Try.underlying29 rfl Try.infoElem⟩) hS3_ ?_
  simp only [Act.put, List.setIfInBounds_toArray, List.set_cons_zero, List.set_cons_succ, List.getElem_toArray, List.getElem_cons_zero, List.getElem_cons_succ]
  refine wpAnyH_take (i := 10) (v := (.agg #[.int .u64 b0, .int .u64 b1, .int .u64 b2, .int .u64 b3, .int .u64 b4])) rfl (by kernel_rfl) (by kernel_rfl) (by kernel_rfl) (fun _ _ _ h => h) (.inl ⟨by kernel_rfl, fun u hu => exec_row u 29 (.tmp 8) rfl g2 0 (by kernel_rfl) [.int .u64 b0, .int .u64 b1, .int .u64 b2, .int .u64 b3, .int .u64 b4] _ (range_row (hu.blk (unhide hb2))) Try.underlying29 rfl Try.infoElem⟩) hS3_ ?_
  simp only [Act.put, List.setIfInBounds_toArray, List.set_cons_zero, List.set_cons_succ, List.getElem_toArray, List.getElem_cons_zero, List.getElem_cons_succ]
  refine wpAnyH_take (i := 12) (v := (.agg #[.int .u64 b0, .int .u64 b1, .int .u64 b2, .int .u64 b3, .int .u64 b4])) rfl (by kernel_rfl) (by kernel_rfl) (by kernel_rfl) (fun _ _ _ h => h) (.inl ⟨by kernel_rfl, fun u hu => exec_row u 29 (.tmp 8) rfl g2 0 (by kernel_rfl) [.int .u64 b0, .int .u64 b1, .int .u64 b2, .int .u64 b3, .int .u64 b4] _ (range_row (hu.blk (unhide hb2))) Try.underlying29 rfl Try.infoElem⟩) hS3_ ?_
  simp only [Act.put, List.setIfInBounds_toArray, List.set_cons_zero, List.set_cons_succ, List.getElem_toArray, List.getElem_cons_zero, List.getElem_cons_succ]
  refine wpAnyH_take (i := 13) (v := (.agg #[.int .u64 a0, .int .u64 a1, .int .u64 a2, .int .u64 a3, .int .u64 a4])) rfl (by kernel_rfl) (by kernel_rfl) (by kernel_rfl) (fun _ _ _ h => h) (.inl ⟨by kernel_rfl, fun u hu => exec_row u 29 (.tmp 7) rfl g1 0 (by kernel_rfl) [.int .u64 a0, .int .u64 a1, .int .u64 a2, .int .u64 a3, .int .u64 a4] _ (range_row (hu.blk (unhide hb1))) Try.underlying29 rfl Try.infoElem⟩) hS3_ ?_
  simp only [Act.put, List.setIfInBounds_toArray, List.set_cons_zero, List.set_cons_succ, List.getElem_toArray, List.getElem_cons_zero, List.getElem_cons_succ]
  refine wpAnyH_ready (rs := [11]) (by kernel_rfl) (by simp) (AllReadyH.cons (o := _) rfl (fun K hK => ?_) AllReadyH.nil)
  refine step_callw (by kernel_rfl) 11 #[(.agg #[.int .u64 a0, .int .u64 a1, .int .u64 a2, .int .u64 a3, .int .u64 a4]), (.agg #[.int .u64 b0, .int .u64 b1, .int .u64 b2, .int .u64 b3, .int .u64 b4])] (by kernel_rfl) ((mul_at _ _ _ _ _ _ _ _ _ _ _ _ (by assumption) (by assumption) _).mono ?_)
  rintro r w4_ ⟨e11_0, e11_1, e11_2, e11_3, e11_4, rfl, h11_, hg⟩
  refine ⟨_, rfl, ?_⟩
  have hS4_ : Gr u.drew w4_ := Gr.trans hS3_ hg
  clear hg
  refine hK.out _ _ hS4_ (fun _ => ?_)
  clear hK K
  simp only [Act.put, List.setIfInBounds_toArray, List.set_cons_zero, List.set_cons_succ, List.getElem_toArray, List.getElem_cons_zero, List.getElem_cons_succ]
  refine wpAnyH_ready (rs := [14]) (by kernel_rfl) (by simp) (AllReadyH.cons (o := _) rfl (fun K hK => ?_) AllReadyH.nil)
  refine step_callw (by kernel_rfl) 11 #[(.agg #[.int .u64 b0, .int .u64 b1, .int .u64 b2, .int .u64 b3, .int .u64 b4]), (.agg #[.int .u64 a0, .int .u64 a1, .int .u64 a2, .int .u64 a3, .int .u64 a4])] (by kernel_rfl) ((mul_at _ _ _ _ _ _ _ _ _ _ _ _ (by assumption) (by assumption) _).mono ?_)
  rintro r w5_ ⟨e14_0, e14_1, e14_2, e14_3, e14_4, rfl, h14_, hg⟩
  refine ⟨_, rfl, ?_⟩
  have hS5_ : Gr u.drew w5_ := Gr.trans hS4_ hg
  clear hg
  refine hK.out _ _ hS5_ (fun _ => ?_)
  clear hK K
  simp only [Act.put, List.setIfInBounds_toArray, List.set_cons_zero, List.set_cons_succ, List.getElem_toArray, List.getElem_cons_zero, List.getElem_cons_succ]
  refine wpAnyH_ready (rs := [15]) (by kernel_rfl) (by simp) (AllReadyH.cons (o := _) rfl (fun K hK => ?_) AllReadyH.nil)
  refine step_callw (by kernel_rfl) 10 #[(.agg #[.int .u64 e11_0, .int .u64 e11_1, .int .u64 e11_2, .int .u64 e11_3, .int .u64 e11_4]), (.agg #[.int .u64 e14_0, .int .u64 e14_1, .int .u64 e14_2, .int .u64 e14_3, .int .u64 e14_4])] (by kernel_rfl) ((same_at _ _ _ _ _ _ _ _ _ _ _ _ true (by assumption) (by assumption) (by assumption) _).mono ?_)
  rintro r w6_ ⟨rfl, hg⟩
  refine ⟨_, rfl, ?_⟩
  have hS6_ : Gr u.drew w6_ := Gr.trans hS5_ hg
  clear hg
  refine hK.out _ _ hS6_ (fun _ => ?_)
  clear hK K
  simp only [Act.put, List.setIfInBounds_toArray, List.set_cons_zero, List.set_cons_succ, List.getElem_toArray, List.getElem_cons_zero, List.getElem_cons_succ]
  refine wpAnyH_take (i := 16) (v := (.bool false)) rfl (by kernel_rfl) (by kernel_rfl) (by kernel_rfl) (fun _ _ _ h => h) (.inl ⟨by kernel_rfl, fun u hu => by kernel_rfl⟩) hS6_ ?_
  simp only [Act.put, List.setIfInBounds_toArray, List.set_cons_zero, List.set_cons_succ, List.getElem_toArray, List.getElem_cons_zero, List.getElem_cons_succ]
  refine wpAnyH_take (i := 17) (v := (.bool false)) rfl (by kernel_rfl) (by kernel_rfl) (by kernel_rfl) (fun _ _ _ h => h) (.inl ⟨by kernel_rfl, fun u hu => by kernel_rfl⟩) hS6_ ?_
  simp only [Act.put, List.setIfInBounds_toArray, List.set_cons_zero, List.set_cons_succ, List.getElem_toArray, List.getElem_cons_zero, List.getElem_cons_succ]
  refine wpAnyH_take (i := 18) (v := (.bool false)) rfl (by kernel_rfl) (by kernel_rfl) (by kernel_rfl) (fun _ _ _ h => h) (.inl ⟨by kernel_rfl, fun u hu => by kernel_rfl⟩) hS6_ ?_
  simp only [Act.put, List.setIfInBounds_toArray, List.set_cons_zero, List.set_cons_succ, List.getElem_toArray, List.getElem_cons_zero, List.getElem_cons_succ]
  refine wpAnyH_take (i := 19) (v := (.agg #[.int .u64 a0, .int .u64 a1, .int .u64 a2, .int .u64 a3, .int .u64 a4])) rfl (by kernel_rfl) (by kernel_rfl) (by kernel_rfl) (fun _ _ _ h => h) (.inl ⟨by kernel_rfl, fun u hu => exec_row u 29 (.tmp 7) rfl g1 0 (by kernel_rfl) [.int .u64 a0, .int .u64 a1, .int .u64 a2, .int .u64 a3, .int .u64 a4] _ (range_row (hu.blk (unhide hb1))) Try.underlying29 rfl Try.infoElem⟩) hS6_ ?_
  simp only [Act.put, List.setIfInBounds_toArray, List.set_cons_zero, List.set_cons_succ, List.getElem_toArray, List.getElem_cons_zero, List.getElem_cons_succ]
  refine wpAnyH_take (i := 20) (v := (.agg #[.int .u64 b0, .int .u64 b1, .int .u64 b2, .int .u64 b3, .int .u64 b4])) rfl (by kernel_rfl) (by kernel_rfl) (by kernel_rfl) (fun _ _ _ h => h) (.inl ⟨by kernel_rfl, fun u hu => exec_row u 29 (.tmp 8) rfl g2 0 (by kernel_rfl) [.int .u64 b0, .int .u64 b1, .int .u64 b2, .int .u64 b3, .int .u64 b4] _ (range_row (hu.blk (unhide hb2))) Try.underlying29 rfl Try.infoElem⟩) hS6_ ?_
  simp only [Act.put, List.setIfInBounds_toArray, List.set_cons_zero, List.set_cons_succ, List.getElem_toArray, List.getElem_cons_zero, List.getElem_cons_succ]
  refine wpAnyH_take (i := 22) (v := (.agg #[.int .u64 c0, .int .u64 c1, .int .u64 c2, .int .u64 c3, .int .u64 c4])) rfl (by kernel_rfl) (by kernel_rfl) (by kernel_rfl) (fun _ _ _ h => h) (.inl ⟨by kernel_rfl, fun u hu => exec_row u 29 (.tmp 9) rfl g3 0 (by kernel_rfl) [.int .u64 c0, .int .u64 c1, .int .u64 c2, .int .u64 c3, .int .u64 c4] _ (range_row (hu.blk (unhide hb3))) Try.underlying29 rfl Try.infoElem⟩) hS6_ ?_
  simp only [Act.put, List.setIfInBounds_toArray, List.set_cons_zero, List.set_cons_succ, List.getElem_toArray, List.getElem_cons_zero, List.getElem_cons_succ]
  refine wpAnyH_take (i := 24) (v := (.agg #[.int .u64 a0, .int .u64 a1, .int .u64 a2, .int .u64 a3, .int .u64 a4])) rfl (by kernel_rfl) (by kernel_rfl) (by kernel_rfl) (fun _ _ _ h => h) (.inl ⟨by kernel_rfl, fun u hu => exec_row u 29 (.tmp 7) rfl g1 0 (by kernel_rfl) [.int .u64 a0, .int .u64 a1, .int .u64 a2, .int .u64 a3, .int .u64 a4] _ (range_row (hu.blk (unhide hb1))) Try.underlying29 rfl Try.infoElem⟩) hS6_ ?_
  simp only [Act.put, List.setIfInBounds_toArray, List.set_cons_zero, List.set_cons_succ, List.getElem_toArray, List.getElem_cons_zero, List.getElem_cons_succ]
  refine wpAnyH_take (i := 25) (v := (.agg #[.int .u64 b0, .int .u64 b1, .int .u64 b2, .int .u64 b3, .int .u64 b4])) rfl (by kernel_rfl) (by kernel_rfl) (by kernel_rfl) (fun _ _ _ h => h) (.inl ⟨by kernel_rfl, fun u hu => exec_row u 29 (.tmp 8) rfl g2 0 (by kernel_rfl) [.int .u64 b0, .int .u64 b1, .int .u64 b2, .int .u64 b3, .int .u64 b4] _ (range_row (hu.blk (unhide hb2))) Try.underlying29 rfl Try.infoElem⟩) hS6_ ?_
  simp only [Act.put, List.setIfInBounds_toArray, List.set_cons_zero, List.set_cons_succ, List.getElem_toArray, List.getElem_cons_zero, List.getElem_cons_succ]
  refine wpAnyH_take (i := 26) (v := (.agg #[.int .u64 c0, .int .u64 c1, .int .u64 c2, .int .u64 c3, .int .u64 c4])) rfl (by kernel_rfl) (by kernel_rfl) (by kernel_rfl) (fun _ _ _ h => h) (.inl ⟨by kernel_rfl, fun u hu => exec_row u 29 (.tmp 9) rfl g3 0 (by kernel_rfl) [.int .u64 c0, .int .u64 c1, .int .u64 c2, .int .u64 c3, .int .u64 c4] _ (range_row (hu.blk (unhide hb3))) Try.underlying29 rfl Try.infoElem⟩) hS6_ ?_
  simp only [Act.put, List.setIfInBounds_toArray, List.set_cons_zero, List.set_cons_succ, List.getElem_toArray, List.getElem_cons_zero, List.getElem_cons_succ]
  refine wpAnyH_ready (rs := [21]) (by kernel_rfl) (by simp) (AllReadyH.cons (o := _) rfl (fun K hK => ?_) AllReadyH.nil)
  refine step_callw (by kernel_rfl) 9 #[(.agg #[.int .u64 a0, .int .u64 a1, .int .u64 a2, .int .u64 a3, .int .u64 a4]), (.agg #[.int .u64 b0, .int .u64 b1, .int .u64 b2, .int .u64 b3, .int .u64 b4])] (by kernel_rfl) ((add_at _ _ _ _ _ _ _ _ _ _ _ _ (by assumption) (by assumption) _).mono ?_)
  rintro r w7_ ⟨e21_0, e21_1, e21_2, e21_3, e21_4, rfl, h21_, hg⟩
  refine ⟨_, rfl, ?_⟩
  have hS7_ : Gr u.drew w7_ := Gr.trans hS6_ hg
  clear hg
  refine hK.out _ _ hS7_ (fun _ => ?_)
  clear hK K
  simp only [Act.put, List.setIfInBounds_toArray, List.set_cons_zero, List.set_cons_succ, List.getElem_toArray, List.getElem_cons_zero, List.getElem_cons_succ]
  refine wpAnyH_ready (rs := [23]) (by kernel_rfl) (by simp) (AllReadyH.cons (o := _) rfl (fun K hK => ?_) AllReadyH.nil)
  refine step_callw (by kernel_rfl) 9 #[(.agg #[.int .u64 e21_0, .int .u64 e21_1, .int .u64 e21_2, .int .u64 e21_3, .int .u64 e21_4]), (.agg #[.int .u64 c0, .int .u64 c1, .int .u64 c2, .int .u64 c3, .int .u64 c4])] (by kernel_rfl) ((add_at _ _ _ _ _ _ _ _ _ _ _ _ (by assumption) (by assumption) _).mono ?_)
  rintro r w8_ ⟨e23_0, e23_1, e23_2, e23_3, e23_4, rfl, h23_, hg⟩
  refine ⟨_, rfl, ?_⟩
  have hS8_ : Gr u.drew w8_ := Gr.trans hS7_ hg
  clear hg
  refine hK.out _ _ hS8_ (fun _ => ?_)
  clear hK K
  simp only [Act.put, List.setIfInBounds_toArray, List.set_cons_zero, List.set_cons_succ, List.getElem_toArray, List.getElem_cons_zero, List.getElem_cons_succ]
  refine wpAnyH_ready (rs := [27]) (by kernel_rfl) (by simp) (AllReadyH.cons (o := _) rfl (fun K hK => ?_) AllReadyH.nil)
  refine step_callw (by kernel_rfl) 9 #[(.agg #[.int .u64 b0, .int .u64 b1, .int .u64 b2, .int .u64 b3, .int .u64 b4]), (.agg #[.int .u64 c0, .int .u64 c1, .int .u64 c2, .int .u64 c3, .int .u64 c4])] (by kernel_rfl) ((add_at _ _ _ _ _ _ _ _ _ _ _ _ (by assumption) (by assumption) _).mono ?_)
  rintro r w9_ ⟨e27_0, e27_1, e27_2, e27_3, e27_4, rfl, h27_, hg⟩
  refine ⟨_, rfl, ?_⟩
  have hS9_ : Gr u.drew w9_ := Gr.trans hS8_ hg
  clear hg
  refine hK.out _ _ hS9_ (fun _ => ?_)
  clear hK K
  simp only [Act.put, List.setIfInBounds_toArray, List.set_cons_zero, List.set_cons_succ, List.getElem_toArray, List.getElem_cons_zero, List.getElem_cons_succ]
  refine wpAnyH_ready (rs := [28]) (by kernel_rfl) (by simp) (AllReadyH.cons (o := _) rfl (fun K hK => ?_) AllReadyH.nil)
  refine step_callw (by kernel_rfl) 9 #[(.agg #[.int .u64 a0, .int .u64 a1, .int .u64 a2, .int .u64 a3, .int .u64 a4]), (.agg #[.int .u64 e27_0, .int .u64 e27_1, .int .u64 e27_2, .int .u64 e27_3, .int .u64 e27_4])] (by kernel_rfl) ((add_at _ _ _ _ _ _ _ _ _ _ _ _ (by assumption) (by assumption) _).mono ?_)
  rintro r w10_ ⟨e28_0, e28_1, e28_2, e28_3, e28_4, rfl, h28_, hg⟩
  refine ⟨_, rfl, ?_⟩
  have hS10_ : Gr u.drew w10_ := Gr.trans hS9_ hg
  clear hg
  refine hK.out _ _ hS10_ (fun _ => ?_)
  clear hK K
  simp only [Act.put, List.setIfInBounds_toArray, List.set_cons_zero, List.set_cons_succ, List.getElem_toArray, List.getElem_cons_zero, List.getElem_cons_succ]
  refine wpAnyH_ready (rs := [29]) (by kernel_rfl) (by simp) (AllReadyH.cons (o := _) rfl (fun K hK => ?_) AllReadyH.nil)
  refine step_callw (by kernel_rfl) 10 #[(.agg #[.int .u64 e23_0, .int .u64 e23_1, .int .u64 e23_2, .int .u64 e23_3, .int .u64 e23_4]), (.agg #[.int .u64 e28_0, .int .u64 e28_1, .int .u64 e28_2, .int .u64 e28_3, .int .u64 e28_4])] (by kernel_rfl) ((same_at _ _ _ _ _ _ _ _ _ _ _ _ true (by assumption) (by assumption) (by assumption) _).mono ?_)
  rintro r w11_ ⟨rfl, hg⟩
  refine ⟨_, rfl, ?_⟩
  have hS11_ : Gr u.drew w11_ := Gr.trans hS10_ hg
  clear hg
  refine hK.out _ _ hS11_ (fun _ => ?_)
  clear hK K
  simp only [Act.put, List.setIfInBounds_toArray, List.set_cons_zero, List.set_cons_succ, List.getElem_toArray, List.getElem_cons_zero, List.getElem_cons_succ]
  refine wpAnyH_take (i := 30) (v := (.bool false)) rfl (by kernel_rfl) (by kernel_rfl) (by kernel_rfl) (fun _ _ _ h => h) (.inl ⟨by kernel_rfl, fun u hu => by kernel_rfl⟩) hS11_ ?_
  simp only [Act.put, List.setIfInBounds_toArray, List.set_cons_zero, List.set_cons_succ, List.getElem_toArray, List.getElem_cons_zero, List.getElem_cons_succ]
  refine wpAnyH_take (i := 31) (v := (.bool false)) rfl (by kernel_rfl) (by kernel_rfl) (by kernel_rfl) (fun _ _ _ h => h) (.inl ⟨by kernel_rfl, fun u hu => by kernel_rfl⟩) hS11_ ?_
  simp only [Act.put, List.setIfInBounds_toArray, List.set_cons_zero, List.set_cons_succ, List.getElem_toArray, List.getElem_cons_zero, List.getElem_cons_succ]
  refine wpAnyH_take (i := 32) (v := (.bool false)) rfl (by kernel_rfl) (by kernel_rfl) (by kernel_rfl) (fun _ _ _ h => h) (.inl ⟨by kernel_rfl, fun u hu => by kernel_rfl⟩) hS11_ ?_
  simp only [Act.put, List.setIfInBounds_toArray, List.set_cons_zero, List.set_cons_succ, List.getElem_toArray, List.getElem_cons_zero, List.getElem_cons_succ]
  refine wpAnyH_take (i := 33) (v := (.agg #[.int .u64 a0, .int .u64 a1, .int .u64 a2, .int .u64 a3, .int .u64 a4])) rfl (by kernel_rfl) (by kernel_rfl) (by kernel_rfl) (fun _ _ _ h => h) (.inl ⟨by kernel_rfl, fun u hu => exec_row u 29 (.tmp 7) rfl g1 0 (by kernel_rfl) [.int .u64 a0, .int .u64 a1, .int .u64 a2, .int .u64 a3, .int .u64 a4] _ (range_row (hu.blk (unhide hb1))) Try.underlying29 rfl Try.infoElem⟩) hS11_ ?_
  simp only [Act.put, List.setIfInBounds_toArray, List.set_cons_zero, List.set_cons_succ, List.getElem_toArray, List.getElem_cons_zero, List.getElem_cons_succ]
  refine wpAnyH_take (i := 34) (v := (.agg #[.int .u64 b0, .int .u64 b1, .int .u64 b2, .int .u64 b3, .int .u64 b4])) rfl (by kernel_rfl) (by kernel_rfl) (by kernel_rfl) (fun _ _ _ h => h) (.inl ⟨by kernel_rfl, fun u hu => exec_row u 29 (.tmp 8) rfl g2 0 (by kernel_rfl) [.int .u64 b0, .int .u64 b1, .int .u64 b2, .int .u64 b3, .int .u64 b4] _ (range_row (hu.blk (unhide hb2))) Try.underlying29 rfl Try.infoElem⟩) hS11_ ?_
  simp only [Act.put, List.setIfInBounds_toArray, List.set_cons_zero, List.set_cons_succ, List.getElem_toArray, List.getElem_cons_zero, List.getElem_cons_succ]
  refine wpAnyH_take (i := 36) (v := (.agg #[.int .u64 c0, .int .u64 c1, .int .u64 c2, .int .u64 c3, .int .u64 c4])) rfl (by kernel_rfl) (by kernel_rfl) (by kernel_rfl) (fun _ _ _ h => h) (.inl ⟨by kernel_rfl, fun u hu => exec_row u 29 (.tmp 9) rfl g3 0 (by kernel_rfl) [.int .u64 c0, .int .u64 c1, .int .u64 c2, .int .u64 c3, .int .u64 c4] _ (range_row (hu.blk (unhide hb3))) Try.underlying29 rfl Try.infoElem⟩) hS11_ ?_
  simp only [Act.put, List.setIfInBounds_toArray, List.set_cons_zero, List.set_cons_succ, List.getElem_toArray, List.getElem_cons_zero, List.getElem_cons_succ]
  refine wpAnyH_take (i := 38) (v := (.agg #[.int .u64 a0, .int .u64 a1, .int .u64 a2, .int .u64 a3, .int .u64 a4])) rfl (by kernel_rfl) (by kernel_rfl) (by kernel_rfl) (fun _ _ _ h => h) (.inl ⟨by kernel_rfl, fun u hu => exec_row u 29 (.tmp 7) rfl g1 0 (by kernel_rfl) [.int .u64 a0, .int .u64 a1, .int .u64 a2, .int .u64 a3, .int .u64 a4] _ (range_row (hu.blk (unhide hb1))) Try.underlying29 rfl Try.infoElem⟩) hS11_ ?_
  simp only [Act.put, List.setIfInBounds_toArray, List.set_cons_zero, List.set_cons_succ, List.getElem_toArray, List.getElem_cons_zero, List.getElem_cons_succ]
  refine wpAnyH_take (i := 39) (v := (.agg #[.int .u64 b0, .int .u64 b1, .int .u64 b2, .int .u64 b3, .int .u64 b4])) rfl (by kernel_rfl) (by kernel_rfl) (by kernel_rfl) (fun _ _ _ h => h) (.inl ⟨by kernel_rfl, fun u hu => exec_row u 29 (.tmp 8) rfl g2 0 (by kernel_rfl) [.int .u64 b0, .int .u64 b1, .int .u64 b2, .int .u64 b3, .int .u64 b4] _ (range_row (hu.blk (unhide hb2))) Try.underlying29 rfl Try.infoElem⟩) hS11_ ?_
  simp only [Act.put, List.setIfInBounds_toArray, List.set_cons_zero, List.set_cons_succ, List.getElem_toArray, List.getElem_cons_zero, List.getElem_cons_succ]
  refine wpAnyH_take (i := 40) (v := (.agg #[.int .u64 c0, .int .u64 c1, .int .u64 c2, .int .u64 c3, .int .u64 c4])) rfl (by kernel_rfl) (by kernel_rfl) (by kernel_rfl) (fun _ _ _ h => h) (.inl ⟨by kernel_rfl, fun u hu => exec_row u 29 (.tmp 9) rfl g3 0 (by kernel_rfl) [.int .u64 c0, .int .u64 c1, .int .u64 c2, .int .u64 c3, .int .u64 c4] _ (range_row (hu.blk (unhide hb3))) Try.underlying29 rfl Try.infoElem⟩) hS11_ ?_
  simp only [Act.put, List.setIfInBounds_toArray, List.set_cons_zero, List.set_cons_succ, List.getElem_toArray, List.getElem_cons_zero, List.getElem_cons_succ]
  refine wpAnyH_ready (rs := [35]) (by kernel_rfl) (by simp) (AllReadyH.cons (o := _) rfl (fun K hK => ?_) AllReadyH.nil)
  refine step_callw (by kernel_rfl) 11 #[(.agg #[.int .u64 a0, .int .u64 a1, .int .u64 a2, .int .u64 a3, .int .u64 a4]), (.agg #[.int .u64 b0, .int .u64 b1, .int .u64 b2, .int .u64 b3, .int .u64 b4])] (by kernel_rfl) ((mul_at _ _ _ _ _ _ _ _ _ _ _ _ (by assumption) (by assumption) _).mono ?_)
  rintro r w12_ ⟨e35_0, e35_1, e35_2, e35_3, e35_4, rfl, h35_, hg⟩
  refine ⟨_, rfl, ?_⟩
  have hS12_ : Gr u.drew w12_ := Gr.trans hS11_ hg
  clear hg
  refine hK.out _ _ hS12_ (fun _ => ?_)
  clear hK K
  simp only [Act.put, List.setIfInBounds_toArray, List.set_cons_zero, List.set_cons_succ, List.getElem_toArray, List.getElem_cons_zero, List.getElem_cons_succ]
  refine wpAnyH_ready (rs := [37]) (by kernel_rfl) (by simp) (AllReadyH.cons (o := _) rfl (fun K hK => ?_) AllReadyH.nil)
  refine step_callw (by kernel_rfl) 11 #[(.agg #[.int .u64 e35_0, .int .u64 e35_1, .int .u64 e35_2, .int .u64 e35_3, .int .u64 e35_4]), (.agg #[.int .u64 c0, .int .u64 c1, .int .u64 c2, .int .u64 c3, .int .u64 c4])] (by kernel_rfl) ((mul_at _ _ _ _ _ _ _ _ _ _ _ _ (by assumption) (by assumption) _).mono ?_)
  rintro r w13_ ⟨e37_0, e37_1, e37_2, e37_3, e37_4, rfl, h37_, hg⟩
  refine ⟨_, rfl, ?_⟩
  have hS13_ : Gr u.drew w13_ := Gr.trans hS12_ hg
  clear hg
  refine hK.out _ _ hS13_ (fun _ => ?_)
  clear hK K
  simp only [Act.put, List.setIfInBounds_toArray, List.set_cons_zero, List.set_cons_succ, List.getElem_toArray, List.getElem_cons_zero, List.getElem_cons_succ]
  refine wpAnyH_ready (rs := [41]) (by kernel_rfl) (by simp) (AllReadyH.cons (o := _) rfl (fun K hK => ?_) AllReadyH.nil)
  refine step_callw (by kernel_rfl) 11 #[(.agg #[.int .u64 b0, .int .u64 b1, .int .u64 b2, .int .u64 b3, .int .u64 b4]), (.agg #[.int .u64 c0, .int .u64 c1, .int .u64 c2, .int .u64 c3, .int .u64 c4])] (by kernel_rfl) ((mul_at _ _ _ _ _ _ _ _ _ _ _ _ (by assumption) (by assumption) _).mono ?_)
  rintro r w14_ ⟨e41_0, e41_1, e41_2, e41_3, e41_4, rfl, h41_, hg⟩
  refine ⟨_, rfl, ?_⟩
  have hS14_ : Gr u.drew w14_ := Gr.trans hS13_ hg
  clear hg
  refine hK.out _ _ hS14_ (fun _ => ?_)
  clear hK K
  simp only [Act.put, List.setIfInBounds_toArray, List.set_cons_zero, List.set_cons_succ, List.getElem_toArray, List.getElem_cons_zero, List.getElem_cons_succ]
  refine wpAnyH_ready (rs := [42]) (by kernel_rfl) (by simp) (AllReadyH.cons (o := _) rfl (fun K hK => ?_) AllReadyH.nil)
  refine step_callw (by kernel_rfl) 11 #[(.agg #[.int .u64 a0, .int .u64 a1, .int .u64 a2, .int .u64 a3, .int .u64 a4]), (.agg #[.int .u64 e41_0, .int .u64 e41_1, .int .u64 e41_2, .int .u64 e41_3, .int .u64 e41_4])] (by kernel_rfl) ((mul_at _ _ _ _ _ _ _ _ _ _ _ _ (by assumption) (by assumption) _).mono ?_)
  rintro r w15_ ⟨e42_0, e42_1, e42_2, e42_3, e42_4, rfl, h42_, hg⟩
  refine ⟨_, rfl, ?_⟩
  have hS15_ : Gr u.drew w15_ := Gr.trans hS14_ hg
  clear hg
  refine hK.out _ _ hS15_ (fun _ => ?_)
  clear hK K
  simp only [Act.put, List.setIfInBounds_toArray, List.set_cons_zero, List.set_cons_succ, List.getElem_toArray, List.getElem_cons_zero, List.getElem_cons_succ]
  refine wpAnyH_ready (rs := [43]) (by kernel_rfl) (by simp) (AllReadyH.cons (o := _) rfl (fun K hK => ?_) AllReadyH.nil)
  refine step_callw (by kernel_rfl) 10 #[(.agg #[.int .u64 e37_0, .int .u64 e37_1, .int .u64 e37_2, .int .u64 e37_3, .int .u64 e37_4]), (.agg #[.int .u64 e42_0, .int .u64 e42_1, .int .u64 e42_2, .int .u64 e42_3, .int .u64 e42_4])] (by kernel_rfl) ((same_at _ _ _ _ _ _ _ _ _ _ _ _ true (by assumption) (by assumption) (by assumption) _).mono ?_)
  rintro r w16_ ⟨rfl, hg⟩
  refine ⟨_, rfl, ?_⟩
  have hS16_ : Gr u.drew w16_ := Gr.trans hS15_ hg
  clear hg
  refine hK.out _ _ hS16_ (fun _ => ?_)
  clear hK K
  simp only [Act.put, List.setIfInBounds_toArray, List.set_cons_zero, List.set_cons_succ, List.getElem_toArray, List.getElem_cons_zero, List.getElem_cons_succ]
  refine wpAnyH_take (i := 44) (v := (.bool false)) rfl (by kernel_rfl) (by kernel_rfl) (by kernel_rfl) (fun _ _ _ h => h) (.inl ⟨by kernel_rfl, fun u hu => by kernel_rfl⟩) hS16_ ?_
  simp only [Act.put, List.setIfInBounds_toArray, List.set_cons_zero, List.set_cons_succ, List.getElem_toArray, List.getElem_cons_zero, List.getElem_cons_succ]
  refine wpAnyH_take (i := 45) (v := (.bool false)) rfl (by kernel_rfl) (by kernel_rfl) (by kernel_rfl) (fun _ _ _ h => h) (.inl ⟨by kernel_rfl, fun u hu => by kernel_rfl⟩) hS16_ ?_
  simp only [Act.put, List.setIfInBounds_toArray, List.set_cons_zero, List.set_cons_succ, List.getElem_toArray, List.getElem_cons_zero, List.getElem_cons_succ]
  refine wpAnyH_done (by kernel_rfl) ?_ _
  replace hb1 := hide ((Gr.trans ((Gr.refl _).drew) hS16_).blk (unhide hb1))
  replace hb2 := hide ((Gr.trans ((Gr.refl _).drew) hS16_).blk (unhide hb2))
  replace hb3 := hide ((Gr.trans ((Gr.refl _).drew) hS16_).blk (unhide hb3))
  replace hG := hide ((unhide hG).trans (Gr.trans ((Gr.refl _).drew) hS16_))
  clear ha0 ha1 ha2 ha3 hS1_ hS2_ hS3_ hS4_ hS5_ hS6_ hS7_ hS8_ hS9_ hS10_ hS11_ hS12_ hS13_ hS14_ hS15_ hS16_ hS0
  go_upto_region 7 with (go_at_call 12; refine (of_at _ (by omega) _).mono ?_; rintro r w3 ⟨i0, i1, i2, i3, i4, rfl, hI, hg⟩)
  have gA := (Gr.refl w3).alloc (.cells #[.int .u64 i0, .int .u64 i1, .int .u64 i2, .int .u64 i3, .int .u64 i4] 29 (0, 0))
  replace hb1 := hide (gA.blk (hg.blk (unhide hb1)))
  replace hb2 := hide (gA.blk (hg.blk (unhide hb2)))
  replace hb3 := hide (gA.blk (hg.blk (unhide hb3)))
  have hb4 := hide (blk_new w3 (.cells #[.int .u64 i0, .int .u64 i1, .int .u64 i2, .int .u64 i3, .int .u64 i4] 29 (0, 0)))
  replace hG := hide ((unhide hG).trans (hg.trans gA))
  clear hg gA
  generalize w3.heap.size = g4 at *
  generalize w3.alloc _ = v at *
  have ha0 : Hid (decide (((N + M) * R) % pp = (N * R + M * R) % pp) = true) := hide (decide_eq_true (congrArg (· % pp) (by grind)))
  have ha1 : Hid (decide ((N + M - M) % pp = N % pp) = true) := hide (decide_eq_true (congrArg (· % pp) (by grind)))
  have ha2 : Hid (decide ((N * 1) % pp = N % pp) = true) := hide (decide_eq_true (congrArg (· % pp) (by grind)))
  have ha3 : Hid (decide ((N + 0) % pp = N % pp) = true) := hide (decide_eq_true (congrArg (· % pp) (by grind)))
  have ha4 : Hid (decide ((N * N) % pp = (N * N) % pp) = true) := hide (decide_eq_true (congrArg (· % pp) (by grind)))
  have ha5 : Hid (decide ((N - M) % pp = (0 - (M - N)) % pp) = true) := hide (decide_eq_true (congrArg (· % pp) (by grind)))
  have hz0 : Hid (decide ((N + (0 - N)) % pp = 0) = true) := hide (decide_eq_true (by rw [show N + (0 - N) = 0 from by omega]; rfl))
  refine wp_region_held_drew (S := fun x => Gr v.drew x) (by kernel_rfl) (Gr.refl _) (fun hS0 => ?_)
  refine wpAnyH_take (i := 0) (v := (.agg #[.int .u64 a0, .int .u64 a1, .int .u64 a2, .int .u64 a3, .int .u64 a4])) rfl (by kernel_rfl) (by kernel_rfl) (by kernel_rfl) (fun _ _ _ h => h) (.inl ⟨by kernel_rfl, fun u hu => exec_row u 29 (.tmp 7) rfl g1 0 (by kernel_rfl) [.int .u64 a0, .int .u64 a1, .int .u64 a2, .int .u64 a3, .int .u64 a4] _ (range_row (hu.blk (unhide hb1))) Try.underlying29 rfl Try.infoElem⟩) hS0 ?_
  simp only [Act.put, List.setIfInBounds_toArray, List.set_cons_zero, List.set_cons_succ, List.getElem_toArray, List.getElem_cons_zero, List.getElem_cons_succ]
  refine wpAnyH_take (i := 1) (v := (.agg #[.int .u64 b0, .int .u64 b1, .int .u64 b2, .int .u64 b3, .int .u64 b4])) rfl (by kernel_rfl) (by kernel_rfl) (by kernel_rfl) (fun _ _ _ h => h) (.inl ⟨by kernel_rfl, fun u hu => exec_row u 29 (.tmp 8) rfl g2 0 (by kernel_rfl) [.int .u64 b0, .int .u64 b1, .int .u64 b2, .int .u64 b3, .int .u64 b4] _ (range_row (hu.blk (unhide hb2))) Try.underlying29 rfl Try.infoElem⟩) hS0 ?_
  simp only [Act.put, List.setIfInBounds_toArray, List.set_cons_zero, List.set_cons_succ, List.getElem_toArray, List.getElem_cons_zero, List.getElem_cons_succ]
  refine wpAnyH_take (i := 3) (v := (.agg #[.int .u64 c0, .int .u64 c1, .int .u64 c2, .int .u64 c3, .int .u64 c4])) rfl (by kernel_rfl) (by kernel_rfl) (by kernel_rfl) (fun _ _ _ h => h) (.inl ⟨by kernel_rfl, fun u hu => exec_row u 29 (.tmp 9) rfl g3 0 (by kernel_rfl) [.int .u64 c0, .int .u64 c1, .int .u64 c2, .int .u64 c3, .int .u64 c4] _ (range_row (hu.blk (unhide hb3))) Try.underlying29 rfl Try.infoElem⟩) hS0 ?_
  simp only [Act.put, List.setIfInBounds_toArray, List.set_cons_zero, List.set_cons_succ, List.getElem_toArray, List.getElem_cons_zero, List.getElem_cons_succ]
  refine wpAnyH_take (i := 5) (v := (.agg #[.int .u64 a0, .int .u64 a1, .int .u64 a2, .int .u64 a3, .int .u64 a4])) rfl (by kernel_rfl) (by kernel_rfl) (by kernel_rfl) (fun _ _ _ h => h) (.inl ⟨by kernel_rfl, fun u hu => exec_row u 29 (.tmp 7) rfl g1 0 (by kernel_rfl) [.int .u64 a0, .int .u64 a1, .int .u64 a2, .int .u64 a3, .int .u64 a4] _ (range_row (hu.blk (unhide hb1))) Try.underlying29 rfl Try.infoElem⟩) hS0 ?_
  simp only [Act.put, List.setIfInBounds_toArray, List.set_cons_zero, List.set_cons_succ, List.getElem_toArray, List.getElem_cons_zero, List.getElem_cons_succ]
  refine wpAnyH_take (i := 6) (v := (.agg #[.int .u64 c0, .int .u64 c1, .int .u64 c2, .int .u64 c3, .int .u64 c4])) rfl (by kernel_rfl) (by kernel_rfl) (by kernel_rfl) (fun _ _ _ h => h) (.inl ⟨by kernel_rfl, fun u hu => exec_row u 29 (.tmp 9) rfl g3 0 (by kernel_rfl) [.int .u64 c0, .int .u64 c1, .int .u64 c2, .int .u64 c3, .int .u64 c4] _ (range_row (hu.blk (unhide hb3))) Try.underlying29 rfl Try.infoElem⟩) hS0 ?_
  simp only [Act.put, List.setIfInBounds_toArray, List.set_cons_zero, List.set_cons_succ, List.getElem_toArray, List.getElem_cons_zero, List.getElem_cons_succ]
  refine wpAnyH_take (i := 8) (v := (.agg #[.int .u64 b0, .int .u64 b1, .int .u64 b2, .int .u64 b3, .int .u64 b4])) rfl (by kernel_rfl) (by kernel_rfl) (by kernel_rfl) (fun _ _ _ h => h) (.inl ⟨by kernel_rfl, fun u hu => exec_row u 29 (.tmp 8) rfl g2 0 (by kernel_rfl) [.int .u64 b0, .int .u64 b1, .int .u64 b2, .int .u64 b3, .int .u64 b4] _ (range_row (hu.blk (unhide hb2))) Try.underlying29 rfl Try.infoElem⟩) hS0 ?_
  simp only [Act.put, List.setIfInBounds_toArray, List.set_cons_zero, List.set_cons_succ, List.getElem_toArray, List.getElem_cons_zero, List.getElem_cons_succ]
  refine wpAnyH_take (i := 9) (v := (.agg #[.int .u64 c0, .int .u64 c1, .int .u64 c2, .int .u64 c3, .int .u64 c4])) rfl (by kernel_rfl) (by kernel_rfl) (by kernel_rfl) (fun _ _ _ h => h) (.inl ⟨by kernel_rfl, fun u hu => exec_row u 29 (.tmp 9) rfl g3 0 (by kernel_rfl) [.int .u64 c0, .int .u64 c1, .int .u64 c2, .int .u64 c3, .int .u64 c4] _ (range_row (hu.blk (unhide hb3))) Try.underlying29 rfl Try.infoElem⟩) hS0 ?_
  simp only [Act.put, List.setIfInBounds_toArray, List.set_cons_zero, List.set_cons_succ, List.getElem_toArray, List.getElem_cons_zero, List.getElem_cons_succ]
  refine wpAnyH_ready (rs := [2]) (by kernel_rfl) (by simp) (AllReadyH.cons (o := _) rfl (fun K hK => ?_) AllReadyH.nil)
  refine step_callw (by kernel_rfl) 9 #[(.agg #[.int .u64 a0, .int .u64 a1, .int .u64 a2, .int .u64 a3, .int .u64 a4]), (.agg #[.int .u64 b0, .int .u64 b1, .int .u64 b2, .int .u64 b3, .int .u64 b4])] (by kernel_rfl) ((add_at _ _ _ _ _ _ _ _ _ _ _ _ (by assumption) (by assumption) _).mono ?_)
  rintro r w1_ ⟨e2_0, e2_1, e2_2, e2_3, e2_4, rfl, h2_, hg⟩
  refine ⟨_, rfl, ?_⟩
  have hS1_ : Gr v.drew w1_ := Gr.trans hS0 hg
  clear hg
  refine hK.out _ _ hS1_ (fun _ => ?_)
  clear hK K
  simp only [Act.put, List.setIfInBounds_toArray, List.set_cons_zero, List.set_cons_succ, List.getElem_toArray, List.getElem_cons_zero, List.getElem_cons_succ]
  refine wpAnyH_ready (rs := [4]) (by kernel_rfl) (by simp) (AllReadyH.cons (o := _) rfl (fun K hK => ?_) AllReadyH.nil)
  refine step_callw (by kernel_rfl) 11 #[(.agg #[.int .u64 e2_0, .int .u64 e2_1, .int .u64 e2_2, .int .u64 e2_3, .int .u64 e2_4]), (.agg #[.int .u64 c0, .int .u64 c1, .int .u64 c2, .int .u64 c3, .int .u64 c4])] (by kernel_rfl) ((mul_at _ _ _ _ _ _ _ _ _ _ _ _ (by assumption) (by assumption) _).mono ?_)
  rintro r w2_ ⟨e4_0, e4_1, e4_2, e4_3, e4_4, rfl, h4_, hg⟩
  refine ⟨_, rfl, ?_⟩
  have hS2_ : Gr v.drew w2_ := Gr.trans hS1_ hg
  clear hg
  refine hK.out _ _ hS2_ (fun _ => ?_)
  clear hK K
  simp only [Act.put, List.setIfInBounds_toArray, List.set_cons_zero, List.set_cons_succ, List.getElem_toArray, List.getElem_cons_zero, List.getElem_cons_succ]
  refine wpAnyH_ready (rs := [7]) (by kernel_rfl) (by simp) (AllReadyH.cons (o := _) rfl (fun K hK => ?_) AllReadyH.nil)
  refine step_callw (by kernel_rfl) 11 #[(.agg #[.int .u64 a0, .int .u64 a1, .int .u64 a2, .int .u64 a3, .int .u64 a4]), (.agg #[.int .u64 c0, .int .u64 c1, .int .u64 c2, .int .u64 c3, .int .u64 c4])] (by kernel_rfl) ((mul_at _ _ _ _ _ _ _ _ _ _ _ _ (by assumption) (by assumption) _).mono ?_)
  rintro r w3_ ⟨e7_0, e7_1, e7_2, e7_3, e7_4, rfl, h7_, hg⟩
  refine ⟨_, rfl, ?_⟩
  have hS3_ : Gr v.drew w3_ := Gr.trans hS2_ hg
  clear hg
  refine hK.out _ _ hS3_ (fun _ => ?_)
  clear hK K
  simp only [Act.put, List.setIfInBounds_toArray, List.set_cons_zero, List.set_cons_succ, List.getElem_toArray, List.getElem_cons_zero, List.getElem_cons_succ]
  refine wpAnyH_ready (rs := [10]) (by kernel_rfl) (by simp) (AllReadyH.cons (o := _) rfl (fun K hK => ?_) AllReadyH.nil)
  refine step_callw (by kernel_rfl) 11 #[(.agg #[.int .u64 b0, .int .u64 b1, .int .u64 b2, .int .u64 b3, .int .u64 b4]), (.agg #[.int .u64 c0, .int .u64 c1, .int .u64 c2, .int .u64 c3, .int .u64 c4])] (by kernel_rfl) ((mul_at _ _ _ _ _ _ _ _ _ _ _ _ (by assumption) (by assumption) _).mono ?_)
  rintro r w4_ ⟨e10_0, e10_1, e10_2, e10_3, e10_4, rfl, h10_, hg⟩
  refine ⟨_, rfl, ?_⟩
  have hS4_ : Gr v.drew w4_ := Gr.trans hS3_ hg
  clear hg
  refine hK.out _ _ hS4_ (fun _ => ?_)
  clear hK K
  simp only [Act.put, List.setIfInBounds_toArray, List.set_cons_zero, List.set_cons_succ, List.getElem_toArray, List.getElem_cons_zero, List.getElem_cons_succ]
  refine wpAnyH_ready (rs := [11]) (by kernel_rfl) (by simp) (AllReadyH.cons (o := _) rfl (fun K hK => ?_) AllReadyH.nil)
  refine step_callw (by kernel_rfl) 9 #[(.agg #[.int .u64 e7_0, .int .u64 e7_1, .int .u64 e7_2, .int .u64 e7_3, .int .u64 e7_4]), (.agg #[.int .u64 e10_0, .int .u64 e10_1, .int .u64 e10_2, .int .u64 e10_3, .int .u64 e10_4])] (by kernel_rfl) ((add_at _ _ _ _ _ _ _ _ _ _ _ _ (by assumption) (by assumption) _).mono ?_)
  rintro r w5_ ⟨e11_0, e11_1, e11_2, e11_3, e11_4, rfl, h11_, hg⟩
  refine ⟨_, rfl, ?_⟩
  have hS5_ : Gr v.drew w5_ := Gr.trans hS4_ hg
  clear hg
  refine hK.out _ _ hS5_ (fun _ => ?_)
  clear hK K
  simp only [Act.put, List.setIfInBounds_toArray, List.set_cons_zero, List.set_cons_succ, List.getElem_toArray, List.getElem_cons_zero, List.getElem_cons_succ]
  refine wpAnyH_ready (rs := [12]) (by kernel_rfl) (by simp) (AllReadyH.cons (o := _) rfl (fun K hK => ?_) AllReadyH.nil)
  refine step_callw (by kernel_rfl) 10 #[(.agg #[.int .u64 e4_0, .int .u64 e4_1, .int .u64 e4_2, .int .u64 e4_3, .int .u64 e4_4]), (.agg #[.int .u64 e11_0, .int .u64 e11_1, .int .u64 e11_2, .int .u64 e11_3, .int .u64 e11_4])] (by kernel_rfl) ((same_at _ _ _ _ _ _ _ _ _ _ _ _ true (by assumption) (by assumption) (by assumption) _).mono ?_)
  rintro r w6_ ⟨rfl, hg⟩
  refine ⟨_, rfl, ?_⟩
  have hS6_ : Gr v.drew w6_ := Gr.trans hS5_ hg
  clear hg
  refine hK.out _ _ hS6_ (fun _ => ?_)
  clear hK K
  simp only [Act.put, List.setIfInBounds_toArray, List.set_cons_zero, List.set_cons_succ, List.getElem_toArray, List.getElem_cons_zero, List.getElem_cons_succ]
  refine wpAnyH_take (i := 13) (v := (.bool true)) rfl (by kernel_rfl) (by kernel_rfl) (by kernel_rfl) (fun _ _ _ h => h) (.inl ⟨by kernel_rfl, fun u hu => by kernel_rfl⟩) hS6_ ?_
  simp only [Act.put, List.setIfInBounds_toArray, List.set_cons_zero, List.set_cons_succ, List.getElem_toArray, List.getElem_cons_zero, List.getElem_cons_succ]
  refine wpAnyH_take (i := 14) (v := (.agg #[.int .u64 a0, .int .u64 a1, .int .u64 a2, .int .u64 a3, .int .u64 a4])) rfl (by kernel_rfl) (by kernel_rfl) (by kernel_rfl) (fun _ _ _ h => h) (.inl ⟨by kernel_rfl, fun u hu => exec_row u 29 (.tmp 7) rfl g1 0 (by kernel_rfl) [.int .u64 a0, .int .u64 a1, .int .u64 a2, .int .u64 a3, .int .u64 a4] _ (range_row (hu.blk (unhide hb1))) Try.underlying29 rfl Try.infoElem⟩) hS6_ ?_
  simp only [Act.put, List.setIfInBounds_toArray, List.set_cons_zero, List.set_cons_succ, List.getElem_toArray, List.getElem_cons_zero, List.getElem_cons_succ]
  refine wpAnyH_take (i := 15) (v := (.agg #[.int .u64 b0, .int .u64 b1, .int .u64 b2, .int .u64 b3, .int .u64 b4])) rfl (by kernel_rfl) (by kernel_rfl) (by kernel_rfl) (fun _ _ _ h => h) (.inl ⟨by kernel_rfl, fun u hu => exec_row u 29 (.tmp 8) rfl g2 0 (by kernel_rfl) [.int .u64 b0, .int .u64 b1, .int .u64 b2, .int .u64 b3, .int .u64 b4] _ (range_row (hu.blk (unhide hb2))) Try.underlying29 rfl Try.infoElem⟩) hS6_ ?_
  simp only [Act.put, List.setIfInBounds_toArray, List.set_cons_zero, List.set_cons_succ, List.getElem_toArray, List.getElem_cons_zero, List.getElem_cons_succ]
  refine wpAnyH_take (i := 17) (v := (.agg #[.int .u64 b0, .int .u64 b1, .int .u64 b2, .int .u64 b3, .int .u64 b4])) rfl (by kernel_rfl) (by kernel_rfl) (by kernel_rfl) (fun _ _ _ h => h) (.inl ⟨by kernel_rfl, fun u hu => exec_row u 29 (.tmp 8) rfl g2 0 (by kernel_rfl) [.int .u64 b0, .int .u64 b1, .int .u64 b2, .int .u64 b3, .int .u64 b4] _ (range_row (hu.blk (unhide hb2))) Try.underlying29 rfl Try.infoElem⟩) hS6_ ?_
  simp only [Act.put, List.setIfInBounds_toArray, List.set_cons_zero, List.set_cons_succ, List.getElem_toArray, List.getElem_cons_zero, List.getElem_cons_succ]
  refine wpAnyH_take (i := 19) (v := (.agg #[.int .u64 a0, .int .u64 a1, .int .u64 a2, .int .u64 a3, .int .u64 a4])) rfl (by kernel_rfl) (by kernel_rfl) (by kernel_rfl) (fun _ _ _ h => h) (.inl ⟨by kernel_rfl, fun u hu => exec_row u 29 (.tmp 7) rfl g1 0 (by kernel_rfl) [.int .u64 a0, .int .u64 a1, .int .u64 a2, .int .u64 a3, .int .u64 a4] _ (range_row (hu.blk (unhide hb1))) Try.underlying29 rfl Try.infoElem⟩) hS6_ ?_
  simp only [Act.put, List.setIfInBounds_toArray, List.set_cons_zero, List.set_cons_succ, List.getElem_toArray, List.getElem_cons_zero, List.getElem_cons_succ]
  refine wpAnyH_ready (rs := [16]) (by kernel_rfl) (by simp) (AllReadyH.cons (o := _) rfl (fun K hK => ?_) AllReadyH.nil)
  refine step_callw (by kernel_rfl) 9 #[(.agg #[.int .u64 a0, .int .u64 a1, .int .u64 a2, .int .u64 a3, .int .u64 a4]), (.agg #[.int .u64 b0, .int .u64 b1, .int .u64 b2, .int .u64 b3, .int .u64 b4])] (by kernel_rfl) ((add_at _ _ _ _ _ _ _ _ _ _ _ _ (by assumption) (by assumption) _).mono ?_)
  rintro r w7_ ⟨e16_0, e16_1, e16_2, e16_3, e16_4, rfl, h16_, hg⟩
  refine ⟨_, rfl, ?_⟩
  have hS7_ : Gr v.drew w7_ := Gr.trans hS6_ hg
  clear hg
  refine hK.out _ _ hS7_ (fun _ => ?_)
  clear hK K
  simp only [Act.put, List.setIfInBounds_toArray, List.set_cons_zero, List.set_cons_succ, List.getElem_toArray, List.getElem_cons_zero, List.getElem_cons_succ]
  refine wpAnyH_ready (rs := [18]) (by kernel_rfl) (by simp) (AllReadyH.cons (o := _) rfl (fun K hK => ?_) AllReadyH.nil)
  refine step_callw (by kernel_rfl) 13 #[(.agg #[.int .u64 e16_0, .int .u64 e16_1, .int .u64 e16_2, .int .u64 e16_3, .int .u64 e16_4]), (.agg #[.int .u64 b0, .int .u64 b1, .int .u64 b2, .int .u64 b3, .int .u64 b4])] (by kernel_rfl) ((sub_at _ _ _ _ _ _ _ _ _ _ _ _ (by assumption) (by assumption) _).mono ?_)
  rintro r w8_ ⟨e18_0, e18_1, e18_2, e18_3, e18_4, rfl, h18_, hg⟩
  refine ⟨_, rfl, ?_⟩
  have hS8_ : Gr v.drew w8_ := Gr.trans hS7_ hg
  clear hg
  refine hK.out _ _ hS8_ (fun _ => ?_)
  clear hK K
  simp only [Act.put, List.setIfInBounds_toArray, List.set_cons_zero, List.set_cons_succ, List.getElem_toArray, List.getElem_cons_zero, List.getElem_cons_succ]
  refine wpAnyH_ready (rs := [20]) (by kernel_rfl) (by simp) (AllReadyH.cons (o := _) rfl (fun K hK => ?_) AllReadyH.nil)
  refine step_callw (by kernel_rfl) 10 #[(.agg #[.int .u64 e18_0, .int .u64 e18_1, .int .u64 e18_2, .int .u64 e18_3, .int .u64 e18_4]), (.agg #[.int .u64 a0, .int .u64 a1, .int .u64 a2, .int .u64 a3, .int .u64 a4])] (by kernel_rfl) ((same_at _ _ _ _ _ _ _ _ _ _ _ _ true (by assumption) (by assumption) (by assumption) _).mono ?_)
  rintro r w9_ ⟨rfl, hg⟩
  refine ⟨_, rfl, ?_⟩
  have hS9_ : Gr v.drew w9_ := Gr.trans hS8_ hg
  clear hg
  refine hK.out _ _ hS9_ (fun _ => ?_)
  clear hK K
  simp only [Act.put, List.setIfInBounds_toArray, List.set_cons_zero, List.set_cons_succ, List.getElem_toArray, List.getElem_cons_zero, List.getElem_cons_succ]
  refine wpAnyH_take (i := 21) (v := (.bool true)) rfl (by kernel_rfl) (by kernel_rfl) (by kernel_rfl) (fun _ _ _ h => h) (.inl ⟨by kernel_rfl, fun u hu => by kernel_rfl⟩) hS9_ ?_
  simp only [Act.put, List.setIfInBounds_toArray, List.set_cons_zero, List.set_cons_succ, List.getElem_toArray, List.getElem_cons_zero, List.getElem_cons_succ]
  refine wpAnyH_take (i := 22) (v := (.bool true)) rfl (by kernel_rfl) (by kernel_rfl) (by kernel_rfl) (fun _ _ _ h => h) (.inl ⟨by kernel_rfl, fun u hu => by kernel_rfl⟩) hS9_ ?_
  simp only [Act.put, List.setIfInBounds_toArray, List.set_cons_zero, List.set_cons_succ, List.getElem_toArray, List.getElem_cons_zero, List.getElem_cons_succ]
  refine wpAnyH_take (i := 23) (v := (.agg #[.int .u64 a0, .int .u64 a1, .int .u64 a2, .int .u64 a3, .int .u64 a4])) rfl (by kernel_rfl) (by kernel_rfl) (by kernel_rfl) (fun _ _ _ h => h) (.inl ⟨by kernel_rfl, fun u hu => exec_row u 29 (.tmp 7) rfl g1 0 (by kernel_rfl) [.int .u64 a0, .int .u64 a1, .int .u64 a2, .int .u64 a3, .int .u64 a4] _ (range_row (hu.blk (unhide hb1))) Try.underlying29 rfl Try.infoElem⟩) hS9_ ?_
  simp only [Act.put, List.setIfInBounds_toArray, List.set_cons_zero, List.set_cons_succ, List.getElem_toArray, List.getElem_cons_zero, List.getElem_cons_succ]
  refine wpAnyH_take (i := 24) (v := (.agg #[.int .u64 a0, .int .u64 a1, .int .u64 a2, .int .u64 a3, .int .u64 a4])) rfl (by kernel_rfl) (by kernel_rfl) (by kernel_rfl) (fun _ _ _ h => h) (.inl ⟨by kernel_rfl, fun u hu => exec_row u 29 (.tmp 7) rfl g1 0 (by kernel_rfl) [.int .u64 a0, .int .u64 a1, .int .u64 a2, .int .u64 a3, .int .u64 a4] _ (range_row (hu.blk (unhide hb1))) Try.underlying29 rfl Try.infoElem⟩) hS9_ ?_
  simp only [Act.put, List.setIfInBounds_toArray, List.set_cons_zero, List.set_cons_succ, List.getElem_toArray, List.getElem_cons_zero, List.getElem_cons_succ]
  refine wpAnyH_ready (rs := [25]) (by kernel_rfl) (by simp) (AllReadyH.cons (o := _) rfl (fun K hK => ?_) AllReadyH.nil)
  refine step_callw (by kernel_rfl) 14 #[(.agg #[.int .u64 a0, .int .u64 a1, .int .u64 a2, .int .u64 a3, .int .u64 a4])] (by kernel_rfl) ((neg_at _ _ _ _ _ _ (by assumption) _).mono ?_)
  rintro r w10_ ⟨e25_0, e25_1, e25_2, e25_3, e25_4, rfl, h25_, hg⟩
  refine ⟨_, rfl, ?_⟩
  have hS10_ : Gr v.drew w10_ := Gr.trans hS9_ hg
  clear hg
  refine hK.out _ _ hS10_ (fun _ => ?_)
  clear hK K
  simp only [Act.put, List.setIfInBounds_toArray, List.set_cons_zero, List.set_cons_succ, List.getElem_toArray, List.getElem_cons_zero, List.getElem_cons_succ]
  refine wpAnyH_ready (rs := [26]) (by kernel_rfl) (by simp) (AllReadyH.cons (o := _) rfl (fun K hK => ?_) AllReadyH.nil)
  refine step_callw (by kernel_rfl) 9 #[(.agg #[.int .u64 a0, .int .u64 a1, .int .u64 a2, .int .u64 a3, .int .u64 a4]), (.agg #[.int .u64 e25_0, .int .u64 e25_1, .int .u64 e25_2, .int .u64 e25_3, .int .u64 e25_4])] (by kernel_rfl) ((add_at _ _ _ _ _ _ _ _ _ _ _ _ (by assumption) (by assumption) _).mono ?_)
  rintro r w11_ ⟨e26_0, e26_1, e26_2, e26_3, e26_4, rfl, h26_, hg⟩
  refine ⟨_, rfl, ?_⟩
  have hS11_ : Gr v.drew w11_ := Gr.trans hS10_ hg
  clear hg
  refine hK.out _ _ hS11_ (fun _ => ?_)
  clear hK K
  simp only [Act.put, List.setIfInBounds_toArray, List.set_cons_zero, List.set_cons_succ, List.getElem_toArray, List.getElem_cons_zero, List.getElem_cons_succ]
  refine wpAnyH_ready (rs := [27]) (by kernel_rfl) (by simp) (AllReadyH.cons (o := _) rfl (fun K hK => ?_) AllReadyH.nil)
  refine step_callw (by kernel_rfl) 15 #[(.agg #[.int .u64 e26_0, .int .u64 e26_1, .int .u64 e26_2, .int .u64 e26_3, .int .u64 e26_4])] (by kernel_rfl) ((zero_at _ _ _ _ _ _ true (by assumption) (by assumption) _).mono ?_)
  rintro r w12_ ⟨rfl, hg⟩
  refine ⟨_, rfl, ?_⟩
  have hS12_ : Gr v.drew w12_ := Gr.trans hS11_ hg
  clear hg
  refine hK.out _ _ hS12_ (fun _ => ?_)
  clear hK K
  simp only [Act.put, List.setIfInBounds_toArray, List.set_cons_zero, List.set_cons_succ, List.getElem_toArray, List.getElem_cons_zero, List.getElem_cons_succ]
  refine wpAnyH_take (i := 28) (v := (.bool true)) rfl (by kernel_rfl) (by kernel_rfl) (by kernel_rfl) (fun _ _ _ h => h) (.inl ⟨by kernel_rfl, fun u hu => by kernel_rfl⟩) hS12_ ?_
  simp only [Act.put, List.setIfInBounds_toArray, List.set_cons_zero, List.set_cons_succ, List.getElem_toArray, List.getElem_cons_zero, List.getElem_cons_succ]
  refine wpAnyH_take (i := 29) (v := (.bool true)) rfl (by kernel_rfl) (by kernel_rfl) (by kernel_rfl) (fun _ _ _ h => h) (.inl ⟨by kernel_rfl, fun u hu => by kernel_rfl⟩) hS12_ ?_
  simp only [Act.put, List.setIfInBounds_toArray, List.set_cons_zero, List.set_cons_succ, List.getElem_toArray, List.getElem_cons_zero, List.getElem_cons_succ]
  refine wpAnyH_take (i := 30) (v := (.agg #[.int .u64 a0, .int .u64 a1, .int .u64 a2, .int .u64 a3, .int .u64 a4])) rfl (by kernel_rfl) (by kernel_rfl) (by kernel_rfl) (fun _ _ _ h => h) (.inl ⟨by kernel_rfl, fun u hu => exec_row u 29 (.tmp 7) rfl g1 0 (by kernel_rfl) [.int .u64 a0, .int .u64 a1, .int .u64 a2, .int .u64 a3, .int .u64 a4] _ (range_row (hu.blk (unhide hb1))) Try.underlying29 rfl Try.infoElem⟩) hS12_ ?_
  simp only [Act.put, List.setIfInBounds_toArray, List.set_cons_zero, List.set_cons_succ, List.getElem_toArray, List.getElem_cons_zero, List.getElem_cons_succ]
  refine wpAnyH_take (i := 31) (v := (.agg #[.int .u64 i0, .int .u64 i1, .int .u64 i2, .int .u64 i3, .int .u64 i4])) rfl (by kernel_rfl) (by kernel_rfl) (by kernel_rfl) (fun _ _ _ h => h) (.inl ⟨by kernel_rfl, fun u hu => exec_row u 29 (.tmp 10) rfl g4 0 (by kernel_rfl) [.int .u64 i0, .int .u64 i1, .int .u64 i2, .int .u64 i3, .int .u64 i4] _ (range_row (hu.blk (unhide hb4))) Try.underlying29 rfl Try.infoElem⟩) hS12_ ?_
  simp only [Act.put, List.setIfInBounds_toArray, List.set_cons_zero, List.set_cons_succ, List.getElem_toArray, List.getElem_cons_zero, List.getElem_cons_succ]
  refine wpAnyH_take (i := 33) (v := (.agg #[.int .u64 a0, .int .u64 a1, .int .u64 a2, .int .u64 a3, .int .u64 a4])) rfl (by kernel_rfl) (by kernel_rfl) (by kernel_rfl) (fun _ _ _ h => h) (.inl ⟨by kernel_rfl, fun u hu => exec_row u 29 (.tmp 7) rfl g1 0 (by kernel_rfl) [.int .u64 a0, .int .u64 a1, .int .u64 a2, .int .u64 a3, .int .u64 a4] _ (range_row (hu.blk (unhide hb1))) Try.underlying29 rfl Try.infoElem⟩) hS12_ ?_
  simp only [Act.put, List.setIfInBounds_toArray, List.set_cons_zero, List.set_cons_succ, List.getElem_toArray, List.getElem_cons_zero, List.getElem_cons_succ]
  refine wpAnyH_ready (rs := [32]) (by kernel_rfl) (by simp) (AllReadyH.cons (o := _) rfl (fun K hK => ?_) AllReadyH.nil)
  refine step_callw (by kernel_rfl) 11 #[(.agg #[.int .u64 a0, .int .u64 a1, .int .u64 a2, .int .u64 a3, .int .u64 a4]), (.agg #[.int .u64 i0, .int .u64 i1, .int .u64 i2, .int .u64 i3, .int .u64 i4])] (by kernel_rfl) ((mul_at _ _ _ _ _ _ _ _ _ _ _ _ (by assumption) (by assumption) _).mono ?_)
  rintro r w13_ ⟨e32_0, e32_1, e32_2, e32_3, e32_4, rfl, h32_, hg⟩
  refine ⟨_, rfl, ?_⟩
  have hS13_ : Gr v.drew w13_ := Gr.trans hS12_ hg
  clear hg
  refine hK.out _ _ hS13_ (fun _ => ?_)
  clear hK K
  simp only [Act.put, List.setIfInBounds_toArray, List.set_cons_zero, List.set_cons_succ, List.getElem_toArray, List.getElem_cons_zero, List.getElem_cons_succ]
  refine wpAnyH_ready (rs := [34]) (by kernel_rfl) (by simp) (AllReadyH.cons (o := _) rfl (fun K hK => ?_) AllReadyH.nil)
  refine step_callw (by kernel_rfl) 10 #[(.agg #[.int .u64 e32_0, .int .u64 e32_1, .int .u64 e32_2, .int .u64 e32_3, .int .u64 e32_4]), (.agg #[.int .u64 a0, .int .u64 a1, .int .u64 a2, .int .u64 a3, .int .u64 a4])] (by kernel_rfl) ((same_at _ _ _ _ _ _ _ _ _ _ _ _ true (by assumption) (by assumption) (by assumption) _).mono ?_)
  rintro r w14_ ⟨rfl, hg⟩
  refine ⟨_, rfl, ?_⟩
  have hS14_ : Gr v.drew w14_ := Gr.trans hS13_ hg
  clear hg
  refine hK.out _ _ hS14_ (fun _ => ?_)
  clear hK K
  simp only [Act.put, List.setIfInBounds_toArray, List.set_cons_zero, List.set_cons_succ, List.getElem_toArray, List.getElem_cons_zero, List.getElem_cons_succ]
  refine wpAnyH_take (i := 35) (v := (.bool true)) rfl (by kernel_rfl) (by kernel_rfl) (by kernel_rfl) (fun _ _ _ h => h) (.inl ⟨by kernel_rfl, fun u hu => by kernel_rfl⟩) hS14_ ?_
  simp only [Act.put, List.setIfInBounds_toArray, List.set_cons_zero, List.set_cons_succ, List.getElem_toArray, List.getElem_cons_zero, List.getElem_cons_succ]
  refine wpAnyH_take (i := 36) (v := (.bool true)) rfl (by kernel_rfl) (by kernel_rfl) (by kernel_rfl) (fun _ _ _ h => h) (.inl ⟨by kernel_rfl, fun u hu => by kernel_rfl⟩) hS14_ ?_
  simp only [Act.put, List.setIfInBounds_toArray, List.set_cons_zero, List.set_cons_succ, List.getElem_toArray, List.getElem_cons_zero, List.getElem_cons_succ]
  refine wpAnyH_take (i := 37) (v := (.agg #[.int .u64 a0, .int .u64 a1, .int .u64 a2, .int .u64 a3, .int .u64 a4])) rfl (by kernel_rfl) (by kernel_rfl) (by kernel_rfl) (fun _ _ _ h => h) (.inl ⟨by kernel_rfl, fun u hu => exec_row u 29 (.tmp 7) rfl g1 0 (by kernel_rfl) [.int .u64 a0, .int .u64 a1, .int .u64 a2, .int .u64 a3, .int .u64 a4] _ (range_row (hu.blk (unhide hb1))) Try.underlying29 rfl Try.infoElem⟩) hS14_ ?_
  simp only [Act.put, List.setIfInBounds_toArray, List.set_cons_zero, List.set_cons_succ, List.getElem_toArray, List.getElem_cons_zero, List.getElem_cons_succ]
  refine wpAnyH_take (i := 40) (v := (.agg #[.int .u64 a0, .int .u64 a1, .int .u64 a2, .int .u64 a3, .int .u64 a4])) rfl (by kernel_rfl) (by kernel_rfl) (by kernel_rfl) (fun _ _ _ h => h) (.inl ⟨by kernel_rfl, fun u hu => exec_row u 29 (.tmp 7) rfl g1 0 (by kernel_rfl) [.int .u64 a0, .int .u64 a1, .int .u64 a2, .int .u64 a3, .int .u64 a4] _ (range_row (hu.blk (unhide hb1))) Try.underlying29 rfl Try.infoElem⟩) hS14_ ?_
  simp only [Act.put, List.setIfInBounds_toArray, List.set_cons_zero, List.set_cons_succ, List.getElem_toArray, List.getElem_cons_zero, List.getElem_cons_succ]
  refine wpAnyH_ready (rs := [38]) (by kernel_rfl) (by simp) (AllReadyH.cons (o := _) rfl (fun K hK => ?_) AllReadyH.nil)
  refine step_callw (by kernel_rfl) 12 #[(.int .u64 0)] (by kernel_rfl) ((of_at _ (by omega) _).mono ?_)
  rintro r w15_ ⟨e38_0, e38_1, e38_2, e38_3, e38_4, rfl, h38_, hg⟩
  refine ⟨_, rfl, ?_⟩
  have hS15_ : Gr v.drew w15_ := Gr.trans hS14_ hg
  clear hg
  refine hK.out _ _ hS15_ (fun _ => ?_)
  clear hK K
  simp only [Act.put, List.setIfInBounds_toArray, List.set_cons_zero, List.set_cons_succ, List.getElem_toArray, List.getElem_cons_zero, List.getElem_cons_succ]
  refine wpAnyH_ready (rs := [39]) (by kernel_rfl) (by simp) (AllReadyH.cons (o := _) rfl (fun K hK => ?_) AllReadyH.nil)
  refine step_callw (by kernel_rfl) 9 #[(.agg #[.int .u64 a0, .int .u64 a1, .int .u64 a2, .int .u64 a3, .int .u64 a4]), (.agg #[.int .u64 e38_0, .int .u64 e38_1, .int .u64 e38_2, .int .u64 e38_3, .int .u64 e38_4])] (by kernel_rfl) ((add_at _ _ _ _ _ _ _ _ _ _ _ _ (by assumption) (by assumption) _).mono ?_)
  rintro r w16_ ⟨e39_0, e39_1, e39_2, e39_3, e39_4, rfl, h39_, hg⟩
  refine ⟨_, rfl, ?_⟩
  have hS16_ : Gr v.drew w16_ := Gr.trans hS15_ hg
  clear hg
  refine hK.out _ _ hS16_ (fun _ => ?_)
  clear hK K
  simp only [Act.put, List.setIfInBounds_toArray, List.set_cons_zero, List.set_cons_succ, List.getElem_toArray, List.getElem_cons_zero, List.getElem_cons_succ]
  refine wpAnyH_ready (rs := [41]) (by kernel_rfl) (by simp) (AllReadyH.cons (o := _) rfl (fun K hK => ?_) AllReadyH.nil)
  refine step_callw (by kernel_rfl) 10 #[(.agg #[.int .u64 e39_0, .int .u64 e39_1, .int .u64 e39_2, .int .u64 e39_3, .int .u64 e39_4]), (.agg #[.int .u64 a0, .int .u64 a1, .int .u64 a2, .int .u64 a3, .int .u64 a4])] (by kernel_rfl) ((same_at _ _ _ _ _ _ _ _ _ _ _ _ true (by assumption) (by assumption) (by assumption) _).mono ?_)
  rintro r w17_ ⟨rfl, hg⟩
  refine ⟨_, rfl, ?_⟩
  have hS17_ : Gr v.drew w17_ := Gr.trans hS16_ hg
  clear hg
  refine hK.out _ _ hS17_ (fun _ => ?_)
  clear hK K
  simp only [Act.put, List.setIfInBounds_toArray, List.set_cons_zero, List.set_cons_succ, List.getElem_toArray, List.getElem_cons_zero, List.getElem_cons_succ]
  refine wpAnyH_take (i := 42) (v := (.bool true)) rfl (by kernel_rfl) (by kernel_rfl) (by kernel_rfl) (fun _ _ _ h => h) (.inl ⟨by kernel_rfl, fun u hu => by kernel_rfl⟩) hS17_ ?_
  simp only [Act.put, List.setIfInBounds_toArray, List.set_cons_zero, List.set_cons_succ, List.getElem_toArray, List.getElem_cons_zero, List.getElem_cons_succ]
  refine wpAnyH_take (i := 43) (v := (.bool true)) rfl (by kernel_rfl) (by kernel_rfl) (by kernel_rfl) (fun _ _ _ h => h) (.inl ⟨by kernel_rfl, fun u hu => by kernel_rfl⟩) hS17_ ?_
  simp only [Act.put, List.setIfInBounds_toArray, List.set_cons_zero, List.set_cons_succ, List.getElem_toArray, List.getElem_cons_zero, List.getElem_cons_succ]
  refine wpAnyH_take (i := 44) (v := (.agg #[.int .u64 a0, .int .u64 a1, .int .u64 a2, .int .u64 a3, .int .u64 a4])) rfl (by kernel_rfl) (by kernel_rfl) (by kernel_rfl) (fun _ _ _ h => h) (.inl ⟨by kernel_rfl, fun u hu => exec_row u 29 (.tmp 7) rfl g1 0 (by kernel_rfl) [.int .u64 a0, .int .u64 a1, .int .u64 a2, .int .u64 a3, .int .u64 a4] _ (range_row (hu.blk (unhide hb1))) Try.underlying29 rfl Try.infoElem⟩) hS17_ ?_
  simp only [Act.put, List.setIfInBounds_toArray, List.set_cons_zero, List.set_cons_succ, List.getElem_toArray, List.getElem_cons_zero, List.getElem_cons_succ]
  refine wpAnyH_take (i := 46) (v := (.agg #[.int .u64 a0, .int .u64 a1, .int .u64 a2, .int .u64 a3, .int .u64 a4])) rfl (by kernel_rfl) (by kernel_rfl) (by kernel_rfl) (fun _ _ _ h => h) (.inl ⟨by kernel_rfl, fun u hu => exec_row u 29 (.tmp 7) rfl g1 0 (by kernel_rfl) [.int .u64 a0, .int .u64 a1, .int .u64 a2, .int .u64 a3, .int .u64 a4] _ (range_row (hu.blk (unhide hb1))) Try.underlying29 rfl Try.infoElem⟩) hS17_ ?_
  simp only [Act.put, List.setIfInBounds_toArray, List.set_cons_zero, List.set_cons_succ, List.getElem_toArray, List.getElem_cons_zero, List.getElem_cons_succ]
  refine wpAnyH_take (i := 47) (v := (.agg #[.int .u64 a0, .int .u64 a1, .int .u64 a2, .int .u64 a3, .int .u64 a4])) rfl (by kernel_rfl) (by kernel_rfl) (by kernel_rfl) (fun _ _ _ h => h) (.inl ⟨by kernel_rfl, fun u hu => exec_row u 29 (.tmp 7) rfl g1 0 (by kernel_rfl) [.int .u64 a0, .int .u64 a1, .int .u64 a2, .int .u64 a3, .int .u64 a4] _ (range_row (hu.blk (unhide hb1))) Try.underlying29 rfl Try.infoElem⟩) hS17_ ?_
  simp only [Act.put, List.setIfInBounds_toArray, List.set_cons_zero, List.set_cons_succ, List.getElem_toArray, List.getElem_cons_zero, List.getElem_cons_succ]
  refine wpAnyH_ready (rs := [45]) (by kernel_rfl) (by simp) (AllReadyH.cons (o := _) rfl (fun K hK => ?_) AllReadyH.nil)
  refine step_callw (by kernel_rfl) 16 #[(.agg #[.int .u64 a0, .int .u64 a1, .int .u64 a2, .int .u64 a3, .int .u64 a4])] (by kernel_rfl) ((square_at _ _ _ _ _ _ (by assumption) _).mono ?_)
  rintro r w18_ ⟨e45_0, e45_1, e45_2, e45_3, e45_4, rfl, h45_, hg⟩
  refine ⟨_, rfl, ?_⟩
  have hS18_ : Gr v.drew w18_ := Gr.trans hS17_ hg
  clear hg
  refine hK.out _ _ hS18_ (fun _ => ?_)
  clear hK K
  simp only [Act.put, List.setIfInBounds_toArray, List.set_cons_zero, List.set_cons_succ, List.getElem_toArray, List.getElem_cons_zero, List.getElem_cons_succ]
  refine wpAnyH_ready (rs := [48]) (by kernel_rfl) (by simp) (AllReadyH.cons (o := _) rfl (fun K hK => ?_) AllReadyH.nil)
  refine step_callw (by kernel_rfl) 11 #[(.agg #[.int .u64 a0, .int .u64 a1, .int .u64 a2, .int .u64 a3, .int .u64 a4]), (.agg #[.int .u64 a0, .int .u64 a1, .int .u64 a2, .int .u64 a3, .int .u64 a4])] (by kernel_rfl) ((mul_at _ _ _ _ _ _ _ _ _ _ _ _ (by assumption) (by assumption) _).mono ?_)
  rintro r w19_ ⟨e48_0, e48_1, e48_2, e48_3, e48_4, rfl, h48_, hg⟩
  refine ⟨_, rfl, ?_⟩
  have hS19_ : Gr v.drew w19_ := Gr.trans hS18_ hg
  clear hg
  refine hK.out _ _ hS19_ (fun _ => ?_)
  clear hK K
  simp only [Act.put, List.setIfInBounds_toArray, List.set_cons_zero, List.set_cons_succ, List.getElem_toArray, List.getElem_cons_zero, List.getElem_cons_succ]
  refine wpAnyH_ready (rs := [49]) (by kernel_rfl) (by simp) (AllReadyH.cons (o := _) rfl (fun K hK => ?_) AllReadyH.nil)
  refine step_callw (by kernel_rfl) 10 #[(.agg #[.int .u64 e45_0, .int .u64 e45_1, .int .u64 e45_2, .int .u64 e45_3, .int .u64 e45_4]), (.agg #[.int .u64 e48_0, .int .u64 e48_1, .int .u64 e48_2, .int .u64 e48_3, .int .u64 e48_4])] (by kernel_rfl) ((same_at _ _ _ _ _ _ _ _ _ _ _ _ true (by assumption) (by assumption) (by assumption) _).mono ?_)
  rintro r w20_ ⟨rfl, hg⟩
  refine ⟨_, rfl, ?_⟩
  have hS20_ : Gr v.drew w20_ := Gr.trans hS19_ hg
  clear hg
  refine hK.out _ _ hS20_ (fun _ => ?_)
  clear hK K
  simp only [Act.put, List.setIfInBounds_toArray, List.set_cons_zero, List.set_cons_succ, List.getElem_toArray, List.getElem_cons_zero, List.getElem_cons_succ]
  refine wpAnyH_take (i := 50) (v := (.bool true)) rfl (by kernel_rfl) (by kernel_rfl) (by kernel_rfl) (fun _ _ _ h => h) (.inl ⟨by kernel_rfl, fun u hu => by kernel_rfl⟩) hS20_ ?_
  simp only [Act.put, List.setIfInBounds_toArray, List.set_cons_zero, List.set_cons_succ, List.getElem_toArray, List.getElem_cons_zero, List.getElem_cons_succ]
  refine wpAnyH_take (i := 51) (v := (.bool true)) rfl (by kernel_rfl) (by kernel_rfl) (by kernel_rfl) (fun _ _ _ h => h) (.inl ⟨by kernel_rfl, fun u hu => by kernel_rfl⟩) hS20_ ?_
  simp only [Act.put, List.setIfInBounds_toArray, List.set_cons_zero, List.set_cons_succ, List.getElem_toArray, List.getElem_cons_zero, List.getElem_cons_succ]
  refine wpAnyH_take (i := 52) (v := (.agg #[.int .u64 a0, .int .u64 a1, .int .u64 a2, .int .u64 a3, .int .u64 a4])) rfl (by kernel_rfl) (by kernel_rfl) (by kernel_rfl) (fun _ _ _ h => h) (.inl ⟨by kernel_rfl, fun u hu => exec_row u 29 (.tmp 7) rfl g1 0 (by kernel_rfl) [.int .u64 a0, .int .u64 a1, .int .u64 a2, .int .u64 a3, .int .u64 a4] _ (range_row (hu.blk (unhide hb1))) Try.underlying29 rfl Try.infoElem⟩) hS20_ ?_
  simp only [Act.put, List.setIfInBounds_toArray, List.set_cons_zero, List.set_cons_succ, List.getElem_toArray, List.getElem_cons_zero, List.getElem_cons_succ]
  refine wpAnyH_take (i := 53) (v := (.agg #[.int .u64 b0, .int .u64 b1, .int .u64 b2, .int .u64 b3, .int .u64 b4])) rfl (by kernel_rfl) (by kernel_rfl) (by kernel_rfl) (fun _ _ _ h => h) (.inl ⟨by kernel_rfl, fun u hu => exec_row u 29 (.tmp 8) rfl g2 0 (by kernel_rfl) [.int .u64 b0, .int .u64 b1, .int .u64 b2, .int .u64 b3, .int .u64 b4] _ (range_row (hu.blk (unhide hb2))) Try.underlying29 rfl Try.infoElem⟩) hS20_ ?_
  simp only [Act.put, List.setIfInBounds_toArray, List.set_cons_zero, List.set_cons_succ, List.getElem_toArray, List.getElem_cons_zero, List.getElem_cons_succ]
  refine wpAnyH_take (i := 55) (v := (.agg #[.int .u64 b0, .int .u64 b1, .int .u64 b2, .int .u64 b3, .int .u64 b4])) rfl (by kernel_rfl) (by kernel_rfl) (by kernel_rfl) (fun _ _ _ h => h) (.inl ⟨by kernel_rfl, fun u hu => exec_row u 29 (.tmp 8) rfl g2 0 (by kernel_rfl) [.int .u64 b0, .int .u64 b1, .int .u64 b2, .int .u64 b3, .int .u64 b4] _ (range_row (hu.blk (unhide hb2))) Try.underlying29 rfl Try.infoElem⟩) hS20_ ?_
  simp only [Act.put, List.setIfInBounds_toArray, List.set_cons_zero, List.set_cons_succ, List.getElem_toArray, List.getElem_cons_zero, List.getElem_cons_succ]
  refine wpAnyH_take (i := 56) (v := (.agg #[.int .u64 a0, .int .u64 a1, .int .u64 a2, .int .u64 a3, .int .u64 a4])) rfl (by kernel_rfl) (by kernel_rfl) (by kernel_rfl) (fun _ _ _ h => h) (.inl ⟨by kernel_rfl, fun u hu => exec_row u 29 (.tmp 7) rfl g1 0 (by kernel_rfl) [.int .u64 a0, .int .u64 a1, .int .u64 a2, .int .u64 a3, .int .u64 a4] _ (range_row (hu.blk (unhide hb1))) Try.underlying29 rfl Try.infoElem⟩) hS20_ ?_
  simp only [Act.put, List.setIfInBounds_toArray, List.set_cons_zero, List.set_cons_succ, List.getElem_toArray, List.getElem_cons_zero, List.getElem_cons_succ]
  refine wpAnyH_ready (rs := [54]) (by kernel_rfl) (by simp) (AllReadyH.cons (o := _) rfl (fun K hK => ?_) AllReadyH.nil)
  refine step_callw (by kernel_rfl) 13 #[(.agg #[.int .u64 a0, .int .u64 a1, .int .u64 a2, .int .u64 a3, .int .u64 a4]), (.agg #[.int .u64 b0, .int .u64 b1, .int .u64 b2, .int .u64 b3, .int .u64 b4])] (by kernel_rfl) ((sub_at _ _ _ _ _ _ _ _ _ _ _ _ (by assumption) (by assumption) _).mono ?_)
  rintro r w21_ ⟨e54_0, e54_1, e54_2, e54_3, e54_4, rfl, h54_, hg⟩
  refine ⟨_, rfl, ?_⟩
  have hS21_ : Gr v.drew w21_ := Gr.trans hS20_ hg
  clear hg
  refine hK.out _ _ hS21_ (fun _ => ?_)
  clear hK K
  simp only [Act.put, List.setIfInBounds_toArray, List.set_cons_zero, List.set_cons_succ, List.getElem_toArray, List.getElem_cons_zero, List.getElem_cons_succ]
  refine wpAnyH_ready (rs := [57]) (by kernel_rfl) (by simp) (AllReadyH.cons (o := _) rfl (fun K hK => ?_) AllReadyH.nil)
  refine step_callw (by kernel_rfl) 13 #[(.agg #[.int .u64 b0, .int .u64 b1, .int .u64 b2, .int .u64 b3, .int .u64 b4]), (.agg #[.int .u64 a0, .int .u64 a1, .int .u64 a2, .int .u64 a3, .int .u64 a4])] (by kernel_rfl) ((sub_at _ _ _ _ _ _ _ _ _ _ _ _ (by assumption) (by assumption) _).mono ?_)
  rintro r w22_ ⟨e57_0, e57_1, e57_2, e57_3, e57_4, rfl, h57_, hg⟩
  refine ⟨_, rfl, ?_⟩
  have hS22_ : Gr v.drew w22_ := Gr.trans hS21_ hg
  clear hg
  refine hK.out _ _ hS22_ (fun _ => ?_)
  clear hK K
  simp only [Act.put, List.setIfInBounds_toArray, List.set_cons_zero, List.set_cons_succ, List.getElem_toArray, List.getElem_cons_zero, List.getElem_cons_succ]
  refine wpAnyH_ready (rs := [58]) (by kernel_rfl) (by simp) (AllReadyH.cons (o := _) rfl (fun K hK => ?_) AllReadyH.nil)
  refine step_callw (by kernel_rfl) 14 #[(.agg #[.int .u64 e57_0, .int .u64 e57_1, .int .u64 e57_2, .int .u64 e57_3, .int .u64 e57_4])] (by kernel_rfl) ((neg_at _ _ _ _ _ _ (by assumption) _).mono ?_)
  rintro r w23_ ⟨e58_0, e58_1, e58_2, e58_3, e58_4, rfl, h58_, hg⟩
  refine ⟨_, rfl, ?_⟩
  have hS23_ : Gr v.drew w23_ := Gr.trans hS22_ hg
  clear hg
  refine hK.out _ _ hS23_ (fun _ => ?_)
  clear hK K
  simp only [Act.put, List.setIfInBounds_toArray, List.set_cons_zero, List.set_cons_succ, List.getElem_toArray, List.getElem_cons_zero, List.getElem_cons_succ]
  refine wpAnyH_ready (rs := [59]) (by kernel_rfl) (by simp) (AllReadyH.cons (o := _) rfl (fun K hK => ?_) AllReadyH.nil)
  refine step_callw (by kernel_rfl) 10 #[(.agg #[.int .u64 e54_0, .int .u64 e54_1, .int .u64 e54_2, .int .u64 e54_3, .int .u64 e54_4]), (.agg #[.int .u64 e58_0, .int .u64 e58_1, .int .u64 e58_2, .int .u64 e58_3, .int .u64 e58_4])] (by kernel_rfl) ((same_at _ _ _ _ _ _ _ _ _ _ _ _ true (by assumption) (by assumption) (by assumption) _).mono ?_)
  rintro r w24_ ⟨rfl, hg⟩
  refine ⟨_, rfl, ?_⟩
  have hS24_ : Gr v.drew w24_ := Gr.trans hS23_ hg
  clear hg
  refine hK.out _ _ hS24_ (fun _ => ?_)
  clear hK K
  simp only [Act.put, List.setIfInBounds_toArray, List.set_cons_zero, List.set_cons_succ, List.getElem_toArray, List.getElem_cons_zero, List.getElem_cons_succ]
  refine wpAnyH_take (i := 60) (v := (.bool true)) rfl (by kernel_rfl) (by kernel_rfl) (by kernel_rfl) (fun _ _ _ h => h) (.inl ⟨by kernel_rfl, fun u hu => by kernel_rfl⟩) hS24_ ?_
  simp only [Act.put, List.setIfInBounds_toArray, List.set_cons_zero, List.set_cons_succ, List.getElem_toArray, List.getElem_cons_zero, List.getElem_cons_succ]
  refine wpAnyH_ready (rs := [61]) (by kernel_rfl) (by simp) (AllReadyH.cons (o := _) rfl (fun K hK => ?_) AllReadyH.nil)
  go_simp
  refine hK.out _ _ hS24_ (fun _ => ?_)
  clear hK K
  refine wpAnyH_done (by kernel_rfl) ?_ _
  go_wp2_with fail
  refine bodyPost_ret (v := .bool true) ?_ rfl ?_
  · simp [results, Try.results3, go_sem]
  · exact ⟨rfl, (unhide hG).trans (((Gr.refl _).drew).trans hS24_)⟩
end Go.Proofs.Ytjncnmhigikdoab
