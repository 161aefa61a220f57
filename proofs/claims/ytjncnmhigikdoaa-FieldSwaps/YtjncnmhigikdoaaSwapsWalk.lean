/-
  FieldSwaps: the walk, for whatever number and keys.
-/
import Derived.Test.YtjncnmhigikdoaaBackMath
import Derived.Test.YtjncnmhigikdoaaFerm
import Derived.Test.YtjncnmhigikdoaaRegs
import Derived.Test.YtjncnmhigikdoaaSwapAt
import Derived.Test.YtjncnmhigikdoaaElems
namespace Go.Proofs.Ytjncnmhigikdoaa
open Go.RowKit
set_option maxRecDepth 100000
set_option linter.unusedSimpArgs false
attribute [local go_sem ↓] Go.wp_at_zero Go.wp_at_succ

set_option maxHeartbeats 4000000 in
theorem swaps_any (bit n m : Int) (hn : 0 ≤ n ∧ n < 115792089237316195423570985008687907853269984665640564039457584007913129639936) (hm : 0 ≤ m ∧ m < 115792089237316195423570985008687907853269984665640564039457584007913129639936) (w : World) :
    Calls Try.prog 7 #[.int .i64 bit, .agg (kc (digs n 32)), .agg (kc (digs m 32))] w (fun r w' => r = .returned (.bool true) ∧ Gr w w') := by
  obtain ⟨LX, hLX⟩ : ∃ L, L = (digs n 32).map (Value.int .u8) := ⟨_, rfl⟩
  have eX : kc (digs n 32) = LX.toArray := by rw [hLX]; rfl
  have kX : Hid (KeyIs LX n) := hide ⟨hn.1, hLX⟩
  have HiX : Hid ((Try.prog.info? 23).map (·.size) = some LX.length) := hide (by rw [Try.infoKey, hLX, List.length_map, digs_len])
  have hN0 : Hid (0 ≤ n % 57896044618658097711785492504343953926634992332820282019728792003956564819968) := hide (by omega)
  rw [eX]
  clear hLX eX
  generalize hNe : n % 57896044618658097711785492504343953926634992332820282019728792003956564819968 = N at hN0
  replace hNe := hide hNe
  obtain ⟨LY, hLY⟩ : ∃ L, L = (digs m 32).map (Value.int .u8) := ⟨_, rfl⟩
  have eY : kc (digs m 32) = LY.toArray := by rw [hLY]; rfl
  have kY : Hid (KeyIs LY m) := hide ⟨hm.1, hLY⟩
  have HiY : Hid ((Try.prog.info? 23).map (·.size) = some LY.length) := hide (by rw [Try.infoKey, hLY, List.length_map, digs_len])
  have hM0 : Hid (0 ≤ m % 57896044618658097711785492504343953926634992332820282019728792003956564819968) := hide (by omega)
  rw [eY]
  clear hLY eY
  generalize hMe : m % 57896044618658097711785492504343953926634992332820282019728792003956564819968 = M at hM0
  replace hMe := hide hMe
  clear hn hm
  go_enter Try.func7, Try.ntmps7
  go_upto_region 3 with (go_at_call 9; refine (wakes_at' _).mono ?_; rintro r w1 ⟨rfl, hg⟩; have hG := hide (Gr.trans (((Gr.refl w).alloc _).alloc _) hg); have hX := hide (hg.blk (((Gr.refl _).alloc _).blk (blk_new w _))); have hY : Hid (w1.heap[w.heap.size + 1]? = some (.cells LY.toArray 23 (0, 0))) := by rw [← size_alloc w (.cells LX.toArray 23 (0, 0))]; exact hide (hg.blk (blk_new _ _)))
  refine wp_region_held_drew (S := fun v => Gr w1.drew v) (by kernel_rfl) (Gr.refl _) (fun hHeld => ?_)
  refine wpAnyH_take (i := 0) (v := .agg LX.toArray) rfl (by kernel_rfl) (by kernel_rfl) (by kernel_rfl) (fun _ _ _ h => h) (.inl ⟨by kernel_rfl, fun u hu => exec_row u 23 (.tmp 4) rfl w.heap.size 0 (by kernel_rfl) LX (.array 32 5) (range_row (hu.blk (unhide hX))) Try.underlying23 rfl (unhide HiX)⟩) (by assumption) ?_
  simp only [Act.put, List.setIfInBounds_toArray, List.set_cons_zero, List.set_cons_succ, List.getElem_toArray, List.getElem_cons_zero, List.getElem_cons_succ]
  refine wpAnyH_take (i := 2) (v := .agg LY.toArray) rfl (by kernel_rfl) (by kernel_rfl) (by kernel_rfl) (fun _ _ _ h => h) (.inl ⟨by kernel_rfl, fun u hu => exec_row u 23 (.tmp 5) rfl (w.heap.size + 1) 0 (by kernel_rfl) LY (.array 32 5) (range_row (hu.blk (unhide hY))) Try.underlying23 rfl (unhide HiY)⟩) (by assumption) ?_
  simp only [Act.put, List.setIfInBounds_toArray, List.set_cons_zero, List.set_cons_succ, List.getElem_toArray, List.getElem_cons_zero, List.getElem_cons_succ]
  refine define2 w1.drew _ (fun b1 b2 b3 b4 b5 b6 => #[true, b1, true, b2, b3, b4, b5, b6]) (EC N) (EC M) 5 5 29 29 #[.int .u64 0, .int .u64 0, .int .u64 0, .int .u64 0, .int .u64 0] #[.int .u64 0, .int .u64 0, .int .u64 0, .int .u64 0, .int .u64 0] 1 3 4 5 6 7
    (by first | rfl | decide +kernel) (by first | rfl | decide +kernel) EC.size EC.size (by kernel_rfl) (fun _ _ _ _ _ _ => ⟨rfl, rfl, rfl, rfl, rfl, rfl⟩) ?_ ?_ ?_ ?_ ?_ ?_ ?_ _ _ _ _ (by decide +kernel) (d2_start _ _ 14 16 7 8 _ _ _ _ _ _ _ _ _ rfl (Gr.refl _))
  all_goals simp only [fr2, Act.put, List.setIfInBounds_toArray, List.set_cons_zero, List.set_cons_succ, List.getElem_toArray, List.getElem_cons_zero, List.getElem_cons_succ]
  · intro v1 v2 q1 q2 u K hu hK
    refine wpOp_step (o := _) rfl (fun K' hK' => ?_)
    replace hK' := hide hK'
    replace hK := hide hK
    go_simp
    refine (from_L _ _ (by assumption) _).mono ?_
    rintro r w2 ⟨y0, y1, y2, y3, y4, rfl, hB, hg⟩
    rw [unhide hNe] at hB
    exact unhide hK' _ _ (unhide hK _ _ ⟨y0, y1, y2, y3, y4, rfl, hB⟩ hg)
  · intro v1 v2 q1 q2 u K hu hK
    refine wpOp_step (o := _) rfl (fun K' hK' => ?_)
    replace hK' := hide hK'
    replace hK := hide hK
    go_simp
    refine (from_L _ _ (by assumption) _).mono ?_
    rintro r w2 ⟨y0, y1, y2, y3, y4, rfl, hB, hg⟩
    rw [unhide hMe] at hB
    exact unhide hK' _ _ (unhide hK _ _ ⟨y0, y1, y2, y3, y4, rfl, hB⟩ hg)
  · intro v1 v2 q1 q2 u K hK
    refine wpOp_step (o := _) rfl (fun K' hK' => ?_)
    replace hK' := hide hK'
    replace hK := hide hK
    go_simp
    exact unhide hK' _ _ (unhide hK)
  · intro v1 v2 q1 q2 u K hK
    refine wpOp_step (o := _) rfl (fun K' hK' => ?_)
    replace hK' := hide hK'
    replace hK := hide hK
    go_simp
    exact unhide hK' _ _ (unhide hK)
  · intro c v2 g q2 u o K hb ho hc hK
    refine wpOp_step (o := _) rfl (fun K' hK' => ?_)
    rw [if_pos (by kernel_rfl)]
    simp only [Go.wp_at_zero, Go.wp_at_succ]
    exact wp_store_row 29 (.tmp 7) (.tmp 14) rfl g c (by kernel_rfl) (by kernel_rfl) 29 o hb (by rw [Try.infoElem, hc.size]) (by rw [ho, hc.size]) hc.one (hK' _ _ hK)
  · intro v1 c q1 g u o K hb ho hc hK
    refine wpOp_step (o := _) rfl (fun K' hK' => ?_)
    rw [if_pos (by kernel_rfl)]
    simp only [Go.wp_at_zero, Go.wp_at_succ]
    exact wp_store_row 29 (.tmp 8) (.tmp 16) rfl g c (by kernel_rfl) (by kernel_rfl) 29 o hb (by rw [Try.infoElem, hc.size]) (by rw [ho, hc.size]) hc.one (hK' _ _ hK)
  rintro c1 c2 g1 g2 u hgu ⟨a0, a1, a2, a3, a4, rfl, hA⟩ ⟨b0, b1, b2, b3, b4, rfl, hB⟩ hz1 hz2 hne hb1 hb2
  replace hG := hide (((unhide hG).drew).trans hgu)
  clear hgu hz1 hz2 hX hY hg hHeld kX kY hNe hMe HiX HiY
  have a0c := cell_of (i := 0) hb1 rfl
  have a1c := cell_of (i := 1) hb1 rfl
  have a2c := cell_of (i := 2) hb1 rfl
  have a3c := cell_of (i := 3) hb1 rfl
  have a4c := cell_of (i := 4) hb1 rfl
  have b0c := cell_of (i := 0) hb2 rfl
  have b1c := cell_of (i := 1) hb2 rfl
  have b2c := cell_of (i := 2) hb2 rfl
  have b3c := cell_of (i := 3) hb2 rfl
  have b4c := cell_of (i := 4) hb2 rfl
  replace hb1 := hide hb1
  replace hb2 := hide hb2
  have hsw := hide (swap_ok bit a0 a1 a2 a3 a4 b0 b1 b2 b3 b4 (unhide hA).1 (unhide hB).1)
  have e1 : ∀ w, Sem.run Try.prog (Op.equalIn 10000 23 (.agg (kc (digs (N % pp) 32))) (.agg (kc (digs (N % pp) 32)))) w = .ok true w := fun w => by rw [key_eq _ _ (digs_len _ _) (digs_len _ _) w]; simp
  have e2 : ∀ w, Sem.run Try.prog (Op.equalIn 10000 23 (.agg (kc (digs (M % pp) 32))) (.agg (kc (digs (M % pp) 32)))) w = .ok true w := fun w => by rw [key_eq _ _ (digs_len _ _) (digs_len _ _) w]; simp
  replace e1 := hide e1
  replace e2 := hide e2
  by_cases hbit : bit % 2 = 1
  · have hand : bits .and .i64 bit 1 = 1 := by rw [i64_and1]; omega
    have hsw' : Hid (∀ w, Calls Try.prog 30 #[.int .i64 bit, .agg #[.int .u64 a0, .int .u64 a1, .int .u64 a2, .int .u64 a3, .int .u64 a4], .agg #[.int .u64 b0, .int .u64 b1, .int .u64 b2, .int .u64 b3, .int .u64 b4]] w (fun r w' => r = .returned (.tuple #[.agg #[.int .u64 b0, .int .u64 b1, .int .u64 b2, .int .u64 b3, .int .u64 b4], .agg #[.int .u64 a0, .int .u64 a1, .int .u64 a2, .int .u64 a3, .int .u64 a4]]) ∧ Gr w w')) := hide (fun w => by have := unhide hsw w; rw [if_pos hbit] at this; exact this)
    clear hbit hsw
    go_upto_region 6 with (go_at_call 30; refine (unhide hsw' _).mono ?_; rintro r w3 ⟨rfl, hg⟩)
    have gA := ((Gr.refl w3).alloc (.cells #[.int .u64 b0, .int .u64 b1, .int .u64 b2, .int .u64 b3, .int .u64 b4] 29 (0, 0))).alloc (.cells #[.int .u64 a0, .int .u64 a1, .int .u64 a2, .int .u64 a3, .int .u64 a4] 29 (0, 0))
    have hb3 : Hid (((w3.alloc (.cells #[.int .u64 b0, .int .u64 b1, .int .u64 b2, .int .u64 b3, .int .u64 b4] 29 (0, 0))).alloc (.cells #[.int .u64 a0, .int .u64 a1, .int .u64 a2, .int .u64 a3, .int .u64 a4] 29 (0, 0))).heap[w3.heap.size]? = some (.cells #[.int .u64 b0, .int .u64 b1, .int .u64 b2, .int .u64 b3, .int .u64 b4] 29 (0, 0))) := hide (((Gr.refl _).alloc _).blk (blk_new _ _))
    have hb4 : Hid (((w3.alloc (.cells #[.int .u64 b0, .int .u64 b1, .int .u64 b2, .int .u64 b3, .int .u64 b4] 29 (0, 0))).alloc (.cells #[.int .u64 a0, .int .u64 a1, .int .u64 a2, .int .u64 a3, .int .u64 a4] 29 (0, 0))).heap[w3.heap.size + 1]? = some (.cells #[.int .u64 a0, .int .u64 a1, .int .u64 a2, .int .u64 a3, .int .u64 a4] 29 (0, 0))) := hide (by rw [← size_alloc w3 (.cells #[.int .u64 b0, .int .u64 b1, .int .u64 b2, .int .u64 b3, .int .u64 b4] 29 (0, 0))]; exact blk_new _ _)
    have l3 := lt_of_block (unhide hb3)
    have z1 := lt_of_block (hg.blk (unhide hb1))
    have z2 := lt_of_block (hg.blk (unhide hb2))
    replace hb1 := hide (gA.blk (hg.blk (unhide hb1)))
    replace hb2 := hide (gA.blk (hg.blk (unhide hb2)))
    have hGs := (unhide hG).trans hg |>.size
    replace hG := hide ((unhide hG).trans (hg.trans gA))
    clear hg gA hsw' hand l3
    generalize hv0 : World.alloc _ _ = v0 at *
    obtain ⟨g3, hg3⟩ : ∃ g, g = w3.heap.size := ⟨_, rfl⟩
    rw [← hg3] at hb3 hb4 z1 z2 hGs ⊢
    clear hv0 hg3 a0c a1c a2c a3c a4c b0c b1c b2c b3c b4c
    have n1 : g1 ≠ g3 := by omega
    have n2 : g2 ≠ g3 := by omega
    have n3 : g1 ≠ g3 + 1 := by omega
    have n4 : g2 ≠ g3 + 1 := by omega
    clear z1 z2
    have b0c := cell_of (i := 0) (unhide hb3) rfl
    have b1c := cell_of (i := 1) (unhide hb3) rfl
    have b2c := cell_of (i := 2) (unhide hb3) rfl
    have b3c := cell_of (i := 3) (unhide hb3) rfl
    have b4c := cell_of (i := 4) (unhide hb3) rfl
    have a0c := cell_of (i := 0) (unhide hb4) rfl
    have a1c := cell_of (i := 1) (unhide hb4) rfl
    have a2c := cell_of (i := 2) (unhide hb4) rfl
    have a3c := cell_of (i := 3) (unhide hb4) rfl
    have a4c := cell_of (i := 4) (unhide hb4) rfl
    have f0c := froz_of (i := 0) (unhide hb3)
    have f1c := froz_of (i := 1) (unhide hb3)
    have f2c := froz_of (i := 2) (unhide hb3)
    have f3c := froz_of (i := 3) (unhide hb3)
    have f4c := froz_of (i := 4) (unhide hb3)
    have f0d := froz_of (i := 0) (unhide hb4)
    have f1d := froz_of (i := 1) (unhide hb4)
    have f2d := froz_of (i := 2) (unhide hb4)
    have f3d := froz_of (i := 3) (unhide hb4)
    have f4d := froz_of (i := 4) (unhide hb4)
    go_upto_region 7 with fail
    have p3 := put5 (unhide hb3) (.int .u64 a0) (.int .u64 a1) (.int .u64 a2) (.int .u64 a3) (.int .u64 a4)
    have p4 := put5 ((far5 v0 g3 (g3 + 1) (by omega) (.int .u64 a0) (.int .u64 a1) (.int .u64 a2) (.int .u64 a3) (.int .u64 a4)).trans (unhide hb4)) (.int .u64 b0) (.int .u64 b1) (.int .u64 b2) (.int .u64 b3) (.int .u64 b4)
    replace p3 := (far5 _ (g3 + 1) g3 (by omega) (.int .u64 b0) (.int .u64 b1) (.int .u64 b2) (.int .u64 b3) (.int .u64 b4)).trans p3
    have p1 := (far5 _ (g3 + 1) g1 n3 (.int .u64 b0) (.int .u64 b1) (.int .u64 b2) (.int .u64 b3) (.int .u64 b4)).trans ((far5 v0 g3 g1 n1 (.int .u64 a0) (.int .u64 a1) (.int .u64 a2) (.int .u64 a3) (.int .u64 a4)).trans (unhide hb1))
    have p2 := (far5 _ (g3 + 1) g2 n4 (.int .u64 b0) (.int .u64 b1) (.int .u64 b2) (.int .u64 b3) (.int .u64 b4)).trans ((far5 v0 g3 g2 n2 (.int .u64 a0) (.int .u64 a1) (.int .u64 a2) (.int .u64 a3) (.int .u64 a4)).trans (unhide hb2))
    have pG := ((unhide hG).set5 (b := g3) (by omega) (.int .u64 a0) (.int .u64 a1) (.int .u64 a2) (.int .u64 a3) (.int .u64 a4)).set5 (b := g3 + 1) (by omega) (.int .u64 b0) (.int .u64 b1) (.int .u64 b2) (.int .u64 b3) (.int .u64 b4)
    clear hb1 hb2 hb3 hb4 hG a0c a1c a2c a3c a4c b0c b1c b2c b3c b4c f0c f1c f2c f3c f4c f0d f1d f2d f3d f4d n1 n2 n3 n4 hGs
    generalize World.setCell _ _ _ = v at *
    have hb1 := hide p1
    have hb2 := hide p2
    have hb3 := hide p3
    have hb4 := hide p4
    have hG := hide pG
    clear p1 p2 p3 p4 pG
    generalize g3 + 1 = g4 at *
    have hq1 : Hid (decide (N % pp = N % pp) = true) := hide (decide_eq_true rfl)
    have hq2 : Hid (decide (M % pp = M % pp) = true) := hide (decide_eq_true rfl)
    refine wp_region_held_drew (S := fun x => Gr v.drew x) (by kernel_rfl) (Gr.refl _) (fun hS0 => ?_)
    refine wpAnyH_take (i := 0) (v := (.agg #[.int .u64 a0, .int .u64 a1, .int .u64 a2, .int .u64 a3, .int .u64 a4])) rfl (by kernel_rfl) (by kernel_rfl) (by kernel_rfl) (fun _ _ _ h => h) (.inl ⟨by kernel_rfl, fun u hu => exec_row u 29 (.tmp 9) rfl g3 0 (by kernel_rfl) [.int .u64 a0, .int .u64 a1, .int .u64 a2, .int .u64 a3, .int .u64 a4] _ (range_row (hu.blk (unhide hb3))) Try.underlying29 rfl Try.infoElem⟩) hS0 ?_
    simp only [Act.put, List.setIfInBounds_toArray, List.set_cons_zero, List.set_cons_succ, List.getElem_toArray, List.getElem_cons_zero, List.getElem_cons_succ]
    refine wpAnyH_take (i := 1) (v := (.agg #[.int .u64 a0, .int .u64 a1, .int .u64 a2, .int .u64 a3, .int .u64 a4])) rfl (by kernel_rfl) (by kernel_rfl) (by kernel_rfl) (fun _ _ _ h => h) (.inl ⟨by kernel_rfl, fun u hu => exec_row u 29 (.tmp 7) rfl g1 0 (by kernel_rfl) [.int .u64 a0, .int .u64 a1, .int .u64 a2, .int .u64 a3, .int .u64 a4] _ (range_row (hu.blk (unhide hb1))) Try.underlying29 rfl Try.infoElem⟩) hS0 ?_
    simp only [Act.put, List.setIfInBounds_toArray, List.set_cons_zero, List.set_cons_succ, List.getElem_toArray, List.getElem_cons_zero, List.getElem_cons_succ]
    refine wpAnyH_ready (rs := [2]) (by kernel_rfl) (by simp) (AllReadyH.cons (o := _) rfl (fun K hK => ?_) AllReadyH.nil)
    refine step_callw (by kernel_rfl) 16 #[(.agg #[.int .u64 a0, .int .u64 a1, .int .u64 a2, .int .u64 a3, .int .u64 a4]), (.agg #[.int .u64 a0, .int .u64 a1, .int .u64 a2, .int .u64 a3, .int .u64 a4])] (by kernel_rfl) ((same_at _ _ _ _ _ _ _ _ _ _ _ _ true (by assumption) (by assumption) (by assumption) _).mono ?_)
    rintro r w1_ ⟨rfl, hg⟩
    refine ⟨_, rfl, ?_⟩
    have hS1_ : Gr v.drew w1_ := Gr.trans hS0 hg
    clear hg
    refine hK.out _ _ hS1_ (fun _ => ?_)
    clear hK K
    simp only [Act.put, List.setIfInBounds_toArray, List.set_cons_zero, List.set_cons_succ, List.getElem_toArray, List.getElem_cons_zero, List.getElem_cons_succ]
    refine wpAnyH_take (i := 3) (v := (.bool true)) rfl (by kernel_rfl) (by kernel_rfl) (by kernel_rfl) (fun _ _ _ h => h) (.inl ⟨by kernel_rfl, fun u hu => by kernel_rfl⟩) hS1_ ?_
    simp only [Act.put, List.setIfInBounds_toArray, List.set_cons_zero, List.set_cons_succ, List.getElem_toArray, List.getElem_cons_zero, List.getElem_cons_succ]
    refine wpAnyH_take (i := 4) (v := (.agg #[.int .u64 b0, .int .u64 b1, .int .u64 b2, .int .u64 b3, .int .u64 b4])) rfl (by kernel_rfl) (by kernel_rfl) (by kernel_rfl) (fun _ _ _ h => h) (.inl ⟨by kernel_rfl, fun u hu => exec_row u 29 (.tmp 10) rfl g4 0 (by kernel_rfl) [.int .u64 b0, .int .u64 b1, .int .u64 b2, .int .u64 b3, .int .u64 b4] _ (range_row (hu.blk (unhide hb4))) Try.underlying29 rfl Try.infoElem⟩) hS1_ ?_
    simp only [Act.put, List.setIfInBounds_toArray, List.set_cons_zero, List.set_cons_succ, List.getElem_toArray, List.getElem_cons_zero, List.getElem_cons_succ]
    refine wpAnyH_take (i := 5) (v := (.agg #[.int .u64 b0, .int .u64 b1, .int .u64 b2, .int .u64 b3, .int .u64 b4])) rfl (by kernel_rfl) (by kernel_rfl) (by kernel_rfl) (fun _ _ _ h => h) (.inl ⟨by kernel_rfl, fun u hu => exec_row u 29 (.tmp 8) rfl g2 0 (by kernel_rfl) [.int .u64 b0, .int .u64 b1, .int .u64 b2, .int .u64 b3, .int .u64 b4] _ (range_row (hu.blk (unhide hb2))) Try.underlying29 rfl Try.infoElem⟩) hS1_ ?_
    simp only [Act.put, List.setIfInBounds_toArray, List.set_cons_zero, List.set_cons_succ, List.getElem_toArray, List.getElem_cons_zero, List.getElem_cons_succ]
    refine wpAnyH_ready (rs := [6]) (by kernel_rfl) (by simp) (AllReadyH.cons (o := _) rfl (fun K hK => ?_) AllReadyH.nil)
    refine step_callw (by kernel_rfl) 16 #[(.agg #[.int .u64 b0, .int .u64 b1, .int .u64 b2, .int .u64 b3, .int .u64 b4]), (.agg #[.int .u64 b0, .int .u64 b1, .int .u64 b2, .int .u64 b3, .int .u64 b4])] (by kernel_rfl) ((same_at _ _ _ _ _ _ _ _ _ _ _ _ true (by assumption) (by assumption) (by assumption) _).mono ?_)
    rintro r w2_ ⟨rfl, hg⟩
    refine ⟨_, rfl, ?_⟩
    have hS2_ : Gr v.drew w2_ := Gr.trans hS1_ hg
    clear hg
    refine hK.out _ _ hS2_ (fun _ => ?_)
    clear hK K
    simp only [Act.put, List.setIfInBounds_toArray, List.set_cons_zero, List.set_cons_succ, List.getElem_toArray, List.getElem_cons_zero, List.getElem_cons_succ]
    refine wpAnyH_take (i := 7) (v := (.bool true)) rfl (by kernel_rfl) (by kernel_rfl) (by kernel_rfl) (fun _ _ _ h => h) (.inl ⟨by kernel_rfl, fun u hu => by kernel_rfl⟩) hS2_ ?_
    simp only [Act.put, List.setIfInBounds_toArray, List.set_cons_zero, List.set_cons_succ, List.getElem_toArray, List.getElem_cons_zero, List.getElem_cons_succ]
    refine wpAnyH_take (i := 8) (v := (.bool true)) rfl (by kernel_rfl) (by kernel_rfl) (by kernel_rfl) (fun _ _ _ h => h) (.inl ⟨by kernel_rfl, fun u hu => by kernel_rfl⟩) hS2_ ?_
    simp only [Act.put, List.setIfInBounds_toArray, List.set_cons_zero, List.set_cons_succ, List.getElem_toArray, List.getElem_cons_zero, List.getElem_cons_succ]
    refine wpAnyH_take (i := 9) (v := (.agg #[.int .u64 a0, .int .u64 a1, .int .u64 a2, .int .u64 a3, .int .u64 a4])) rfl (by kernel_rfl) (by kernel_rfl) (by kernel_rfl) (fun _ _ _ h => h) (.inl ⟨by kernel_rfl, fun u hu => exec_row u 29 (.tmp 9) rfl g3 0 (by kernel_rfl) [.int .u64 a0, .int .u64 a1, .int .u64 a2, .int .u64 a3, .int .u64 a4] _ (range_row (hu.blk (unhide hb3))) Try.underlying29 rfl Try.infoElem⟩) hS2_ ?_
    simp only [Act.put, List.setIfInBounds_toArray, List.set_cons_zero, List.set_cons_succ, List.getElem_toArray, List.getElem_cons_zero, List.getElem_cons_succ]
    refine wpAnyH_take (i := 11) (v := (.agg #[.int .u64 a0, .int .u64 a1, .int .u64 a2, .int .u64 a3, .int .u64 a4])) rfl (by kernel_rfl) (by kernel_rfl) (by kernel_rfl) (fun _ _ _ h => h) (.inl ⟨by kernel_rfl, fun u hu => exec_row u 29 (.tmp 7) rfl g1 0 (by kernel_rfl) [.int .u64 a0, .int .u64 a1, .int .u64 a2, .int .u64 a3, .int .u64 a4] _ (range_row (hu.blk (unhide hb1))) Try.underlying29 rfl Try.infoElem⟩) hS2_ ?_
    simp only [Act.put, List.setIfInBounds_toArray, List.set_cons_zero, List.set_cons_succ, List.getElem_toArray, List.getElem_cons_zero, List.getElem_cons_succ]
    refine wpAnyH_ready (rs := [10]) (by kernel_rfl) (by simp) (AllReadyH.cons (o := _) rfl (fun K hK => ?_) AllReadyH.nil)
    refine step_callw (by kernel_rfl) 13 #[(.agg #[.int .u64 a0, .int .u64 a1, .int .u64 a2, .int .u64 a3, .int .u64 a4])] (by kernel_rfl) ((bytes_at _ _ _ _ _ _ (by assumption) _).mono ?_)
    rintro r w3_ ⟨rfl, hg⟩
    refine ⟨_, rfl, ?_⟩
    have hS3_ : Gr v.drew w3_ := Gr.trans hS2_ hg
    clear hg
    refine hK.out _ _ hS3_ (fun _ => ?_)
    clear hK K
    simp only [Act.put, List.setIfInBounds_toArray, List.set_cons_zero, List.set_cons_succ, List.getElem_toArray, List.getElem_cons_zero, List.getElem_cons_succ]
    refine wpAnyH_ready (rs := [12]) (by kernel_rfl) (by simp) (AllReadyH.cons (o := _) rfl (fun K hK => ?_) AllReadyH.nil)
    refine step_callw (by kernel_rfl) 13 #[(.agg #[.int .u64 a0, .int .u64 a1, .int .u64 a2, .int .u64 a3, .int .u64 a4])] (by kernel_rfl) ((bytes_at _ _ _ _ _ _ (by assumption) _).mono ?_)
    rintro r w4_ ⟨rfl, hg⟩
    refine ⟨_, rfl, ?_⟩
    have hS4_ : Gr v.drew w4_ := Gr.trans hS3_ hg
    clear hg
    refine hK.out _ _ hS4_ (fun _ => ?_)
    clear hK K
    simp only [Act.put, List.setIfInBounds_toArray, List.set_cons_zero, List.set_cons_succ, List.getElem_toArray, List.getElem_cons_zero, List.getElem_cons_succ]
    refine wpAnyH_take (i := 13) (v := (.bool true)) rfl (by kernel_rfl) (by kernel_rfl) (by kernel_rfl) (fun _ _ _ h => h) (.inl ⟨by kernel_rfl, fun u hu => by have e1 := unhide e1; go_simp⟩) hS4_ ?_
    simp only [Act.put, List.setIfInBounds_toArray, List.set_cons_zero, List.set_cons_succ, List.getElem_toArray, List.getElem_cons_zero, List.getElem_cons_succ]
    refine wpAnyH_take (i := 14) (v := (.bool true)) rfl (by kernel_rfl) (by kernel_rfl) (by kernel_rfl) (fun _ _ _ h => h) (.inl ⟨by kernel_rfl, fun u hu => by kernel_rfl⟩) hS4_ ?_
    simp only [Act.put, List.setIfInBounds_toArray, List.set_cons_zero, List.set_cons_succ, List.getElem_toArray, List.getElem_cons_zero, List.getElem_cons_succ]
    refine wpAnyH_take (i := 15) (v := (.bool true)) rfl (by kernel_rfl) (by kernel_rfl) (by kernel_rfl) (fun _ _ _ h => h) (.inl ⟨by kernel_rfl, fun u hu => by kernel_rfl⟩) hS4_ ?_
    simp only [Act.put, List.setIfInBounds_toArray, List.set_cons_zero, List.set_cons_succ, List.getElem_toArray, List.getElem_cons_zero, List.getElem_cons_succ]
    refine wpAnyH_take (i := 16) (v := (.agg #[.int .u64 b0, .int .u64 b1, .int .u64 b2, .int .u64 b3, .int .u64 b4])) rfl (by kernel_rfl) (by kernel_rfl) (by kernel_rfl) (fun _ _ _ h => h) (.inl ⟨by kernel_rfl, fun u hu => exec_row u 29 (.tmp 10) rfl g4 0 (by kernel_rfl) [.int .u64 b0, .int .u64 b1, .int .u64 b2, .int .u64 b3, .int .u64 b4] _ (range_row (hu.blk (unhide hb4))) Try.underlying29 rfl Try.infoElem⟩) hS4_ ?_
    simp only [Act.put, List.setIfInBounds_toArray, List.set_cons_zero, List.set_cons_succ, List.getElem_toArray, List.getElem_cons_zero, List.getElem_cons_succ]
    refine wpAnyH_take (i := 18) (v := (.agg #[.int .u64 b0, .int .u64 b1, .int .u64 b2, .int .u64 b3, .int .u64 b4])) rfl (by kernel_rfl) (by kernel_rfl) (by kernel_rfl) (fun _ _ _ h => h) (.inl ⟨by kernel_rfl, fun u hu => exec_row u 29 (.tmp 8) rfl g2 0 (by kernel_rfl) [.int .u64 b0, .int .u64 b1, .int .u64 b2, .int .u64 b3, .int .u64 b4] _ (range_row (hu.blk (unhide hb2))) Try.underlying29 rfl Try.infoElem⟩) hS4_ ?_
    simp only [Act.put, List.setIfInBounds_toArray, List.set_cons_zero, List.set_cons_succ, List.getElem_toArray, List.getElem_cons_zero, List.getElem_cons_succ]
    refine wpAnyH_ready (rs := [17]) (by kernel_rfl) (by simp) (AllReadyH.cons (o := _) rfl (fun K hK => ?_) AllReadyH.nil)
    refine step_callw (by kernel_rfl) 13 #[(.agg #[.int .u64 b0, .int .u64 b1, .int .u64 b2, .int .u64 b3, .int .u64 b4])] (by kernel_rfl) ((bytes_at _ _ _ _ _ _ (by assumption) _).mono ?_)
    rintro r w5_ ⟨rfl, hg⟩
    refine ⟨_, rfl, ?_⟩
    have hS5_ : Gr v.drew w5_ := Gr.trans hS4_ hg
    clear hg
    refine hK.out _ _ hS5_ (fun _ => ?_)
    clear hK K
    simp only [Act.put, List.setIfInBounds_toArray, List.set_cons_zero, List.set_cons_succ, List.getElem_toArray, List.getElem_cons_zero, List.getElem_cons_succ]
    refine wpAnyH_ready (rs := [19]) (by kernel_rfl) (by simp) (AllReadyH.cons (o := _) rfl (fun K hK => ?_) AllReadyH.nil)
    refine step_callw (by kernel_rfl) 13 #[(.agg #[.int .u64 b0, .int .u64 b1, .int .u64 b2, .int .u64 b3, .int .u64 b4])] (by kernel_rfl) ((bytes_at _ _ _ _ _ _ (by assumption) _).mono ?_)
    rintro r w6_ ⟨rfl, hg⟩
    refine ⟨_, rfl, ?_⟩
    have hS6_ : Gr v.drew w6_ := Gr.trans hS5_ hg
    clear hg
    refine hK.out _ _ hS6_ (fun _ => ?_)
    clear hK K
    simp only [Act.put, List.setIfInBounds_toArray, List.set_cons_zero, List.set_cons_succ, List.getElem_toArray, List.getElem_cons_zero, List.getElem_cons_succ]
    refine wpAnyH_take (i := 20) (v := (.bool true)) rfl (by kernel_rfl) (by kernel_rfl) (by kernel_rfl) (fun _ _ _ h => h) (.inl ⟨by kernel_rfl, fun u hu => by have e2 := unhide e2; go_simp⟩) hS6_ ?_
    simp only [Act.put, List.setIfInBounds_toArray, List.set_cons_zero, List.set_cons_succ, List.getElem_toArray, List.getElem_cons_zero, List.getElem_cons_succ]
    refine wpAnyH_take (i := 21) (v := (.bool true)) rfl (by kernel_rfl) (by kernel_rfl) (by kernel_rfl) (fun _ _ _ h => h) (.inl ⟨by kernel_rfl, fun u hu => by kernel_rfl⟩) hS6_ ?_
    simp only [Act.put, List.setIfInBounds_toArray, List.set_cons_zero, List.set_cons_succ, List.getElem_toArray, List.getElem_cons_zero, List.getElem_cons_succ]
    refine wpAnyH_ready (rs := [22]) (by kernel_rfl) (by simp) (AllReadyH.cons (o := _) rfl (fun K hK => ?_) AllReadyH.nil)
    go_simp
    refine hK.out _ _ hS6_ (fun _ => ?_)
    clear hK K
    refine wpAnyH_done (by kernel_rfl) ?_ _
    go_wp2_with fail
    refine bodyPost_ret (v := .bool true) ?_ rfl ?_
    · simp [results, Try.results7, go_sem]
    · exact ⟨rfl, (unhide hG).trans (((Gr.refl _).drew).trans hS6_)⟩
  · have hand : bits .and .i64 bit 1 = 0 := by rw [i64_and1]; omega
    have hsw' : Hid (∀ w, Calls Try.prog 30 #[.int .i64 bit, .agg #[.int .u64 a0, .int .u64 a1, .int .u64 a2, .int .u64 a3, .int .u64 a4], .agg #[.int .u64 b0, .int .u64 b1, .int .u64 b2, .int .u64 b3, .int .u64 b4]] w (fun r w' => r = .returned (.tuple #[.agg #[.int .u64 a0, .int .u64 a1, .int .u64 a2, .int .u64 a3, .int .u64 a4], .agg #[.int .u64 b0, .int .u64 b1, .int .u64 b2, .int .u64 b3, .int .u64 b4]]) ∧ Gr w w')) := hide (fun w => by have := unhide hsw w; rw [if_neg hbit] at this; exact this)
    clear hbit hsw
    go_upto_region 7 with (go_at_call 30; refine (unhide hsw' _).mono ?_; rintro r w3 ⟨rfl, hg⟩)
    have gA := ((Gr.refl w3).alloc (.cells #[.int .u64 a0, .int .u64 a1, .int .u64 a2, .int .u64 a3, .int .u64 a4] 29 (0, 0))).alloc (.cells #[.int .u64 b0, .int .u64 b1, .int .u64 b2, .int .u64 b3, .int .u64 b4] 29 (0, 0))
    have hb3 : Hid (((w3.alloc (.cells #[.int .u64 a0, .int .u64 a1, .int .u64 a2, .int .u64 a3, .int .u64 a4] 29 (0, 0))).alloc (.cells #[.int .u64 b0, .int .u64 b1, .int .u64 b2, .int .u64 b3, .int .u64 b4] 29 (0, 0))).heap[w3.heap.size]? = some (.cells #[.int .u64 a0, .int .u64 a1, .int .u64 a2, .int .u64 a3, .int .u64 a4] 29 (0, 0))) := hide (((Gr.refl _).alloc _).blk (blk_new _ _))
    have hb4 : Hid (((w3.alloc (.cells #[.int .u64 a0, .int .u64 a1, .int .u64 a2, .int .u64 a3, .int .u64 a4] 29 (0, 0))).alloc (.cells #[.int .u64 b0, .int .u64 b1, .int .u64 b2, .int .u64 b3, .int .u64 b4] 29 (0, 0))).heap[w3.heap.size + 1]? = some (.cells #[.int .u64 b0, .int .u64 b1, .int .u64 b2, .int .u64 b3, .int .u64 b4] 29 (0, 0))) := hide (by rw [← size_alloc w3 (.cells #[.int .u64 a0, .int .u64 a1, .int .u64 a2, .int .u64 a3, .int .u64 a4] 29 (0, 0))]; exact blk_new _ _)
    have l3 := lt_of_block (unhide hb3)
    have z1 := lt_of_block (hg.blk (unhide hb1))
    have z2 := lt_of_block (hg.blk (unhide hb2))
    replace hb1 := hide (gA.blk (hg.blk (unhide hb1)))
    replace hb2 := hide (gA.blk (hg.blk (unhide hb2)))
    have hGs := (unhide hG).trans hg |>.size
    replace hG := hide ((unhide hG).trans (hg.trans gA))
    clear hg gA hsw' hand l3
    generalize World.alloc _ _ = v at *
    generalize w3.heap.size + 1 = g4 at *
    generalize w3.heap.size = g3 at *
    clear a0c a1c a2c a3c a4c b0c b1c b2c b3c b4c z1 z2 hGs
    have hq1 : Hid (decide (N % pp = N % pp) = true) := hide (decide_eq_true rfl)
    have hq2 : Hid (decide (M % pp = M % pp) = true) := hide (decide_eq_true rfl)
    refine wp_region_held_drew (S := fun x => Gr v.drew x) (by kernel_rfl) (Gr.refl _) (fun hS0 => ?_)
    refine wpAnyH_take (i := 0) (v := (.agg #[.int .u64 a0, .int .u64 a1, .int .u64 a2, .int .u64 a3, .int .u64 a4])) rfl (by kernel_rfl) (by kernel_rfl) (by kernel_rfl) (fun _ _ _ h => h) (.inl ⟨by kernel_rfl, fun u hu => exec_row u 29 (.tmp 9) rfl g3 0 (by kernel_rfl) [.int .u64 a0, .int .u64 a1, .int .u64 a2, .int .u64 a3, .int .u64 a4] _ (range_row (hu.blk (unhide hb3))) Try.underlying29 rfl Try.infoElem⟩) hS0 ?_
    simp only [Act.put, List.setIfInBounds_toArray, List.set_cons_zero, List.set_cons_succ, List.getElem_toArray, List.getElem_cons_zero, List.getElem_cons_succ]
    refine wpAnyH_take (i := 1) (v := (.agg #[.int .u64 a0, .int .u64 a1, .int .u64 a2, .int .u64 a3, .int .u64 a4])) rfl (by kernel_rfl) (by kernel_rfl) (by kernel_rfl) (fun _ _ _ h => h) (.inl ⟨by kernel_rfl, fun u hu => exec_row u 29 (.tmp 7) rfl g1 0 (by kernel_rfl) [.int .u64 a0, .int .u64 a1, .int .u64 a2, .int .u64 a3, .int .u64 a4] _ (range_row (hu.blk (unhide hb1))) Try.underlying29 rfl Try.infoElem⟩) hS0 ?_
    simp only [Act.put, List.setIfInBounds_toArray, List.set_cons_zero, List.set_cons_succ, List.getElem_toArray, List.getElem_cons_zero, List.getElem_cons_succ]
    refine wpAnyH_ready (rs := [2]) (by kernel_rfl) (by simp) (AllReadyH.cons (o := _) rfl (fun K hK => ?_) AllReadyH.nil)
    refine step_callw (by kernel_rfl) 16 #[(.agg #[.int .u64 a0, .int .u64 a1, .int .u64 a2, .int .u64 a3, .int .u64 a4]), (.agg #[.int .u64 a0, .int .u64 a1, .int .u64 a2, .int .u64 a3, .int .u64 a4])] (by kernel_rfl) ((same_at _ _ _ _ _ _ _ _ _ _ _ _ true (by assumption) (by assumption) (by assumption) _).mono ?_)
    rintro r w1_ ⟨rfl, hg⟩
    refine ⟨_, rfl, ?_⟩
    have hS1_ : Gr v.drew w1_ := Gr.trans hS0 hg
    clear hg
    refine hK.out _ _ hS1_ (fun _ => ?_)
    clear hK K
    simp only [Act.put, List.setIfInBounds_toArray, List.set_cons_zero, List.set_cons_succ, List.getElem_toArray, List.getElem_cons_zero, List.getElem_cons_succ]
    refine wpAnyH_take (i := 3) (v := (.bool true)) rfl (by kernel_rfl) (by kernel_rfl) (by kernel_rfl) (fun _ _ _ h => h) (.inl ⟨by kernel_rfl, fun u hu => by kernel_rfl⟩) hS1_ ?_
    simp only [Act.put, List.setIfInBounds_toArray, List.set_cons_zero, List.set_cons_succ, List.getElem_toArray, List.getElem_cons_zero, List.getElem_cons_succ]
    refine wpAnyH_take (i := 4) (v := (.agg #[.int .u64 b0, .int .u64 b1, .int .u64 b2, .int .u64 b3, .int .u64 b4])) rfl (by kernel_rfl) (by kernel_rfl) (by kernel_rfl) (fun _ _ _ h => h) (.inl ⟨by kernel_rfl, fun u hu => exec_row u 29 (.tmp 10) rfl g4 0 (by kernel_rfl) [.int .u64 b0, .int .u64 b1, .int .u64 b2, .int .u64 b3, .int .u64 b4] _ (range_row (hu.blk (unhide hb4))) Try.underlying29 rfl Try.infoElem⟩) hS1_ ?_
    simp only [Act.put, List.setIfInBounds_toArray, List.set_cons_zero, List.set_cons_succ, List.getElem_toArray, List.getElem_cons_zero, List.getElem_cons_succ]
    refine wpAnyH_take (i := 5) (v := (.agg #[.int .u64 b0, .int .u64 b1, .int .u64 b2, .int .u64 b3, .int .u64 b4])) rfl (by kernel_rfl) (by kernel_rfl) (by kernel_rfl) (fun _ _ _ h => h) (.inl ⟨by kernel_rfl, fun u hu => exec_row u 29 (.tmp 8) rfl g2 0 (by kernel_rfl) [.int .u64 b0, .int .u64 b1, .int .u64 b2, .int .u64 b3, .int .u64 b4] _ (range_row (hu.blk (unhide hb2))) Try.underlying29 rfl Try.infoElem⟩) hS1_ ?_
    simp only [Act.put, List.setIfInBounds_toArray, List.set_cons_zero, List.set_cons_succ, List.getElem_toArray, List.getElem_cons_zero, List.getElem_cons_succ]
    refine wpAnyH_ready (rs := [6]) (by kernel_rfl) (by simp) (AllReadyH.cons (o := _) rfl (fun K hK => ?_) AllReadyH.nil)
    refine step_callw (by kernel_rfl) 16 #[(.agg #[.int .u64 b0, .int .u64 b1, .int .u64 b2, .int .u64 b3, .int .u64 b4]), (.agg #[.int .u64 b0, .int .u64 b1, .int .u64 b2, .int .u64 b3, .int .u64 b4])] (by kernel_rfl) ((same_at _ _ _ _ _ _ _ _ _ _ _ _ true (by assumption) (by assumption) (by assumption) _).mono ?_)
    rintro r w2_ ⟨rfl, hg⟩
    refine ⟨_, rfl, ?_⟩
    have hS2_ : Gr v.drew w2_ := Gr.trans hS1_ hg
    clear hg
    refine hK.out _ _ hS2_ (fun _ => ?_)
    clear hK K
    simp only [Act.put, List.setIfInBounds_toArray, List.set_cons_zero, List.set_cons_succ, List.getElem_toArray, List.getElem_cons_zero, List.getElem_cons_succ]
    refine wpAnyH_take (i := 7) (v := (.bool true)) rfl (by kernel_rfl) (by kernel_rfl) (by kernel_rfl) (fun _ _ _ h => h) (.inl ⟨by kernel_rfl, fun u hu => by kernel_rfl⟩) hS2_ ?_
    simp only [Act.put, List.setIfInBounds_toArray, List.set_cons_zero, List.set_cons_succ, List.getElem_toArray, List.getElem_cons_zero, List.getElem_cons_succ]
    refine wpAnyH_take (i := 8) (v := (.bool true)) rfl (by kernel_rfl) (by kernel_rfl) (by kernel_rfl) (fun _ _ _ h => h) (.inl ⟨by kernel_rfl, fun u hu => by kernel_rfl⟩) hS2_ ?_
    simp only [Act.put, List.setIfInBounds_toArray, List.set_cons_zero, List.set_cons_succ, List.getElem_toArray, List.getElem_cons_zero, List.getElem_cons_succ]
    refine wpAnyH_take (i := 9) (v := (.agg #[.int .u64 a0, .int .u64 a1, .int .u64 a2, .int .u64 a3, .int .u64 a4])) rfl (by kernel_rfl) (by kernel_rfl) (by kernel_rfl) (fun _ _ _ h => h) (.inl ⟨by kernel_rfl, fun u hu => exec_row u 29 (.tmp 9) rfl g3 0 (by kernel_rfl) [.int .u64 a0, .int .u64 a1, .int .u64 a2, .int .u64 a3, .int .u64 a4] _ (range_row (hu.blk (unhide hb3))) Try.underlying29 rfl Try.infoElem⟩) hS2_ ?_
    simp only [Act.put, List.setIfInBounds_toArray, List.set_cons_zero, List.set_cons_succ, List.getElem_toArray, List.getElem_cons_zero, List.getElem_cons_succ]
    refine wpAnyH_take (i := 11) (v := (.agg #[.int .u64 a0, .int .u64 a1, .int .u64 a2, .int .u64 a3, .int .u64 a4])) rfl (by kernel_rfl) (by kernel_rfl) (by kernel_rfl) (fun _ _ _ h => h) (.inl ⟨by kernel_rfl, fun u hu => exec_row u 29 (.tmp 7) rfl g1 0 (by kernel_rfl) [.int .u64 a0, .int .u64 a1, .int .u64 a2, .int .u64 a3, .int .u64 a4] _ (range_row (hu.blk (unhide hb1))) Try.underlying29 rfl Try.infoElem⟩) hS2_ ?_
    simp only [Act.put, List.setIfInBounds_toArray, List.set_cons_zero, List.set_cons_succ, List.getElem_toArray, List.getElem_cons_zero, List.getElem_cons_succ]
    refine wpAnyH_ready (rs := [10]) (by kernel_rfl) (by simp) (AllReadyH.cons (o := _) rfl (fun K hK => ?_) AllReadyH.nil)
    refine step_callw (by kernel_rfl) 13 #[(.agg #[.int .u64 a0, .int .u64 a1, .int .u64 a2, .int .u64 a3, .int .u64 a4])] (by kernel_rfl) ((bytes_at _ _ _ _ _ _ (by assumption) _).mono ?_)
    rintro r w3_ ⟨rfl, hg⟩
    refine ⟨_, rfl, ?_⟩
    have hS3_ : Gr v.drew w3_ := Gr.trans hS2_ hg
    clear hg
    refine hK.out _ _ hS3_ (fun _ => ?_)
    clear hK K
    simp only [Act.put, List.setIfInBounds_toArray, List.set_cons_zero, List.set_cons_succ, List.getElem_toArray, List.getElem_cons_zero, List.getElem_cons_succ]
    refine wpAnyH_ready (rs := [12]) (by kernel_rfl) (by simp) (AllReadyH.cons (o := _) rfl (fun K hK => ?_) AllReadyH.nil)
    refine step_callw (by kernel_rfl) 13 #[(.agg #[.int .u64 a0, .int .u64 a1, .int .u64 a2, .int .u64 a3, .int .u64 a4])] (by kernel_rfl) ((bytes_at _ _ _ _ _ _ (by assumption) _).mono ?_)
    rintro r w4_ ⟨rfl, hg⟩
    refine ⟨_, rfl, ?_⟩
    have hS4_ : Gr v.drew w4_ := Gr.trans hS3_ hg
    clear hg
    refine hK.out _ _ hS4_ (fun _ => ?_)
    clear hK K
    simp only [Act.put, List.setIfInBounds_toArray, List.set_cons_zero, List.set_cons_succ, List.getElem_toArray, List.getElem_cons_zero, List.getElem_cons_succ]
    refine wpAnyH_take (i := 13) (v := (.bool true)) rfl (by kernel_rfl) (by kernel_rfl) (by kernel_rfl) (fun _ _ _ h => h) (.inl ⟨by kernel_rfl, fun u hu => by have e1 := unhide e1; go_simp⟩) hS4_ ?_
    simp only [Act.put, List.setIfInBounds_toArray, List.set_cons_zero, List.set_cons_succ, List.getElem_toArray, List.getElem_cons_zero, List.getElem_cons_succ]
    refine wpAnyH_take (i := 14) (v := (.bool true)) rfl (by kernel_rfl) (by kernel_rfl) (by kernel_rfl) (fun _ _ _ h => h) (.inl ⟨by kernel_rfl, fun u hu => by kernel_rfl⟩) hS4_ ?_
    simp only [Act.put, List.setIfInBounds_toArray, List.set_cons_zero, List.set_cons_succ, List.getElem_toArray, List.getElem_cons_zero, List.getElem_cons_succ]
    refine wpAnyH_take (i := 15) (v := (.bool true)) rfl (by kernel_rfl) (by kernel_rfl) (by kernel_rfl) (fun _ _ _ h => h) (.inl ⟨by kernel_rfl, fun u hu => by kernel_rfl⟩) hS4_ ?_
    simp only [Act.put, List.setIfInBounds_toArray, List.set_cons_zero, List.set_cons_succ, List.getElem_toArray, List.getElem_cons_zero, List.getElem_cons_succ]
    refine wpAnyH_take (i := 16) (v := (.agg #[.int .u64 b0, .int .u64 b1, .int .u64 b2, .int .u64 b3, .int .u64 b4])) rfl (by kernel_rfl) (by kernel_rfl) (by kernel_rfl) (fun _ _ _ h => h) (.inl ⟨by kernel_rfl, fun u hu => exec_row u 29 (.tmp 10) rfl g4 0 (by kernel_rfl) [.int .u64 b0, .int .u64 b1, .int .u64 b2, .int .u64 b3, .int .u64 b4] _ (range_row (hu.blk (unhide hb4))) Try.underlying29 rfl Try.infoElem⟩) hS4_ ?_
    simp only [Act.put, List.setIfInBounds_toArray, List.set_cons_zero, List.set_cons_succ, List.getElem_toArray, List.getElem_cons_zero, List.getElem_cons_succ]
    refine wpAnyH_take (i := 18) (v := (.agg #[.int .u64 b0, .int .u64 b1, .int .u64 b2, .int .u64 b3, .int .u64 b4])) rfl (by kernel_rfl) (by kernel_rfl) (by kernel_rfl) (fun _ _ _ h => h) (.inl ⟨by kernel_rfl, fun u hu => exec_row u 29 (.tmp 8) rfl g2 0 (by kernel_rfl) [.int .u64 b0, .int .u64 b1, .int .u64 b2, .int .u64 b3, .int .u64 b4] _ (range_row (hu.blk (unhide hb2))) Try.underlying29 rfl Try.infoElem⟩) hS4_ ?_
    simp only [Act.put, List.setIfInBounds_toArray, List.set_cons_zero, List.set_cons_succ, List.getElem_toArray, List.getElem_cons_zero, List.getElem_cons_succ]
    refine wpAnyH_ready (rs := [17]) (by kernel_rfl) (by simp) (AllReadyH.cons (o := _) rfl (fun K hK => ?_) AllReadyH.nil)
    refine step_callw (by kernel_rfl) 13 #[(.agg #[.int .u64 b0, .int .u64 b1, .int .u64 b2, .int .u64 b3, .int .u64 b4])] (by kernel_rfl) ((bytes_at _ _ _ _ _ _ (by assumption) _).mono ?_)
    rintro r w5_ ⟨rfl, hg⟩
    refine ⟨_, rfl, ?_⟩
    have hS5_ : Gr v.drew w5_ := Gr.trans hS4_ hg
    clear hg
    refine hK.out _ _ hS5_ (fun _ => ?_)
    clear hK K
    simp only [Act.put, List.setIfInBounds_toArray, List.set_cons_zero, List.set_cons_succ, List.getElem_toArray, List.getElem_cons_zero, List.getElem_cons_succ]
    refine wpAnyH_ready (rs := [19]) (by kernel_rfl) (by simp) (AllReadyH.cons (o := _) rfl (fun K hK => ?_) AllReadyH.nil)
    refine step_callw (by kernel_rfl) 13 #[(.agg #[.int .u64 b0, .int .u64 b1, .int .u64 b2, .int .u64 b3, .int .u64 b4])] (by kernel_rfl) ((bytes_at _ _ _ _ _ _ (by assumption) _).mono ?_)
    rintro r w6_ ⟨rfl, hg⟩
    refine ⟨_, rfl, ?_⟩
    have hS6_ : Gr v.drew w6_ := Gr.trans hS5_ hg
    clear hg
    refine hK.out _ _ hS6_ (fun _ => ?_)
    clear hK K
    simp only [Act.put, List.setIfInBounds_toArray, List.set_cons_zero, List.set_cons_succ, List.getElem_toArray, List.getElem_cons_zero, List.getElem_cons_succ]
    refine wpAnyH_take (i := 20) (v := (.bool true)) rfl (by kernel_rfl) (by kernel_rfl) (by kernel_rfl) (fun _ _ _ h => h) (.inl ⟨by kernel_rfl, fun u hu => by have e2 := unhide e2; go_simp⟩) hS6_ ?_
    simp only [Act.put, List.setIfInBounds_toArray, List.set_cons_zero, List.set_cons_succ, List.getElem_toArray, List.getElem_cons_zero, List.getElem_cons_succ]
    refine wpAnyH_take (i := 21) (v := (.bool true)) rfl (by kernel_rfl) (by kernel_rfl) (by kernel_rfl) (fun _ _ _ h => h) (.inl ⟨by kernel_rfl, fun u hu => by kernel_rfl⟩) hS6_ ?_
    simp only [Act.put, List.setIfInBounds_toArray, List.set_cons_zero, List.set_cons_succ, List.getElem_toArray, List.getElem_cons_zero, List.getElem_cons_succ]
    refine wpAnyH_ready (rs := [22]) (by kernel_rfl) (by simp) (AllReadyH.cons (o := _) rfl (fun K hK => ?_) AllReadyH.nil)
    go_simp
    refine hK.out _ _ hS6_ (fun _ => ?_)
    clear hK K
    refine wpAnyH_done (by kernel_rfl) ?_ _
    go_wp2_with fail
    refine bodyPost_ret (v := .bool true) ?_ rfl ?_
    · simp [results, Try.results7, go_sem]
    · exact ⟨rfl, (unhide hG).trans (((Gr.refl _).drew).trans hS6_)⟩
end Go.Proofs.Ytjncnmhigikdoaa
