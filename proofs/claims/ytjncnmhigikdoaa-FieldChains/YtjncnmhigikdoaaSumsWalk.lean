/-
  FieldSums: the walk, for whatever keys.
-/
import Derived.Test.YtjncnmhigikdoaaBackMath
import Derived.Test.YtjncnmhigikdoaaFerm
import Derived.Test.YtjncnmhigikdoaaRegs
import Derived.Test.YtjncnmhigikdoaaElems
import Derived.Test.YtjncnmhigikdoaaRefD
namespace Go.Proofs.Ytjncnmhigikdoaa
open Go.RowKit
set_option maxRecDepth 100000
set_option linter.unusedSimpArgs false
attribute [local go_sem ↓] Go.wp_at_zero Go.wp_at_succ

theorem key_same (n : Int) (w : World) : Sem.run Try.prog (Op.equalIn 10000 23 (.agg (kc (digs n 32))) (.agg (kc (digs n 32)))) w = .ok true w := by
  rw [key_eq _ _ (digs_len _ _) (digs_len _ _) w]; simp

set_option maxHeartbeats 4000000 in
theorem sums_any (n m : Int) (hn : 0 ≤ n ∧ n < 115792089237316195423570985008687907853269984665640564039457584007913129639936) (hm : 0 ≤ m ∧ m < 115792089237316195423570985008687907853269984665640564039457584007913129639936) (w : World) :
    Calls Try.prog 4 #[.agg (kc (digs n 32)), .agg (kc (digs m 32))] w (fun r w' => r = .returned (.bool true) ∧ Gr w w') := by
  have hmx := hide (made_ok n hn)
  have hmy := hide (made_ok m hm)
  obtain ⟨LX, hLX⟩ : ∃ L, L = (digs n 32).map (Value.int .u8) := ⟨_, rfl⟩
  have eX : kc (digs n 32) = LX.toArray := by rw [hLX]; rfl
  have kX : Hid (KeyIs LX n) := hide ⟨hn.1, hLX⟩
  have HiX : Hid ((Try.prog.info? 23).map (·.size) = some LX.length) := hide (by rw [Try.infoKey, hLX, List.length_map, digs_len])
  have hN0 : Hid (0 ≤ n % 57896044618658097711785492504343953926634992332820282019728792003956564819968) := hide (by omega)
  rw [eX]
  rw [eX] at hmx
  clear hLX eX
  generalize hNe : n % 57896044618658097711785492504343953926634992332820282019728792003956564819968 = N at hN0 hmx
  replace hNe := hide hNe
  have hV0 : 0 ≤ N % pp ∧ N % pp < pp := ⟨Int.emod_nonneg _ (by decide), Int.emod_lt_of_pos _ (by decide)⟩
  generalize hVe : N % pp = V at hV0 hmx
  obtain ⟨LY, hLY⟩ : ∃ L, L = (digs m 32).map (Value.int .u8) := ⟨_, rfl⟩
  have eY : kc (digs m 32) = LY.toArray := by rw [hLY]; rfl
  have kY : Hid (KeyIs LY m) := hide ⟨hm.1, hLY⟩
  have HiY : Hid ((Try.prog.info? 23).map (·.size) = some LY.length) := hide (by rw [Try.infoKey, hLY, List.length_map, digs_len])
  have hM0 : Hid (0 ≤ m % 57896044618658097711785492504343953926634992332820282019728792003956564819968) := hide (by omega)
  rw [eY]
  rw [eY] at hmy
  clear hLY eY
  generalize hMe : m % 57896044618658097711785492504343953926634992332820282019728792003956564819968 = M at hM0 hmy
  replace hMe := hide hMe
  have hU0 : 0 ≤ M % pp ∧ M % pp < pp := ⟨Int.emod_nonneg _ (by decide), Int.emod_lt_of_pos _ (by decide)⟩
  generalize hUe : M % pp = U at hU0 hmy
  have ppT : pp < 115792089237316195423570985008687907853269984665640564039457584007913129639936 := by decide
  have hVT : 0 ≤ V ∧ V < 115792089237316195423570985008687907853269984665640564039457584007913129639936 := by omega
  have hUT : 0 ≤ U ∧ U < 115792089237316195423570985008687907853269984665640564039457584007913129639936 := by omega
  have hs1 : (V + U) % pp = (N + M) % pp := by rw [← hVe, ← hUe, ← Int.add_emod]
  have hs2 : (V - U) % pp = (N - M) % pp := by rw [← hVe, ← hUe, ← Int.sub_emod]
  have hs3 : (0 - V) % pp = (0 - N) % pp := by rw [← hVe, Int.sub_emod, Int.emod_emod, ← Int.sub_emod]
  generalize ha1 : (N + M) % pp = S1 at hs1
  generalize ha2 : (N - M) % pp = S2 at hs2
  generalize ha3 : (0 - N) % pp = S3 at hs3
  replace hs1 := hide hs1
  replace hs2 := hide hs2
  replace hs3 := hide hs3
  replace ha1 := hide ha1
  replace ha2 := hide ha2
  replace ha3 := hide ha3
  have hz0 : Hid ((0 : Int) ≤ 0 ∧ (0 : Int) < 115792089237316195423570985008687907853269984665640564039457584007913129639936) := hide (by omega)
  replace hVe := hide hVe
  replace hUe := hide hUe
  replace hV0 := hide hV0
  replace hU0 := hide hU0
  replace hVT := hide hVT
  replace hUT := hide hUT
  clear hn hm ppT
  go_enter Try.func4, Try.ntmps4
  go_upto_region 3 with (go_at_call 9; refine (wakes_at' _).mono ?_; rintro r w1 ⟨rfl, hg⟩; have hG := hide (Gr.trans (((Gr.refl w).alloc _).alloc _) hg); have hX := hide (hg.blk (((Gr.refl _).alloc _).blk (blk_new w _))); have hY : Hid (w1.heap[w.heap.size + 1]? = some (.cells LY.toArray 23 (0, 0))) := by rw [← size_alloc w (.cells LX.toArray 23 (0, 0))]; exact hide (hg.blk (blk_new _ _)))
  refine wp_region_held_drew (S := fun v => Gr w1.drew v) (by kernel_rfl) (Gr.refl _) (fun hHeld => ?_)
  refine wpAnyH_take (i := 0) (v := .agg LX.toArray) rfl (by kernel_rfl) (by kernel_rfl) (by kernel_rfl) (fun _ _ _ h => h) (.inl ⟨by kernel_rfl, fun u hu => exec_row u 23 (.tmp 2) rfl w.heap.size 0 (by kernel_rfl) LX (.array 32 5) (range_row (hu.blk (unhide hX))) Try.underlying23 rfl (unhide HiX)⟩) (by assumption) ?_
  simp only [Act.put, List.setIfInBounds_toArray, List.set_cons_zero, List.set_cons_succ, List.getElem_toArray, List.getElem_cons_zero, List.getElem_cons_succ]
  refine wpAnyH_take (i := 2) (v := .agg LY.toArray) rfl (by kernel_rfl) (by kernel_rfl) (by kernel_rfl) (fun _ _ _ h => h) (.inl ⟨by kernel_rfl, fun u hu => exec_row u 23 (.tmp 3) rfl (w.heap.size + 1) 0 (by kernel_rfl) LY (.array 32 5) (range_row (hu.blk (unhide hY))) Try.underlying23 rfl (unhide HiY)⟩) (by assumption) ?_
  simp only [Act.put, List.setIfInBounds_toArray, List.set_cons_zero, List.set_cons_succ, List.getElem_toArray, List.getElem_cons_zero, List.getElem_cons_succ]
  refine define2 w1.drew _ (fun b1 b2 b3 b4 b5 b6 => #[true, b1, true, b2, b3, b4, b5, b6]) (EC N) (EC M) 5 5 29 29 #[.int .u64 0, .int .u64 0, .int .u64 0, .int .u64 0, .int .u64 0] #[.int .u64 0, .int .u64 0, .int .u64 0, .int .u64 0, .int .u64 0] 1 3 4 5 6 7
    (by first | rfl | decide +kernel) (by first | rfl | decide +kernel) EC.size EC.size (by kernel_rfl) (fun _ _ _ _ _ _ => ⟨rfl, rfl, rfl, rfl, rfl, rfl⟩) ?_ ?_ ?_ ?_ ?_ ?_ ?_ _ _ _ _ (by decide +kernel) (d2_start _ _ 12 14 5 6 _ _ _ _ _ _ _ _ _ rfl (Gr.refl _))
  all_goals simp only [fr2, Act.put, List.setIfInBounds_toArray, List.set_cons_zero, List.set_cons_succ, List.getElem_toArray, List.getElem_cons_zero, List.getElem_cons_succ]
  · intro v1 v2 q1 q2 u K hu hK
    refine wpOp_step (o := _) rfl (fun K' hK' => ?_)
    replace hK' := hide hK'
    replace hK := hide hK
    go_simp
    refine (from_L _ _ (by assumption) _).mono ?_
    rintro r w2 ⟨y0, y1, y2, y3, y4, rfl, hB, hg⟩
    rw [unhide hNe] at hB
    exact unhide hK' _ _ (unhide hK _ _ ⟨y0, y1, y2, y3, y4, rfl, hB⟩ hg)
  · intro v1 v2 q1 q2 u K hu hK
    refine wpOp_step (o := _) rfl (fun K' hK' => ?_)
    replace hK' := hide hK'
    replace hK := hide hK
    go_simp
    refine (from_L _ _ (by assumption) _).mono ?_
    rintro r w2 ⟨y0, y1, y2, y3, y4, rfl, hB, hg⟩
    rw [unhide hMe] at hB
    exact unhide hK' _ _ (unhide hK _ _ ⟨y0, y1, y2, y3, y4, rfl, hB⟩ hg)
  · intro v1 v2 q1 q2 u K hK
    refine wpOp_step (o := _) rfl (fun K' hK' => ?_)
    replace hK' := hide hK'
    replace hK := hide hK
    go_simp
    exact unhide hK' _ _ (unhide hK)
  · intro v1 v2 q1 q2 u K hK
    refine wpOp_step (o := _) rfl (fun K' hK' => ?_)
    replace hK' := hide hK'
    replace hK := hide hK
    go_simp
    exact unhide hK' _ _ (unhide hK)
  · intro c v2 g q2 u o K hb ho hc hK
    refine wpOp_step (o := _) rfl (fun K' hK' => ?_)
    rw [if_pos (by kernel_rfl)]
    simp only [Go.wp_at_zero, Go.wp_at_succ]
    exact wp_store_row 29 (.tmp 5) (.tmp 12) rfl g c (by kernel_rfl) (by kernel_rfl) 29 o hb (by rw [Try.infoElem, hc.size]) (by rw [ho, hc.size]) hc.one (hK' _ _ hK)
  · intro v1 c q1 g u o K hb ho hc hK
    refine wpOp_step (o := _) rfl (fun K' hK' => ?_)
    rw [if_pos (by kernel_rfl)]
    simp only [Go.wp_at_zero, Go.wp_at_succ]
    exact wp_store_row 29 (.tmp 6) (.tmp 14) rfl g c (by kernel_rfl) (by kernel_rfl) 29 o hb (by rw [Try.infoElem, hc.size]) (by rw [ho, hc.size]) hc.one (hK' _ _ hK)
  rintro c1 c2 g1 g2 u hgu ⟨a0, a1, a2, a3, a4, rfl, hA⟩ ⟨b0, b1, b2, b3, b4, rfl, hB⟩ hz1 hz2 hne hb1 hb2
  replace hG := hide (((unhide hG).drew).trans hgu)
  replace hX := hide (((Gr.refl _).drew.trans hgu).blk (unhide hX))
  replace hY := hide (((Gr.refl _).drew.trans hgu).blk (unhide hY))
  replace hb1 := hide hb1
  replace hb2 := hide hb2
  clear hgu hz1 hz2 hg hHeld kX kY hNe hMe
  go_upto_region 4 with fail
  refine wp_region_held_drew (S := fun v => Gr u.drew v) (by kernel_rfl) (Gr.refl _) (fun hHeld => ?_)
  refine wpAnyH_take (i := 0) (v := .agg LX.toArray) rfl (by kernel_rfl) (by kernel_rfl) (by kernel_rfl) (fun _ _ _ h => h) (.inl ⟨by kernel_rfl, fun u hu => exec_row u 23 (.tmp 2) rfl w.heap.size 0 (by kernel_rfl) LX (.array 32 5) (range_row (hu.blk (unhide hX))) Try.underlying23 rfl (unhide HiX)⟩) (by assumption) ?_
  simp only [Act.put, List.setIfInBounds_toArray, List.set_cons_zero, List.set_cons_succ, List.getElem_toArray, List.getElem_cons_zero, List.getElem_cons_succ]
  refine wpAnyH_take (i := 2) (v := .agg LY.toArray) rfl (by kernel_rfl) (by kernel_rfl) (by kernel_rfl) (fun _ _ _ h => h) (.inl ⟨by kernel_rfl, fun u hu => exec_row u 23 (.tmp 3) rfl (w.heap.size + 1) 0 (by kernel_rfl) LY (.array 32 5) (range_row (hu.blk (unhide hY))) Try.underlying23 rfl (unhide HiY)⟩) (by assumption) ?_
  simp only [Act.put, List.setIfInBounds_toArray, List.set_cons_zero, List.set_cons_succ, List.getElem_toArray, List.getElem_cons_zero, List.getElem_cons_succ]
  refine define2 u.drew _ (fun b1 b2 b3 b4 b5 b6 => #[true, b1, true, b2, b3, b4, b5, b6]) (fun c => c = kc (digs V 32)) (fun c => c = kc (digs U 32)) 32 32 23 23 (List.replicate 32 (Value.int .u8 0)).toArray (List.replicate 32 (Value.int .u8 0)).toArray 1 3 4 5 6 7
    (by first | rfl | decide +kernel) (by first | rfl | decide +kernel) (fun c h => by rw [h, kc_size, digs_len]) (fun c h => by rw [h, kc_size, digs_len]) (by kernel_rfl) (fun _ _ _ _ _ _ => ⟨rfl, rfl, rfl, rfl, rfl, rfl⟩) ?_ ?_ ?_ ?_ ?_ ?_ ?_ _ _ _ _ (by decide +kernel) (d2_start _ _ 16 18 7 8 _ _ _ _ _ _ _ _ _ rfl (Gr.refl _))
  all_goals simp only [fr2, Act.put, List.setIfInBounds_toArray, List.set_cons_zero, List.set_cons_succ, List.getElem_toArray, List.getElem_cons_zero, List.getElem_cons_succ]
  · intro v1 v2 q1 q2 u K hu hK
    refine wpOp_step (o := _) rfl (fun K' hK' => ?_)
    replace hK' := hide hK'
    replace hK := hide hK
    go_simp
    refine (unhide hmx _).mono ?_
    rintro r w2 ⟨rfl, hg⟩
    exact unhide hK' _ _ (unhide hK _ _ rfl hg)
  · intro v1 v2 q1 q2 u K hu hK
    refine wpOp_step (o := _) rfl (fun K' hK' => ?_)
    replace hK' := hide hK'
    replace hK := hide hK
    go_simp
    refine (unhide hmy _).mono ?_
    rintro r w2 ⟨rfl, hg⟩
    exact unhide hK' _ _ (unhide hK _ _ rfl hg)
  · intro v1 v2 q1 q2 u K hK
    refine wpOp_step (o := _) rfl (fun K' hK' => ?_)
    replace hK' := hide hK'
    replace hK := hide hK
    go_simp
    exact unhide hK' _ _ (unhide hK)
  · intro v1 v2 q1 q2 u K hK
    refine wpOp_step (o := _) rfl (fun K' hK' => ?_)
    replace hK' := hide hK'
    replace hK := hide hK
    go_simp
    exact unhide hK' _ _ (unhide hK)
  · intro c v2 g q2 u o K hb ho hc hK
    refine wpOp_step (o := _) rfl (fun K' hK' => ?_)
    rw [if_pos (by kernel_rfl)]
    simp only [Go.wp_at_zero, Go.wp_at_succ]
    exact wp_store_row 23 (.tmp 7) (.tmp 16) rfl g c (by kernel_rfl) (by kernel_rfl) 23 o hb (by rw [Try.infoKey, (show c.size = 32 by rw [hc, kc_size, digs_len])]) (by rw [ho, (show c.size = 32 by rw [hc, kc_size, digs_len])]) (by rw [hc]; exact kc_one _) (hK' _ _ hK)
  · intro v1 c q1 g u o K hb ho hc hK
    refine wpOp_step (o := _) rfl (fun K' hK' => ?_)
    rw [if_pos (by kernel_rfl)]
    simp only [Go.wp_at_zero, Go.wp_at_succ]
    exact wp_store_row 23 (.tmp 8) (.tmp 18) rfl g c (by kernel_rfl) (by kernel_rfl) 23 o hb (by rw [Try.infoKey, (show c.size = 32 by rw [hc, kc_size, digs_len])]) (by rw [ho, (show c.size = 32 by rw [hc, kc_size, digs_len])]) (by rw [hc]; exact kc_one _) (hK' _ _ hK)
  rintro c1 c2 g3 g4 v hgv rfl rfl hz1 hz2 hne2 hb3 hb4
  replace hG := hide (((unhide hG).drew).trans hgv)
  replace hb1 := hide (((Gr.refl _).drew.trans hgv).blk (unhide hb1))
  replace hb2 := hide (((Gr.refl _).drew.trans hgv).blk (unhide hb2))
  replace hb3 := hide hb3
  replace hb4 := hide hb4
  clear hgv hz1 hz2 hX hY hHeld HiX HiY hmx hmy hne hne2
  go_upto_region 5 with fail
  refine wp_region_held_drew (S := fun x => Gr v.drew x) (by kernel_rfl) (Gr.refl _) (fun hS0 => ?_)
  refine wpAnyH_take (i := 0) (v := (.agg #[.int .u64 a0, .int .u64 a1, .int .u64 a2, .int .u64 a3, .int .u64 a4])) rfl (by kernel_rfl) (by kernel_rfl) (by kernel_rfl) (fun _ _ _ h => h) (.inl ⟨by kernel_rfl, fun u hu => exec_row u 29 (.tmp 5) rfl g1 0 (by kernel_rfl) [.int .u64 a0, .int .u64 a1, .int .u64 a2, .int .u64 a3, .int .u64 a4] _ (range_row (hu.blk (unhide hb1))) Try.underlying29 rfl Try.infoElem⟩) hS0 ?_
  simp only [Act.put, List.setIfInBounds_toArray, List.set_cons_zero, List.set_cons_succ, List.getElem_toArray, List.getElem_cons_zero, List.getElem_cons_succ]
  refine wpAnyH_take (i := 1) (v := (.agg #[.int .u64 b0, .int .u64 b1, .int .u64 b2, .int .u64 b3, .int .u64 b4])) rfl (by kernel_rfl) (by kernel_rfl) (by kernel_rfl) (fun _ _ _ h => h) (.inl ⟨by kernel_rfl, fun u hu => exec_row u 29 (.tmp 6) rfl g2 0 (by kernel_rfl) [.int .u64 b0, .int .u64 b1, .int .u64 b2, .int .u64 b3, .int .u64 b4] _ (range_row (hu.blk (unhide hb2))) Try.underlying29 rfl Try.infoElem⟩) hS0 ?_
  simp only [Act.put, List.setIfInBounds_toArray, List.set_cons_zero, List.set_cons_succ, List.getElem_toArray, List.getElem_cons_zero, List.getElem_cons_succ]
  refine wpAnyH_take (i := 4) (v := (.agg (kc (digs V 32)))) rfl (by kernel_rfl) (by kernel_rfl) (by kernel_rfl) (fun _ _ _ h => h) (.inl ⟨by kernel_rfl, fun u hu => exec_row u 23 (.tmp 7) rfl g3 0 (by kernel_rfl) ((digs V 32).map (Value.int .u8)) (.array 32 5) (range_row (hu.blk (unhide hb3))) Try.underlying23 rfl (by rw [Try.infoKey, List.length_map, digs_len])⟩) hS0 ?_
  simp only [Act.put, List.setIfInBounds_toArray, List.set_cons_zero, List.set_cons_succ, List.getElem_toArray, List.getElem_cons_zero, List.getElem_cons_succ]
  refine wpAnyH_take (i := 5) (v := (.agg (kc (digs U 32)))) rfl (by kernel_rfl) (by kernel_rfl) (by kernel_rfl) (fun _ _ _ h => h) (.inl ⟨by kernel_rfl, fun u hu => exec_row u 23 (.tmp 8) rfl g4 0 (by kernel_rfl) ((digs U 32).map (Value.int .u8)) (.array 32 5) (range_row (hu.blk (unhide hb4))) Try.underlying23 rfl (by rw [Try.infoKey, List.length_map, digs_len])⟩) hS0 ?_
  simp only [Act.put, List.setIfInBounds_toArray, List.set_cons_zero, List.set_cons_succ, List.getElem_toArray, List.getElem_cons_zero, List.getElem_cons_succ]
  refine wpAnyH_ready (rs := [2]) (by kernel_rfl) (by simp) (AllReadyH.cons (o := _) rfl (fun K hK => ?_) AllReadyH.nil)
  refine step_callw (by kernel_rfl) 17 #[(.agg #[.int .u64 a0, .int .u64 a1, .int .u64 a2, .int .u64 a3, .int .u64 a4]), (.agg #[.int .u64 b0, .int .u64 b1, .int .u64 b2, .int .u64 b3, .int .u64 b4])] (by kernel_rfl) ((add_at _ _ _ _ _ _ _ _ _ _ _ _ (by assumption) (by assumption) _).mono ?_)
  rintro r w1_ ⟨e2_0, e2_1, e2_2, e2_3, e2_4, rfl, h2_, hg⟩
  refine ⟨_, rfl, ?_⟩
  have hS1_ : Gr v.drew w1_ := Gr.trans hS0 hg
  clear hg
  refine hK.out _ _ hS1_ (fun _ => ?_)
  clear hK K
  simp only [Act.put, List.setIfInBounds_toArray, List.set_cons_zero, List.set_cons_succ, List.getElem_toArray, List.getElem_cons_zero, List.getElem_cons_succ]
  refine wpAnyH_ready (rs := [3]) (by kernel_rfl) (by simp) (AllReadyH.cons (o := _) rfl (fun K hK => ?_) AllReadyH.nil)
  refine step_callw (by kernel_rfl) 13 #[(.agg #[.int .u64 e2_0, .int .u64 e2_1, .int .u64 e2_2, .int .u64 e2_3, .int .u64 e2_4])] (by kernel_rfl) ((bytes_at _ _ _ _ _ _ (by assumption) _).mono ?_)
  rintro r w2_ ⟨rfl, hg⟩
  rw [unhide ha1]
  refine ⟨_, rfl, ?_⟩
  have hS2_ : Gr v.drew w2_ := Gr.trans hS1_ hg
  clear hg
  refine hK.out _ _ hS2_ (fun _ => ?_)
  clear hK K
  simp only [Act.put, List.setIfInBounds_toArray, List.set_cons_zero, List.set_cons_succ, List.getElem_toArray, List.getElem_cons_zero, List.getElem_cons_succ]
  refine wpAnyH_ready (rs := [6]) (by kernel_rfl) (by simp) (AllReadyH.cons (o := _) rfl (fun K hK => ?_) AllReadyH.nil)
  refine step_callw (by kernel_rfl) 18 #[(.agg (kc (digs V 32))), (.agg (kc (digs U 32)))] (by kernel_rfl) ((radd_ok V U _ (unhide hVT) (unhide hUT)).mono ?_)
  rintro r w3_ ⟨rfl, hg⟩
  rw [unhide hs1]
  refine ⟨_, rfl, ?_⟩
  have hS3_ : Gr v.drew w3_ := Gr.trans hS2_ hg
  clear hg
  refine hK.out _ _ hS3_ (fun _ => ?_)
  clear hK K
  simp only [Act.put, List.setIfInBounds_toArray, List.set_cons_zero, List.set_cons_succ, List.getElem_toArray, List.getElem_cons_zero, List.getElem_cons_succ]
  refine wpAnyH_take (i := 7) (v := (.bool true)) rfl (by kernel_rfl) (by kernel_rfl) (by kernel_rfl) (fun _ _ _ h => h) (.inl ⟨by kernel_rfl, fun u hu => by have e := key_same S1; go_simp⟩) hS3_ ?_
  simp only [Act.put, List.setIfInBounds_toArray, List.set_cons_zero, List.set_cons_succ, List.getElem_toArray, List.getElem_cons_zero, List.getElem_cons_succ]
  refine wpAnyH_take (i := 8) (v := (.bool true)) rfl (by kernel_rfl) (by kernel_rfl) (by kernel_rfl) (fun _ _ _ h => h) (.inl ⟨by kernel_rfl, fun u hu => by kernel_rfl⟩) hS3_ ?_
  simp only [Act.put, List.setIfInBounds_toArray, List.set_cons_zero, List.set_cons_succ, List.getElem_toArray, List.getElem_cons_zero, List.getElem_cons_succ]
  refine wpAnyH_take (i := 9) (v := (.agg #[.int .u64 a0, .int .u64 a1, .int .u64 a2, .int .u64 a3, .int .u64 a4])) rfl (by kernel_rfl) (by kernel_rfl) (by kernel_rfl) (fun _ _ _ h => h) (.inl ⟨by kernel_rfl, fun u hu => exec_row u 29 (.tmp 5) rfl g1 0 (by kernel_rfl) [.int .u64 a0, .int .u64 a1, .int .u64 a2, .int .u64 a3, .int .u64 a4] _ (range_row (hu.blk (unhide hb1))) Try.underlying29 rfl Try.infoElem⟩) hS3_ ?_
  simp only [Act.put, List.setIfInBounds_toArray, List.set_cons_zero, List.set_cons_succ, List.getElem_toArray, List.getElem_cons_zero, List.getElem_cons_succ]
  refine wpAnyH_take (i := 10) (v := (.agg #[.int .u64 b0, .int .u64 b1, .int .u64 b2, .int .u64 b3, .int .u64 b4])) rfl (by kernel_rfl) (by kernel_rfl) (by kernel_rfl) (fun _ _ _ h => h) (.inl ⟨by kernel_rfl, fun u hu => exec_row u 29 (.tmp 6) rfl g2 0 (by kernel_rfl) [.int .u64 b0, .int .u64 b1, .int .u64 b2, .int .u64 b3, .int .u64 b4] _ (range_row (hu.blk (unhide hb2))) Try.underlying29 rfl Try.infoElem⟩) hS3_ ?_
  simp only [Act.put, List.setIfInBounds_toArray, List.set_cons_zero, List.set_cons_succ, List.getElem_toArray, List.getElem_cons_zero, List.getElem_cons_succ]
  refine wpAnyH_take (i := 13) (v := (.agg (kc (digs V 32)))) rfl (by kernel_rfl) (by kernel_rfl) (by kernel_rfl) (fun _ _ _ h => h) (.inl ⟨by kernel_rfl, fun u hu => exec_row u 23 (.tmp 7) rfl g3 0 (by kernel_rfl) ((digs V 32).map (Value.int .u8)) (.array 32 5) (range_row (hu.blk (unhide hb3))) Try.underlying23 rfl (by rw [Try.infoKey, List.length_map, digs_len])⟩) hS3_ ?_
  simp only [Act.put, List.setIfInBounds_toArray, List.set_cons_zero, List.set_cons_succ, List.getElem_toArray, List.getElem_cons_zero, List.getElem_cons_succ]
  refine wpAnyH_take (i := 14) (v := (.agg (kc (digs U 32)))) rfl (by kernel_rfl) (by kernel_rfl) (by kernel_rfl) (fun _ _ _ h => h) (.inl ⟨by kernel_rfl, fun u hu => exec_row u 23 (.tmp 8) rfl g4 0 (by kernel_rfl) ((digs U 32).map (Value.int .u8)) (.array 32 5) (range_row (hu.blk (unhide hb4))) Try.underlying23 rfl (by rw [Try.infoKey, List.length_map, digs_len])⟩) hS3_ ?_
  simp only [Act.put, List.setIfInBounds_toArray, List.set_cons_zero, List.set_cons_succ, List.getElem_toArray, List.getElem_cons_zero, List.getElem_cons_succ]
  refine wpAnyH_ready (rs := [11]) (by kernel_rfl) (by simp) (AllReadyH.cons (o := _) rfl (fun K hK => ?_) AllReadyH.nil)
  refine step_callw (by kernel_rfl) 19 #[(.agg #[.int .u64 a0, .int .u64 a1, .int .u64 a2, .int .u64 a3, .int .u64 a4]), (.agg #[.int .u64 b0, .int .u64 b1, .int .u64 b2, .int .u64 b3, .int .u64 b4])] (by kernel_rfl) ((sub_at _ _ _ _ _ _ _ _ _ _ _ _ (by assumption) (by assumption) _).mono ?_)
  rintro r w4_ ⟨e11_0, e11_1, e11_2, e11_3, e11_4, rfl, h11_, hg⟩
  refine ⟨_, rfl, ?_⟩
  have hS4_ : Gr v.drew w4_ := Gr.trans hS3_ hg
  clear hg
  refine hK.out _ _ hS4_ (fun _ => ?_)
  clear hK K
  simp only [Act.put, List.setIfInBounds_toArray, List.set_cons_zero, List.set_cons_succ, List.getElem_toArray, List.getElem_cons_zero, List.getElem_cons_succ]
  refine wpAnyH_ready (rs := [12]) (by kernel_rfl) (by simp) (AllReadyH.cons (o := _) rfl (fun K hK => ?_) AllReadyH.nil)
  refine step_callw (by kernel_rfl) 13 #[(.agg #[.int .u64 e11_0, .int .u64 e11_1, .int .u64 e11_2, .int .u64 e11_3, .int .u64 e11_4])] (by kernel_rfl) ((bytes_at _ _ _ _ _ _ (by assumption) _).mono ?_)
  rintro r w5_ ⟨rfl, hg⟩
  rw [unhide ha2]
  refine ⟨_, rfl, ?_⟩
  have hS5_ : Gr v.drew w5_ := Gr.trans hS4_ hg
  clear hg
  refine hK.out _ _ hS5_ (fun _ => ?_)
  clear hK K
  simp only [Act.put, List.setIfInBounds_toArray, List.set_cons_zero, List.set_cons_succ, List.getElem_toArray, List.getElem_cons_zero, List.getElem_cons_succ]
  refine wpAnyH_ready (rs := [15]) (by kernel_rfl) (by simp) (AllReadyH.cons (o := _) rfl (fun K hK => ?_) AllReadyH.nil)
  refine step_callw (by kernel_rfl) 20 #[(.agg (kc (digs V 32))), (.agg (kc (digs U 32)))] (by kernel_rfl) ((rsub_ok V U _ (unhide hVT) (unhide hU0)).mono ?_)
  rintro r w6_ ⟨rfl, hg⟩
  rw [unhide hs2]
  refine ⟨_, rfl, ?_⟩
  have hS6_ : Gr v.drew w6_ := Gr.trans hS5_ hg
  clear hg
  refine hK.out _ _ hS6_ (fun _ => ?_)
  clear hK K
  simp only [Act.put, List.setIfInBounds_toArray, List.set_cons_zero, List.set_cons_succ, List.getElem_toArray, List.getElem_cons_zero, List.getElem_cons_succ]
  refine wpAnyH_take (i := 16) (v := (.bool true)) rfl (by kernel_rfl) (by kernel_rfl) (by kernel_rfl) (fun _ _ _ h => h) (.inl ⟨by kernel_rfl, fun u hu => by have e := key_same S2; go_simp⟩) hS6_ ?_
  simp only [Act.put, List.setIfInBounds_toArray, List.set_cons_zero, List.set_cons_succ, List.getElem_toArray, List.getElem_cons_zero, List.getElem_cons_succ]
  refine wpAnyH_take (i := 17) (v := (.bool true)) rfl (by kernel_rfl) (by kernel_rfl) (by kernel_rfl) (fun _ _ _ h => h) (.inl ⟨by kernel_rfl, fun u hu => by kernel_rfl⟩) hS6_ ?_
  simp only [Act.put, List.setIfInBounds_toArray, List.set_cons_zero, List.set_cons_succ, List.getElem_toArray, List.getElem_cons_zero, List.getElem_cons_succ]
  refine wpAnyH_take (i := 18) (v := (.bool true)) rfl (by kernel_rfl) (by kernel_rfl) (by kernel_rfl) (fun _ _ _ h => h) (.inl ⟨by kernel_rfl, fun u hu => by kernel_rfl⟩) hS6_ ?_
  simp only [Act.put, List.setIfInBounds_toArray, List.set_cons_zero, List.set_cons_succ, List.getElem_toArray, List.getElem_cons_zero, List.getElem_cons_succ]
  refine wpAnyH_take (i := 19) (v := (.agg #[.int .u64 a0, .int .u64 a1, .int .u64 a2, .int .u64 a3, .int .u64 a4])) rfl (by kernel_rfl) (by kernel_rfl) (by kernel_rfl) (fun _ _ _ h => h) (.inl ⟨by kernel_rfl, fun u hu => exec_row u 29 (.tmp 5) rfl g1 0 (by kernel_rfl) [.int .u64 a0, .int .u64 a1, .int .u64 a2, .int .u64 a3, .int .u64 a4] _ (range_row (hu.blk (unhide hb1))) Try.underlying29 rfl Try.infoElem⟩) hS6_ ?_
  simp only [Act.put, List.setIfInBounds_toArray, List.set_cons_zero, List.set_cons_succ, List.getElem_toArray, List.getElem_cons_zero, List.getElem_cons_succ]
  refine wpAnyH_take (i := 22) (v := (.agg (kc (digs 0 32)))) rfl (by kernel_rfl) (by kernel_rfl) (by kernel_rfl) (fun _ _ _ h => h) (.inl ⟨by kernel_rfl, fun u hu => by kernel_rfl⟩) hS6_ ?_
  simp only [Act.put, List.setIfInBounds_toArray, List.set_cons_zero, List.set_cons_succ, List.getElem_toArray, List.getElem_cons_zero, List.getElem_cons_succ]
  refine wpAnyH_take (i := 23) (v := (.agg (kc (digs V 32)))) rfl (by kernel_rfl) (by kernel_rfl) (by kernel_rfl) (fun _ _ _ h => h) (.inl ⟨by kernel_rfl, fun u hu => exec_row u 23 (.tmp 7) rfl g3 0 (by kernel_rfl) ((digs V 32).map (Value.int .u8)) (.array 32 5) (range_row (hu.blk (unhide hb3))) Try.underlying23 rfl (by rw [Try.infoKey, List.length_map, digs_len])⟩) hS6_ ?_
  simp only [Act.put, List.setIfInBounds_toArray, List.set_cons_zero, List.set_cons_succ, List.getElem_toArray, List.getElem_cons_zero, List.getElem_cons_succ]
  refine wpAnyH_ready (rs := [20]) (by kernel_rfl) (by simp) (AllReadyH.cons (o := _) rfl (fun K hK => ?_) AllReadyH.nil)
  refine step_callw (by kernel_rfl) 21 #[(.agg #[.int .u64 a0, .int .u64 a1, .int .u64 a2, .int .u64 a3, .int .u64 a4])] (by kernel_rfl) ((neg_at _ _ _ _ _ _ (by assumption) _).mono ?_)
  rintro r w7_ ⟨e20_0, e20_1, e20_2, e20_3, e20_4, rfl, h20_, hg⟩
  refine ⟨_, rfl, ?_⟩
  have hS7_ : Gr v.drew w7_ := Gr.trans hS6_ hg
  clear hg
  refine hK.out _ _ hS7_ (fun _ => ?_)
  clear hK K
  simp only [Act.put, List.setIfInBounds_toArray, List.set_cons_zero, List.set_cons_succ, List.getElem_toArray, List.getElem_cons_zero, List.getElem_cons_succ]
  refine wpAnyH_ready (rs := [21]) (by kernel_rfl) (by simp) (AllReadyH.cons (o := _) rfl (fun K hK => ?_) AllReadyH.nil)
  refine step_callw (by kernel_rfl) 13 #[(.agg #[.int .u64 e20_0, .int .u64 e20_1, .int .u64 e20_2, .int .u64 e20_3, .int .u64 e20_4])] (by kernel_rfl) ((bytes_at _ _ _ _ _ _ (by assumption) _).mono ?_)
  rintro r w8_ ⟨rfl, hg⟩
  rw [unhide ha3]
  refine ⟨_, rfl, ?_⟩
  have hS8_ : Gr v.drew w8_ := Gr.trans hS7_ hg
  clear hg
  refine hK.out _ _ hS8_ (fun _ => ?_)
  clear hK K
  simp only [Act.put, List.setIfInBounds_toArray, List.set_cons_zero, List.set_cons_succ, List.getElem_toArray, List.getElem_cons_zero, List.getElem_cons_succ]
  refine wpAnyH_ready (rs := [24]) (by kernel_rfl) (by simp) (AllReadyH.cons (o := _) rfl (fun K hK => ?_) AllReadyH.nil)
  refine step_callw (by kernel_rfl) 20 #[(.agg (kc (digs 0 32))), (.agg (kc (digs V 32)))] (by kernel_rfl) ((rsub_ok 0 V _ (unhide hz0) (unhide hV0)).mono ?_)
  rintro r w9_ ⟨rfl, hg⟩
  rw [unhide hs3]
  refine ⟨_, rfl, ?_⟩
  have hS9_ : Gr v.drew w9_ := Gr.trans hS8_ hg
  clear hg
  refine hK.out _ _ hS9_ (fun _ => ?_)
  clear hK K
  simp only [Act.put, List.setIfInBounds_toArray, List.set_cons_zero, List.set_cons_succ, List.getElem_toArray, List.getElem_cons_zero, List.getElem_cons_succ]
  refine wpAnyH_take (i := 25) (v := (.bool true)) rfl (by kernel_rfl) (by kernel_rfl) (by kernel_rfl) (fun _ _ _ h => h) (.inl ⟨by kernel_rfl, fun u hu => by have e := key_same S3; go_simp⟩) hS9_ ?_
  simp only [Act.put, List.setIfInBounds_toArray, List.set_cons_zero, List.set_cons_succ, List.getElem_toArray, List.getElem_cons_zero, List.getElem_cons_succ]
  refine wpAnyH_take (i := 26) (v := (.bool true)) rfl (by kernel_rfl) (by kernel_rfl) (by kernel_rfl) (fun _ _ _ h => h) (.inl ⟨by kernel_rfl, fun u hu => by kernel_rfl⟩) hS9_ ?_
  simp only [Act.put, List.setIfInBounds_toArray, List.set_cons_zero, List.set_cons_succ, List.getElem_toArray, List.getElem_cons_zero, List.getElem_cons_succ]
  refine wpAnyH_take (i := 27) (v := (.bool true)) rfl (by kernel_rfl) (by kernel_rfl) (by kernel_rfl) (fun _ _ _ h => h) (.inl ⟨by kernel_rfl, fun u hu => by kernel_rfl⟩) hS9_ ?_
  simp only [Act.put, List.setIfInBounds_toArray, List.set_cons_zero, List.set_cons_succ, List.getElem_toArray, List.getElem_cons_zero, List.getElem_cons_succ]
  refine wpAnyH_take (i := 28) (v := (.agg #[.int .u64 a0, .int .u64 a1, .int .u64 a2, .int .u64 a3, .int .u64 a4])) rfl (by kernel_rfl) (by kernel_rfl) (by kernel_rfl) (fun _ _ _ h => h) (.inl ⟨by kernel_rfl, fun u hu => exec_row u 29 (.tmp 5) rfl g1 0 (by kernel_rfl) [.int .u64 a0, .int .u64 a1, .int .u64 a2, .int .u64 a3, .int .u64 a4] _ (range_row (hu.blk (unhide hb1))) Try.underlying29 rfl Try.infoElem⟩) hS9_ ?_
  simp only [Act.put, List.setIfInBounds_toArray, List.set_cons_zero, List.set_cons_succ, List.getElem_toArray, List.getElem_cons_zero, List.getElem_cons_succ]
  refine wpAnyH_take (i := 30) (v := (.agg (kc (digs V 32)))) rfl (by kernel_rfl) (by kernel_rfl) (by kernel_rfl) (fun _ _ _ h => h) (.inl ⟨by kernel_rfl, fun u hu => exec_row u 23 (.tmp 7) rfl g3 0 (by kernel_rfl) ((digs V 32).map (Value.int .u8)) (.array 32 5) (range_row (hu.blk (unhide hb3))) Try.underlying23 rfl (by rw [Try.infoKey, List.length_map, digs_len])⟩) hS9_ ?_
  simp only [Act.put, List.setIfInBounds_toArray, List.set_cons_zero, List.set_cons_succ, List.getElem_toArray, List.getElem_cons_zero, List.getElem_cons_succ]
  refine wpAnyH_ready (rs := [29]) (by kernel_rfl) (by simp) (AllReadyH.cons (o := _) rfl (fun K hK => ?_) AllReadyH.nil)
  refine step_callw (by kernel_rfl) 13 #[(.agg #[.int .u64 a0, .int .u64 a1, .int .u64 a2, .int .u64 a3, .int .u64 a4])] (by kernel_rfl) ((bytes_at _ _ _ _ _ _ (by assumption) _).mono ?_)
  rintro r w10_ ⟨rfl, hg⟩
  rw [unhide hVe]
  refine ⟨_, rfl, ?_⟩
  have hS10_ : Gr v.drew w10_ := Gr.trans hS9_ hg
  clear hg
  refine hK.out _ _ hS10_ (fun _ => ?_)
  clear hK K
  simp only [Act.put, List.setIfInBounds_toArray, List.set_cons_zero, List.set_cons_succ, List.getElem_toArray, List.getElem_cons_zero, List.getElem_cons_succ]
  refine wpAnyH_take (i := 31) (v := (.bool true)) rfl (by kernel_rfl) (by kernel_rfl) (by kernel_rfl) (fun _ _ _ h => h) (.inl ⟨by kernel_rfl, fun u hu => by have e := key_same V; go_simp⟩) hS10_ ?_
  simp only [Act.put, List.setIfInBounds_toArray, List.set_cons_zero, List.set_cons_succ, List.getElem_toArray, List.getElem_cons_zero, List.getElem_cons_succ]
  refine wpAnyH_take (i := 32) (v := (.bool true)) rfl (by kernel_rfl) (by kernel_rfl) (by kernel_rfl) (fun _ _ _ h => h) (.inl ⟨by kernel_rfl, fun u hu => by kernel_rfl⟩) hS10_ ?_
  simp only [Act.put, List.setIfInBounds_toArray, List.set_cons_zero, List.set_cons_succ, List.getElem_toArray, List.getElem_cons_zero, List.getElem_cons_succ]
  refine wpAnyH_take (i := 33) (v := (.bool true)) rfl (by kernel_rfl) (by kernel_rfl) (by kernel_rfl) (fun _ _ _ h => h) (.inl ⟨by kernel_rfl, fun u hu => by kernel_rfl⟩) hS10_ ?_
  simp only [Act.put, List.setIfInBounds_toArray, List.set_cons_zero, List.set_cons_succ, List.getElem_toArray, List.getElem_cons_zero, List.getElem_cons_succ]
  refine wpAnyH_take (i := 34) (v := (.agg #[.int .u64 b0, .int .u64 b1, .int .u64 b2, .int .u64 b3, .int .u64 b4])) rfl (by kernel_rfl) (by kernel_rfl) (by kernel_rfl) (fun _ _ _ h => h) (.inl ⟨by kernel_rfl, fun u hu => exec_row u 29 (.tmp 6) rfl g2 0 (by kernel_rfl) [.int .u64 b0, .int .u64 b1, .int .u64 b2, .int .u64 b3, .int .u64 b4] _ (range_row (hu.blk (unhide hb2))) Try.underlying29 rfl Try.infoElem⟩) hS10_ ?_
  simp only [Act.put, List.setIfInBounds_toArray, List.set_cons_zero, List.set_cons_succ, List.getElem_toArray, List.getElem_cons_zero, List.getElem_cons_succ]
  refine wpAnyH_take (i := 36) (v := (.agg (kc (digs U 32)))) rfl (by kernel_rfl) (by kernel_rfl) (by kernel_rfl) (fun _ _ _ h => h) (.inl ⟨by kernel_rfl, fun u hu => exec_row u 23 (.tmp 8) rfl g4 0 (by kernel_rfl) ((digs U 32).map (Value.int .u8)) (.array 32 5) (range_row (hu.blk (unhide hb4))) Try.underlying23 rfl (by rw [Try.infoKey, List.length_map, digs_len])⟩) hS10_ ?_
  simp only [Act.put, List.setIfInBounds_toArray, List.set_cons_zero, List.set_cons_succ, List.getElem_toArray, List.getElem_cons_zero, List.getElem_cons_succ]
  refine wpAnyH_ready (rs := [35]) (by kernel_rfl) (by simp) (AllReadyH.cons (o := _) rfl (fun K hK => ?_) AllReadyH.nil)
  refine step_callw (by kernel_rfl) 13 #[(.agg #[.int .u64 b0, .int .u64 b1, .int .u64 b2, .int .u64 b3, .int .u64 b4])] (by kernel_rfl) ((bytes_at _ _ _ _ _ _ (by assumption) _).mono ?_)
  rintro r w11_ ⟨rfl, hg⟩
  rw [unhide hUe]
  refine ⟨_, rfl, ?_⟩
  have hS11_ : Gr v.drew w11_ := Gr.trans hS10_ hg
  clear hg
  refine hK.out _ _ hS11_ (fun _ => ?_)
  clear hK K
  simp only [Act.put, List.setIfInBounds_toArray, List.set_cons_zero, List.set_cons_succ, List.getElem_toArray, List.getElem_cons_zero, List.getElem_cons_succ]
  refine wpAnyH_take (i := 37) (v := (.bool true)) rfl (by kernel_rfl) (by kernel_rfl) (by kernel_rfl) (fun _ _ _ h => h) (.inl ⟨by kernel_rfl, fun u hu => by have e := key_same U; go_simp⟩) hS11_ ?_
  simp only [Act.put, List.setIfInBounds_toArray, List.set_cons_zero, List.set_cons_succ, List.getElem_toArray, List.getElem_cons_zero, List.getElem_cons_succ]
  refine wpAnyH_take (i := 38) (v := (.bool true)) rfl (by kernel_rfl) (by kernel_rfl) (by kernel_rfl) (fun _ _ _ h => h) (.inl ⟨by kernel_rfl, fun u hu => by kernel_rfl⟩) hS11_ ?_
  simp only [Act.put, List.setIfInBounds_toArray, List.set_cons_zero, List.set_cons_succ, List.getElem_toArray, List.getElem_cons_zero, List.getElem_cons_succ]
  refine wpAnyH_ready (rs := [39]) (by kernel_rfl) (by simp) (AllReadyH.cons (o := _) rfl (fun K hK => ?_) AllReadyH.nil)
  go_simp
  refine hK.out _ _ hS11_ (fun _ => ?_)
  clear hK K
  refine wpAnyH_done (by kernel_rfl) ?_ _
  go_wp2_with fail
  refine bodyPost_ret (v := .bool true) ?_ rfl ?_
  · simp [results, Try.results4, go_sem]
  · exact ⟨rfl, (unhide hG).trans (((Gr.refl _).drew).trans hS11_)⟩
end Go.Proofs.Ytjncnmhigikdoaa
