/-
  FieldMade: the walk, for whatever key and number.
-/
import Derived.Test.YtjncnmhigikdoaaBackMath
import Derived.Test.YtjncnmhigikdoaaFerm
import Derived.Test.YtjncnmhigikdoaaRegs
import Derived.Test.YtjncnmhigikdoaaElems
import Derived.Test.YtjncnmhigikdoaaRefB
namespace Go.Proofs.Ytjncnmhigikdoaa
open Go.RowKit
set_option maxRecDepth 100000
set_option linter.unusedSimpArgs false
attribute [local go_sem ↓] Go.wp_at_zero Go.wp_at_succ

theorem key_eq_num (V x : Int) (hV : 0 ≤ V ∧ V < 115792089237316195423570985008687907853269984665640564039457584007913129639936) (hx : 0 ≤ x ∧ x < 115792089237316195423570985008687907853269984665640564039457584007913129639936) (w : World) : Sem.run Try.prog (Op.equalIn 10000 23 (.agg (kc (digs V 32))) (.agg (kc (digs x 32)))) w = .ok (decide (V = x)) w := by
  rw [key_eq _ _ (digs_len _ _) (digs_len _ _) w]
  congr 2
  exact propext ⟨fun h => digs_inj V x hV hx h, fun h => by rw [h]⟩
theorem rep_zero : Hid (Rep 0 0 0 0 0 0) := hide ⟨by unfold Fit; omega, by decide +kernel⟩

set_option maxHeartbeats 4000000 in
theorem made_any (n x : Int) (hn : 0 ≤ n ∧ n < 115792089237316195423570985008687907853269984665640564039457584007913129639936) (hx : 0 ≤ x ∧ x < 18446744073709551616) (w : World) :
    Calls Try.prog 3 #[.agg (kc (digs n 32)), .int .u64 x] w (fun r w' => r = .returned (.bool true) ∧ Gr w w') := by
  obtain ⟨LX, hLX⟩ : ∃ L, L = (digs n 32).map (Value.int .u8) := ⟨_, rfl⟩
  have eX : kc (digs n 32) = LX.toArray := by rw [hLX]; rfl
  have kX : Hid (KeyIs LX n) := hide ⟨hn.1, hLX⟩
  have HiX : Hid ((Try.prog.info? 23).map (·.size) = some LX.length) := hide (by rw [Try.infoKey, hLX, List.length_map, digs_len])
  have hN0 : Hid (0 ≤ n % 57896044618658097711785492504343953926634992332820282019728792003956564819968) := hide (by omega)
  rw [eX]
  have keX := hide eX
  clear hLX eX
  generalize hNe : n % 57896044618658097711785492504343953926634992332820282019728792003956564819968 = N at hN0
  replace hNe := hide hNe
  have hV0 : 0 ≤ N % pp ∧ N % pp < pp := ⟨Int.emod_nonneg _ (by decide), Int.emod_lt_of_pos _ (by decide)⟩
  generalize hVe : N % pp = V at hV0
  have ppT : pp < 57896044618658097711785492504343953926634992332820282019728792003956564819968 := by decide
  have hVT : 0 ≤ V ∧ V < 115792089237316195423570985008687907853269984665640564039457584007913129639936 := by omega
  have hxp : x % pp = x := by unfold pp; omega
  have hxT : 0 ≤ x ∧ x < 115792089237316195423570985008687907853269984665640564039457584007913129639936 := by omega
  have hVV : V % 57896044618658097711785492504343953926634992332820282019728792003956564819968 % pp = V := by rw [Int.emod_eq_of_lt hV0.1 (by omega), Int.emod_eq_of_lt hV0.1 hV0.2]
  obtain ⟨q1, hq1⟩ : ∃ q, q = decide (V = 0) := ⟨_, rfl⟩
  obtain ⟨q2, hq2⟩ : ∃ q, q = decide (x = 0) := ⟨_, rfl⟩
  obtain ⟨q3, hq3⟩ : ∃ q, q = decide (V = x) := ⟨_, rfl⟩
  have e3 : Hid (∀ w, Sem.run Try.prog (Op.equalIn 10000 23 (.agg (kc (digs V 32))) (.agg (kc (digs V 32)))) w = .ok true w) := hide (fun w => by rw [key_eq_num V V hVT hVT w]; simp)
  have e9 : Hid (∀ w, Sem.run Try.prog (Op.equalIn 10000 23 (.agg (kc (digs x 32))) (.agg (kc (digs x 32)))) w = .ok true w) := hide (fun w => by rw [key_eq_num x x hxT hxT w]; simp)
  have e16 : Hid (∀ w, Sem.run Try.prog (Op.equalIn 10000 23 (.agg (kc (digs V 32))) (.agg (kc (digs 0 32)))) w = .ok q1 w) := hide (fun w => by rw [key_eq_num V 0 hVT (by omega) w, hq1])
  have e38 : Hid (∀ w, Sem.run Try.prog (Op.equalIn 10000 23 (.agg (kc (digs V 32))) (.agg (kc (digs x 32)))) w = .ok q3 w) := hide (fun w => by rw [key_eq_num V x hVT hxT w, hq3])
  have ex0 : Hid ((x == 0) = q2) := hide (by rw [hq2]; rfl)
  have d1 : Hid (decide (N % pp = 0) = q1) := hide (by rw [hVe, hq1])
  have d2 : Hid (decide (x % pp = 0) = q2) := hide (by rw [hxp, hq2])
  have d3 : Hid (decide (N % pp = x % pp) = q3) := hide (by rw [hVe, hxp, hq3])
  have d4 : Hid (decide (N % pp = V % 57896044618658097711785492504343953926634992332820282019728792003956564819968 % pp) = true) := hide (by rw [hVe, hVV]; simp)
  have d5 : Hid (decide ((0 : Int) % pp = 0) = true) := hide d00
  have hbx := hide hx
  replace hVe := hide hVe
  replace hxp := hide hxp
  have hV00 : Hid (0 ≤ V) := hide hV0.1
  clear hV0 ppT hVT hxT hVV hq1 hq2 hq3 hx
  have hMd2 : Hid (∀ w, Calls Try.prog 11 #[.agg LX.toArray] w (fun r w' => r = .returned (.agg (kc (digs V 32))) ∧ Gr w w')) := hide (fun w => by have := made_ok n hn w; rw [unhide hNe, unhide hVe, unhide keX] at this; exact this)
  clear hn
  go_enter Try.func3, Try.ntmps3
  go_upto_region 6 with (first
    | (go_at_call 9; refine (wakes_at' _).mono ?_; rintro r w1 ⟨rfl, hg⟩; have hG := hide (Gr.trans ((Gr.refl w).alloc _) hg); have hX := hide (hg.blk (blk_new w _)); clear hg)
    | (refine wpList_load_row rfl 23 (.tmp 2) rfl w.heap.size rfl 23 LX.toArray (0, 0) _ (by first | exact unhide hX | exact ((Gr.refl _).alloc _).blk (unhide hX)) Try.underlying23 rfl (by exact unhide HiX) ?_)
    | (go_at_call 10; refine (from_L _ _ (by assumption) _).mono ?_; rintro r w2 ⟨a0, a1, a2, a3, a4, rfl, hA, hg⟩; rw [unhide hNe] at hA; replace hG := hide ((unhide hG).trans (hg.trans ((Gr.refl _).alloc (.cells #[.int .u64 a0, .int .u64 a1, .int .u64 a2, .int .u64 a3, .int .u64 a4] 29 (0, 0))))); replace hX := hide (hg.blk (unhide hX)); clear hg; have hb1 := hide (blk_new w2 (.cells #[.int .u64 a0, .int .u64 a1, .int .u64 a2, .int .u64 a3, .int .u64 a4] 29 (0, 0))))
    | (go_at_call 11; refine (unhide hMd2 _).mono ?_; rintro r w3 ⟨rfl, hg⟩; replace hb1 := hide (hg.blk (unhide hb1)); replace hG := hide ((unhide hG).trans hg); clear hg hX)
    | (refine wpList_store_row rfl 23 (.tmp 6) (.tmp 13) rfl w3.heap.size (kc (digs V 32)) rfl rfl 23 _ (by exact blk_new _ _) (by rw [Try.infoKey, kc_size, digs_len]) (by rw [kc_size, digs_len]; rfl) (kc_one _) ?_; obtain ⟨hgR, hbR⟩ := alloc_row w3 _ (kc (digs V 32)) 23; generalize World.setRow _ _ _ = u3 at *; have hb2 := hide hbR; clear hbR; replace hb1 := hide (hgR.blk (unhide hb1)); replace hG := hide ((unhide hG).trans hgR); clear hgR)
    | (go_at_call 12; refine (of_at _ (unhide hbx) _).mono ?_; rintro r w4 ⟨c0, c1, c2, c3, c4, rfl, hC, hg⟩))
  have gA := (Gr.refl w4).alloc (.cells #[.int .u64 c0, .int .u64 c1, .int .u64 c2, .int .u64 c3, .int .u64 c4] 29 (0, 0))
  replace hb1 := hide (gA.blk (hg.blk (unhide hb1)))
  replace hb2 := hide (gA.blk (hg.blk (unhide hb2)))
  have hb3 := hide (blk_new w4 (.cells #[.int .u64 c0, .int .u64 c1, .int .u64 c2, .int .u64 c3, .int .u64 c4] 29 (0, 0)))
  replace hG := hide ((unhide hG).trans (hg.trans gA))
  clear hg gA
  generalize w2.heap.size = g1 at *
  generalize w3.heap.size = g2 at *
  generalize w4.heap.size = g3 at *
  generalize w4.alloc _ = v at *
  have hz := rep_zero
  refine wp_region_held_drew (S := fun x => Gr v.drew x) (by kernel_rfl) (Gr.refl _) (fun hS0 => ?_)
  refine wpAnyH_take (i := 0) (v := (.agg #[.int .u64 a0, .int .u64 a1, .int .u64 a2, .int .u64 a3, .int .u64 a4])) rfl (by kernel_rfl) (by kernel_rfl) (by kernel_rfl) (fun _ _ _ h => h) (.inl ⟨by kernel_rfl, fun u hu => exec_row u 29 (.tmp 5) rfl g1 0 (by kernel_rfl) [.int .u64 a0, .int .u64 a1, .int .u64 a2, .int .u64 a3, .int .u64 a4] _ (range_row (hu.blk (unhide hb1))) Try.underlying29 rfl Try.infoElem⟩) hS0 ?_
  simp only [Act.put, List.setIfInBounds_toArray, List.set_cons_zero, List.set_cons_succ, List.getElem_toArray, List.getElem_cons_zero, List.getElem_cons_succ]
  refine wpAnyH_take (i := 2) (v := (.agg (kc (digs V 32)))) rfl (by kernel_rfl) (by kernel_rfl) (by kernel_rfl) (fun _ _ _ h => h) (.inl ⟨by kernel_rfl, fun u hu => exec_row u 23 (.tmp 6) rfl g2 0 (by kernel_rfl) ((digs V 32).map (Value.int .u8)) (.array 32 5) (range_row (hu.blk (unhide hb2))) Try.underlying23 rfl (by rw [Try.infoKey, List.length_map, digs_len])⟩) hS0 ?_
  simp only [Act.put, List.setIfInBounds_toArray, List.set_cons_zero, List.set_cons_succ, List.getElem_toArray, List.getElem_cons_zero, List.getElem_cons_succ]
  refine wpAnyH_ready (rs := [1]) (by kernel_rfl) (by simp) (AllReadyH.cons (o := _) rfl (fun K hK => ?_) AllReadyH.nil)
  refine step_callw (by kernel_rfl) 13 #[(.agg #[.int .u64 a0, .int .u64 a1, .int .u64 a2, .int .u64 a3, .int .u64 a4])] (by kernel_rfl) ((bytes_at _ _ _ _ _ _ (by assumption) _).mono ?_)
  rintro r w1_ ⟨rfl, hg⟩
  rw [unhide hVe]
  refine ⟨_, rfl, ?_⟩
  have hS1_ : Gr v.drew w1_ := Gr.trans hS0 hg
  clear hg
  refine hK.out _ _ hS1_ (fun _ => ?_)
  clear hK K
  simp only [Act.put, List.setIfInBounds_toArray, List.set_cons_zero, List.set_cons_succ, List.getElem_toArray, List.getElem_cons_zero, List.getElem_cons_succ]
  refine wpAnyH_take (i := 3) (v := (.bool true)) rfl (by kernel_rfl) (by kernel_rfl) (by kernel_rfl) (fun _ _ _ h => h) (.inl ⟨by kernel_rfl, fun u hu => by have e := unhide e3; go_simp⟩) hS1_ ?_
  simp only [Act.put, List.setIfInBounds_toArray, List.set_cons_zero, List.set_cons_succ, List.getElem_toArray, List.getElem_cons_zero, List.getElem_cons_succ]
  refine wpAnyH_take (i := 4) (v := (.bool true)) rfl (by kernel_rfl) (by kernel_rfl) (by kernel_rfl) (fun _ _ _ h => h) (.inl ⟨by kernel_rfl, fun u hu => by kernel_rfl⟩) hS1_ ?_
  simp only [Act.put, List.setIfInBounds_toArray, List.set_cons_zero, List.set_cons_succ, List.getElem_toArray, List.getElem_cons_zero, List.getElem_cons_succ]
  refine wpAnyH_take (i := 5) (v := (.agg #[.int .u64 c0, .int .u64 c1, .int .u64 c2, .int .u64 c3, .int .u64 c4])) rfl (by kernel_rfl) (by kernel_rfl) (by kernel_rfl) (fun _ _ _ h => h) (.inl ⟨by kernel_rfl, fun u hu => exec_row u 29 (.tmp 7) rfl g3 0 (by kernel_rfl) [.int .u64 c0, .int .u64 c1, .int .u64 c2, .int .u64 c3, .int .u64 c4] _ (range_row (hu.blk (unhide hb3))) Try.underlying29 rfl Try.infoElem⟩) hS1_ ?_
  simp only [Act.put, List.setIfInBounds_toArray, List.set_cons_zero, List.set_cons_succ, List.getElem_toArray, List.getElem_cons_zero, List.getElem_cons_succ]
  refine wpAnyH_take (i := 7) (v := (.int .u64 x)) rfl (by kernel_rfl) (by kernel_rfl) (by kernel_rfl) (fun _ _ _ h => h) (.inl ⟨by kernel_rfl, fun u hu => by kernel_rfl⟩) hS1_ ?_
  simp only [Act.put, List.setIfInBounds_toArray, List.set_cons_zero, List.set_cons_succ, List.getElem_toArray, List.getElem_cons_zero, List.getElem_cons_succ]
  refine wpAnyH_ready (rs := [6]) (by kernel_rfl) (by simp) (AllReadyH.cons (o := _) rfl (fun K hK => ?_) AllReadyH.nil)
  refine step_callw (by kernel_rfl) 13 #[(.agg #[.int .u64 c0, .int .u64 c1, .int .u64 c2, .int .u64 c3, .int .u64 c4])] (by kernel_rfl) ((bytes_at _ _ _ _ _ _ (by assumption) _).mono ?_)
  rintro r w2_ ⟨rfl, hg⟩
  rw [unhide hxp]
  refine ⟨_, rfl, ?_⟩
  have hS2_ : Gr v.drew w2_ := Gr.trans hS1_ hg
  clear hg
  refine hK.out _ _ hS2_ (fun _ => ?_)
  clear hK K
  simp only [Act.put, List.setIfInBounds_toArray, List.set_cons_zero, List.set_cons_succ, List.getElem_toArray, List.getElem_cons_zero, List.getElem_cons_succ]
  refine wpAnyH_ready (rs := [8]) (by kernel_rfl) (by simp) (AllReadyH.cons (o := _) rfl (fun K hK => ?_) AllReadyH.nil)
  refine step_callw (by kernel_rfl) 14 #[(.int .u64 x)] (by kernel_rfl) ((rof_ok _ (unhide hbx) _).mono ?_)
  rintro r w3_ ⟨rfl, hg⟩
  refine ⟨_, rfl, ?_⟩
  have hS3_ : Gr v.drew w3_ := Gr.trans hS2_ hg
  clear hg
  refine hK.out _ _ hS3_ (fun _ => ?_)
  clear hK K
  simp only [Act.put, List.setIfInBounds_toArray, List.set_cons_zero, List.set_cons_succ, List.getElem_toArray, List.getElem_cons_zero, List.getElem_cons_succ]
  refine wpAnyH_take (i := 9) (v := (.bool true)) rfl (by kernel_rfl) (by kernel_rfl) (by kernel_rfl) (fun _ _ _ h => h) (.inl ⟨by kernel_rfl, fun u hu => by have e := unhide e9; go_simp⟩) hS3_ ?_
  simp only [Act.put, List.setIfInBounds_toArray, List.set_cons_zero, List.set_cons_succ, List.getElem_toArray, List.getElem_cons_zero, List.getElem_cons_succ]
  refine wpAnyH_take (i := 10) (v := (.bool true)) rfl (by kernel_rfl) (by kernel_rfl) (by kernel_rfl) (fun _ _ _ h => h) (.inl ⟨by kernel_rfl, fun u hu => by kernel_rfl⟩) hS3_ ?_
  simp only [Act.put, List.setIfInBounds_toArray, List.set_cons_zero, List.set_cons_succ, List.getElem_toArray, List.getElem_cons_zero, List.getElem_cons_succ]
  refine wpAnyH_take (i := 11) (v := (.bool true)) rfl (by kernel_rfl) (by kernel_rfl) (by kernel_rfl) (fun _ _ _ h => h) (.inl ⟨by kernel_rfl, fun u hu => by kernel_rfl⟩) hS3_ ?_
  simp only [Act.put, List.setIfInBounds_toArray, List.set_cons_zero, List.set_cons_succ, List.getElem_toArray, List.getElem_cons_zero, List.getElem_cons_succ]
  refine wpAnyH_take (i := 12) (v := (.agg #[.int .u64 a0, .int .u64 a1, .int .u64 a2, .int .u64 a3, .int .u64 a4])) rfl (by kernel_rfl) (by kernel_rfl) (by kernel_rfl) (fun _ _ _ h => h) (.inl ⟨by kernel_rfl, fun u hu => exec_row u 29 (.tmp 5) rfl g1 0 (by kernel_rfl) [.int .u64 a0, .int .u64 a1, .int .u64 a2, .int .u64 a3, .int .u64 a4] _ (range_row (hu.blk (unhide hb1))) Try.underlying29 rfl Try.infoElem⟩) hS3_ ?_
  simp only [Act.put, List.setIfInBounds_toArray, List.set_cons_zero, List.set_cons_succ, List.getElem_toArray, List.getElem_cons_zero, List.getElem_cons_succ]
  refine wpAnyH_take (i := 14) (v := (.agg (kc (digs V 32)))) rfl (by kernel_rfl) (by kernel_rfl) (by kernel_rfl) (fun _ _ _ h => h) (.inl ⟨by kernel_rfl, fun u hu => exec_row u 23 (.tmp 6) rfl g2 0 (by kernel_rfl) ((digs V 32).map (Value.int .u8)) (.array 32 5) (range_row (hu.blk (unhide hb2))) Try.underlying23 rfl (by rw [Try.infoKey, List.length_map, digs_len])⟩) hS3_ ?_
  simp only [Act.put, List.setIfInBounds_toArray, List.set_cons_zero, List.set_cons_succ, List.getElem_toArray, List.getElem_cons_zero, List.getElem_cons_succ]
  refine wpAnyH_take (i := 15) (v := (.agg (kc (digs 0 32)))) rfl (by kernel_rfl) (by kernel_rfl) (by kernel_rfl) (fun _ _ _ h => h) (.inl ⟨by kernel_rfl, fun u hu => by kernel_rfl⟩) hS3_ ?_
  simp only [Act.put, List.setIfInBounds_toArray, List.set_cons_zero, List.set_cons_succ, List.getElem_toArray, List.getElem_cons_zero, List.getElem_cons_succ]
  refine wpAnyH_take (i := 16) (v := (.bool q1)) rfl (by kernel_rfl) (by kernel_rfl) (by kernel_rfl) (fun _ _ _ h => h) (.inl ⟨by kernel_rfl, fun u hu => by have e := unhide e16; go_simp⟩) hS3_ ?_
  simp only [Act.put, List.setIfInBounds_toArray, List.set_cons_zero, List.set_cons_succ, List.getElem_toArray, List.getElem_cons_zero, List.getElem_cons_succ]
  refine wpAnyH_ready (rs := [13]) (by kernel_rfl) (by simp) (AllReadyH.cons (o := _) rfl (fun K hK => ?_) AllReadyH.nil)
  refine step_callw (by kernel_rfl) 15 #[(.agg #[.int .u64 a0, .int .u64 a1, .int .u64 a2, .int .u64 a3, .int .u64 a4])] (by kernel_rfl) ((zero_at _ _ _ _ _ _ q1 (by assumption) (by assumption) _).mono ?_)
  rintro r w4_ ⟨rfl, hg⟩
  refine ⟨_, rfl, ?_⟩
  have hS4_ : Gr v.drew w4_ := Gr.trans hS3_ hg
  clear hg
  refine hK.out _ _ hS4_ (fun _ => ?_)
  clear hK K
  simp only [Act.put, List.setIfInBounds_toArray, List.set_cons_zero, List.set_cons_succ, List.getElem_toArray, List.getElem_cons_zero, List.getElem_cons_succ]
  refine wpAnyH_take (i := 17) (v := (.bool true)) rfl (by kernel_rfl) (by kernel_rfl) (by kernel_rfl) (fun _ _ _ h => h) (.inl ⟨by kernel_rfl, fun u hu => by go_simp⟩) hS4_ ?_
  simp only [Act.put, List.setIfInBounds_toArray, List.set_cons_zero, List.set_cons_succ, List.getElem_toArray, List.getElem_cons_zero, List.getElem_cons_succ]
  refine wpAnyH_take (i := 18) (v := (.bool true)) rfl (by kernel_rfl) (by kernel_rfl) (by kernel_rfl) (fun _ _ _ h => h) (.inl ⟨by kernel_rfl, fun u hu => by kernel_rfl⟩) hS4_ ?_
  simp only [Act.put, List.setIfInBounds_toArray, List.set_cons_zero, List.set_cons_succ, List.getElem_toArray, List.getElem_cons_zero, List.getElem_cons_succ]
  refine wpAnyH_take (i := 19) (v := (.bool true)) rfl (by kernel_rfl) (by kernel_rfl) (by kernel_rfl) (fun _ _ _ h => h) (.inl ⟨by kernel_rfl, fun u hu => by kernel_rfl⟩) hS4_ ?_
  simp only [Act.put, List.setIfInBounds_toArray, List.set_cons_zero, List.set_cons_succ, List.getElem_toArray, List.getElem_cons_zero, List.getElem_cons_succ]
  refine wpAnyH_take (i := 20) (v := (.agg #[.int .u64 c0, .int .u64 c1, .int .u64 c2, .int .u64 c3, .int .u64 c4])) rfl (by kernel_rfl) (by kernel_rfl) (by kernel_rfl) (fun _ _ _ h => h) (.inl ⟨by kernel_rfl, fun u hu => exec_row u 29 (.tmp 7) rfl g3 0 (by kernel_rfl) [.int .u64 c0, .int .u64 c1, .int .u64 c2, .int .u64 c3, .int .u64 c4] _ (range_row (hu.blk (unhide hb3))) Try.underlying29 rfl Try.infoElem⟩) hS4_ ?_
  simp only [Act.put, List.setIfInBounds_toArray, List.set_cons_zero, List.set_cons_succ, List.getElem_toArray, List.getElem_cons_zero, List.getElem_cons_succ]
  refine wpAnyH_take (i := 22) (v := (.int .u64 x)) rfl (by kernel_rfl) (by kernel_rfl) (by kernel_rfl) (fun _ _ _ h => h) (.inl ⟨by kernel_rfl, fun u hu => by kernel_rfl⟩) hS4_ ?_
  simp only [Act.put, List.setIfInBounds_toArray, List.set_cons_zero, List.set_cons_succ, List.getElem_toArray, List.getElem_cons_zero, List.getElem_cons_succ]
  refine wpAnyH_take (i := 23) (v := (.bool q2)) rfl (by kernel_rfl) (by kernel_rfl) (by kernel_rfl) (fun _ _ _ h => h) (.inl ⟨by kernel_rfl, fun u hu => by have e := unhide ex0; go_simp⟩) hS4_ ?_
  simp only [Act.put, List.setIfInBounds_toArray, List.set_cons_zero, List.set_cons_succ, List.getElem_toArray, List.getElem_cons_zero, List.getElem_cons_succ]
  refine wpAnyH_ready (rs := [21]) (by kernel_rfl) (by simp) (AllReadyH.cons (o := _) rfl (fun K hK => ?_) AllReadyH.nil)
  refine step_callw (by kernel_rfl) 15 #[(.agg #[.int .u64 c0, .int .u64 c1, .int .u64 c2, .int .u64 c3, .int .u64 c4])] (by kernel_rfl) ((zero_at _ _ _ _ _ _ q2 (by assumption) (by assumption) _).mono ?_)
  rintro r w5_ ⟨rfl, hg⟩
  refine ⟨_, rfl, ?_⟩
  have hS5_ : Gr v.drew w5_ := Gr.trans hS4_ hg
  clear hg
  refine hK.out _ _ hS5_ (fun _ => ?_)
  clear hK K
  simp only [Act.put, List.setIfInBounds_toArray, List.set_cons_zero, List.set_cons_succ, List.getElem_toArray, List.getElem_cons_zero, List.getElem_cons_succ]
  refine wpAnyH_take (i := 24) (v := (.bool true)) rfl (by kernel_rfl) (by kernel_rfl) (by kernel_rfl) (fun _ _ _ h => h) (.inl ⟨by kernel_rfl, fun u hu => by go_simp⟩) hS5_ ?_
  simp only [Act.put, List.setIfInBounds_toArray, List.set_cons_zero, List.set_cons_succ, List.getElem_toArray, List.getElem_cons_zero, List.getElem_cons_succ]
  refine wpAnyH_take (i := 25) (v := (.bool true)) rfl (by kernel_rfl) (by kernel_rfl) (by kernel_rfl) (fun _ _ _ h => h) (.inl ⟨by kernel_rfl, fun u hu => by kernel_rfl⟩) hS5_ ?_
  simp only [Act.put, List.setIfInBounds_toArray, List.set_cons_zero, List.set_cons_succ, List.getElem_toArray, List.getElem_cons_zero, List.getElem_cons_succ]
  refine wpAnyH_take (i := 26) (v := (.bool true)) rfl (by kernel_rfl) (by kernel_rfl) (by kernel_rfl) (fun _ _ _ h => h) (.inl ⟨by kernel_rfl, fun u hu => by kernel_rfl⟩) hS5_ ?_
  simp only [Act.put, List.setIfInBounds_toArray, List.set_cons_zero, List.set_cons_succ, List.getElem_toArray, List.getElem_cons_zero, List.getElem_cons_succ]
  refine wpAnyH_take (i := 27) (v := (.agg #[.int .u64 a0, .int .u64 a1, .int .u64 a2, .int .u64 a3, .int .u64 a4])) rfl (by kernel_rfl) (by kernel_rfl) (by kernel_rfl) (fun _ _ _ h => h) (.inl ⟨by kernel_rfl, fun u hu => exec_row u 29 (.tmp 5) rfl g1 0 (by kernel_rfl) [.int .u64 a0, .int .u64 a1, .int .u64 a2, .int .u64 a3, .int .u64 a4] _ (range_row (hu.blk (unhide hb1))) Try.underlying29 rfl Try.infoElem⟩) hS5_ ?_
  simp only [Act.put, List.setIfInBounds_toArray, List.set_cons_zero, List.set_cons_succ, List.getElem_toArray, List.getElem_cons_zero, List.getElem_cons_succ]
  refine wpAnyH_take (i := 28) (v := (.agg (kc (digs V 32)))) rfl (by kernel_rfl) (by kernel_rfl) (by kernel_rfl) (fun _ _ _ h => h) (.inl ⟨by kernel_rfl, fun u hu => exec_row u 23 (.tmp 6) rfl g2 0 (by kernel_rfl) ((digs V 32).map (Value.int .u8)) (.array 32 5) (range_row (hu.blk (unhide hb2))) Try.underlying23 rfl (by rw [Try.infoKey, List.length_map, digs_len])⟩) hS5_ ?_
  simp only [Act.put, List.setIfInBounds_toArray, List.set_cons_zero, List.set_cons_succ, List.getElem_toArray, List.getElem_cons_zero, List.getElem_cons_succ]
  refine wpAnyH_ready (rs := [29]) (by kernel_rfl) (by simp) (AllReadyH.cons (o := _) rfl (fun K hK => ?_) AllReadyH.nil)
  refine step_callw (by kernel_rfl) 10 #[(.agg (kc (digs V 32)))] (by kernel_rfl) ((from_at _ (by assumption) _).mono ?_)
  rintro r w6_ ⟨e29_0, e29_1, e29_2, e29_3, e29_4, rfl, h29_, hg⟩
  refine ⟨_, rfl, ?_⟩
  have hS6_ : Gr v.drew w6_ := Gr.trans hS5_ hg
  clear hg
  refine hK.out _ _ hS6_ (fun _ => ?_)
  clear hK K
  simp only [Act.put, List.setIfInBounds_toArray, List.set_cons_zero, List.set_cons_succ, List.getElem_toArray, List.getElem_cons_zero, List.getElem_cons_succ]
  refine wpAnyH_ready (rs := [30]) (by kernel_rfl) (by simp) (AllReadyH.cons (o := _) rfl (fun K hK => ?_) AllReadyH.nil)
  refine step_callw (by kernel_rfl) 16 #[(.agg #[.int .u64 a0, .int .u64 a1, .int .u64 a2, .int .u64 a3, .int .u64 a4]), (.agg #[.int .u64 e29_0, .int .u64 e29_1, .int .u64 e29_2, .int .u64 e29_3, .int .u64 e29_4])] (by kernel_rfl) ((same_at _ _ _ _ _ _ _ _ _ _ _ _ true (by assumption) (by assumption) (by assumption) _).mono ?_)
  rintro r w7_ ⟨rfl, hg⟩
  refine ⟨_, rfl, ?_⟩
  have hS7_ : Gr v.drew w7_ := Gr.trans hS6_ hg
  clear hg
  refine hK.out _ _ hS7_ (fun _ => ?_)
  clear hK K
  simp only [Act.put, List.setIfInBounds_toArray, List.set_cons_zero, List.set_cons_succ, List.getElem_toArray, List.getElem_cons_zero, List.getElem_cons_succ]
  refine wpAnyH_take (i := 31) (v := (.bool true)) rfl (by kernel_rfl) (by kernel_rfl) (by kernel_rfl) (fun _ _ _ h => h) (.inl ⟨by kernel_rfl, fun u hu => by kernel_rfl⟩) hS7_ ?_
  simp only [Act.put, List.setIfInBounds_toArray, List.set_cons_zero, List.set_cons_succ, List.getElem_toArray, List.getElem_cons_zero, List.getElem_cons_succ]
  refine wpAnyH_take (i := 32) (v := (.bool true)) rfl (by kernel_rfl) (by kernel_rfl) (by kernel_rfl) (fun _ _ _ h => h) (.inl ⟨by kernel_rfl, fun u hu => by kernel_rfl⟩) hS7_ ?_
  simp only [Act.put, List.setIfInBounds_toArray, List.set_cons_zero, List.set_cons_succ, List.getElem_toArray, List.getElem_cons_zero, List.getElem_cons_succ]
  refine wpAnyH_take (i := 33) (v := (.agg #[.int .u64 a0, .int .u64 a1, .int .u64 a2, .int .u64 a3, .int .u64 a4])) rfl (by kernel_rfl) (by kernel_rfl) (by kernel_rfl) (fun _ _ _ h => h) (.inl ⟨by kernel_rfl, fun u hu => exec_row u 29 (.tmp 5) rfl g1 0 (by kernel_rfl) [.int .u64 a0, .int .u64 a1, .int .u64 a2, .int .u64 a3, .int .u64 a4] _ (range_row (hu.blk (unhide hb1))) Try.underlying29 rfl Try.infoElem⟩) hS7_ ?_
  simp only [Act.put, List.setIfInBounds_toArray, List.set_cons_zero, List.set_cons_succ, List.getElem_toArray, List.getElem_cons_zero, List.getElem_cons_succ]
  refine wpAnyH_take (i := 34) (v := (.agg #[.int .u64 c0, .int .u64 c1, .int .u64 c2, .int .u64 c3, .int .u64 c4])) rfl (by kernel_rfl) (by kernel_rfl) (by kernel_rfl) (fun _ _ _ h => h) (.inl ⟨by kernel_rfl, fun u hu => exec_row u 29 (.tmp 7) rfl g3 0 (by kernel_rfl) [.int .u64 c0, .int .u64 c1, .int .u64 c2, .int .u64 c3, .int .u64 c4] _ (range_row (hu.blk (unhide hb3))) Try.underlying29 rfl Try.infoElem⟩) hS7_ ?_
  simp only [Act.put, List.setIfInBounds_toArray, List.set_cons_zero, List.set_cons_succ, List.getElem_toArray, List.getElem_cons_zero, List.getElem_cons_succ]
  refine wpAnyH_take (i := 36) (v := (.agg (kc (digs V 32)))) rfl (by kernel_rfl) (by kernel_rfl) (by kernel_rfl) (fun _ _ _ h => h) (.inl ⟨by kernel_rfl, fun u hu => exec_row u 23 (.tmp 6) rfl g2 0 (by kernel_rfl) ((digs V 32).map (Value.int .u8)) (.array 32 5) (range_row (hu.blk (unhide hb2))) Try.underlying23 rfl (by rw [Try.infoKey, List.length_map, digs_len])⟩) hS7_ ?_
  simp only [Act.put, List.setIfInBounds_toArray, List.set_cons_zero, List.set_cons_succ, List.getElem_toArray, List.getElem_cons_zero, List.getElem_cons_succ]
  refine wpAnyH_take (i := 37) (v := (.int .u64 x)) rfl (by kernel_rfl) (by kernel_rfl) (by kernel_rfl) (fun _ _ _ h => h) (.inl ⟨by kernel_rfl, fun u hu => by kernel_rfl⟩) hS7_ ?_
  simp only [Act.put, List.setIfInBounds_toArray, List.set_cons_zero, List.set_cons_succ, List.getElem_toArray, List.getElem_cons_zero, List.getElem_cons_succ]
  refine wpAnyH_ready (rs := [35]) (by kernel_rfl) (by simp) (AllReadyH.cons (o := _) rfl (fun K hK => ?_) AllReadyH.nil)
  refine step_callw (by kernel_rfl) 16 #[(.agg #[.int .u64 a0, .int .u64 a1, .int .u64 a2, .int .u64 a3, .int .u64 a4]), (.agg #[.int .u64 c0, .int .u64 c1, .int .u64 c2, .int .u64 c3, .int .u64 c4])] (by kernel_rfl) ((same_at _ _ _ _ _ _ _ _ _ _ _ _ q3 (by assumption) (by assumption) (by assumption) _).mono ?_)
  rintro r w8_ ⟨rfl, hg⟩
  refine ⟨_, rfl, ?_⟩
  have hS8_ : Gr v.drew w8_ := Gr.trans hS7_ hg
  clear hg
  refine hK.out _ _ hS8_ (fun _ => ?_)
  clear hK K
  simp only [Act.put, List.setIfInBounds_toArray, List.set_cons_zero, List.set_cons_succ, List.getElem_toArray, List.getElem_cons_zero, List.getElem_cons_succ]
  refine wpAnyH_ready (rs := [38]) (by kernel_rfl) (by simp) (AllReadyH.cons (o := _) rfl (fun K hK => ?_) AllReadyH.nil)
  refine step_callw (by kernel_rfl) 14 #[(.int .u64 x)] (by kernel_rfl) ((rof_ok _ (unhide hbx) _).mono ?_)
  rintro r w9_ ⟨rfl, hg⟩
  refine ⟨_, rfl, ?_⟩
  have hS9_ : Gr v.drew w9_ := Gr.trans hS8_ hg
  clear hg
  refine hK.out _ _ hS9_ (fun _ => ?_)
  clear hK K
  simp only [Act.put, List.setIfInBounds_toArray, List.set_cons_zero, List.set_cons_succ, List.getElem_toArray, List.getElem_cons_zero, List.getElem_cons_succ]
  refine wpAnyH_take (i := 39) (v := (.bool q3)) rfl (by kernel_rfl) (by kernel_rfl) (by kernel_rfl) (fun _ _ _ h => h) (.inl ⟨by kernel_rfl, fun u hu => by have e := unhide e38; go_simp⟩) hS9_ ?_
  simp only [Act.put, List.setIfInBounds_toArray, List.set_cons_zero, List.set_cons_succ, List.getElem_toArray, List.getElem_cons_zero, List.getElem_cons_succ]
  refine wpAnyH_take (i := 40) (v := (.bool true)) rfl (by kernel_rfl) (by kernel_rfl) (by kernel_rfl) (fun _ _ _ h => h) (.inl ⟨by kernel_rfl, fun u hu => by go_simp⟩) hS9_ ?_
  simp only [Act.put, List.setIfInBounds_toArray, List.set_cons_zero, List.set_cons_succ, List.getElem_toArray, List.getElem_cons_zero, List.getElem_cons_succ]
  refine wpAnyH_take (i := 41) (v := (.bool true)) rfl (by kernel_rfl) (by kernel_rfl) (by kernel_rfl) (fun _ _ _ h => h) (.inl ⟨by kernel_rfl, fun u hu => by kernel_rfl⟩) hS9_ ?_
  simp only [Act.put, List.setIfInBounds_toArray, List.set_cons_zero, List.set_cons_succ, List.getElem_toArray, List.getElem_cons_zero, List.getElem_cons_succ]
  refine wpAnyH_take (i := 42) (v := (.bool true)) rfl (by kernel_rfl) (by kernel_rfl) (by kernel_rfl) (fun _ _ _ h => h) (.inl ⟨by kernel_rfl, fun u hu => by kernel_rfl⟩) hS9_ ?_
  simp only [Act.put, List.setIfInBounds_toArray, List.set_cons_zero, List.set_cons_succ, List.getElem_toArray, List.getElem_cons_zero, List.getElem_cons_succ]
  refine wpAnyH_take (i := 43) (v := (.agg #[.int .u64 0, .int .u64 0, .int .u64 0, .int .u64 0, .int .u64 0])) rfl (by kernel_rfl) (by kernel_rfl) (by kernel_rfl) (fun _ _ _ h => h) (.inl ⟨by kernel_rfl, fun u hu => by kernel_rfl⟩) hS9_ ?_
  simp only [Act.put, List.setIfInBounds_toArray, List.set_cons_zero, List.set_cons_succ, List.getElem_toArray, List.getElem_cons_zero, List.getElem_cons_succ]
  refine wpAnyH_ready (rs := [44]) (by kernel_rfl) (by simp) (AllReadyH.cons (o := _) rfl (fun K hK => ?_) AllReadyH.nil)
  refine step_callw (by kernel_rfl) 15 #[(.agg #[.int .u64 0, .int .u64 0, .int .u64 0, .int .u64 0, .int .u64 0])] (by kernel_rfl) ((zero_at _ _ _ _ _ _ true (by assumption) (by assumption) _).mono ?_)
  rintro r w10_ ⟨rfl, hg⟩
  refine ⟨_, rfl, ?_⟩
  have hS10_ : Gr v.drew w10_ := Gr.trans hS9_ hg
  clear hg
  refine hK.out _ _ hS10_ (fun _ => ?_)
  clear hK K
  simp only [Act.put, List.setIfInBounds_toArray, List.set_cons_zero, List.set_cons_succ, List.getElem_toArray, List.getElem_cons_zero, List.getElem_cons_succ]
  refine wpAnyH_take (i := 45) (v := (.bool true)) rfl (by kernel_rfl) (by kernel_rfl) (by kernel_rfl) (fun _ _ _ h => h) (.inl ⟨by kernel_rfl, fun u hu => by kernel_rfl⟩) hS10_ ?_
  simp only [Act.put, List.setIfInBounds_toArray, List.set_cons_zero, List.set_cons_succ, List.getElem_toArray, List.getElem_cons_zero, List.getElem_cons_succ]
  refine wpAnyH_ready (rs := [46]) (by kernel_rfl) (by simp) (AllReadyH.cons (o := _) rfl (fun K hK => ?_) AllReadyH.nil)
  go_simp
  refine hK.out _ _ hS10_ (fun _ => ?_)
  clear hK K
  refine wpAnyH_done (by kernel_rfl) ?_ _
  go_wp2_with fail
  refine bodyPost_ret (v := .bool true) ?_ rfl ?_
  · simp [results, Try.results3, go_sem]
  · exact ⟨rfl, (unhide hG).trans (((Gr.refl _).drew).trans hS10_)⟩
end Go.Proofs.Ytjncnmhigikdoaa
