/-
  FieldPowers: the walk, for whatever keys.
-/
import Derived.Test.YtjncnmhigikdoaaBackMath
import Derived.Test.YtjncnmhigikdoaaFerm
import Derived.Test.YtjncnmhigikdoaaRegs
import Derived.Test.YtjncnmhigikdoaaElems
import Derived.Test.YtjncnmhigikdoaaRefE
import Derived.Test.YtjncnmhigikdoaaSumsWalk
namespace Go.Proofs.Ytjncnmhigikdoaa
open Go.RowKit
set_option maxRecDepth 100000
set_option linter.unusedSimpArgs false
attribute [local go_sem ↓] Go.wp_at_zero Go.wp_at_succ

theorem lt256 (E : Nat) (h : (E : Int) < 115792089237316195423570985008687907853269984665640564039457584007913129639936) : E < 2 ^ 256 := by
  have e : (2 : Nat) ^ 256 = 115792089237316195423570985008687907853269984665640564039457584007913129639936 := by decide
  rw [e]
  omega

set_option maxHeartbeats 4000000 in
theorem powers_any (n m : Int) (hn : 0 ≤ n ∧ n < 115792089237316195423570985008687907853269984665640564039457584007913129639936) (hm : 0 ≤ m ∧ m < 115792089237316195423570985008687907853269984665640564039457584007913129639936) (w : World) :
    Calls Try.prog 6 #[.agg (kc (digs n 32)), .agg (kc (digs m 32))] w (fun r w' => r = .returned (.bool true) ∧ Gr w w') := by
  obtain ⟨E, hE⟩ := Int.eq_ofNat_of_zero_le hm.1
  subst hE
  have hE : Hid (E < 2 ^ 256) := hide (lt256 E hm.2)
  clear hm
  have hmx := hide (made_ok n hn)
  obtain ⟨LX, hLX⟩ : ∃ L, L = (digs n 32).map (Value.int .u8) := ⟨_, rfl⟩
  have eX : kc (digs n 32) = LX.toArray := by rw [hLX]; rfl
  have kX : Hid (KeyIs LX n) := hide ⟨hn.1, hLX⟩
  have HiX : Hid ((Try.prog.info? 23).map (·.size) = some LX.length) := hide (by rw [Try.infoKey, hLX, List.length_map, digs_len])
  have hN0 : Hid (0 ≤ n % 57896044618658097711785492504343953926634992332820282019728792003956564819968) := hide (by omega)
  rw [eX]
  rw [eX] at hmx
  clear hLX eX
  generalize hNe : n % 57896044618658097711785492504343953926634992332820282019728792003956564819968 = N at hN0 hmx
  replace hNe := hide hNe
  have hV0 : 0 ≤ N % pp ∧ N % pp < pp := ⟨Int.emod_nonneg _ (by decide), Int.emod_lt_of_pos _ (by decide)⟩
  have hs1 := pow_congr (N % pp) N E (Int.emod_emod N pp)
  have hs2 := pow_congr (N % pp) N p2 (Int.emod_emod N pp)
  generalize hVe : N % pp = V at hV0 hmx hs1 hs2
  have ppT : pp < 115792089237316195423570985008687907853269984665640564039457584007913129639936 := by decide
  have hVT : Hid (0 ≤ V ∧ V < 115792089237316195423570985008687907853269984665640564039457584007913129639936) := hide (by omega)
  generalize ha1 : N ^ E % pp = S1 at hs1
  generalize ha2 : N ^ p2 % pp = S2 at hs2
  replace hs1 := hide hs1
  replace hs2 := hide hs2
  replace ha1 := hide ha1
  replace ha2 := hide ha2
  clear hn ppT hV0 hVe
  go_enter Try.func6, Try.ntmps6
  go_upto_region 5 with (first
    | (go_at_call 9; refine (wakes_at' _).mono ?_; rintro r w1 ⟨rfl, hg⟩; have hG := hide (Gr.trans (((Gr.refl w).alloc _).alloc _) hg); have hX := hide (hg.blk (((Gr.refl _).alloc _).blk (blk_new w _))); have hY : Hid (w1.heap[w.heap.size + 1]? = some (.cells (kc (digs (E : Int) 32)) 23 (0, 0))) := (by rw [← size_alloc w (.cells LX.toArray 23 (0, 0))]; exact hide (hg.blk (blk_new _ _))); clear hg)
    | (refine wpList_load_row rfl 23 (.tmp 2) rfl w.heap.size rfl 23 LX.toArray (0, 0) _ (by first | exact unhide hX | exact ((Gr.refl _).alloc _).blk (unhide hX)) Try.underlying23 rfl (by exact unhide HiX) ?_)
    | (go_at_call 10; refine (from_L _ _ (by assumption) _).mono ?_; rintro r w2 ⟨a0, a1, a2, a3, a4, rfl, hA, hg⟩; rw [unhide hNe] at hA; replace hG := hide ((unhide hG).trans (hg.trans ((Gr.refl _).alloc (.cells #[.int .u64 a0, .int .u64 a1, .int .u64 a2, .int .u64 a3, .int .u64 a4] 29 (0, 0))))); replace hX := hide (hg.blk (unhide hX)); replace hY := hide ((hg.trans ((Gr.refl _).alloc (.cells #[.int .u64 a0, .int .u64 a1, .int .u64 a2, .int .u64 a3, .int .u64 a4] 29 (0, 0)))).blk (unhide hY)); clear hg; have hb1 := hide (blk_new w2 (.cells #[.int .u64 a0, .int .u64 a1, .int .u64 a2, .int .u64 a3, .int .u64 a4] 29 (0, 0))))
    | (go_at_call 11; refine (unhide hmx _).mono ?_; rintro r w3 ⟨rfl, hg⟩; replace hb1 := hide (hg.blk (unhide hb1)); replace hY := hide (hg.blk (unhide hY)); replace hG := hide ((unhide hG).trans hg); clear hg hX)
    | (refine wpList_store_row rfl 23 (.tmp 6) (.tmp 12) rfl w3.heap.size (kc (digs V 32)) rfl rfl 23 _ (by exact blk_new _ _) (by rw [Try.infoKey, kc_size, digs_len]) (by rw [kc_size, digs_len]; rfl) (kc_one _) ?_; obtain ⟨hgR, hbR⟩ := alloc_row w3 _ (kc (digs V 32)) 23; generalize World.setRow _ _ _ = v at *; have hb2 := hide hbR; clear hbR; replace hb1 := hide (hgR.blk (unhide hb1)); replace hY := hide (hgR.blk (unhide hY)); replace hG := hide ((unhide hG).trans hgR); clear hgR))
  generalize w2.heap.size = g1 at *
  generalize w3.heap.size = g2 at *
  refine wp_region_held_drew (S := fun x => Gr v.drew x) (by kernel_rfl) (Gr.refl _) (fun hS0 => ?_)
  refine wpAnyH_take (i := 0) (v := (.agg #[.int .u64 a0, .int .u64 a1, .int .u64 a2, .int .u64 a3, .int .u64 a4])) rfl (by kernel_rfl) (by kernel_rfl) (by kernel_rfl) (fun _ _ _ h => h) (.inl ⟨by kernel_rfl, fun u hu => exec_row u 29 (.tmp 5) rfl g1 0 (by kernel_rfl) [.int .u64 a0, .int .u64 a1, .int .u64 a2, .int .u64 a3, .int .u64 a4] _ (range_row (hu.blk (unhide hb1))) Try.underlying29 rfl Try.infoElem⟩) hS0 ?_
  simp only [Act.put, List.setIfInBounds_toArray, List.set_cons_zero, List.set_cons_succ, List.getElem_toArray, List.getElem_cons_zero, List.getElem_cons_succ]
  refine wpAnyH_take (i := 1) (v := (.agg (kc (digs (E : Int) 32)))) rfl (by kernel_rfl) (by kernel_rfl) (by kernel_rfl) (fun _ _ _ h => h) (.inl ⟨by kernel_rfl, fun u hu => exec_row u 23 (.tmp 3) rfl (w.heap.size + 1) 0 (by kernel_rfl) ((digs (E : Int) 32).map (Value.int .u8)) (.array 32 5) (range_row (hu.blk (unhide hY))) Try.underlying23 rfl (by rw [Try.infoKey, List.length_map, digs_len])⟩) hS0 ?_
  simp only [Act.put, List.setIfInBounds_toArray, List.set_cons_zero, List.set_cons_succ, List.getElem_toArray, List.getElem_cons_zero, List.getElem_cons_succ]
  refine wpAnyH_take (i := 4) (v := (.agg (kc (digs V 32)))) rfl (by kernel_rfl) (by kernel_rfl) (by kernel_rfl) (fun _ _ _ h => h) (.inl ⟨by kernel_rfl, fun u hu => exec_row u 23 (.tmp 6) rfl g2 0 (by kernel_rfl) ((digs V 32).map (Value.int .u8)) (.array 32 5) (range_row (hu.blk (unhide hb2))) Try.underlying23 rfl (by rw [Try.infoKey, List.length_map, digs_len])⟩) hS0 ?_
  simp only [Act.put, List.setIfInBounds_toArray, List.set_cons_zero, List.set_cons_succ, List.getElem_toArray, List.getElem_cons_zero, List.getElem_cons_succ]
  refine wpAnyH_take (i := 5) (v := (.agg (kc (digs (E : Int) 32)))) rfl (by kernel_rfl) (by kernel_rfl) (by kernel_rfl) (fun _ _ _ h => h) (.inl ⟨by kernel_rfl, fun u hu => exec_row u 23 (.tmp 3) rfl (w.heap.size + 1) 0 (by kernel_rfl) ((digs (E : Int) 32).map (Value.int .u8)) (.array 32 5) (range_row (hu.blk (unhide hY))) Try.underlying23 rfl (by rw [Try.infoKey, List.length_map, digs_len])⟩) hS0 ?_
  simp only [Act.put, List.setIfInBounds_toArray, List.set_cons_zero, List.set_cons_succ, List.getElem_toArray, List.getElem_cons_zero, List.getElem_cons_succ]
  refine wpAnyH_ready (rs := [2]) (by kernel_rfl) (by simp) (AllReadyH.cons (o := _) rfl (fun K hK => ?_) AllReadyH.nil)
  refine step_callw (by kernel_rfl) 26 #[(.agg #[.int .u64 a0, .int .u64 a1, .int .u64 a2, .int .u64 a3, .int .u64 a4]), (.agg (kc (digs (E : Int) 32)))] (by kernel_rfl) ((power_at _ _ _ _ _ _ _ (by assumption) (by assumption) _).mono ?_)
  rintro r w1_ ⟨e2_0, e2_1, e2_2, e2_3, e2_4, rfl, h2_, hg⟩
  refine ⟨_, rfl, ?_⟩
  have hS1_ : Gr v.drew w1_ := Gr.trans hS0 hg
  clear hg
  refine hK.out _ _ hS1_ (fun _ => ?_)
  clear hK K
  simp only [Act.put, List.setIfInBounds_toArray, List.set_cons_zero, List.set_cons_succ, List.getElem_toArray, List.getElem_cons_zero, List.getElem_cons_succ]
  refine wpAnyH_ready (rs := [3]) (by kernel_rfl) (by simp) (AllReadyH.cons (o := _) rfl (fun K hK => ?_) AllReadyH.nil)
  refine step_callw (by kernel_rfl) 13 #[(.agg #[.int .u64 e2_0, .int .u64 e2_1, .int .u64 e2_2, .int .u64 e2_3, .int .u64 e2_4])] (by kernel_rfl) ((bytes_at _ _ _ _ _ _ (by assumption) _).mono ?_)
  rintro r w2_ ⟨rfl, hg⟩
  rw [unhide ha1]
  refine ⟨_, rfl, ?_⟩
  have hS2_ : Gr v.drew w2_ := Gr.trans hS1_ hg
  clear hg
  refine hK.out _ _ hS2_ (fun _ => ?_)
  clear hK K
  simp only [Act.put, List.setIfInBounds_toArray, List.set_cons_zero, List.set_cons_succ, List.getElem_toArray, List.getElem_cons_zero, List.getElem_cons_succ]
  refine wpAnyH_ready (rs := [6]) (by kernel_rfl) (by simp) (AllReadyH.cons (o := _) rfl (fun K hK => ?_) AllReadyH.nil)
  refine step_callw (by kernel_rfl) 27 #[(.agg (kc (digs V 32))), (.agg (kc (digs (E : Int) 32)))] (by kernel_rfl) ((rpower_ok V E (unhide hVT) (unhide hE) _).mono ?_)
  rintro r w3_ ⟨rfl, hg⟩
  rw [unhide hs1]
  refine ⟨_, rfl, ?_⟩
  have hS3_ : Gr v.drew w3_ := Gr.trans hS2_ hg
  clear hg
  refine hK.out _ _ hS3_ (fun _ => ?_)
  clear hK K
  simp only [Act.put, List.setIfInBounds_toArray, List.set_cons_zero, List.set_cons_succ, List.getElem_toArray, List.getElem_cons_zero, List.getElem_cons_succ]
  refine wpAnyH_take (i := 7) (v := (.bool true)) rfl (by kernel_rfl) (by kernel_rfl) (by kernel_rfl) (fun _ _ _ h => h) (.inl ⟨by kernel_rfl, fun u hu => by have e := key_same S1; go_simp⟩) hS3_ ?_
  simp only [Act.put, List.setIfInBounds_toArray, List.set_cons_zero, List.set_cons_succ, List.getElem_toArray, List.getElem_cons_zero, List.getElem_cons_succ]
  refine wpAnyH_take (i := 8) (v := (.bool true)) rfl (by kernel_rfl) (by kernel_rfl) (by kernel_rfl) (fun _ _ _ h => h) (.inl ⟨by kernel_rfl, fun u hu => by kernel_rfl⟩) hS3_ ?_
  simp only [Act.put, List.setIfInBounds_toArray, List.set_cons_zero, List.set_cons_succ, List.getElem_toArray, List.getElem_cons_zero, List.getElem_cons_succ]
  refine wpAnyH_take (i := 9) (v := (.agg #[.int .u64 a0, .int .u64 a1, .int .u64 a2, .int .u64 a3, .int .u64 a4])) rfl (by kernel_rfl) (by kernel_rfl) (by kernel_rfl) (fun _ _ _ h => h) (.inl ⟨by kernel_rfl, fun u hu => exec_row u 29 (.tmp 5) rfl g1 0 (by kernel_rfl) [.int .u64 a0, .int .u64 a1, .int .u64 a2, .int .u64 a3, .int .u64 a4] _ (range_row (hu.blk (unhide hb1))) Try.underlying29 rfl Try.infoElem⟩) hS3_ ?_
  simp only [Act.put, List.setIfInBounds_toArray, List.set_cons_zero, List.set_cons_succ, List.getElem_toArray, List.getElem_cons_zero, List.getElem_cons_succ]
  refine wpAnyH_take (i := 12) (v := (.agg (kc (digs V 32)))) rfl (by kernel_rfl) (by kernel_rfl) (by kernel_rfl) (fun _ _ _ h => h) (.inl ⟨by kernel_rfl, fun u hu => exec_row u 23 (.tmp 6) rfl g2 0 (by kernel_rfl) ((digs V 32).map (Value.int .u8)) (.array 32 5) (range_row (hu.blk (unhide hb2))) Try.underlying23 rfl (by rw [Try.infoKey, List.length_map, digs_len])⟩) hS3_ ?_
  simp only [Act.put, List.setIfInBounds_toArray, List.set_cons_zero, List.set_cons_succ, List.getElem_toArray, List.getElem_cons_zero, List.getElem_cons_succ]
  refine wpAnyH_ready (rs := [10]) (by kernel_rfl) (by simp) (AllReadyH.cons (o := _) rfl (fun K hK => ?_) AllReadyH.nil)
  refine step_callw (by kernel_rfl) 28 #[(.agg #[.int .u64 a0, .int .u64 a1, .int .u64 a2, .int .u64 a3, .int .u64 a4])] (by kernel_rfl) ((inv_at _ _ _ _ _ _ (by assumption) _).mono ?_)
  rintro r w4_ ⟨e10_0, e10_1, e10_2, e10_3, e10_4, rfl, h10_, hg⟩
  refine ⟨_, rfl, ?_⟩
  have hS4_ : Gr v.drew w4_ := Gr.trans hS3_ hg
  clear hg
  refine hK.out _ _ hS4_ (fun _ => ?_)
  clear hK K
  simp only [Act.put, List.setIfInBounds_toArray, List.set_cons_zero, List.set_cons_succ, List.getElem_toArray, List.getElem_cons_zero, List.getElem_cons_succ]
  refine wpAnyH_ready (rs := [11]) (by kernel_rfl) (by simp) (AllReadyH.cons (o := _) rfl (fun K hK => ?_) AllReadyH.nil)
  refine step_callw (by kernel_rfl) 13 #[(.agg #[.int .u64 e10_0, .int .u64 e10_1, .int .u64 e10_2, .int .u64 e10_3, .int .u64 e10_4])] (by kernel_rfl) ((bytes_at _ _ _ _ _ _ (by assumption) _).mono ?_)
  rintro r w5_ ⟨rfl, hg⟩
  rw [unhide ha2]
  refine ⟨_, rfl, ?_⟩
  have hS5_ : Gr v.drew w5_ := Gr.trans hS4_ hg
  clear hg
  refine hK.out _ _ hS5_ (fun _ => ?_)
  clear hK K
  simp only [Act.put, List.setIfInBounds_toArray, List.set_cons_zero, List.set_cons_succ, List.getElem_toArray, List.getElem_cons_zero, List.getElem_cons_succ]
  refine wpAnyH_ready (rs := [13]) (by kernel_rfl) (by simp) (AllReadyH.cons (o := _) rfl (fun K hK => ?_) AllReadyH.nil)
  refine step_callw (by kernel_rfl) 29 #[(.agg (kc (digs V 32)))] (by kernel_rfl) ((rinv_ok V (unhide hVT) _).mono ?_)
  rintro r w6_ ⟨rfl, hg⟩
  rw [unhide hs2]
  refine ⟨_, rfl, ?_⟩
  have hS6_ : Gr v.drew w6_ := Gr.trans hS5_ hg
  clear hg
  refine hK.out _ _ hS6_ (fun _ => ?_)
  clear hK K
  simp only [Act.put, List.setIfInBounds_toArray, List.set_cons_zero, List.set_cons_succ, List.getElem_toArray, List.getElem_cons_zero, List.getElem_cons_succ]
  refine wpAnyH_take (i := 14) (v := (.bool true)) rfl (by kernel_rfl) (by kernel_rfl) (by kernel_rfl) (fun _ _ _ h => h) (.inl ⟨by kernel_rfl, fun u hu => by have e := key_same S2; go_simp⟩) hS6_ ?_
  simp only [Act.put, List.setIfInBounds_toArray, List.set_cons_zero, List.set_cons_succ, List.getElem_toArray, List.getElem_cons_zero, List.getElem_cons_succ]
  refine wpAnyH_take (i := 15) (v := (.bool true)) rfl (by kernel_rfl) (by kernel_rfl) (by kernel_rfl) (fun _ _ _ h => h) (.inl ⟨by kernel_rfl, fun u hu => by kernel_rfl⟩) hS6_ ?_
  simp only [Act.put, List.setIfInBounds_toArray, List.set_cons_zero, List.set_cons_succ, List.getElem_toArray, List.getElem_cons_zero, List.getElem_cons_succ]
  refine wpAnyH_ready (rs := [16]) (by kernel_rfl) (by simp) (AllReadyH.cons (o := _) rfl (fun K hK => ?_) AllReadyH.nil)
  go_simp
  refine hK.out _ _ hS6_ (fun _ => ?_)
  clear hK K
  refine wpAnyH_done (by kernel_rfl) ?_ _
  go_wp2_with fail
  refine bodyPost_ret (v := .bool true) ?_ rfl ?_
  · simp [results, Try.results6, go_sem]
  · exact ⟨rfl, (unhide hG).trans (((Gr.refl _).drew).trans hS6_)⟩
end Go.Proofs.Ytjncnmhigikdoaa
