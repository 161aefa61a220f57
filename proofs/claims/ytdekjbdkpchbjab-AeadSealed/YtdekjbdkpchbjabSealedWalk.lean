/-
  What opens was sealed: sealed again it is the same bytes: the walk.
-/
import Derived.Test.YtdekjbdkpchbjabAeM
namespace Go.Proofs.Ytdekjbdkpchbjab
open Go.RowKit
set_option maxRecDepth 100000
set_option linter.unusedSimpArgs false
set_option linter.unusedVariables false
set_option maxHeartbeats 4000000 in
theorem sealed_yes (K N : List Int) (hu : Us K N) (A0 : List Int) (s : Option Addr) (len cap : Nat) (B : List Int) (s2 : Option Addr) (len2 cap2 : Nat) (w : World) (la0 : Lb w s len cap A0) (lB : Lb w s2 len2 cap2 B) (Q : List Int) (hQb : IsB Q) (hZ : B.take (min len2 3000) = sealL K N (A0.take (min len 3000)) Q) : Calls Try.prog 3 #[.agg (usd K N s len cap), .slice s2 len2 cap2] w (Woke w) := by
  obtain ⟨T, hT⟩ : ∃ T, T = Woke w := ⟨_, rfl⟩
  rw [← hT]
  replace hT := hide hT
  replace hu := hide hu; replace la0 := hide la0
  replace lB := hide lB
  replace hQb := hide hQb; replace hZ := hide hZ
  obtain ⟨SU, hSU⟩ : ∃ S, S = usd K N s len cap := ⟨_, rfl⟩
  rw [← hSU]
  replace hSU := hide hSU
  go_enter Try.func3, Try.ntmps3
  go_upto_region 1 with fail
  have hB := ((Bl.nil w).new SU 28)
  simp only [size_alloc, List.nil_append, List.cons_append] at hB
  generalize World.alloc _ _ = u at *
  rw [unhide hSU] at hB
  replace hB : Bl w [⟨w.heap.size, usd K N s len cap, 28⟩] u := hB
  refine wp_region_lit ?_
  refine list_call 5 #[] (by kernel_rfl) (by kernel_rfl) ((wakes_ok _).mono ?_)
  rintro r v ⟨rfl, hg⟩
  refine ⟨_, rfl, ?_⟩
  replace hB := hB.more hg
  clear hg
  simp only [Act.put, List.setIfInBounds_toArray, List.set_cons_zero, List.set_cons_succ, List.getElem_toArray, List.getElem_cons_zero, List.getElem_cons_succ]
  refine list_val (.bool false) (by kernel_rfl) (by kernel_rfl) ?_
  simp only [Act.put, List.setIfInBounds_toArray, List.set_cons_zero, List.set_cons_succ, List.getElem_toArray, List.getElem_cons_zero, List.getElem_cons_succ]
  refine wpList_nil ?_
  replace hB := hide hB
  go_upto_region 3 with fail
  replace hB := unhide hB
  refine wp_region_lit ?_
  refine list_val (.agg (usd K N s len cap)) (by kernel_rfl) (exec_arr _ 28 (.tmp 2) rfl (w.heap.size) (by kernel_rfl) (usd K N s len cap) 28 _ (hB.get 0 (x := ⟨w.heap.size, usd K N s len cap, 28⟩) rfl) Try.underlying28 rfl (by rw [Try.infoU8, usd_size (unhide hu)])) ?_
  simp only [Act.put, List.setIfInBounds_toArray, List.set_cons_zero, List.set_cons_succ, List.getElem_toArray, List.getElem_cons_zero, List.getElem_cons_succ]
  have hlt0 := lt_of_block (hB.get 0 (x := ⟨w.heap.size, usd K N s len cap, 28⟩) rfl)
  dsimp only at hlt0
  refine list_call 6 #[.agg (usd K N s len cap)] (by kernel_rfl) (by kernel_rfl) ((short_ok K N (unhide hu) A0 s len cap _ ((unhide la0).gr hB.gr)).mono ?_)
  rintro r v2 ⟨gq, c5, rfl, hc5, hmx, hgq, hat, hg⟩
  refine ⟨_, rfl, ?_⟩
  have hne0 : w.heap.size < gq := by omega
  replace hB := hB.more hg
  have hAb : IsB (A0.take (min len 3000)) := (unhide la0).isB.take _
  have hAl : (A0.take (min len 3000)).length ≤ 3000 := by rw [List.length_take]; omega
  generalize A0.take (min len 3000) = A at *
  obtain ⟨n, hn⟩ : ∃ n, A.length = n := ⟨_, rfl⟩
  rw [hn] at hc5 hAl ⊢
  clear hg hgq hlt0
  simp only [Act.put, List.setIfInBounds_toArray, List.set_cons_zero, List.set_cons_succ, List.getElem_toArray, List.getElem_cons_zero, List.getElem_cons_succ]
  refine list_val (.slice s2 len2 cap2) (by kernel_rfl) (by kernel_rfl) ?_
  simp only [Act.put, List.setIfInBounds_toArray, List.set_cons_zero, List.set_cons_succ, List.getElem_toArray, List.getElem_cons_zero, List.getElem_cons_succ]
  refine list_call 7 #[.slice s2 len2 cap2] (by kernel_rfl) (by kernel_rfl) ((cut_ok B s2 len2 cap2 _ ((unhide lB).gr hB.gr)).mono ?_)
  rintro r v2_ ⟨s3, rfl, hcut, hw2⟩
  refine ⟨_, rfl, ?_⟩
  replace hw2 := hw2.symm
  subst hw2
  have lZ := hcut _ (unhide lB)
  have hmb : min len2 3000 ≤ 3000 := Nat.min_le_right _ _
  generalize B.take (min len2 3000) = Z at *
  generalize min len2 3000 = m at *
  clear hcut
  simp only [Act.put, List.setIfInBounds_toArray, List.set_cons_zero, List.set_cons_succ, List.getElem_toArray, List.getElem_cons_zero, List.getElem_cons_succ]
  have hat3 : At (World.setRow v2 w.heap.size (usd K N (some ⟨gq, 0, none⟩) n c5)) gq 0 (A ++ [7]) := fun j hj => by
    rw [cell_heap (setRow_other v2 w.heap.size gq _ (by omega))]
    exact hat j hj
  refine list_store 28 (.tmp 2) (.tmp 10) w.heap.size (usd K N (some ⟨gq, 0, none⟩) n c5) 28 (usd K N s len cap) (by kernel_rfl) rfl (by kernel_rfl) (by kernel_rfl) (hB.get 0 (x := ⟨w.heap.size, usd K N s len cap, 28⟩) rfl) (by rw [Try.infoU8, usd_size (unhide hu)]) ((usd_size (unhide hu) _ _ _).trans (usd_size (unhide hu) _ _ _).symm) (usd_one _ _ _) ?_
  replace hB := hB.set 0 (x := ⟨w.heap.size, usd K N s len cap, 28⟩) rfl (usd K N (some ⟨gq, 0, none⟩) n c5)
  simp only [List.set_cons_zero, List.set_cons_succ] at hB
  clear hat
  generalize World.setRow _ _ _ = v3 at *
  simp only [Act.put, List.setIfInBounds_toArray, List.set_cons_zero, List.set_cons_succ, List.getElem_toArray, List.getElem_cons_zero, List.getElem_cons_succ]
  (refine wpList_step fun K hK => ?_; replace hK := hide hK; go_simp; refine unhide hK _ _ ?_; clear hK K)
  refine wpList_nil ?_
  have hU := hide (hB.get 0 (x := ⟨w.heap.size, usd K N (some ⟨gq, 0, none⟩) n c5, 28⟩) rfl)
  dsimp only at hU
  have hGw := hide hB.gr
  replace lZ : Hid (Lb v3 s3 m cap2 Z) := lZ.gr hB.gr
  have hc50 : 0 < c5 := by omega
  have lA : Hid (Lb v3 (some ⟨gq, 0, none⟩) n c5 A) := ⟨hn, hAb, .inr ⟨gq, 0, rfl, by
    have h := hat3.take n
    rw [take_snoc A n hn] at h
    exact h⟩, by omega, hmx⟩
  have a7 : Hid (v3.cell? ⟨gq, n, none⟩ = some (.int .u8 7)) := by
    have h := hat3 n (by rw [List.length_append, hn]; simp)
    rw [get_snoc A n hn, Nat.zero_add] at h
    exact h
  have hG : Gr v3 v3 := Gr.refl v3
  clear hB hat3 hAb
  replace hn := hide hn
  replace hG := hide hG
  go_upto_region 4 with fail
  replace hG := unhide hG
  have hPl := (unhide lZ).len
  have hZ2 := unhide hZ
  clear hZ
  subst hZ2
  have hQl : Q.length + 16 = m := by rw [← sealL_len K N A Q]; exact hPl
  obtain ⟨nb, hnb⟩ : ∃ x, x = Q.length := ⟨_, rfl⟩
  rw [← hnb] at hQl
  replace hnb := hide hnb; replace hPl := hide hPl; replace hQl := hide hQl
  have hnb2 : nb ≤ 4000 := by have := unhide hQl; omega
  refine wp_region_lit ?_
  refine list_val (.pointer (some ⟨w.heap.size, 0, none⟩)) (by kernel_rfl) (by kernel_rfl) ?_
  simp only [Act.put, List.setIfInBounds_toArray, List.set_cons_zero, List.set_cons_succ, List.getElem_toArray, List.getElem_cons_zero, List.getElem_cons_succ]
  refine list_val (.agg (kc K)) (by kernel_rfl) (exec_key _ (.tmp 14) rfl w.heap.size (by kernel_rfl) K N (some ⟨gq, 0, none⟩) n c5 (unhide hu) (hG.blk (unhide hU))) ?_
  simp only [Act.put, List.setIfInBounds_toArray, List.set_cons_zero, List.set_cons_succ, List.getElem_toArray, List.getElem_cons_zero, List.getElem_cons_succ]
  refine list_val (.pointer (some ⟨w.heap.size, 32, none⟩)) (by kernel_rfl) (by kernel_rfl) ?_
  simp only [Act.put, List.setIfInBounds_toArray, List.set_cons_zero, List.set_cons_succ, List.getElem_toArray, List.getElem_cons_zero, List.getElem_cons_succ]
  refine list_val (.agg (kc N)) (by kernel_rfl) (exec_nonce _ (.tmp 16) rfl w.heap.size (by kernel_rfl) K N (some ⟨gq, 0, none⟩) n c5 (unhide hu) (hG.blk (unhide hU))) ?_
  simp only [Act.put, List.setIfInBounds_toArray, List.set_cons_zero, List.set_cons_succ, List.getElem_toArray, List.getElem_cons_zero, List.getElem_cons_succ]
  refine list_val (.pointer (some ⟨w.heap.size, 44, none⟩)) (by kernel_rfl) (by kernel_rfl) ?_
  simp only [Act.put, List.setIfInBounds_toArray, List.set_cons_zero, List.set_cons_succ, List.getElem_toArray, List.getElem_cons_zero, List.getElem_cons_succ]
  refine list_val (.slice (some ⟨gq, 0, none⟩) n c5) (by kernel_rfl) (exec_ad _ (.tmp 18) rfl w.heap.size (by kernel_rfl) K N (some ⟨gq, 0, none⟩) n c5 (unhide hu) (hG.blk (unhide hU))) ?_
  simp only [Act.put, List.setIfInBounds_toArray, List.set_cons_zero, List.set_cons_succ, List.getElem_toArray, List.getElem_cons_zero, List.getElem_cons_succ]
  refine list_val (.slice s3 m cap2) (by kernel_rfl) (by kernel_rfl) ?_
  simp only [Act.put, List.setIfInBounds_toArray, List.set_cons_zero, List.set_cons_succ, List.getElem_toArray, List.getElem_cons_zero, List.getElem_cons_succ]
  refine list_call 8 #[.agg (kc K), .agg (kc N), .slice (some ⟨gq, 0, none⟩) n c5, .slice s3 m cap2] (by kernel_rfl) (by kernel_rfl) ((open_yes K N (unhide hu).kl (unhide hu).nl (unhide hu).kb (unhide hu).nb A Q (unhide hQb) _ s3 n m c5 cap2 (by omega) _ ((unhide lA).gr hG) ((unhide lZ).gr hG)).mono ?_)
  rintro r v4 ⟨g8, rfl, _, hq, hg⟩
  refine ⟨_, rfl, ?_⟩
  replace hG := hG.trans hg
  rw [← unhide hnb]
  have lq : Hid (Lb v4 (some ⟨g8, 0, none⟩) nb nb Q) := kc_lb hq (unhide hnb).symm (unhide hQb) (by omega)
  clear hg hq
  simp only [Act.put, List.setIfInBounds_toArray, List.set_cons_zero, List.set_cons_succ, List.getElem_toArray, List.getElem_cons_zero, List.getElem_cons_succ]
  refine list_val (.tuple #[.slice (some ⟨g8, 0, none⟩) nb nb, .int .i64 0]) (by kernel_rfl) (by kernel_rfl) ?_
  simp only [Act.put, List.setIfInBounds_toArray, List.set_cons_zero, List.set_cons_succ, List.getElem_toArray, List.getElem_cons_zero, List.getElem_cons_succ]
  refine list_val (.slice (some ⟨g8, 0, none⟩) nb nb) (by kernel_rfl) (by kernel_rfl) ?_
  simp only [Act.put, List.setIfInBounds_toArray, List.set_cons_zero, List.set_cons_succ, List.getElem_toArray, List.getElem_cons_zero, List.getElem_cons_succ]
  refine list_val (.int .i64 0) (by kernel_rfl) (by kernel_rfl) ?_
  simp only [Act.put, List.setIfInBounds_toArray, List.set_cons_zero, List.set_cons_succ, List.getElem_toArray, List.getElem_cons_zero, List.getElem_cons_succ]
  (refine wpList_step fun K hK => ?_; replace hK := hide hK; go_simp; refine unhide hK _ _ ?_; clear hK K)
  (refine wpList_step fun K hK => ?_; replace hK := hide hK; go_simp; refine unhide hK _ _ ?_; clear hK K)
  refine wpList_nil ?_
  replace hG := hide hG
  go_upto_region 5 with fail
  replace hG := unhide hG
  refine wp_region_lit ?_
  refine list_val (.int .i64 0) (by kernel_rfl) (by kernel_rfl) ?_
  simp only [Act.put, List.setIfInBounds_toArray, List.set_cons_zero, List.set_cons_succ, List.getElem_toArray, List.getElem_cons_zero, List.getElem_cons_succ]
  refine list_val (.bool false) (by kernel_rfl) (by kernel_rfl) ?_
  simp only [Act.put, List.setIfInBounds_toArray, List.set_cons_zero, List.set_cons_succ, List.getElem_toArray, List.getElem_cons_zero, List.getElem_cons_succ]
  refine wpList_nil ?_
  replace hG := hide hG
  go_upto_region 7 with fail
  replace hG := unhide hG
  refine wp_region_lit ?_
  refine list_val (.pointer (some ⟨w.heap.size, 0, none⟩)) (by kernel_rfl) (by kernel_rfl) ?_
  simp only [Act.put, List.setIfInBounds_toArray, List.set_cons_zero, List.set_cons_succ, List.getElem_toArray, List.getElem_cons_zero, List.getElem_cons_succ]
  refine list_val (.agg (kc K)) (by kernel_rfl) (exec_key _ (.tmp 33) rfl w.heap.size (by kernel_rfl) K N (some ⟨gq, 0, none⟩) n c5 (unhide hu) (hG.blk (unhide hU))) ?_
  simp only [Act.put, List.setIfInBounds_toArray, List.set_cons_zero, List.set_cons_succ, List.getElem_toArray, List.getElem_cons_zero, List.getElem_cons_succ]
  refine list_val (.pointer (some ⟨w.heap.size, 32, none⟩)) (by kernel_rfl) (by kernel_rfl) ?_
  simp only [Act.put, List.setIfInBounds_toArray, List.set_cons_zero, List.set_cons_succ, List.getElem_toArray, List.getElem_cons_zero, List.getElem_cons_succ]
  refine list_val (.agg (kc N)) (by kernel_rfl) (exec_nonce _ (.tmp 35) rfl w.heap.size (by kernel_rfl) K N (some ⟨gq, 0, none⟩) n c5 (unhide hu) (hG.blk (unhide hU))) ?_
  simp only [Act.put, List.setIfInBounds_toArray, List.set_cons_zero, List.set_cons_succ, List.getElem_toArray, List.getElem_cons_zero, List.getElem_cons_succ]
  refine list_val (.pointer (some ⟨w.heap.size, 44, none⟩)) (by kernel_rfl) (by kernel_rfl) ?_
  simp only [Act.put, List.setIfInBounds_toArray, List.set_cons_zero, List.set_cons_succ, List.getElem_toArray, List.getElem_cons_zero, List.getElem_cons_succ]
  refine list_val (.slice (some ⟨gq, 0, none⟩) n c5) (by kernel_rfl) (exec_ad _ (.tmp 37) rfl w.heap.size (by kernel_rfl) K N (some ⟨gq, 0, none⟩) n c5 (unhide hu) (hG.blk (unhide hU))) ?_
  simp only [Act.put, List.setIfInBounds_toArray, List.set_cons_zero, List.set_cons_succ, List.getElem_toArray, List.getElem_cons_zero, List.getElem_cons_succ]
  refine list_val (.slice (some ⟨g8, 0, none⟩) nb nb) (by kernel_rfl) (by kernel_rfl) ?_
  simp only [Act.put, List.setIfInBounds_toArray, List.set_cons_zero, List.set_cons_succ, List.getElem_toArray, List.getElem_cons_zero, List.getElem_cons_succ]
  refine list_call 10 #[.agg (kc K), .agg (kc N), .slice (some ⟨gq, 0, none⟩) n c5, .slice (some ⟨g8, 0, none⟩) nb nb] (by kernel_rfl) (by kernel_rfl) ((seal_ok K N (unhide hu).kl (unhide hu).nl (unhide hu).kb (unhide hu).nb A Q _ _ n nb c5 nb (by omega) _ ((unhide lA).gr hG) (unhide lq)).mono ?_)
  rintro r v6 ⟨v6_, rfl, ob6, hg⟩
  refine ⟨_, rfl, ?_⟩
  replace hG := hG.trans hg
  obtain ⟨sw, cw, rfl, lw⟩ := ob6.lb (sealL_isB _ _ _ _)
  rw [unhide hPl] at lw ⊢
  replace lw := hide lw
  clear hg ob6
  simp only [Act.put, List.setIfInBounds_toArray, List.set_cons_zero, List.set_cons_succ, List.getElem_toArray, List.getElem_cons_zero, List.getElem_cons_succ]
  refine list_val (.slice s3 m cap2) (by kernel_rfl) (by kernel_rfl) ?_
  simp only [Act.put, List.setIfInBounds_toArray, List.set_cons_zero, List.set_cons_succ, List.getElem_toArray, List.getElem_cons_zero, List.getElem_cons_succ]
  refine list_call 9 #[.slice sw m cw, .slice s3 m cap2] (by kernel_rfl) (by kernel_rfl) ((equal_same (sealL K N A Q) _ _ m cw cap2 (unhide hPl) _ (unhide lw).sl ((unhide lZ).gr hG).sl).mono ?_)
  rintro r vq ⟨rfl, rfl⟩
  refine ⟨_, rfl, ?_⟩
  simp only [Act.put, List.setIfInBounds_toArray, List.set_cons_zero, List.set_cons_succ, List.getElem_toArray, List.getElem_cons_zero, List.getElem_cons_succ]
  (refine wpList_step fun K hK => ?_; replace hK := hide hK; go_simp; refine unhide hK _ _ ?_; clear hK K)
  refine wpList_nil ?_
  clear hU
  have hF : Hid (Gr w _) := (unhide hGw).trans hG
  clear hG hGw
  go_wp2_with fail
  rw [unhide hT]
  exact ⟨rfl, unhide hF⟩
set_option maxHeartbeats 4000000 in
theorem sealed_no (K N : List Int) (hu : Us K N) (A0 : List Int) (s : Option Addr) (len cap : Nat) (B : List Int) (s2 : Option Addr) (len2 cap2 : Nat) (w : World) (la0 : Lb w s len cap A0) (lB : Lb w s2 len2 cap2 B) (hno : ∀ Q, IsB Q → B.take (min len2 3000) ≠ sealL K N (A0.take (min len 3000)) Q) : Calls Try.prog 3 #[.agg (usd K N s len cap), .slice s2 len2 cap2] w (Woke w) := by
  obtain ⟨T, hT⟩ : ∃ T, T = Woke w := ⟨_, rfl⟩
  rw [← hT]
  replace hT := hide hT
  replace hu := hide hu; replace la0 := hide la0
  replace lB := hide lB
  replace hno := hide hno
  obtain ⟨SU, hSU⟩ : ∃ S, S = usd K N s len cap := ⟨_, rfl⟩
  rw [← hSU]
  replace hSU := hide hSU
  go_enter Try.func3, Try.ntmps3
  go_upto_region 1 with fail
  have hB := ((Bl.nil w).new SU 28)
  simp only [size_alloc, List.nil_append, List.cons_append] at hB
  generalize World.alloc _ _ = u at *
  rw [unhide hSU] at hB
  replace hB : Bl w [⟨w.heap.size, usd K N s len cap, 28⟩] u := hB
  refine wp_region_lit ?_
  refine list_call 5 #[] (by kernel_rfl) (by kernel_rfl) ((wakes_ok _).mono ?_)
  rintro r v ⟨rfl, hg⟩
  refine ⟨_, rfl, ?_⟩
  replace hB := hB.more hg
  clear hg
  simp only [Act.put, List.setIfInBounds_toArray, List.set_cons_zero, List.set_cons_succ, List.getElem_toArray, List.getElem_cons_zero, List.getElem_cons_succ]
  refine list_val (.bool false) (by kernel_rfl) (by kernel_rfl) ?_
  simp only [Act.put, List.setIfInBounds_toArray, List.set_cons_zero, List.set_cons_succ, List.getElem_toArray, List.getElem_cons_zero, List.getElem_cons_succ]
  refine wpList_nil ?_
  replace hB := hide hB
  go_upto_region 3 with fail
  replace hB := unhide hB
  refine wp_region_lit ?_
  refine list_val (.agg (usd K N s len cap)) (by kernel_rfl) (exec_arr _ 28 (.tmp 2) rfl (w.heap.size) (by kernel_rfl) (usd K N s len cap) 28 _ (hB.get 0 (x := ⟨w.heap.size, usd K N s len cap, 28⟩) rfl) Try.underlying28 rfl (by rw [Try.infoU8, usd_size (unhide hu)])) ?_
  simp only [Act.put, List.setIfInBounds_toArray, List.set_cons_zero, List.set_cons_succ, List.getElem_toArray, List.getElem_cons_zero, List.getElem_cons_succ]
  have hlt0 := lt_of_block (hB.get 0 (x := ⟨w.heap.size, usd K N s len cap, 28⟩) rfl)
  dsimp only at hlt0
  refine list_call 6 #[.agg (usd K N s len cap)] (by kernel_rfl) (by kernel_rfl) ((short_ok K N (unhide hu) A0 s len cap _ ((unhide la0).gr hB.gr)).mono ?_)
  rintro r v2 ⟨gq, c5, rfl, hc5, hmx, hgq, hat, hg⟩
  refine ⟨_, rfl, ?_⟩
  have hne0 : w.heap.size < gq := by omega
  replace hB := hB.more hg
  have hAb : IsB (A0.take (min len 3000)) := (unhide la0).isB.take _
  have hAl : (A0.take (min len 3000)).length ≤ 3000 := by rw [List.length_take]; omega
  generalize A0.take (min len 3000) = A at *
  obtain ⟨n, hn⟩ : ∃ n, A.length = n := ⟨_, rfl⟩
  rw [hn] at hc5 hAl ⊢
  clear hg hgq hlt0
  simp only [Act.put, List.setIfInBounds_toArray, List.set_cons_zero, List.set_cons_succ, List.getElem_toArray, List.getElem_cons_zero, List.getElem_cons_succ]
  refine list_val (.slice s2 len2 cap2) (by kernel_rfl) (by kernel_rfl) ?_
  simp only [Act.put, List.setIfInBounds_toArray, List.set_cons_zero, List.set_cons_succ, List.getElem_toArray, List.getElem_cons_zero, List.getElem_cons_succ]
  refine list_call 7 #[.slice s2 len2 cap2] (by kernel_rfl) (by kernel_rfl) ((cut_ok B s2 len2 cap2 _ ((unhide lB).gr hB.gr)).mono ?_)
  rintro r v2_ ⟨s3, rfl, hcut, hw2⟩
  refine ⟨_, rfl, ?_⟩
  replace hw2 := hw2.symm
  subst hw2
  have lZ := hcut _ (unhide lB)
  have hmb : min len2 3000 ≤ 3000 := Nat.min_le_right _ _
  generalize B.take (min len2 3000) = Z at *
  generalize min len2 3000 = m at *
  clear hcut
  simp only [Act.put, List.setIfInBounds_toArray, List.set_cons_zero, List.set_cons_succ, List.getElem_toArray, List.getElem_cons_zero, List.getElem_cons_succ]
  have hat3 : At (World.setRow v2 w.heap.size (usd K N (some ⟨gq, 0, none⟩) n c5)) gq 0 (A ++ [7]) := fun j hj => by
    rw [cell_heap (setRow_other v2 w.heap.size gq _ (by omega))]
    exact hat j hj
  refine list_store 28 (.tmp 2) (.tmp 10) w.heap.size (usd K N (some ⟨gq, 0, none⟩) n c5) 28 (usd K N s len cap) (by kernel_rfl) rfl (by kernel_rfl) (by kernel_rfl) (hB.get 0 (x := ⟨w.heap.size, usd K N s len cap, 28⟩) rfl) (by rw [Try.infoU8, usd_size (unhide hu)]) ((usd_size (unhide hu) _ _ _).trans (usd_size (unhide hu) _ _ _).symm) (usd_one _ _ _) ?_
  replace hB := hB.set 0 (x := ⟨w.heap.size, usd K N s len cap, 28⟩) rfl (usd K N (some ⟨gq, 0, none⟩) n c5)
  simp only [List.set_cons_zero, List.set_cons_succ] at hB
  clear hat
  generalize World.setRow _ _ _ = v3 at *
  simp only [Act.put, List.setIfInBounds_toArray, List.set_cons_zero, List.set_cons_succ, List.getElem_toArray, List.getElem_cons_zero, List.getElem_cons_succ]
  (refine wpList_step fun K hK => ?_; replace hK := hide hK; go_simp; refine unhide hK _ _ ?_; clear hK K)
  refine wpList_nil ?_
  have hU := hide (hB.get 0 (x := ⟨w.heap.size, usd K N (some ⟨gq, 0, none⟩) n c5, 28⟩) rfl)
  dsimp only at hU
  have hGw := hide hB.gr
  replace lZ : Hid (Lb v3 s3 m cap2 Z) := lZ.gr hB.gr
  have hc50 : 0 < c5 := by omega
  have lA : Hid (Lb v3 (some ⟨gq, 0, none⟩) n c5 A) := ⟨hn, hAb, .inr ⟨gq, 0, rfl, by
    have h := hat3.take n
    rw [take_snoc A n hn] at h
    exact h⟩, by omega, hmx⟩
  have a7 : Hid (v3.cell? ⟨gq, n, none⟩ = some (.int .u8 7)) := by
    have h := hat3 n (by rw [List.length_append, hn]; simp)
    rw [get_snoc A n hn, Nat.zero_add] at h
    exact h
  have hG : Gr v3 v3 := Gr.refl v3
  clear hB hat3 hAb
  replace hn := hide hn
  replace hG := hide hG
  go_upto_region 4 with fail
  replace hG := unhide hG
  refine wp_region_lit ?_
  refine list_val (.pointer (some ⟨w.heap.size, 0, none⟩)) (by kernel_rfl) (by kernel_rfl) ?_
  simp only [Act.put, List.setIfInBounds_toArray, List.set_cons_zero, List.set_cons_succ, List.getElem_toArray, List.getElem_cons_zero, List.getElem_cons_succ]
  refine list_val (.agg (kc K)) (by kernel_rfl) (exec_key _ (.tmp 14) rfl w.heap.size (by kernel_rfl) K N (some ⟨gq, 0, none⟩) n c5 (unhide hu) (hG.blk (unhide hU))) ?_
  simp only [Act.put, List.setIfInBounds_toArray, List.set_cons_zero, List.set_cons_succ, List.getElem_toArray, List.getElem_cons_zero, List.getElem_cons_succ]
  refine list_val (.pointer (some ⟨w.heap.size, 32, none⟩)) (by kernel_rfl) (by kernel_rfl) ?_
  simp only [Act.put, List.setIfInBounds_toArray, List.set_cons_zero, List.set_cons_succ, List.getElem_toArray, List.getElem_cons_zero, List.getElem_cons_succ]
  refine list_val (.agg (kc N)) (by kernel_rfl) (exec_nonce _ (.tmp 16) rfl w.heap.size (by kernel_rfl) K N (some ⟨gq, 0, none⟩) n c5 (unhide hu) (hG.blk (unhide hU))) ?_
  simp only [Act.put, List.setIfInBounds_toArray, List.set_cons_zero, List.set_cons_succ, List.getElem_toArray, List.getElem_cons_zero, List.getElem_cons_succ]
  refine list_val (.pointer (some ⟨w.heap.size, 44, none⟩)) (by kernel_rfl) (by kernel_rfl) ?_
  simp only [Act.put, List.setIfInBounds_toArray, List.set_cons_zero, List.set_cons_succ, List.getElem_toArray, List.getElem_cons_zero, List.getElem_cons_succ]
  refine list_val (.slice (some ⟨gq, 0, none⟩) n c5) (by kernel_rfl) (exec_ad _ (.tmp 18) rfl w.heap.size (by kernel_rfl) K N (some ⟨gq, 0, none⟩) n c5 (unhide hu) (hG.blk (unhide hU))) ?_
  simp only [Act.put, List.setIfInBounds_toArray, List.set_cons_zero, List.set_cons_succ, List.getElem_toArray, List.getElem_cons_zero, List.getElem_cons_succ]
  refine list_val (.slice s3 m cap2) (by kernel_rfl) (by kernel_rfl) ?_
  simp only [Act.put, List.setIfInBounds_toArray, List.set_cons_zero, List.set_cons_succ, List.getElem_toArray, List.getElem_cons_zero, List.getElem_cons_succ]
  refine list_call 8 #[.agg (kc K), .agg (kc N), .slice (some ⟨gq, 0, none⟩) n c5, .slice s3 m cap2] (by kernel_rfl) (by kernel_rfl) ((open_no K N (unhide hu).kl (unhide hu).nl (unhide hu).kb (unhide hu).nb A Z _ s3 n m c5 cap2 (by omega) _ ((unhide lA).gr hG) ((unhide lZ).gr hG) (unhide hno)).mono ?_)
  rintro r v4 ⟨rfl, hg⟩
  refine ⟨_, rfl, ?_⟩
  replace hG := hG.trans hg
  clear hg
  simp only [Act.put, List.setIfInBounds_toArray, List.set_cons_zero, List.set_cons_succ, List.getElem_toArray, List.getElem_cons_zero, List.getElem_cons_succ]
  refine list_val (.tuple #[.slice none 0 0, .int .i64 180]) (by kernel_rfl) (by kernel_rfl) ?_
  simp only [Act.put, List.setIfInBounds_toArray, List.set_cons_zero, List.set_cons_succ, List.getElem_toArray, List.getElem_cons_zero, List.getElem_cons_succ]
  refine list_val (.slice none 0 0) (by kernel_rfl) (by kernel_rfl) ?_
  simp only [Act.put, List.setIfInBounds_toArray, List.set_cons_zero, List.set_cons_succ, List.getElem_toArray, List.getElem_cons_zero, List.getElem_cons_succ]
  refine list_val (.int .i64 180) (by kernel_rfl) (by kernel_rfl) ?_
  simp only [Act.put, List.setIfInBounds_toArray, List.set_cons_zero, List.set_cons_succ, List.getElem_toArray, List.getElem_cons_zero, List.getElem_cons_succ]
  (refine wpList_step fun K hK => ?_; replace hK := hide hK; go_simp; refine unhide hK _ _ ?_; clear hK K)
  (refine wpList_step fun K hK => ?_; replace hK := hide hK; go_simp; refine unhide hK _ _ ?_; clear hK K)
  refine wpList_nil ?_
  replace hG := hide hG
  go_upto_region 5 with fail
  replace hG := unhide hG
  refine wp_region_lit ?_
  refine list_val (.int .i64 180) (by kernel_rfl) (by kernel_rfl) ?_
  simp only [Act.put, List.setIfInBounds_toArray, List.set_cons_zero, List.set_cons_succ, List.getElem_toArray, List.getElem_cons_zero, List.getElem_cons_succ]
  refine list_val (.bool true) (by kernel_rfl) (by kernel_rfl) ?_
  simp only [Act.put, List.setIfInBounds_toArray, List.set_cons_zero, List.set_cons_succ, List.getElem_toArray, List.getElem_cons_zero, List.getElem_cons_succ]
  refine wpList_nil ?_
  replace hG := hide hG
  go_upto_region 6 with fail
  replace hG := unhide hG
  refine wp_region_lit ?_
  refine list_val (.int .i64 180) (by kernel_rfl) (by kernel_rfl) ?_
  simp only [Act.put, List.setIfInBounds_toArray, List.set_cons_zero, List.set_cons_succ, List.getElem_toArray, List.getElem_cons_zero, List.getElem_cons_succ]
  refine list_val (.bool true) (by kernel_rfl) (by kernel_rfl) ?_
  simp only [Act.put, List.setIfInBounds_toArray, List.set_cons_zero, List.set_cons_succ, List.getElem_toArray, List.getElem_cons_zero, List.getElem_cons_succ]
  refine list_val (.bool true) (by kernel_rfl) (by kernel_rfl) ?_
  simp only [Act.put, List.setIfInBounds_toArray, List.set_cons_zero, List.set_cons_succ, List.getElem_toArray, List.getElem_cons_zero, List.getElem_cons_succ]
  refine list_val (.slice none 0 0) (by kernel_rfl) (by kernel_rfl) ?_
  simp only [Act.put, List.setIfInBounds_toArray, List.set_cons_zero, List.set_cons_succ, List.getElem_toArray, List.getElem_cons_zero, List.getElem_cons_succ]
  refine list_val (.int .i64 0) (by kernel_rfl) (by kernel_rfl) ?_
  simp only [Act.put, List.setIfInBounds_toArray, List.set_cons_zero, List.set_cons_succ, List.getElem_toArray, List.getElem_cons_zero, List.getElem_cons_succ]
  refine list_val (.bool true) (by kernel_rfl) (by kernel_rfl) ?_
  simp only [Act.put, List.setIfInBounds_toArray, List.set_cons_zero, List.set_cons_succ, List.getElem_toArray, List.getElem_cons_zero, List.getElem_cons_succ]
  refine list_val (.bool true) (by kernel_rfl) (by kernel_rfl) ?_
  simp only [Act.put, List.setIfInBounds_toArray, List.set_cons_zero, List.set_cons_succ, List.getElem_toArray, List.getElem_cons_zero, List.getElem_cons_succ]
  (refine wpList_step fun K hK => ?_; replace hK := hide hK; go_simp; refine unhide hK _ _ ?_; clear hK K)
  refine wpList_nil ?_
  clear hU
  have hF : Hid (Gr w _) := (unhide hGw).trans hG
  clear hG hGw
  go_wp2_with fail
  rw [unhide hT]
  exact ⟨rfl, unhide hF⟩
theorem sealed_ok (K N : List Int) (hu : Us K N) (A0 : List Int) (s : Option Addr) (len cap : Nat) (B : List Int) (s2 : Option Addr) (len2 cap2 : Nat) (w : World) (la0 : Lb w s len cap A0) (lB : Lb w s2 len2 cap2 B) : Calls Try.prog 3 #[.agg (usd K N s len cap), .slice s2 len2 cap2] w (Woke w) := by
  by_cases h : ∃ Q, IsB Q ∧ B.take (min len2 3000) = sealL K N (A0.take (min len 3000)) Q
  · obtain ⟨Q, h1, h2⟩ := h
    exact sealed_yes K N hu A0 s len cap B s2 len2 cap2 w la0 lB Q h1 h2
  · exact sealed_no K N hu A0 s len cap B s2 len2 cap2 w la0 lB (fun Q h1 h2 => h ⟨Q, h1, h2⟩)
end Go.Proofs.Ytdekjbdkpchbjab
