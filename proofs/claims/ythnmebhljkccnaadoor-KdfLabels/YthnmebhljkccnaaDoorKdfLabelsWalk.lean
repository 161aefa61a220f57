/-
  Labelled secrets, pairs of them and steps of a chain are the document's: the walk.
-/
import Derived.Test.YthnmebhljkccnaaDoorKdfLN
namespace Go.Proofs.YthnmebhljkccnaaDoor
open Go.RowKit
set_option maxRecDepth 100000
set_option linter.unusedSimpArgs false
set_option linter.unusedVariables false

set_option maxHeartbeats 8000000 in
theorem labels_ok (Ky : List Int) (hKb : IsB Ky) (hKl : Ky.length = 32) (t : ByteArray) (htb : t.size ≤ 140737488351232) (ps : List (List Int)) (ap : Option Addr) (m cp : Nat) (hm : ps.length = m) (hmb : m ≤ 140737488351232) (hps : ∀ p ∈ ps, p.length ≤ 140737488351232) (w : World) (hF : Fst w) (hP : Pr w ap ps) :
    Calls Tryd.prog 5 #[.agg (kc Ky), .string t, .slice ap m cp] w (Woke w) := by
  obtain ⟨T, hT⟩ : ∃ T, T = Woke w := ⟨_, rfl⟩
  rw [← hT]
  obtain ⟨KK, hKK⟩ : ∃ KK, KK = kc Ky := ⟨_, rfl⟩
  rw [← hKK]
  have hKs : KK.size = 32 := by rw [hKK, kc_size, hKl]
  replace hT := hide hT
  replace hF := hide hF
  replace hP := hide hP
  replace hm := hide hm
  replace hps := hide hps
  replace hKK := hide hKK
  replace hKb := hide hKb
  have hI : Hid (Bl w [⟨w.heap.size, KK, 28⟩] (w.alloc (.cells KK 28))) := (Bl.nil w).new KK 28
  have hF2 := hide ((unhide hF).gr (unhide hI).gr)
  go_enter Tryd.func5, Tryd.ntmps5
  go_upto_region 3 with (go_at_call 9; refine (wakes_ok _ (unhide hF2)).mono ?_; rintro e u1 ⟨rfl, hG⟩)
  have hB := hide ((unhide hI).more hG)
  clear hI hF2 hG
  refine wp_region_lit ?_
  iterate 1 (refine wpList_step fun K hK => ?_; replace hK := hide hK; go_simp; refine unhide hK _ _ ?_; clear hK K)
  refine list_call 10 #[.slice ap m cp] (by kernel_rfl) (by kernel_rfl) ((small_ok ps ap m cp (unhide hm) hmb (unhide hps) _ ((unhide hP).gr (unhide hB).gr)).mono ?_)
  rintro r u2 ⟨b1, rfl, hs1, _, rfl⟩
  refine ⟨_, rfl, ?_⟩
  simp only [Act.put, List.setIfInBounds_toArray, List.set_cons_zero, List.set_cons_succ, List.getElem_toArray, List.getElem_cons_zero, List.getElem_cons_succ]
  cases b1
  · clear hs1
    iterate 6 (refine wpList_step fun K hK => ?_; replace hK := hide hK; go_simp; refine unhide hK _ _ ?_; clear hK K)
    refine wpList_nil ?_
    go_wp2_with fail
    rw [unhide hT]
    exact ⟨rfl, (unhide hB).gr⟩
  replace hs1 := hs1 rfl
  have hm100 : m ≤ 100 := by rw [← unhide hm]; exact hs1.2
  have hfl := hide hs1.1
  have hp : Hid (small4 ps) := ⟨hs1.2, fun p hp => Nat.le_trans (mem_flat hp) hs1.1⟩
  clear hs1
  by_cases ht0 : 1000 < t.size
  · have ht1 : (1000 : Int) < (t.size : Int) := by omega
    iterate 6 (refine wpList_step fun K hK => ?_; replace hK := hide hK; go_simp; refine unhide hK _ _ ?_; clear hK K)
    refine wpList_nil ?_
    go_wp2_with fail
    rw [unhide hT]
    exact ⟨rfl, (unhide hB).gr⟩
  have ht1 : ¬ (1000 : Int) < (t.size : Int) := by omega
  have ht : t.size ≤ 1000 := by omega
  iterate 6 (refine wpList_step fun K hK => ?_; replace hK := hide hK; go_simp; refine unhide hK _ _ ?_; clear hK K)
  refine wpList_nil ?_
  obtain ⟨D1, hD1⟩ : ∃ D, D = (spL Ky (infoL (tb t) ps) 64).take 32 := ⟨_, rfl⟩
  obtain ⟨D2, hD2⟩ : ∃ D, D = (spL Ky (infoL (tb t) ps) 64).drop 32 := ⟨_, rfl⟩
  have hDl1 : D1.length = 32 := by rw [hD1, List.length_take, spL_len]; rfl
  have hDl2 : D2.length = 32 := by rw [hD2, List.length_drop, spL_len]
  have hD3 : Hid (spL Ky (infoL (tb t) ps) 32 = D1) := by rw [hD1]; exact (spL_fewer Ky (infoL (tb t) ps) 32 64 (by omega)).symm
  replace hD1 := hide hD1.symm
  replace hD2 := hide hD2.symm
  obtain ⟨E1, hE1⟩ : ∃ D, D = hmacL Ky [2] := ⟨_, rfl⟩
  obtain ⟨E2, hE2⟩ : ∃ D, D = hmacL Ky [1] := ⟨_, rfl⟩
  have hEl1 : E1.length = 32 := by rw [hE1]; exact hmacL_len _ _
  have hEl2 : E2.length = 32 := by rw [hE2]; exact hmacL_len _ _
  replace hE1 := hide hE1.symm
  replace hE2 := hide hE2.symm
  go_upto_region 5 with fail
  replace hB := unhide hB
  refine any_start (S := fun v => v.heap[w.heap.size]? = some (.cells KK 28 (0, 0))) (by kernel_rfl) ?_
  replace hB := hB.drew
  generalize World.drew _ = W0 at *
  simp only [List.size_toArray, List.length_cons, List.length_nil, Array.replicate, List.replicate]
  refine any_take (i := 0) (v := (.agg KK)) #[false, false, false, false, false, false, false, false, false, false, false, false] rfl (by kernel_rfl) (by kernel_rfl) (by kernel_rfl) (by kernel_rfl) (fun _ _ _ h => h) (.inl ⟨by kernel_rfl, fun x_ hu => exec_arr x_ 28 (.tmp 3) rfl w.heap.size (by kernel_rfl) KK 28 _ hu Tryd.underlying28 rfl (by rw [Tryd.infoKey, hKs])⟩) (hB.get 0 (x := ⟨w.heap.size, KK, 28⟩) rfl) ?_
  simp only [Act.put, List.setIfInBounds_toArray, List.set_cons_zero, List.set_cons_succ, List.getElem_toArray, List.getElem_cons_zero, List.getElem_cons_succ]
  refine any_take (i := 1) (v := (.string t)) #[true, false, false, false, false, false, false, false, false, false, false, false] rfl (by kernel_rfl) (by kernel_rfl) (by kernel_rfl) (by kernel_rfl) (fun _ _ _ h => h) (.inl ⟨by kernel_rfl, fun x_ hu => by kernel_rfl⟩) (hB.get 0 (x := ⟨w.heap.size, KK, 28⟩) rfl) ?_
  simp only [Act.put, List.setIfInBounds_toArray, List.set_cons_zero, List.set_cons_succ, List.getElem_toArray, List.getElem_cons_zero, List.getElem_cons_succ]
  refine any_take (i := 2) (v := (.slice ap m cp)) #[true, true, false, false, false, false, false, false, false, false, false, false] rfl (by kernel_rfl) (by kernel_rfl) (by kernel_rfl) (by kernel_rfl) (fun _ _ _ h => h) (.inl ⟨by kernel_rfl, fun x_ hu => by kernel_rfl⟩) (hB.get 0 (x := ⟨w.heap.size, KK, 28⟩) rfl) ?_
  simp only [Act.put, List.setIfInBounds_toArray, List.set_cons_zero, List.set_cons_succ, List.getElem_toArray, List.getElem_cons_zero, List.getElem_cons_succ]
  have hG0 := Gr.refl W0
  refine float3 (KJ W0.heap.size) 7 8 (fun b_ d_ => #[true, true, true, false, false, false, false, false, b_, d_, false, false]) 8 9 3 false (b1 := false) (b2 := false) (q1 := undef) (q2 := undef) rfl rfl (KJ.begin_ _ _ _ _) (fun v k => k.blk (hG0.blk (hB.get 0 (x := ⟨w.heap.size, KK, 28⟩) rfl))) (by kernel_rfl) (fun b_ d_ => by cases b_ <;> cases d_ <;> rfl) (fun b_ d_ => by cases b_ <;> cases d_ <;> rfl) ?_ ?_ ?_
  all_goals simp only [fw2, Act.put, List.setIfInBounds_toArray, List.set_cons_zero, List.set_cons_succ, List.getElem_toArray, List.getElem_cons_zero, List.getElem_cons_succ]
  · intro b_ q_ p_ x_ hgx hJx Ky hK
    refine wpOp_step (o := _) rfl (fun Ky' hK' => ?_)
    refine step_val (.pointer (some ⟨x_.heap.size, 0, none⟩)) (x_.alloc (.cells (kc Z32) 28 (0, 0))) (by kernel_rfl) (by kernel_rfl) ?_
    exact hK' _ _ (hK _ _ ((Gr.refl _).alloc _) (hJx.make1 (Nat.le_trans hG0.size hgx.size)))
  · intro b_ q_ p_ x_ hgx hJx Ky hK
    refine wpOp_step (o := _) rfl (fun Ky' hK' => ?_)
    refine step_val (.pointer (some ⟨x_.heap.size, 0, none⟩)) (x_.alloc (.cells (kc Z32) 28 (0, 0))) (by kernel_rfl) (by kernel_rfl) ?_
    exact hK' _ _ (hK _ _ ((Gr.refl _).alloc _) (hJx.make2 (Nat.le_trans hG0.size hgx.size)))
  intro b1 b2 q1 q2 x1 hg hJ _
  replace hG0 := hG0.trans hg
  clear hg
  refine wpOp_step (o := _) rfl (fun K hK => ?_)
  refine step_callw (by kernel_rfl) 14 #[.slice ap m cp] (by kernel_rfl) ((copied_ok ps ap m cp (unhide hm) (by omega) (by have := unhide hfl; omega) _ ((unhide hP).gr (hB.gr.trans hG0))).mono ?_)
  rintro r x2 ⟨a12, c12, rfl, hP12, hg⟩
  refine ⟨_, rfl, ?_⟩
  rw [unhide hm]
  replace hG0 := hG0.trans hg
  replace hJ := hJ.gr hg
  clear hg
  refine hK _ _ ⟨hG0.blk (hB.get 0 (x := ⟨w.heap.size, KK, 28⟩) rfl), ?_⟩
  clear hK K
  simp only [Act.put, List.setIfInBounds_toArray, List.set_cons_zero, List.set_cons_succ, List.getElem_toArray, List.getElem_cons_zero, List.getElem_cons_succ]
  refine float3 (KJ W0.heap.size) 7 8 (fun b_ d_ => #[true, true, true, true, false, false, false, false, b_, d_, false, false]) 8 9 4 false (b1 := b1) (b2 := b2) (q1 := q1) (q2 := q2) rfl rfl hJ (fun v k => k.blk (hG0.blk (hB.get 0 (x := ⟨w.heap.size, KK, 28⟩) rfl))) (by kernel_rfl) (fun b_ d_ => by cases b_ <;> cases d_ <;> rfl) (fun b_ d_ => by cases b_ <;> cases d_ <;> rfl) ?_ ?_ ?_
  all_goals simp only [fw2, Act.put, List.setIfInBounds_toArray, List.set_cons_zero, List.set_cons_succ, List.getElem_toArray, List.getElem_cons_zero, List.getElem_cons_succ]
  · intro b_ q_ p_ x_ hgx hJx Ky hK
    refine wpOp_step (o := _) rfl (fun Ky' hK' => ?_)
    refine step_val (.pointer (some ⟨x_.heap.size, 0, none⟩)) (x_.alloc (.cells (kc Z32) 28 (0, 0))) (by kernel_rfl) (by kernel_rfl) ?_
    exact hK' _ _ (hK _ _ ((Gr.refl _).alloc _) (hJx.make1 (Nat.le_trans hG0.size hgx.size)))
  · intro b_ q_ p_ x_ hgx hJx Ky hK
    refine wpOp_step (o := _) rfl (fun Ky' hK' => ?_)
    refine step_val (.pointer (some ⟨x_.heap.size, 0, none⟩)) (x_.alloc (.cells (kc Z32) 28 (0, 0))) (by kernel_rfl) (by kernel_rfl) ?_
    exact hK' _ _ (hK _ _ ((Gr.refl _).alloc _) (hJx.make2 (Nat.le_trans hG0.size hgx.size)))
  clear hJ
  intro b1 b2 q1 q2 x3 hg hJ _
  replace hG0 := hG0.trans hg
  replace hP12 := hP12.gr hg
  clear hg
  refine wpOp_step (o := _) rfl (fun K hK => ?_)
  rw [unhide hKK]
  refine step_callw (by kernel_rfl) 19 #[.agg (kc Ky), .string t, .slice a12 m c12] (by kernel_rfl) ((two_ok Ky hKl (unhide hKb) t ht ps a12 m c12 (unhide hm) (unhide hp) _ ((unhide hF).gr (hB.gr.trans hG0)) hP12).mono ?_)
  rintro r x4 ⟨rfl, hg⟩
  refine ⟨_, rfl, ?_⟩
  rw [← unhide hKK, unhide hD1, unhide hD2]
  replace hG0 := hG0.trans hg
  replace hJ := hJ.gr hg
  clear hg hP12
  refine hK _ _ ⟨hG0.blk (hB.get 0 (x := ⟨w.heap.size, KK, 28⟩) rfl), ?_⟩
  clear hK K
  simp only [Act.put, List.setIfInBounds_toArray, List.set_cons_zero, List.set_cons_succ, List.getElem_toArray, List.getElem_cons_zero, List.getElem_cons_succ]
  refine any_take (i := 5) (v := (.tuple #[.agg (kc D1), .agg (kc D2)])) #[true, true, true, true, true, false, false, false, false, false, false, false] rfl (by kernel_rfl) (by kernel_rfl) (by kernel_rfl) (by kernel_rfl) (fun _ _ _ h => h) (.inl ⟨by kernel_rfl, fun x_ hu => by kernel_rfl⟩) (hG0.blk (hB.get 0 (x := ⟨w.heap.size, KK, 28⟩) rfl)) ?_
  simp only [Act.put, List.setIfInBounds_toArray, List.set_cons_zero, List.set_cons_succ, List.getElem_toArray, List.getElem_cons_zero, List.getElem_cons_succ]
  refine any_take (i := 6) (v := (.agg (kc D1))) #[true, true, true, true, true, true, false, false, false, false, false, false] rfl (by kernel_rfl) (by kernel_rfl) (by kernel_rfl) (by kernel_rfl) (fun _ _ _ h => h) (.inl ⟨by kernel_rfl, fun x_ hu => by kernel_rfl⟩) (hG0.blk (hB.get 0 (x := ⟨w.heap.size, KK, 28⟩) rfl)) ?_
  simp only [Act.put, List.setIfInBounds_toArray, List.set_cons_zero, List.set_cons_succ, List.getElem_toArray, List.getElem_cons_zero, List.getElem_cons_succ]
  refine any_take (i := 7) (v := (.agg (kc D2))) #[true, true, true, true, true, true, true, false, false, false, false, false] rfl (by kernel_rfl) (by kernel_rfl) (by kernel_rfl) (by kernel_rfl) (fun _ _ _ h => h) (.inl ⟨by kernel_rfl, fun x_ hu => by kernel_rfl⟩) (hG0.blk (hB.get 0 (x := ⟨w.heap.size, KK, 28⟩) rfl)) ?_
  simp only [Act.put, List.setIfInBounds_toArray, List.set_cons_zero, List.set_cons_succ, List.getElem_toArray, List.getElem_cons_zero, List.getElem_cons_succ]
  refine float3 (KJ W0.heap.size) 7 8 (fun b_ d_ => #[true, true, true, true, true, true, true, true, b_, d_, false, false]) 8 9 10 true (b1 := b1) (b2 := b2) (q1 := q1) (q2 := q2) rfl rfl hJ (fun v k => k.blk (hG0.blk (hB.get 0 (x := ⟨w.heap.size, KK, 28⟩) rfl))) (by kernel_rfl) (fun b_ d_ => by cases b_ <;> cases d_ <;> rfl) (fun b_ d_ => by cases b_ <;> cases d_ <;> rfl) ?_ ?_ ?_
  all_goals simp only [fw2, Act.put, List.setIfInBounds_toArray, List.set_cons_zero, List.set_cons_succ, List.getElem_toArray, List.getElem_cons_zero, List.getElem_cons_succ]
  · intro b_ q_ p_ x_ hgx hJx Ky hK
    refine wpOp_step (o := _) rfl (fun Ky' hK' => ?_)
    refine step_val (.pointer (some ⟨x_.heap.size, 0, none⟩)) (x_.alloc (.cells (kc Z32) 28 (0, 0))) (by kernel_rfl) (by kernel_rfl) ?_
    exact hK' _ _ (hK _ _ ((Gr.refl _).alloc _) (hJx.make1 (Nat.le_trans hG0.size hgx.size)))
  · intro b_ q_ p_ x_ hgx hJx Ky hK
    refine wpOp_step (o := _) rfl (fun Ky' hK' => ?_)
    refine step_val (.pointer (some ⟨x_.heap.size, 0, none⟩)) (x_.alloc (.cells (kc Z32) 28 (0, 0))) (by kernel_rfl) (by kernel_rfl) ?_
    exact hK' _ _ (hK _ _ ((Gr.refl _).alloc _) (hJx.make2 (Nat.le_trans hG0.size hgx.size)))
  clear hJ
  intro b1 b2 q1 q2 x5 hg hJ hall
  obtain ⟨rfl, rfl⟩ := hall (by trivial)
  obtain ⟨g7, g8, rfl, rfl, hB2⟩ := hJ.both hB (hG0.trans hg)
  simp only [List.cons_append, List.nil_append] at hB2
  clear hall hJ hg hG0 hB
  have hB := hB2
  clear hB2
  refine wpOp_step (o := _) rfl (fun K hK => ?_)
  rw [if_pos (by kernel_rfl)]
  refine wp_store_row 28 (.tmp 7) (.tmp 31) rfl g7 (kc D1) (by kernel_rfl) (by kernel_rfl) 28 (kc Z32) (hB.get 1 (x := ⟨g7, kc Z32, 28⟩) rfl) (by rw [Tryd.infoKey, kc_size, hDl1]) ((show (kc Z32).size = 32 from rfl).trans ((kc_size _).trans hDl1).symm) (kc_one _) ?_
  replace hB := hB.set 1 (x := ⟨g7, kc Z32, 28⟩) rfl (kc D1)
  simp only [List.set_cons_zero, List.set_cons_succ] at hB
  refine hK _ _ ⟨(hB.get 0 (x := ⟨w.heap.size, KK, 28⟩) rfl), ?_⟩
  clear hK K
  generalize World.setRow _ _ _ = x6 at *
  simp only [Act.put, List.setIfInBounds_toArray, List.set_cons_zero, List.set_cons_succ, List.getElem_toArray, List.getElem_cons_zero, List.getElem_cons_succ]
  refine any_one (i := 11) (by kernel_rfl) rfl (fun K hK => ?_)
  rw [if_pos (by kernel_rfl)]
  refine wp_store_row 28 (.tmp 8) (.tmp 32) rfl g8 (kc D2) (by kernel_rfl) (by kernel_rfl) 28 (kc Z32) (hB.get 2 (x := ⟨g8, kc Z32, 28⟩) rfl) (by rw [Tryd.infoKey, kc_size, hDl2]) ((show (kc Z32).size = 32 from rfl).trans ((kc_size _).trans hDl2).symm) (kc_one _) ?_
  replace hB := hB.set 2 (x := ⟨g8, kc Z32, 28⟩) rfl (kc D2)
  simp only [List.set_cons_zero, List.set_cons_succ] at hB
  refine hK.out _ _ (hB.get 0 (x := ⟨w.heap.size, KK, 28⟩) rfl) (fun _ => ?_)
  clear hK K
  generalize World.setRow _ _ _ = x7 at *
  try simp only [Act.put, List.setIfInBounds_toArray, List.set_cons_zero, List.set_cons_succ, List.getElem_toArray, List.getElem_cons_zero, List.getElem_cons_succ]
  refine any_done (by kernel_rfl) ?_
  replace hB := hide hB
  go_upto_region 6 with fail
  replace hB := unhide hB
  refine wp_region_lit ?_
  refine list_val (.agg KK) (by kernel_rfl) (exec_arr _ 28 (.tmp 3) rfl w.heap.size (by kernel_rfl) KK 28 _ (hB.get 0 (x := ⟨w.heap.size, KK, 28⟩) rfl) Tryd.underlying28 rfl (by rw [Tryd.infoKey, hKs])) ?_
  simp only [Act.put, List.setIfInBounds_toArray, List.set_cons_zero, List.set_cons_succ, List.getElem_toArray, List.getElem_cons_zero, List.getElem_cons_succ]
  refine list_val (.string t) (by kernel_rfl) (by kernel_rfl) ?_
  simp only [Act.put, List.setIfInBounds_toArray, List.set_cons_zero, List.set_cons_succ, List.getElem_toArray, List.getElem_cons_zero, List.getElem_cons_succ]
  refine list_val (.slice ap m cp) (by kernel_rfl) (by kernel_rfl) ?_
  simp only [Act.put, List.setIfInBounds_toArray, List.set_cons_zero, List.set_cons_succ, List.getElem_toArray, List.getElem_cons_zero, List.getElem_cons_succ]
  rw [unhide hKK]
  refine list_call 20 #[.agg (kc Ky), .string t, .slice ap m cp] (by kernel_rfl) (by kernel_rfl) ((rtwo_ok Ky hKl (unhide hKb) t ht ps ap m cp (unhide hm) (unhide hp) _ ((unhide hF).gr hB.gr) ((unhide hP).gr hB.gr)).mono ?_)
  rintro r yaa ⟨rfl, hg⟩
  refine ⟨_, rfl, ?_⟩
  rw [← unhide hKK, unhide hD1, unhide hD2]
  replace hB := hB.more hg
  clear hg
  simp only [Act.put, List.setIfInBounds_toArray, List.set_cons_zero, List.set_cons_succ, List.getElem_toArray, List.getElem_cons_zero, List.getElem_cons_succ]
  refine list_val (.tuple #[.agg (kc D1), .agg (kc D2)]) (by kernel_rfl) (by kernel_rfl) ?_
  simp only [Act.put, List.setIfInBounds_toArray, List.set_cons_zero, List.set_cons_succ, List.getElem_toArray, List.getElem_cons_zero, List.getElem_cons_succ]
  refine list_val (.agg (kc D1)) (by kernel_rfl) (by kernel_rfl) ?_
  simp only [Act.put, List.setIfInBounds_toArray, List.set_cons_zero, List.set_cons_succ, List.getElem_toArray, List.getElem_cons_zero, List.getElem_cons_succ]
  refine list_val (.agg (kc D2)) (by kernel_rfl) (by kernel_rfl) ?_
  simp only [Act.put, List.setIfInBounds_toArray, List.set_cons_zero, List.set_cons_succ, List.getElem_toArray, List.getElem_cons_zero, List.getElem_cons_succ]
  refine list_valw (.pointer (some ⟨yaa.heap.size, 0, none⟩)) (yaa.alloc (.cells (kc Z32) 28 (0, 0))) (by kernel_rfl) (by kernel_rfl) ?_
  simp only [Act.put, List.setIfInBounds_toArray, List.set_cons_zero, List.set_cons_succ, List.getElem_toArray, List.getElem_cons_zero, List.getElem_cons_succ]
  replace hB := hB.new (kc Z32) 28
  simp only [List.cons_append, List.nil_append] at hB
  generalize World.alloc _ _ = yab at *
  generalize yaa.heap.size = h9 at *
  refine list_valw (.pointer (some ⟨yab.heap.size, 0, none⟩)) (yab.alloc (.cells (kc Z32) 28 (0, 0))) (by kernel_rfl) (by kernel_rfl) ?_
  simp only [Act.put, List.setIfInBounds_toArray, List.set_cons_zero, List.set_cons_succ, List.getElem_toArray, List.getElem_cons_zero, List.getElem_cons_succ]
  replace hB := hB.new (kc Z32) 28
  simp only [List.cons_append, List.nil_append] at hB
  generalize World.alloc _ _ = yac at *
  generalize yab.heap.size = h10 at *
  refine list_store 28 (.tmp 9) (.tmp 38) h9 (kc D1) 28 (kc Z32) (by kernel_rfl) rfl (by kernel_rfl) (by kernel_rfl) (hB.get 3 (x := ⟨h9, kc Z32, 28⟩) rfl) (by rw [Tryd.infoKey, kc_size, hDl1]) ((show (kc Z32).size = 32 from rfl).trans ((kc_size _).trans hDl1).symm) (kc_one _) ?_
  replace hB := hB.set 3 (x := ⟨h9, kc Z32, 28⟩) rfl (kc D1)
  simp only [List.set_cons_zero, List.set_cons_succ] at hB
  generalize World.setRow _ _ _ = yad at *
  simp only [Act.put, List.setIfInBounds_toArray, List.set_cons_zero, List.set_cons_succ, List.getElem_toArray, List.getElem_cons_zero, List.getElem_cons_succ]
  refine list_store 28 (.tmp 10) (.tmp 39) h10 (kc D2) 28 (kc Z32) (by kernel_rfl) rfl (by kernel_rfl) (by kernel_rfl) (hB.get 4 (x := ⟨h10, kc Z32, 28⟩) rfl) (by rw [Tryd.infoKey, kc_size, hDl2]) ((show (kc Z32).size = 32 from rfl).trans ((kc_size _).trans hDl2).symm) (kc_one _) ?_
  replace hB := hB.set 4 (x := ⟨h10, kc Z32, 28⟩) rfl (kc D2)
  simp only [List.set_cons_zero, List.set_cons_succ] at hB
  generalize World.setRow _ _ _ = yae at *
  simp only [Act.put, List.setIfInBounds_toArray, List.set_cons_zero, List.set_cons_succ, List.getElem_toArray, List.getElem_cons_zero, List.getElem_cons_succ]
  refine wpList_nil ?_
  replace hB := hide hB
  go_upto_region 7 with fail
  replace hB := unhide hB
  refine wp_region_lit ?_
  refine list_val (.agg KK) (by kernel_rfl) (exec_arr _ 28 (.tmp 3) rfl w.heap.size (by kernel_rfl) KK 28 _ (hB.get 0 (x := ⟨w.heap.size, KK, 28⟩) rfl) Tryd.underlying28 rfl (by rw [Tryd.infoKey, hKs])) ?_
  simp only [Act.put, List.setIfInBounds_toArray, List.set_cons_zero, List.set_cons_succ, List.getElem_toArray, List.getElem_cons_zero, List.getElem_cons_succ]
  rw [unhide hKK]
  refine list_call 21 #[.agg (kc Ky)] (by kernel_rfl) (by kernel_rfl) ((step_ok Ky hKl (unhide hKb) _ ((unhide hF).gr hB.gr)).mono ?_)
  rintro r yba ⟨rfl, hg⟩
  refine ⟨_, rfl, ?_⟩
  rw [← unhide hKK, unhide hE1, unhide hE2]
  replace hB := hB.more hg
  clear hg
  simp only [Act.put, List.setIfInBounds_toArray, List.set_cons_zero, List.set_cons_succ, List.getElem_toArray, List.getElem_cons_zero, List.getElem_cons_succ]
  refine list_val (.tuple #[.agg (kc E1), .agg (kc E2)]) (by kernel_rfl) (by kernel_rfl) ?_
  simp only [Act.put, List.setIfInBounds_toArray, List.set_cons_zero, List.set_cons_succ, List.getElem_toArray, List.getElem_cons_zero, List.getElem_cons_succ]
  refine list_val (.agg (kc E1)) (by kernel_rfl) (by kernel_rfl) ?_
  simp only [Act.put, List.setIfInBounds_toArray, List.set_cons_zero, List.set_cons_succ, List.getElem_toArray, List.getElem_cons_zero, List.getElem_cons_succ]
  refine list_val (.agg (kc E2)) (by kernel_rfl) (by kernel_rfl) ?_
  simp only [Act.put, List.setIfInBounds_toArray, List.set_cons_zero, List.set_cons_succ, List.getElem_toArray, List.getElem_cons_zero, List.getElem_cons_succ]
  refine list_valw (.pointer (some ⟨yba.heap.size, 0, none⟩)) (yba.alloc (.cells (kc Z32) 28 (0, 0))) (by kernel_rfl) (by kernel_rfl) ?_
  simp only [Act.put, List.setIfInBounds_toArray, List.set_cons_zero, List.set_cons_succ, List.getElem_toArray, List.getElem_cons_zero, List.getElem_cons_succ]
  replace hB := hB.new (kc Z32) 28
  simp only [List.cons_append, List.nil_append] at hB
  generalize World.alloc _ _ = ybb at *
  generalize yba.heap.size = h11 at *
  refine list_valw (.pointer (some ⟨ybb.heap.size, 0, none⟩)) (ybb.alloc (.cells (kc Z32) 28 (0, 0))) (by kernel_rfl) (by kernel_rfl) ?_
  simp only [Act.put, List.setIfInBounds_toArray, List.set_cons_zero, List.set_cons_succ, List.getElem_toArray, List.getElem_cons_zero, List.getElem_cons_succ]
  replace hB := hB.new (kc Z32) 28
  simp only [List.cons_append, List.nil_append] at hB
  generalize World.alloc _ _ = ybc at *
  generalize ybb.heap.size = h12 at *
  refine list_store 28 (.tmp 11) (.tmp 43) h11 (kc E1) 28 (kc Z32) (by kernel_rfl) rfl (by kernel_rfl) (by kernel_rfl) (hB.get 5 (x := ⟨h11, kc Z32, 28⟩) rfl) (by rw [Tryd.infoKey, kc_size, hEl1]) ((show (kc Z32).size = 32 from rfl).trans ((kc_size _).trans hEl1).symm) (kc_one _) ?_
  replace hB := hB.set 5 (x := ⟨h11, kc Z32, 28⟩) rfl (kc E1)
  simp only [List.set_cons_zero, List.set_cons_succ] at hB
  generalize World.setRow _ _ _ = ybd at *
  simp only [Act.put, List.setIfInBounds_toArray, List.set_cons_zero, List.set_cons_succ, List.getElem_toArray, List.getElem_cons_zero, List.getElem_cons_succ]
  refine list_store 28 (.tmp 12) (.tmp 44) h12 (kc E2) 28 (kc Z32) (by kernel_rfl) rfl (by kernel_rfl) (by kernel_rfl) (hB.get 6 (x := ⟨h12, kc Z32, 28⟩) rfl) (by rw [Tryd.infoKey, kc_size, hEl2]) ((show (kc Z32).size = 32 from rfl).trans ((kc_size _).trans hEl2).symm) (kc_one _) ?_
  replace hB := hB.set 6 (x := ⟨h12, kc Z32, 28⟩) rfl (kc E2)
  simp only [List.set_cons_zero, List.set_cons_succ] at hB
  generalize World.setRow _ _ _ = ybe at *
  simp only [Act.put, List.setIfInBounds_toArray, List.set_cons_zero, List.set_cons_succ, List.getElem_toArray, List.getElem_cons_zero, List.getElem_cons_succ]
  refine wpList_nil ?_
  replace hB := hide hB
  go_upto_region 8 with fail
  replace hB := unhide hB
  refine wp_region_lit ?_
  refine list_val (.agg KK) (by kernel_rfl) (exec_arr _ 28 (.tmp 3) rfl w.heap.size (by kernel_rfl) KK 28 _ (hB.get 0 (x := ⟨w.heap.size, KK, 28⟩) rfl) Tryd.underlying28 rfl (by rw [Tryd.infoKey, hKs])) ?_
  simp only [Act.put, List.setIfInBounds_toArray, List.set_cons_zero, List.set_cons_succ, List.getElem_toArray, List.getElem_cons_zero, List.getElem_cons_succ]
  rw [unhide hKK]
  refine list_call 22 #[.agg (kc Ky)] (by kernel_rfl) (by kernel_rfl) ((rstep_ok Ky hKl (unhide hKb) _ ((unhide hF).gr hB.gr)).mono ?_)
  rintro r yca ⟨rfl, hg⟩
  refine ⟨_, rfl, ?_⟩
  rw [← unhide hKK, unhide hE1, unhide hE2]
  replace hB := hB.more hg
  clear hg
  simp only [Act.put, List.setIfInBounds_toArray, List.set_cons_zero, List.set_cons_succ, List.getElem_toArray, List.getElem_cons_zero, List.getElem_cons_succ]
  refine list_val (.tuple #[.agg (kc E1), .agg (kc E2)]) (by kernel_rfl) (by kernel_rfl) ?_
  simp only [Act.put, List.setIfInBounds_toArray, List.set_cons_zero, List.set_cons_succ, List.getElem_toArray, List.getElem_cons_zero, List.getElem_cons_succ]
  refine list_val (.agg (kc E1)) (by kernel_rfl) (by kernel_rfl) ?_
  simp only [Act.put, List.setIfInBounds_toArray, List.set_cons_zero, List.set_cons_succ, List.getElem_toArray, List.getElem_cons_zero, List.getElem_cons_succ]
  refine list_val (.agg (kc E2)) (by kernel_rfl) (by kernel_rfl) ?_
  simp only [Act.put, List.setIfInBounds_toArray, List.set_cons_zero, List.set_cons_succ, List.getElem_toArray, List.getElem_cons_zero, List.getElem_cons_succ]
  refine list_valw (.pointer (some ⟨yca.heap.size, 0, none⟩)) (yca.alloc (.cells (kc Z32) 28 (0, 0))) (by kernel_rfl) (by kernel_rfl) ?_
  simp only [Act.put, List.setIfInBounds_toArray, List.set_cons_zero, List.set_cons_succ, List.getElem_toArray, List.getElem_cons_zero, List.getElem_cons_succ]
  replace hB := hB.new (kc Z32) 28
  simp only [List.cons_append, List.nil_append] at hB
  generalize World.alloc _ _ = ycb at *
  generalize yca.heap.size = h13 at *
  refine list_valw (.pointer (some ⟨ycb.heap.size, 0, none⟩)) (ycb.alloc (.cells (kc Z32) 28 (0, 0))) (by kernel_rfl) (by kernel_rfl) ?_
  simp only [Act.put, List.setIfInBounds_toArray, List.set_cons_zero, List.set_cons_succ, List.getElem_toArray, List.getElem_cons_zero, List.getElem_cons_succ]
  replace hB := hB.new (kc Z32) 28
  simp only [List.cons_append, List.nil_append] at hB
  generalize World.alloc _ _ = ycc at *
  generalize ycb.heap.size = h14 at *
  refine list_store 28 (.tmp 13) (.tmp 48) h13 (kc E1) 28 (kc Z32) (by kernel_rfl) rfl (by kernel_rfl) (by kernel_rfl) (hB.get 7 (x := ⟨h13, kc Z32, 28⟩) rfl) (by rw [Tryd.infoKey, kc_size, hEl1]) ((show (kc Z32).size = 32 from rfl).trans ((kc_size _).trans hEl1).symm) (kc_one _) ?_
  replace hB := hB.set 7 (x := ⟨h13, kc Z32, 28⟩) rfl (kc E1)
  simp only [List.set_cons_zero, List.set_cons_succ] at hB
  generalize World.setRow _ _ _ = ycd at *
  simp only [Act.put, List.setIfInBounds_toArray, List.set_cons_zero, List.set_cons_succ, List.getElem_toArray, List.getElem_cons_zero, List.getElem_cons_succ]
  refine list_store 28 (.tmp 14) (.tmp 49) h14 (kc E2) 28 (kc Z32) (by kernel_rfl) rfl (by kernel_rfl) (by kernel_rfl) (hB.get 8 (x := ⟨h14, kc Z32, 28⟩) rfl) (by rw [Tryd.infoKey, kc_size, hEl2]) ((show (kc Z32).size = 32 from rfl).trans ((kc_size _).trans hEl2).symm) (kc_one _) ?_
  replace hB := hB.set 8 (x := ⟨h14, kc Z32, 28⟩) rfl (kc E2)
  simp only [List.set_cons_zero, List.set_cons_succ] at hB
  generalize World.setRow _ _ _ = yce at *
  simp only [Act.put, List.setIfInBounds_toArray, List.set_cons_zero, List.set_cons_succ, List.getElem_toArray, List.getElem_cons_zero, List.getElem_cons_succ]
  refine wpList_nil ?_
  replace hB := hide hB
  go_upto_region 9 with fail
  replace hB := unhide hB
  refine any_start (S := fun v => Bl w [⟨w.heap.size, KK, 28⟩, ⟨g7, kc D1, 28⟩, ⟨g8, kc D2, 28⟩, ⟨h9, kc D1, 28⟩, ⟨h10, kc D2, 28⟩, ⟨h11, kc E1, 28⟩, ⟨h12, kc E2, 28⟩, ⟨h13, kc E1, 28⟩, ⟨h14, kc E2, 28⟩] v) (by kernel_rfl) ?_
  replace hB := hB.drew
  generalize World.drew _ = z0 at *
  simp only [List.size_toArray, List.length_cons, List.length_nil, Array.replicate, List.replicate]
  refine any_take (i := 0) (v := (.agg (kc D1))) #[false, false, false, false, false, false, false, false, false, false, false, false, false, false, false, false, false, false, false, false, false, false, false, false, false, false, false, false] rfl (by kernel_rfl) (by kernel_rfl) (by kernel_rfl) (by kernel_rfl) (fun _ _ _ h => h) (.inl ⟨by kernel_rfl, fun x_ hu => exec_arr x_ 28 (.tmp 7) rfl g7 (by kernel_rfl) (kc D1) 28 _ (hu.get 1 (x := ⟨g7, kc D1, 28⟩) rfl) Tryd.underlying28 rfl (by rw [Tryd.infoKey, kc_size, hDl1])⟩) hB ?_
  simp only [Act.put, List.setIfInBounds_toArray, List.set_cons_zero, List.set_cons_succ, List.getElem_toArray, List.getElem_cons_zero, List.getElem_cons_succ]
  refine any_take (i := 1) (v := (.agg (kc D1))) #[true, false, false, false, false, false, false, false, false, false, false, false, false, false, false, false, false, false, false, false, false, false, false, false, false, false, false, false] rfl (by kernel_rfl) (by kernel_rfl) (by kernel_rfl) (by kernel_rfl) (fun _ _ _ h => h) (.inl ⟨by kernel_rfl, fun x_ hu => exec_arr x_ 28 (.tmp 9) rfl h9 (by kernel_rfl) (kc D1) 28 _ (hu.get 3 (x := ⟨h9, kc D1, 28⟩) rfl) Tryd.underlying28 rfl (by rw [Tryd.infoKey, kc_size, hDl1])⟩) hB ?_
  simp only [Act.put, List.setIfInBounds_toArray, List.set_cons_zero, List.set_cons_succ, List.getElem_toArray, List.getElem_cons_zero, List.getElem_cons_succ]
  refine any_take (i := 2) (v := (.bool true)) #[true, true, false, false, false, false, false, false, false, false, false, false, false, false, false, false, false, false, false, false, false, false, false, false, false, false, false, false] rfl (by kernel_rfl) (by kernel_rfl) (by kernel_rfl) (by kernel_rfl) (fun _ _ _ h => h) (.inl ⟨by kernel_rfl, fun x_ hu => by have e := key_refl D1 hDl1; go_simp⟩) hB ?_
  simp only [Act.put, List.setIfInBounds_toArray, List.set_cons_zero, List.set_cons_succ, List.getElem_toArray, List.getElem_cons_zero, List.getElem_cons_succ]
  refine any_take (i := 3) (v := (.bool true)) #[true, true, true, false, false, false, false, false, false, false, false, false, false, false, false, false, false, false, false, false, false, false, false, false, false, false, false, false] rfl (by kernel_rfl) (by kernel_rfl) (by kernel_rfl) (by kernel_rfl) (fun _ _ _ h => h) (.inl ⟨by kernel_rfl, fun x_ hu => by kernel_rfl⟩) hB ?_
  simp only [Act.put, List.setIfInBounds_toArray, List.set_cons_zero, List.set_cons_succ, List.getElem_toArray, List.getElem_cons_zero, List.getElem_cons_succ]
  refine any_take (i := 4) (v := (.agg (kc D2))) #[true, true, true, true, false, false, false, false, false, false, false, false, false, false, false, false, false, false, false, false, false, false, false, false, false, false, false, false] rfl (by kernel_rfl) (by kernel_rfl) (by kernel_rfl) (by kernel_rfl) (fun _ _ _ h => h) (.inl ⟨by kernel_rfl, fun x_ hu => exec_arr x_ 28 (.tmp 8) rfl g8 (by kernel_rfl) (kc D2) 28 _ (hu.get 2 (x := ⟨g8, kc D2, 28⟩) rfl) Tryd.underlying28 rfl (by rw [Tryd.infoKey, kc_size, hDl2])⟩) hB ?_
  simp only [Act.put, List.setIfInBounds_toArray, List.set_cons_zero, List.set_cons_succ, List.getElem_toArray, List.getElem_cons_zero, List.getElem_cons_succ]
  refine any_take (i := 5) (v := (.agg (kc D2))) #[true, true, true, true, true, false, false, false, false, false, false, false, false, false, false, false, false, false, false, false, false, false, false, false, false, false, false, false] rfl (by kernel_rfl) (by kernel_rfl) (by kernel_rfl) (by kernel_rfl) (fun _ _ _ h => h) (.inl ⟨by kernel_rfl, fun x_ hu => exec_arr x_ 28 (.tmp 10) rfl h10 (by kernel_rfl) (kc D2) 28 _ (hu.get 4 (x := ⟨h10, kc D2, 28⟩) rfl) Tryd.underlying28 rfl (by rw [Tryd.infoKey, kc_size, hDl2])⟩) hB ?_
  simp only [Act.put, List.setIfInBounds_toArray, List.set_cons_zero, List.set_cons_succ, List.getElem_toArray, List.getElem_cons_zero, List.getElem_cons_succ]
  refine any_take (i := 6) (v := (.bool true)) #[true, true, true, true, true, true, false, false, false, false, false, false, false, false, false, false, false, false, false, false, false, false, false, false, false, false, false, false] rfl (by kernel_rfl) (by kernel_rfl) (by kernel_rfl) (by kernel_rfl) (fun _ _ _ h => h) (.inl ⟨by kernel_rfl, fun x_ hu => by have e := key_refl D2 hDl2; go_simp⟩) hB ?_
  simp only [Act.put, List.setIfInBounds_toArray, List.set_cons_zero, List.set_cons_succ, List.getElem_toArray, List.getElem_cons_zero, List.getElem_cons_succ]
  refine any_take (i := 7) (v := (.bool true)) #[true, true, true, true, true, true, true, false, false, false, false, false, false, false, false, false, false, false, false, false, false, false, false, false, false, false, false, false] rfl (by kernel_rfl) (by kernel_rfl) (by kernel_rfl) (by kernel_rfl) (fun _ _ _ h => h) (.inl ⟨by kernel_rfl, fun x_ hu => by kernel_rfl⟩) hB ?_
  simp only [Act.put, List.setIfInBounds_toArray, List.set_cons_zero, List.set_cons_succ, List.getElem_toArray, List.getElem_cons_zero, List.getElem_cons_succ]
  refine any_take (i := 8) (v := (.bool true)) #[true, true, true, true, true, true, true, true, false, false, false, false, false, false, false, false, false, false, false, false, false, false, false, false, false, false, false, false] rfl (by kernel_rfl) (by kernel_rfl) (by kernel_rfl) (by kernel_rfl) (fun _ _ _ h => h) (.inl ⟨by kernel_rfl, fun x_ hu => by kernel_rfl⟩) hB ?_
  simp only [Act.put, List.setIfInBounds_toArray, List.set_cons_zero, List.set_cons_succ, List.getElem_toArray, List.getElem_cons_zero, List.getElem_cons_succ]
  refine any_take (i := 9) (v := (.agg KK)) #[true, true, true, true, true, true, true, true, true, false, false, false, false, false, false, false, false, false, false, false, false, false, false, false, false, false, false, false] rfl (by kernel_rfl) (by kernel_rfl) (by kernel_rfl) (by kernel_rfl) (fun _ _ _ h => h) (.inl ⟨by kernel_rfl, fun x_ hu => exec_arr x_ 28 (.tmp 3) rfl w.heap.size (by kernel_rfl) KK 28 _ (hu.get 0 (x := ⟨w.heap.size, KK, 28⟩) rfl) Tryd.underlying28 rfl (by rw [Tryd.infoKey, hKs])⟩) hB ?_
  simp only [Act.put, List.setIfInBounds_toArray, List.set_cons_zero, List.set_cons_succ, List.getElem_toArray, List.getElem_cons_zero, List.getElem_cons_succ]
  refine any_take (i := 10) (v := (.string t)) #[true, true, true, true, true, true, true, true, true, true, false, false, false, false, false, false, false, false, false, false, false, false, false, false, false, false, false, false] rfl (by kernel_rfl) (by kernel_rfl) (by kernel_rfl) (by kernel_rfl) (fun _ _ _ h => h) (.inl ⟨by kernel_rfl, fun x_ hu => by kernel_rfl⟩) hB ?_
  simp only [Act.put, List.setIfInBounds_toArray, List.set_cons_zero, List.set_cons_succ, List.getElem_toArray, List.getElem_cons_zero, List.getElem_cons_succ]
  refine any_take (i := 11) (v := (.slice ap m cp)) #[true, true, true, true, true, true, true, true, true, true, true, false, false, false, false, false, false, false, false, false, false, false, false, false, false, false, false, false] rfl (by kernel_rfl) (by kernel_rfl) (by kernel_rfl) (by kernel_rfl) (fun _ _ _ h => h) (.inl ⟨by kernel_rfl, fun x_ hu => by kernel_rfl⟩) hB ?_
  simp only [Act.put, List.setIfInBounds_toArray, List.set_cons_zero, List.set_cons_succ, List.getElem_toArray, List.getElem_cons_zero, List.getElem_cons_succ]
  refine any_take (i := 14) (v := (.agg (kc D1))) #[true, true, true, true, true, true, true, true, true, true, true, true, false, false, false, false, false, false, false, false, false, false, false, false, false, false, false, false] rfl (by kernel_rfl) (by kernel_rfl) (by kernel_rfl) (by kernel_rfl) (fun _ _ _ h => h) (.inl ⟨by kernel_rfl, fun x_ hu => exec_arr x_ 28 (.tmp 9) rfl h9 (by kernel_rfl) (kc D1) 28 _ (hu.get 3 (x := ⟨h9, kc D1, 28⟩) rfl) Tryd.underlying28 rfl (by rw [Tryd.infoKey, kc_size, hDl1])⟩) hB ?_
  simp only [Act.put, List.setIfInBounds_toArray, List.set_cons_zero, List.set_cons_succ, List.getElem_toArray, List.getElem_cons_zero, List.getElem_cons_succ]
  refine any_one (i := 12) (by kernel_rfl) rfl (fun K hK => ?_)
  refine step_callw (by kernel_rfl) 14 #[.slice ap m cp] (by kernel_rfl) ((copied_ok ps ap m cp (unhide hm) (by omega) (by have := unhide hfl; omega) _ ((unhide hP).gr hB.gr)).mono ?_)
  rintro r z1 ⟨a13, c13, rfl, hP13, hg⟩
  refine ⟨_, rfl, ?_⟩
  rw [unhide hm]
  replace hB := hB.more hg
  clear hg
  refine hK.out _ _ hB (fun _ => ?_)
  clear hK K
  simp only [Act.put, List.setIfInBounds_toArray, List.set_cons_zero, List.set_cons_succ, List.getElem_toArray, List.getElem_cons_zero, List.getElem_cons_succ]
  refine any_one (i := 13) (by kernel_rfl) rfl (fun K hK => ?_)
  rw [unhide hKK]
  refine step_callw (by kernel_rfl) 23 #[.agg (kc Ky), .string t, .slice a13 m c13] (by kernel_rfl) ((derive_ok Ky hKl (unhide hKb) t ht ps a13 m c13 (unhide hm) (unhide hp) _ ((unhide hF).gr hB.gr) hP13).mono ?_)
  rintro r z2 ⟨rfl, hg⟩
  refine ⟨_, rfl, ?_⟩
  rw [← unhide hKK, unhide hD3]
  replace hB := hB.more hg
  clear hg hP13
  refine hK.out _ _ hB (fun _ => ?_)
  clear hK K
  simp only [Act.put, List.setIfInBounds_toArray, List.set_cons_zero, List.set_cons_succ, List.getElem_toArray, List.getElem_cons_zero, List.getElem_cons_succ]
  refine any_take (i := 15) (v := (.bool true)) #[true, true, true, true, true, true, true, true, true, true, true, true, true, true, true, false, false, false, false, false, false, false, false, false, false, false, false, false] rfl (by kernel_rfl) (by kernel_rfl) (by kernel_rfl) (by kernel_rfl) (fun _ _ _ h => h) (.inl ⟨by kernel_rfl, fun x_ hu => by have e := key_refl D1 hDl1; go_simp⟩) hB ?_
  simp only [Act.put, List.setIfInBounds_toArray, List.set_cons_zero, List.set_cons_succ, List.getElem_toArray, List.getElem_cons_zero, List.getElem_cons_succ]
  refine any_take (i := 16) (v := (.bool true)) #[true, true, true, true, true, true, true, true, true, true, true, true, true, true, true, true, false, false, false, false, false, false, false, false, false, false, false, false] rfl (by kernel_rfl) (by kernel_rfl) (by kernel_rfl) (by kernel_rfl) (fun _ _ _ h => h) (.inl ⟨by kernel_rfl, fun x_ hu => by kernel_rfl⟩) hB ?_
  simp only [Act.put, List.setIfInBounds_toArray, List.set_cons_zero, List.set_cons_succ, List.getElem_toArray, List.getElem_cons_zero, List.getElem_cons_succ]
  refine any_take (i := 17) (v := (.bool true)) #[true, true, true, true, true, true, true, true, true, true, true, true, true, true, true, true, true, false, false, false, false, false, false, false, false, false, false, false] rfl (by kernel_rfl) (by kernel_rfl) (by kernel_rfl) (by kernel_rfl) (fun _ _ _ h => h) (.inl ⟨by kernel_rfl, fun x_ hu => by kernel_rfl⟩) hB ?_
  simp only [Act.put, List.setIfInBounds_toArray, List.set_cons_zero, List.set_cons_succ, List.getElem_toArray, List.getElem_cons_zero, List.getElem_cons_succ]
  refine any_take (i := 18) (v := (.agg (kc E1))) #[true, true, true, true, true, true, true, true, true, true, true, true, true, true, true, true, true, true, false, false, false, false, false, false, false, false, false, false] rfl (by kernel_rfl) (by kernel_rfl) (by kernel_rfl) (by kernel_rfl) (fun _ _ _ h => h) (.inl ⟨by kernel_rfl, fun x_ hu => exec_arr x_ 28 (.tmp 11) rfl h11 (by kernel_rfl) (kc E1) 28 _ (hu.get 5 (x := ⟨h11, kc E1, 28⟩) rfl) Tryd.underlying28 rfl (by rw [Tryd.infoKey, kc_size, hEl1])⟩) hB ?_
  simp only [Act.put, List.setIfInBounds_toArray, List.set_cons_zero, List.set_cons_succ, List.getElem_toArray, List.getElem_cons_zero, List.getElem_cons_succ]
  refine any_take (i := 19) (v := (.agg (kc E1))) #[true, true, true, true, true, true, true, true, true, true, true, true, true, true, true, true, true, true, true, false, false, false, false, false, false, false, false, false] rfl (by kernel_rfl) (by kernel_rfl) (by kernel_rfl) (by kernel_rfl) (fun _ _ _ h => h) (.inl ⟨by kernel_rfl, fun x_ hu => exec_arr x_ 28 (.tmp 13) rfl h13 (by kernel_rfl) (kc E1) 28 _ (hu.get 7 (x := ⟨h13, kc E1, 28⟩) rfl) Tryd.underlying28 rfl (by rw [Tryd.infoKey, kc_size, hEl1])⟩) hB ?_
  simp only [Act.put, List.setIfInBounds_toArray, List.set_cons_zero, List.set_cons_succ, List.getElem_toArray, List.getElem_cons_zero, List.getElem_cons_succ]
  refine any_take (i := 20) (v := (.bool true)) #[true, true, true, true, true, true, true, true, true, true, true, true, true, true, true, true, true, true, true, true, false, false, false, false, false, false, false, false] rfl (by kernel_rfl) (by kernel_rfl) (by kernel_rfl) (by kernel_rfl) (fun _ _ _ h => h) (.inl ⟨by kernel_rfl, fun x_ hu => by have e := key_refl E1 hEl1; go_simp⟩) hB ?_
  simp only [Act.put, List.setIfInBounds_toArray, List.set_cons_zero, List.set_cons_succ, List.getElem_toArray, List.getElem_cons_zero, List.getElem_cons_succ]
  refine any_take (i := 21) (v := (.bool true)) #[true, true, true, true, true, true, true, true, true, true, true, true, true, true, true, true, true, true, true, true, true, false, false, false, false, false, false, false] rfl (by kernel_rfl) (by kernel_rfl) (by kernel_rfl) (by kernel_rfl) (fun _ _ _ h => h) (.inl ⟨by kernel_rfl, fun x_ hu => by kernel_rfl⟩) hB ?_
  simp only [Act.put, List.setIfInBounds_toArray, List.set_cons_zero, List.set_cons_succ, List.getElem_toArray, List.getElem_cons_zero, List.getElem_cons_succ]
  refine any_take (i := 22) (v := (.bool true)) #[true, true, true, true, true, true, true, true, true, true, true, true, true, true, true, true, true, true, true, true, true, true, false, false, false, false, false, false] rfl (by kernel_rfl) (by kernel_rfl) (by kernel_rfl) (by kernel_rfl) (fun _ _ _ h => h) (.inl ⟨by kernel_rfl, fun x_ hu => by kernel_rfl⟩) hB ?_
  simp only [Act.put, List.setIfInBounds_toArray, List.set_cons_zero, List.set_cons_succ, List.getElem_toArray, List.getElem_cons_zero, List.getElem_cons_succ]
  refine any_take (i := 23) (v := (.agg (kc E2))) #[true, true, true, true, true, true, true, true, true, true, true, true, true, true, true, true, true, true, true, true, true, true, true, false, false, false, false, false] rfl (by kernel_rfl) (by kernel_rfl) (by kernel_rfl) (by kernel_rfl) (fun _ _ _ h => h) (.inl ⟨by kernel_rfl, fun x_ hu => exec_arr x_ 28 (.tmp 12) rfl h12 (by kernel_rfl) (kc E2) 28 _ (hu.get 6 (x := ⟨h12, kc E2, 28⟩) rfl) Tryd.underlying28 rfl (by rw [Tryd.infoKey, kc_size, hEl2])⟩) hB ?_
  simp only [Act.put, List.setIfInBounds_toArray, List.set_cons_zero, List.set_cons_succ, List.getElem_toArray, List.getElem_cons_zero, List.getElem_cons_succ]
  refine any_take (i := 24) (v := (.agg (kc E2))) #[true, true, true, true, true, true, true, true, true, true, true, true, true, true, true, true, true, true, true, true, true, true, true, true, false, false, false, false] rfl (by kernel_rfl) (by kernel_rfl) (by kernel_rfl) (by kernel_rfl) (fun _ _ _ h => h) (.inl ⟨by kernel_rfl, fun x_ hu => exec_arr x_ 28 (.tmp 14) rfl h14 (by kernel_rfl) (kc E2) 28 _ (hu.get 8 (x := ⟨h14, kc E2, 28⟩) rfl) Tryd.underlying28 rfl (by rw [Tryd.infoKey, kc_size, hEl2])⟩) hB ?_
  simp only [Act.put, List.setIfInBounds_toArray, List.set_cons_zero, List.set_cons_succ, List.getElem_toArray, List.getElem_cons_zero, List.getElem_cons_succ]
  refine any_take (i := 25) (v := (.bool true)) #[true, true, true, true, true, true, true, true, true, true, true, true, true, true, true, true, true, true, true, true, true, true, true, true, true, false, false, false] rfl (by kernel_rfl) (by kernel_rfl) (by kernel_rfl) (by kernel_rfl) (fun _ _ _ h => h) (.inl ⟨by kernel_rfl, fun x_ hu => by have e := key_refl E2 hEl2; go_simp⟩) hB ?_
  simp only [Act.put, List.setIfInBounds_toArray, List.set_cons_zero, List.set_cons_succ, List.getElem_toArray, List.getElem_cons_zero, List.getElem_cons_succ]
  refine any_take (i := 26) (v := (.bool true)) #[true, true, true, true, true, true, true, true, true, true, true, true, true, true, true, true, true, true, true, true, true, true, true, true, true, true, false, false] rfl (by kernel_rfl) (by kernel_rfl) (by kernel_rfl) (by kernel_rfl) (fun _ _ _ h => h) (.inl ⟨by kernel_rfl, fun x_ hu => by kernel_rfl⟩) hB ?_
  simp only [Act.put, List.setIfInBounds_toArray, List.set_cons_zero, List.set_cons_succ, List.getElem_toArray, List.getElem_cons_zero, List.getElem_cons_succ]
  refine any_one (i := 27) (by kernel_rfl) rfl (fun K hK => ?_)
  replace hK := hide hK
  go_simp
  refine (unhide hK).out _ _ hB (fun _ => ?_)
  clear hK K
  refine any_done (by kernel_rfl) ?_
  have hG := hide hB.gr
  clear hB
  go_wp2_with fail
  rw [unhide hT]
  exact ⟨rfl, unhide hG⟩
end Go.Proofs.YthnmebhljkccnaaDoor
