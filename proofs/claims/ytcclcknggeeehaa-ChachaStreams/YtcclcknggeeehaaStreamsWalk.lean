/-
  The stream's first bytes: the walk.
-/
import Derived.Test.YtcclcknggeeehaaChaRX
namespace Go.Proofs.Ytcclcknggeeehaa
open Go.RowKit
set_option maxRecDepth 100000
set_option linter.unusedSimpArgs false
set_option linter.unusedVariables false
def Nil (w : World) (r : Ending) (w' : World) : Prop := r = .returned (.slice none 0 0) ∧ Gr w w'
set_option maxHeartbeats 4000000 in
theorem stream_bad (K N : List Int) (nb : Int) (hb : nb < 1 ∨ 65536 < nb) (w : World) : Calls Try.prog 15 #[.agg (kc K), .agg (kc N), .int .i64 nb] w (Nil w) := by
  obtain ⟨T, hT⟩ : ∃ T, T = Nil w := ⟨_, rfl⟩
  rw [← hT]
  replace hT := hide hT
  obtain ⟨SK, hSK⟩ : ∃ S, S = kc K := ⟨_, rfl⟩
  obtain ⟨SN, hSN⟩ : ∃ S, S = kc N := ⟨_, rfl⟩
  rw [← hSK, ← hSN]
  replace hSK := hide hSK
  replace hSN := hide hSN
  have hB := ((Bl.nil w).new SK 23).new SN 26
  replace hB := hide hB
  rcases hb with h | h
  · go_enter Try.func15, Try.ntmps15
    go_wp2_with fail
    rw [unhide hT]
    exact ⟨rfl, (unhide hB).gr⟩
  · have h2 : ¬ nb < 1 := by omega
    go_enter Try.func15, Try.ntmps15
    go_wp2_with fail
    rw [unhide hT]
    exact ⟨rfl, (unhide hB).gr⟩
set_option maxHeartbeats 4000000 in
theorem stream_ok (K N : List Int) (hKl : K.length = 32) (hNl : N.length = 12) (hKb : IsB K) (hNb : IsB N) (n : Nat) (h1 : 1 ≤ n) (h2 : n ≤ 65536) (w : World) : Calls Try.prog 15 #[.agg (kc K), .agg (kc N), .int .i64 n] w (Xd K N 0 (List.replicate n 0) w) := by
  obtain ⟨T, hT⟩ : ∃ T, T = Xd K N 0 (List.replicate n 0) w := ⟨_, rfl⟩
  rw [← hT]
  replace hT := hide hT
  obtain ⟨SK, hSK⟩ : ∃ S, S = kc K := ⟨_, rfl⟩
  obtain ⟨SN, hSN⟩ : ∃ S, S = kc N := ⟨_, rfl⟩
  rw [← hSK, ← hSN]
  replace hSK := hide hSK
  replace hSN := hide hSN
  replace hKb := hide hKb
  replace hNb := hide hNb
  have i1 : ¬ (n : Int) < 1 := by omega
  have i2 : ¬ (65536 : Int) < (n : Int) := by omega
  have i3 : ¬ n < 1 := by omega
  have i4 : ¬ 65536 < n := by omega
  go_enter Try.func15, Try.ntmps15
  go_upto_region 3 with fail
  have hB := ((Bl.nil w).new SK 23).new SN 26
  simp only [size_alloc, List.nil_append, List.cons_append] at hB
  generalize World.alloc _ _ = u at *
  rw [unhide hSK, unhide hSN] at hB
  refine any_start (S := fun v => Bl w [⟨w.heap.size, kc K, 23⟩, ⟨w.heap.size + 1, kc N, 26⟩] v) (by kernel_rfl) ?_
  replace hB := hB.drew
  generalize World.drew _ = v9 at *
  simp only [List.size_toArray, List.length_cons, List.length_nil, Array.replicate, List.replicate]
  refine any_take (i := 0) (v := (.agg (kc K))) #[false, false, false, false, false, false] rfl (by kernel_rfl) (by kernel_rfl) (by kernel_rfl) (by kernel_rfl) (fun _ _ _ h => h) (.inl ⟨by kernel_rfl, fun x_ hu => exec_arr _ 23 (.tmp 3) rfl (w.heap.size) (by kernel_rfl) (kc K) 23 _ (hu.get 0 (x := ⟨w.heap.size, kc K, 23⟩) rfl) Try.underlying23 rfl (by rw [Try.infoKey, kc_size, hKl])⟩) hB ?_
  simp only [Act.put, List.setIfInBounds_toArray, List.set_cons_zero, List.set_cons_succ, List.getElem_toArray, List.getElem_cons_zero, List.getElem_cons_succ]
  refine any_take (i := 1) (v := (.agg (kc N))) #[true, false, false, false, false, false] rfl (by kernel_rfl) (by kernel_rfl) (by kernel_rfl) (by kernel_rfl) (fun _ _ _ h => h) (.inl ⟨by kernel_rfl, fun x_ hu => exec_arr _ 26 (.tmp 4) rfl (w.heap.size + 1) (by kernel_rfl) (kc N) 26 _ (hu.get 1 (x := ⟨w.heap.size + 1, kc N, 26⟩) rfl) Try.underlying26 rfl (by rw [Try.infoN, kc_size, hNl])⟩) hB ?_
  simp only [Act.put, List.setIfInBounds_toArray, List.set_cons_zero, List.set_cons_succ, List.getElem_toArray, List.getElem_cons_zero, List.getElem_cons_succ]
  refine any_take (i := 2) (v := (.int .i64 n)) #[true, true, false, false, false, false] rfl (by kernel_rfl) (by kernel_rfl) (by kernel_rfl) (by kernel_rfl) (fun _ _ _ h => h) (.inl ⟨by kernel_rfl, fun x_ hu => by kernel_rfl⟩) hB ?_
  simp only [Act.put, List.setIfInBounds_toArray, List.set_cons_zero, List.set_cons_succ, List.getElem_toArray, List.getElem_cons_zero, List.getElem_cons_succ]
  refine any_one (i := 3) (by kernel_rfl) rfl (fun K_ hK => ?_)
  rw [if_pos (by kernel_rfl)]
  refine make_op (.tmp 15) (.tmp 15) rfl n n rfl rfl (Nat.le_refl _) (by omega) ?_
  have hg := (Gr.refl v9).alloc (.cells (kc (List.replicate n 0)) 5 (0, 0))
  have lz : Lb (v9.alloc (.cells (kc (List.replicate n 0)) 5 (0, 0))) (some ⟨v9.heap.size, 0, none⟩) n n (List.replicate n 0) := kc_lb (blk_new _ _) (by simp) (rep_isB n) (by omega)
  replace hB := hB.more hg
  
  clear hg
  generalize World.alloc _ _ = v10 at *
  generalize v9.heap.size = g9 at *
  refine hK.out _ _ hB (fun _ => ?_)
  clear hK K_
  simp only [Act.put, List.setIfInBounds_toArray, List.set_cons_zero, List.set_cons_succ, List.getElem_toArray, List.getElem_cons_zero, List.getElem_cons_succ]
  refine any_one (i := 4) (by kernel_rfl) rfl (fun K_ hK => ?_)
  refine step_callw (by kernel_rfl) 13 #[.agg (kc K), .int .u32 0, .agg (kc N), .slice (some ⟨g9, 0, none⟩) n n] (by kernel_rfl) ((xor_ok K N hKl hNl (unhide hKb) (unhide hNb) 0 ⟨by decide, by decide⟩ (List.replicate n 0) _ n n (by omega) _ lz).mono ?_)
  rintro r v11 ⟨gs, rfl, hgs, hms, hg⟩
  refine ⟨_, rfl, ?_⟩
  have hgw := Nat.le_trans hB.gr.size hgs
  replace hB := hB.more hg
  clear hg hgs lz
  rw [List.length_replicate]
  refine hK.out _ _ hB (fun _ => ?_)
  clear hK K_
  simp only [Act.put, List.setIfInBounds_toArray, List.set_cons_zero, List.set_cons_succ, List.getElem_toArray, List.getElem_cons_zero, List.getElem_cons_succ]
  refine any_one (i := 5) (by kernel_rfl) rfl (fun K_ hK => ?_)
  replace hK := hide hK
  go_simp
  refine (unhide hK).out _ _ hB (fun _ => ?_)
  clear hK K_
  refine any_done (by kernel_rfl) ?_
  have hP : Hid (Xd K N 0 (List.replicate n 0) w (.returned (.slice (some ⟨gs, 0, none⟩) n n)) v11) := ⟨gs, by rw [List.length_replicate], hgw, hms, hB.gr⟩
  clear hms hgw hB
  go_wp2_with fail
  rw [unhide hT]
  exact unhide hP
set_option maxHeartbeats 4000000 in
theorem streams_bad (K : List Int) (c : Int) (N : List Int) (hu : Us K c N) (nb : Int) (hb : nb < 1 ∨ 65536 < nb) (w : World) : Calls Try.prog 5 #[.agg (usd K c N), .int .i64 nb] w (Woke w) := by
  obtain ⟨T, hT⟩ : ∃ T, T = Woke w := ⟨_, rfl⟩
  rw [← hT]
  replace hT := hide hT
  replace hu := hide hu
  obtain ⟨SU, hSU⟩ : ∃ S, S = usd K c N := ⟨_, rfl⟩
  rw [← hSU]
  replace hSU := hide hSU
  go_enter Try.func5, Try.ntmps5
  go_upto_region 1 with fail
  have hB := (Bl.nil w).new SU 28
  simp only [List.nil_append] at hB
  generalize World.alloc _ _ = u at *
  rw [unhide hSU] at hB
  replace hB : Bl w [⟨w.heap.size, usd K c N, 28⟩] u := hB
  refine wp_region_lit ?_
  refine list_call 9 #[] (by kernel_rfl) (by kernel_rfl) ((wakes_ok _).mono ?_)
  rintro r v ⟨rfl, hg⟩
  refine ⟨_, rfl, ?_⟩
  replace hB := hB.more hg
  clear hg
  simp only [Act.put, List.setIfInBounds_toArray, List.set_cons_zero, List.set_cons_succ, List.getElem_toArray, List.getElem_cons_zero, List.getElem_cons_succ]
  refine list_val (.bool false) (by kernel_rfl) (by kernel_rfl) ?_
  simp only [Act.put, List.setIfInBounds_toArray, List.set_cons_zero, List.set_cons_succ, List.getElem_toArray, List.getElem_cons_zero, List.getElem_cons_succ]
  refine wpList_nil ?_
  replace hB := hide hB
  go_upto_region 3 with fail
  replace hB := unhide hB
  refine wp_region_lit ?_
  refine list_val (.pointer (some ⟨w.heap.size, 0, none⟩)) (by kernel_rfl) (by kernel_rfl) ?_
  simp only [Act.put, List.setIfInBounds_toArray, List.set_cons_zero, List.set_cons_succ, List.getElem_toArray, List.getElem_cons_zero, List.getElem_cons_succ]
  refine list_val (.agg (kc K)) (by kernel_rfl) (exec_key _ (.tmp 8) rfl w.heap.size (by kernel_rfl) K N c (unhide hu) (hB.get 0 (x := ⟨w.heap.size, usd K c N, 28⟩) rfl)) ?_
  simp only [Act.put, List.setIfInBounds_toArray, List.set_cons_zero, List.set_cons_succ, List.getElem_toArray, List.getElem_cons_zero, List.getElem_cons_succ]
  refine list_val (.pointer (some ⟨w.heap.size, 33, none⟩)) (by kernel_rfl) (by kernel_rfl) ?_
  simp only [Act.put, List.setIfInBounds_toArray, List.set_cons_zero, List.set_cons_succ, List.getElem_toArray, List.getElem_cons_zero, List.getElem_cons_succ]
  refine list_val (.agg (kc N)) (by kernel_rfl) (exec_nonce _ (.tmp 10) rfl w.heap.size (by kernel_rfl) K N c (unhide hu) (hB.get 0 (x := ⟨w.heap.size, usd K c N, 28⟩) rfl)) ?_
  simp only [Act.put, List.setIfInBounds_toArray, List.set_cons_zero, List.set_cons_succ, List.getElem_toArray, List.getElem_cons_zero, List.getElem_cons_succ]
  refine list_val (.int .i64 nb) (by kernel_rfl) (by kernel_rfl) ?_
  simp only [Act.put, List.setIfInBounds_toArray, List.set_cons_zero, List.set_cons_succ, List.getElem_toArray, List.getElem_cons_zero, List.getElem_cons_succ]
  refine list_call 15 #[.agg (kc K), .agg (kc N), .int .i64 nb] (by kernel_rfl) (by kernel_rfl) ((stream_bad K N nb hb _).mono ?_)
  rintro r v1 ⟨rfl, hg⟩
  refine ⟨_, rfl, ?_⟩
  replace hB := hB.more hg
  clear hg
  simp only [Act.put, List.setIfInBounds_toArray, List.set_cons_zero, List.set_cons_succ, List.getElem_toArray, List.getElem_cons_zero, List.getElem_cons_succ]
  (refine wpList_step fun K hK => ?_; replace hK := hide hK; go_simp; refine unhide hK _ _ ?_; clear hK K)
  refine wpList_nil ?_
  replace hB := hide hB
  rcases hb with h | h
  · go_wp2_with fail
    rw [unhide hT]
    exact ⟨rfl, (unhide hB).gr⟩
  · have h2 : ¬ nb < 1 := by omega
    go_wp2_with fail
    rw [unhide hT]
    exact ⟨rfl, (unhide hB).gr⟩
set_option maxHeartbeats 4000000 in
theorem streams_good (K : List Int) (c : Int) (N : List Int) (hu : Us K c N) (n : Nat) (h1 : 1 ≤ n) (h2 : n ≤ 65536) (w : World) : Calls Try.prog 5 #[.agg (usd K c N), .int .i64 n] w (Woke w) := by
  obtain ⟨T, hT⟩ : ∃ T, T = Woke w := ⟨_, rfl⟩
  rw [← hT]
  replace hT := hide hT
  replace hu := hide hu
  obtain ⟨SU, hSU⟩ : ∃ S, S = usd K c N := ⟨_, rfl⟩
  rw [← hSU]
  replace hSU := hide hSU
  go_enter Try.func5, Try.ntmps5
  go_upto_region 1 with fail
  have hB := (Bl.nil w).new SU 28
  simp only [List.nil_append] at hB
  generalize World.alloc _ _ = u at *
  rw [unhide hSU] at hB
  replace hB : Bl w [⟨w.heap.size, usd K c N, 28⟩] u := hB
  refine wp_region_lit ?_
  refine list_call 9 #[] (by kernel_rfl) (by kernel_rfl) ((wakes_ok _).mono ?_)
  rintro r v ⟨rfl, hg⟩
  refine ⟨_, rfl, ?_⟩
  replace hB := hB.more hg
  clear hg
  simp only [Act.put, List.setIfInBounds_toArray, List.set_cons_zero, List.set_cons_succ, List.getElem_toArray, List.getElem_cons_zero, List.getElem_cons_succ]
  refine list_val (.bool false) (by kernel_rfl) (by kernel_rfl) ?_
  simp only [Act.put, List.setIfInBounds_toArray, List.set_cons_zero, List.set_cons_succ, List.getElem_toArray, List.getElem_cons_zero, List.getElem_cons_succ]
  refine wpList_nil ?_
  replace hB := hide hB
  go_upto_region 3 with fail
  replace hB := unhide hB
  refine wp_region_lit ?_
  refine list_val (.pointer (some ⟨w.heap.size, 0, none⟩)) (by kernel_rfl) (by kernel_rfl) ?_
  simp only [Act.put, List.setIfInBounds_toArray, List.set_cons_zero, List.set_cons_succ, List.getElem_toArray, List.getElem_cons_zero, List.getElem_cons_succ]
  refine list_val (.agg (kc K)) (by kernel_rfl) (exec_key _ (.tmp 8) rfl w.heap.size (by kernel_rfl) K N c (unhide hu) (hB.get 0 (x := ⟨w.heap.size, usd K c N, 28⟩) rfl)) ?_
  simp only [Act.put, List.setIfInBounds_toArray, List.set_cons_zero, List.set_cons_succ, List.getElem_toArray, List.getElem_cons_zero, List.getElem_cons_succ]
  refine list_val (.pointer (some ⟨w.heap.size, 33, none⟩)) (by kernel_rfl) (by kernel_rfl) ?_
  simp only [Act.put, List.setIfInBounds_toArray, List.set_cons_zero, List.set_cons_succ, List.getElem_toArray, List.getElem_cons_zero, List.getElem_cons_succ]
  refine list_val (.agg (kc N)) (by kernel_rfl) (exec_nonce _ (.tmp 10) rfl w.heap.size (by kernel_rfl) K N c (unhide hu) (hB.get 0 (x := ⟨w.heap.size, usd K c N, 28⟩) rfl)) ?_
  simp only [Act.put, List.setIfInBounds_toArray, List.set_cons_zero, List.set_cons_succ, List.getElem_toArray, List.getElem_cons_zero, List.getElem_cons_succ]
  refine list_val (.int .i64 n) (by kernel_rfl) (by kernel_rfl) ?_
  simp only [Act.put, List.setIfInBounds_toArray, List.set_cons_zero, List.set_cons_succ, List.getElem_toArray, List.getElem_cons_zero, List.getElem_cons_succ]
  refine list_call 15 #[.agg (kc K), .agg (kc N), .int .i64 n] (by kernel_rfl) (by kernel_rfl) ((stream_ok K N (unhide hu).kl (unhide hu).nl (unhide hu).kb (unhide hu).nb n h1 h2 _).mono ?_)
  rintro r v1 ⟨g1, rfl, _, hm1, hg⟩
  refine ⟨_, rfl, ?_⟩
  rw [List.length_replicate]
  replace hB := hB.more hg
  have lx : Hid (Lb v1 (some ⟨g1, 0, none⟩) n n (xl K N 0 (List.replicate n 0))) := kc_lb hm1 (by rw [xl_len, List.length_replicate]) (xl_isB _ _ _ _) (by omega)
  clear hm1 hg
  simp only [Act.put, List.setIfInBounds_toArray, List.set_cons_zero, List.set_cons_succ, List.getElem_toArray, List.getElem_cons_zero, List.getElem_cons_succ]
  (refine wpList_step fun K hK => ?_; replace hK := hide hK; go_simp; refine unhide hK _ _ ?_; clear hK K)
  refine wpList_nil ?_
  have i1 : ¬ (n : Int) < 1 := by omega
  have i2 : ¬ (65536 : Int) < (n : Int) := by omega
  have i3 : ¬ n < 1 := by omega
  have i4 : ¬ 65536 < n := by omega
  replace hB := hide hB
  go_upto_region 6 with fail
  replace hB := unhide hB
  have hu0 := hu
  refine any_start (S := fun v => Bl w [⟨w.heap.size, usd K c N, 28⟩] v) (by kernel_rfl) ?_
  replace hB := hB.drew
  replace lx := hide ((unhide lx).gr (Gr.refl _).drew)
  generalize World.drew _ = v9 at *
  simp only [List.size_toArray, List.length_cons, List.length_nil, Array.replicate, List.replicate]
  refine any_take (i := 0) (v := (.slice (some ⟨g1, 0, none⟩) n n)) #[false, false, false, false, false, false, false, false, false, false] rfl (by kernel_rfl) (by kernel_rfl) (by kernel_rfl) (by kernel_rfl) (fun _ _ _ h => h) (.inl ⟨by kernel_rfl, fun x_ hu => by kernel_rfl⟩) hB ?_
  simp only [Act.put, List.setIfInBounds_toArray, List.set_cons_zero, List.set_cons_succ, List.getElem_toArray, List.getElem_cons_zero, List.getElem_cons_succ]
  refine any_take (i := 1) (v := (.pointer (some ⟨w.heap.size, 0, none⟩))) #[true, false, false, false, false, false, false, false, false, false] rfl (by kernel_rfl) (by kernel_rfl) (by kernel_rfl) (by kernel_rfl) (fun _ _ _ h => h) (.inl ⟨by kernel_rfl, fun x_ hu => by kernel_rfl⟩) hB ?_
  simp only [Act.put, List.setIfInBounds_toArray, List.set_cons_zero, List.set_cons_succ, List.getElem_toArray, List.getElem_cons_zero, List.getElem_cons_succ]
  refine any_take (i := 2) (v := (.agg (kc K))) #[true, true, false, false, false, false, false, false, false, false] rfl (by kernel_rfl) (by kernel_rfl) (by kernel_rfl) (by kernel_rfl) (fun _ _ _ h => h) (.inl ⟨by kernel_rfl, fun x_ hu => exec_key _ (.tmp 24) rfl w.heap.size (by kernel_rfl) K N c (unhide hu0) (hu.get 0 (x := ⟨w.heap.size, usd K c N, 28⟩) rfl)⟩) hB ?_
  simp only [Act.put, List.setIfInBounds_toArray, List.set_cons_zero, List.set_cons_succ, List.getElem_toArray, List.getElem_cons_zero, List.getElem_cons_succ]
  refine any_take (i := 3) (v := (.pointer (some ⟨w.heap.size, 33, none⟩))) #[true, true, true, false, false, false, false, false, false, false] rfl (by kernel_rfl) (by kernel_rfl) (by kernel_rfl) (by kernel_rfl) (fun _ _ _ h => h) (.inl ⟨by kernel_rfl, fun x_ hu => by kernel_rfl⟩) hB ?_
  simp only [Act.put, List.setIfInBounds_toArray, List.set_cons_zero, List.set_cons_succ, List.getElem_toArray, List.getElem_cons_zero, List.getElem_cons_succ]
  refine any_take (i := 4) (v := (.agg (kc N))) #[true, true, true, true, false, false, false, false, false, false] rfl (by kernel_rfl) (by kernel_rfl) (by kernel_rfl) (by kernel_rfl) (fun _ _ _ h => h) (.inl ⟨by kernel_rfl, fun x_ hu => exec_nonce _ (.tmp 26) rfl w.heap.size (by kernel_rfl) K N c (unhide hu0) (hu.get 0 (x := ⟨w.heap.size, usd K c N, 28⟩) rfl)⟩) hB ?_
  simp only [Act.put, List.setIfInBounds_toArray, List.set_cons_zero, List.set_cons_succ, List.getElem_toArray, List.getElem_cons_zero, List.getElem_cons_succ]
  refine any_take (i := 5) (v := (.int .i64 n)) #[true, true, true, true, true, false, false, false, false, false] rfl (by kernel_rfl) (by kernel_rfl) (by kernel_rfl) (by kernel_rfl) (fun _ _ _ h => h) (.inl ⟨by kernel_rfl, fun x_ hu => by kernel_rfl⟩) hB ?_
  simp only [Act.put, List.setIfInBounds_toArray, List.set_cons_zero, List.set_cons_succ, List.getElem_toArray, List.getElem_cons_zero, List.getElem_cons_succ]
  refine any_one (i := 6) (by kernel_rfl) rfl (fun K_ hK => ?_)
  rw [if_pos (by kernel_rfl)]
  refine make_op (.tmp 28) (.tmp 28) rfl n n rfl rfl (Nat.le_refl _) (by omega) ?_
  have hg := (Gr.refl v9).alloc (.cells (kc (List.replicate n 0)) 5 (0, 0))
  have lz : Lb (v9.alloc (.cells (kc (List.replicate n 0)) 5 (0, 0))) (some ⟨v9.heap.size, 0, none⟩) n n (List.replicate n 0) := kc_lb (blk_new _ _) (by simp) (rep_isB n) (by omega)
  replace hB := hB.more hg
  replace lx := hide ((unhide lx).gr hg)
  clear hg
  generalize World.alloc _ _ = v10 at *
  generalize v9.heap.size = g9 at *
  refine hK.out _ _ hB (fun _ => ?_)
  clear hK K_
  simp only [Act.put, List.setIfInBounds_toArray, List.set_cons_zero, List.set_cons_succ, List.getElem_toArray, List.getElem_cons_zero, List.getElem_cons_succ]
  refine any_one (i := 7) (by kernel_rfl) rfl (fun K_ hK => ?_)
  refine step_callw (by kernel_rfl) 12 #[.agg (kc K), .int .u32 0, .agg (kc N), .slice (some ⟨g9, 0, none⟩) n n] (by kernel_rfl) ((rxor_ok K N (unhide hu).kl (unhide hu).nl (unhide hu).kb (unhide hu).nb 0 (List.replicate n 0) _ n n (by omega) _ lz).mono ?_)
  rintro r v11 ⟨vr, rfl, ob, hg⟩
  refine ⟨_, rfl, ?_⟩
  replace hB := hB.more hg
  replace lx := hide ((unhide lx).gr hg)
  obtain ⟨a7, c7, rfl, _, _, sl7⟩ := ob.slice
  rw [xl_len, List.length_replicate]
  clear hg lz ob
  refine hK.out _ _ hB (fun _ => ?_)
  clear hK K_
  simp only [Act.put, List.setIfInBounds_toArray, List.set_cons_zero, List.set_cons_succ, List.getElem_toArray, List.getElem_cons_zero, List.getElem_cons_succ]
  refine any_one (i := 8) (by kernel_rfl) rfl (fun K_ hK => ?_)
  refine step_callw (by kernel_rfl) 14 #[.slice (some ⟨g1, 0, none⟩) n n, .slice a7 n c7] (by kernel_rfl) ((equal_same (xl K N 0 (List.replicate n 0)) _ _ n n c7 (by rw [xl_len, List.length_replicate]) _ (unhide lx).sl sl7).mono ?_)
  rintro r v12 ⟨rfl, rfl⟩
  refine ⟨_, rfl, ?_⟩
  refine hK.out _ _ hB (fun _ => ?_)
  clear hK K_
  simp only [Act.put, List.setIfInBounds_toArray, List.set_cons_zero, List.set_cons_succ, List.getElem_toArray, List.getElem_cons_zero, List.getElem_cons_succ]
  refine any_one (i := 9) (by kernel_rfl) rfl (fun K_ hK => ?_)
  replace hK := hide hK
  go_simp
  refine (unhide hK).out _ _ hB (fun _ => ?_)
  clear hK K_
  refine any_done (by kernel_rfl) ?_
  replace hB := hide hB
  go_wp2_with fail
  replace hB := unhide hB
  rw [unhide hT]
  exact ⟨rfl, hB.gr⟩
theorem streams_ok (K : List Int) (c : Int) (N : List Int) (hu : Us K c N) (nb : Int) (w : World) : Calls Try.prog 5 #[.agg (usd K c N), .int .i64 nb] w (Woke w) := by
  by_cases hb : nb < 1 ∨ 65536 < nb
  · exact streams_bad K c N hu nb hb w
  · obtain ⟨n, rfl⟩ := Int.eq_ofNat_of_zero_le (a := nb) (by omega)
    exact streams_good K c N hu n (by omega) (by omega) w
end Go.Proofs.Ytcclcknggeeehaa
