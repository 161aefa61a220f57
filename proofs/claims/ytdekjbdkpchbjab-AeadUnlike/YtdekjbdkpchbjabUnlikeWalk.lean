/-
  Unlike texts of one length are sealed unlike: the walk.
-/
import Derived.Test.YtdekjbdkpchbjabAeM
namespace Go.Proofs.Ytdekjbdkpchbjab
open Go.RowKit
set_option maxRecDepth 100000
set_option linter.unusedSimpArgs false
set_option linter.unusedVariables false
set_option maxHeartbeats 4000000 in
theorem unlike_ok (K N : List Int) (hu : Us K N) (A0 : List Int) (s : Option Addr) (len cap : Nat) (B : List Int) (s2 : Option Addr) (len2 cap2 : Nat) (C : List Int) (s4 : Option Addr) (len4 cap4 : Nat) (w : World) (la0 : Lb w s len cap A0) (lB : Lb w s2 len2 cap2 B) (lC : Lb w s4 len4 cap4 C) : Calls Try.prog 4 #[.agg (usd K N s len cap), .slice s2 len2 cap2, .slice s4 len4 cap4] w (Woke w) := by
  obtain ⟨T, hT⟩ : ∃ T, T = Woke w := ⟨_, rfl⟩
  rw [← hT]
  replace hT := hide hT
  replace hu := hide hu; replace la0 := hide la0
  replace lB := hide lB; replace lC := hide lC
  obtain ⟨SU, hSU⟩ : ∃ S, S = usd K N s len cap := ⟨_, rfl⟩
  rw [← hSU]
  replace hSU := hide hSU
  go_enter Try.func4, Try.ntmps4
  go_upto_region 1 with fail
  have hB := ((Bl.nil w).new SU 28)
  simp only [size_alloc, List.nil_append, List.cons_append] at hB
  generalize World.alloc _ _ = u at *
  rw [unhide hSU] at hB
  replace hB : Bl w [⟨w.heap.size, usd K N s len cap, 28⟩] u := hB
  refine wp_region_lit ?_
  refine list_call 5 #[] (by kernel_rfl) (by kernel_rfl) ((wakes_ok _).mono ?_)
  rintro r v ⟨rfl, hg⟩
  refine ⟨_, rfl, ?_⟩
  replace hB := hB.more hg
  clear hg
  simp only [Act.put, List.setIfInBounds_toArray, List.set_cons_zero, List.set_cons_succ, List.getElem_toArray, List.getElem_cons_zero, List.getElem_cons_succ]
  refine list_val (.bool false) (by kernel_rfl) (by kernel_rfl) ?_
  simp only [Act.put, List.setIfInBounds_toArray, List.set_cons_zero, List.set_cons_succ, List.getElem_toArray, List.getElem_cons_zero, List.getElem_cons_succ]
  refine wpList_nil ?_
  replace hB := hide hB
  go_upto_region 3 with fail
  replace hB := unhide hB
  refine wp_region_lit ?_
  refine list_val (.agg (usd K N s len cap)) (by kernel_rfl) (exec_arr _ 28 (.tmp 3) rfl (w.heap.size) (by kernel_rfl) (usd K N s len cap) 28 _ (hB.get 0 (x := ⟨w.heap.size, usd K N s len cap, 28⟩) rfl) Try.underlying28 rfl (by rw [Try.infoU8, usd_size (unhide hu)])) ?_
  simp only [Act.put, List.setIfInBounds_toArray, List.set_cons_zero, List.set_cons_succ, List.getElem_toArray, List.getElem_cons_zero, List.getElem_cons_succ]
  have hlt0 := lt_of_block (hB.get 0 (x := ⟨w.heap.size, usd K N s len cap, 28⟩) rfl)
  dsimp only at hlt0
  refine list_call 6 #[.agg (usd K N s len cap)] (by kernel_rfl) (by kernel_rfl) ((short_ok K N (unhide hu) A0 s len cap _ ((unhide la0).gr hB.gr)).mono ?_)
  rintro r v2 ⟨gq, c5, rfl, hc5, hmx, hgq, hat, hg⟩
  refine ⟨_, rfl, ?_⟩
  have hne0 : w.heap.size < gq := by omega
  replace hB := hB.more hg
  have hAb : IsB (A0.take (min len 3000)) := (unhide la0).isB.take _
  have hAl : (A0.take (min len 3000)).length ≤ 3000 := by rw [List.length_take]; omega
  generalize A0.take (min len 3000) = A at *
  obtain ⟨n, hn⟩ : ∃ n, A.length = n := ⟨_, rfl⟩
  rw [hn] at hc5 hAl ⊢
  clear hg hgq hlt0
  simp only [Act.put, List.setIfInBounds_toArray, List.set_cons_zero, List.set_cons_succ, List.getElem_toArray, List.getElem_cons_zero, List.getElem_cons_succ]
  refine list_val (.slice s2 len2 cap2) (by kernel_rfl) (by kernel_rfl) ?_
  simp only [Act.put, List.setIfInBounds_toArray, List.set_cons_zero, List.set_cons_succ, List.getElem_toArray, List.getElem_cons_zero, List.getElem_cons_succ]
  refine list_call 7 #[.slice s2 len2 cap2] (by kernel_rfl) (by kernel_rfl) ((cut_ok B s2 len2 cap2 _ ((unhide lB).gr hB.gr)).mono ?_)
  rintro r v2_ ⟨s3, rfl, hcut, hw2⟩
  refine ⟨_, rfl, ?_⟩
  replace hw2 := hw2.symm
  subst hw2
  have lP := hcut _ (unhide lB)
  have hmb : min len2 3000 ≤ 3000 := Nat.min_le_right _ _
  generalize B.take (min len2 3000) = P at *
  generalize min len2 3000 = m at *
  clear hcut
  simp only [Act.put, List.setIfInBounds_toArray, List.set_cons_zero, List.set_cons_succ, List.getElem_toArray, List.getElem_cons_zero, List.getElem_cons_succ]
  refine list_val (.slice s4 len4 cap4) (by kernel_rfl) (by kernel_rfl) ?_
  simp only [Act.put, List.setIfInBounds_toArray, List.set_cons_zero, List.set_cons_succ, List.getElem_toArray, List.getElem_cons_zero, List.getElem_cons_succ]
  refine list_call 7 #[.slice s4 len4 cap4] (by kernel_rfl) (by kernel_rfl) ((cut_ok C s4 len4 cap4 _ ((unhide lC).gr hB.gr)).mono ?_)
  rintro r v2_ ⟨s5, rfl, hcut, hw2⟩
  refine ⟨_, rfl, ?_⟩
  replace hw2 := hw2.symm
  subst hw2
  have lQ := hcut _ (unhide lC)
  have hkb : min len4 3000 ≤ 3000 := Nat.min_le_right _ _
  generalize C.take (min len4 3000) = Q at *
  generalize min len4 3000 = k at *
  clear hcut
  simp only [Act.put, List.setIfInBounds_toArray, List.set_cons_zero, List.set_cons_succ, List.getElem_toArray, List.getElem_cons_zero, List.getElem_cons_succ]
  have hat3 : At (World.setRow v2 w.heap.size (usd K N (some ⟨gq, 0, none⟩) n c5)) gq 0 (A ++ [7]) := fun j hj => by
    rw [cell_heap (setRow_other v2 w.heap.size gq _ (by omega))]
    exact hat j hj
  refine list_store 28 (.tmp 3) (.tmp 13) w.heap.size (usd K N (some ⟨gq, 0, none⟩) n c5) 28 (usd K N s len cap) (by kernel_rfl) rfl (by kernel_rfl) (by kernel_rfl) (hB.get 0 (x := ⟨w.heap.size, usd K N s len cap, 28⟩) rfl) (by rw [Try.infoU8, usd_size (unhide hu)]) ((usd_size (unhide hu) _ _ _).trans (usd_size (unhide hu) _ _ _).symm) (usd_one _ _ _) ?_
  replace hB := hB.set 0 (x := ⟨w.heap.size, usd K N s len cap, 28⟩) rfl (usd K N (some ⟨gq, 0, none⟩) n c5)
  simp only [List.set_cons_zero, List.set_cons_succ] at hB
  clear hat
  generalize World.setRow _ _ _ = v3 at *
  simp only [Act.put, List.setIfInBounds_toArray, List.set_cons_zero, List.set_cons_succ, List.getElem_toArray, List.getElem_cons_zero, List.getElem_cons_succ]
  (refine wpList_step fun K hK => ?_; replace hK := hide hK; go_simp; refine unhide hK _ _ ?_; clear hK K)
  (refine wpList_step fun K hK => ?_; replace hK := hide hK; go_simp; refine unhide hK _ _ ?_; clear hK K)
  refine wpList_nil ?_
  have hU := hide (hB.get 0 (x := ⟨w.heap.size, usd K N (some ⟨gq, 0, none⟩) n c5, 28⟩) rfl)
  dsimp only at hU
  have hGw := hide hB.gr
  replace lP : Hid (Lb v3 s3 m cap2 P) := lP.gr hB.gr
  replace lQ : Hid (Lb v3 s5 k cap4 Q) := lQ.gr hB.gr
  have hc50 : 0 < c5 := by omega
  have lA : Hid (Lb v3 (some ⟨gq, 0, none⟩) n c5 A) := ⟨hn, hAb, .inr ⟨gq, 0, rfl, by
    have h := hat3.take n
    rw [take_snoc A n hn] at h
    exact h⟩, by omega, hmx⟩
  have a7 : Hid (v3.cell? ⟨gq, n, none⟩ = some (.int .u8 7)) := by
    have h := hat3 n (by rw [List.length_append, hn]; simp)
    rw [get_snoc A n hn, Nat.zero_add] at h
    exact h
  have hG : Gr v3 v3 := Gr.refl v3
  clear hB hat3 hAb
  replace hn := hide hn
  obtain ⟨e, he⟩ : ∃ e, e = min m k := ⟨_, rfl⟩
  have i3 : (if (k : Int) < (m : Int) then (k : Int) else (m : Int)) = (e : Int) := by split <;> omega
  have i4 : (if k < m then (k : Int) else (m : Int)) = (e : Int) := by split <;> omega
  have hem : e ≤ m := by omega
  have hek : e ≤ k := by omega
  replace he := hide he
  replace hG := hide hG
  go_upto_region 4 with fail
  replace hG := unhide hG
  refine wp_region_lit ?_
  refine list_val (.slice s3 m cap2) (by kernel_rfl) (by kernel_rfl) ?_
  simp only [Act.put, List.setIfInBounds_toArray, List.set_cons_zero, List.set_cons_succ, List.getElem_toArray, List.getElem_cons_zero, List.getElem_cons_succ]
  refine list_val (.int .i64 m) (by kernel_rfl) (by kernel_rfl) ?_
  simp only [Act.put, List.setIfInBounds_toArray, List.set_cons_zero, List.set_cons_succ, List.getElem_toArray, List.getElem_cons_zero, List.getElem_cons_succ]
  refine list_val (.slice s5 k cap4) (by kernel_rfl) (by kernel_rfl) ?_
  simp only [Act.put, List.setIfInBounds_toArray, List.set_cons_zero, List.set_cons_succ, List.getElem_toArray, List.getElem_cons_zero, List.getElem_cons_succ]
  refine list_val (.int .i64 k) (by kernel_rfl) (by kernel_rfl) ?_
  simp only [Act.put, List.setIfInBounds_toArray, List.set_cons_zero, List.set_cons_succ, List.getElem_toArray, List.getElem_cons_zero, List.getElem_cons_succ]
  refine list_val (.int .i64 e) (by kernel_rfl) (by go_simp) ?_
  simp only [Act.put, List.setIfInBounds_toArray, List.set_cons_zero, List.set_cons_succ, List.getElem_toArray, List.getElem_cons_zero, List.getElem_cons_succ]
  (refine wpList_step fun K hK => ?_; replace hK := hide hK; go_simp; refine unhide hK _ _ ?_; clear hK K)
  refine wpList_nil ?_
  clear i3 i4
  have hcp := (unhide lP).cap
  have hcq := (unhide lQ).cap
  obtain ⟨s6, hs6⟩ : ∃ x, x = if cap2 = 0 then s3 else s3.map (·.add 0) := ⟨_, rfl⟩
  obtain ⟨s7, hs7⟩ : ∃ x, x = if cap4 = 0 then s5 else s5.map (·.add 0) := ⟨_, rfl⟩
  have lx : Hid (Lb v3 s6 e cap2 (P.take e)) := by
    have h := (unhide lP).upto e hem
    rw [← hs6] at h
    exact h
  have ly : Hid (Lb v3 s7 e cap4 (Q.take e)) := by
    have h := (unhide lQ).upto e hek
    rw [← hs7] at h
    exact h
  generalize P.take e = X at *
  generalize Q.take e = Y at *
  have hXl := hide (unhide lx).len
  have hYl := hide (unhide ly).len
  have hXb := hide (unhide lx).isB
  have hYb := hide (unhide ly).isB
  obtain ⟨nb, hnb⟩ : ∃ x, x = e + 16 := ⟨_, rfl⟩
  have hnb2 : nb ≤ 4000 := by omega
  have hle : e ≤ nb := by omega
  have heb : e ≤ 3000 := by omega
  replace hs6 := hide hs6; replace hs7 := hide hs7; replace hnb := hide hnb
  replace hG := hide hG
  go_upto_region 5 with fail
  replace hG := unhide hG
  refine any_start (S := fun v_ => Gr v3 v_) (by kernel_rfl) ?_
  have hus := hu
  clear hu
  replace hG := hG.drew
  generalize World.drew _ = x0 at *
  simp only [List.size_toArray, List.length_cons, List.length_nil, Array.replicate, List.replicate]
  refine any_take (i := 0) (v := (.pointer (some ⟨w.heap.size, 0, none⟩))) #[false, false, false, false, false, false, false, false, false, false, false, false, false, false, false, false, false, false, false, false, false, false] rfl (by kernel_rfl) (by kernel_rfl) (by kernel_rfl) (by kernel_rfl) (fun _ _ _ h => h) (.inl ⟨by kernel_rfl, fun x_ hu => by kernel_rfl⟩) hG ?_
  simp only [Act.put, List.setIfInBounds_toArray, List.set_cons_zero, List.set_cons_succ, List.getElem_toArray, List.getElem_cons_zero, List.getElem_cons_succ]
  refine any_take (i := 1) (v := (.agg (kc K))) #[true, false, false, false, false, false, false, false, false, false, false, false, false, false, false, false, false, false, false, false, false, false] rfl (by kernel_rfl) (by kernel_rfl) (by kernel_rfl) (by kernel_rfl) (fun _ _ _ h => h) (.inl ⟨by kernel_rfl, fun x_ hu => exec_key _ (.tmp 23) rfl w.heap.size (by kernel_rfl) K N (some ⟨gq, 0, none⟩) n c5 (unhide hus) (hu.blk (unhide hU))⟩) hG ?_
  simp only [Act.put, List.setIfInBounds_toArray, List.set_cons_zero, List.set_cons_succ, List.getElem_toArray, List.getElem_cons_zero, List.getElem_cons_succ]
  refine any_take (i := 2) (v := (.pointer (some ⟨w.heap.size, 32, none⟩))) #[true, true, false, false, false, false, false, false, false, false, false, false, false, false, false, false, false, false, false, false, false, false] rfl (by kernel_rfl) (by kernel_rfl) (by kernel_rfl) (by kernel_rfl) (fun _ _ _ h => h) (.inl ⟨by kernel_rfl, fun x_ hu => by kernel_rfl⟩) hG ?_
  simp only [Act.put, List.setIfInBounds_toArray, List.set_cons_zero, List.set_cons_succ, List.getElem_toArray, List.getElem_cons_zero, List.getElem_cons_succ]
  refine any_take (i := 3) (v := (.agg (kc N))) #[true, true, true, false, false, false, false, false, false, false, false, false, false, false, false, false, false, false, false, false, false, false] rfl (by kernel_rfl) (by kernel_rfl) (by kernel_rfl) (by kernel_rfl) (fun _ _ _ h => h) (.inl ⟨by kernel_rfl, fun x_ hu => exec_nonce _ (.tmp 25) rfl w.heap.size (by kernel_rfl) K N (some ⟨gq, 0, none⟩) n c5 (unhide hus) (hu.blk (unhide hU))⟩) hG ?_
  simp only [Act.put, List.setIfInBounds_toArray, List.set_cons_zero, List.set_cons_succ, List.getElem_toArray, List.getElem_cons_zero, List.getElem_cons_succ]
  refine any_take (i := 4) (v := (.pointer (some ⟨w.heap.size, 44, none⟩))) #[true, true, true, true, false, false, false, false, false, false, false, false, false, false, false, false, false, false, false, false, false, false] rfl (by kernel_rfl) (by kernel_rfl) (by kernel_rfl) (by kernel_rfl) (fun _ _ _ h => h) (.inl ⟨by kernel_rfl, fun x_ hu => by kernel_rfl⟩) hG ?_
  simp only [Act.put, List.setIfInBounds_toArray, List.set_cons_zero, List.set_cons_succ, List.getElem_toArray, List.getElem_cons_zero, List.getElem_cons_succ]
  refine any_take (i := 5) (v := (.slice (some ⟨gq, 0, none⟩) n c5)) #[true, true, true, true, true, false, false, false, false, false, false, false, false, false, false, false, false, false, false, false, false, false] rfl (by kernel_rfl) (by kernel_rfl) (by kernel_rfl) (by kernel_rfl) (fun _ _ _ h => h) (.inl ⟨by kernel_rfl, fun x_ hu => exec_ad _ (.tmp 27) rfl w.heap.size (by kernel_rfl) K N (some ⟨gq, 0, none⟩) n c5 (unhide hus) (hu.blk (unhide hU))⟩) hG ?_
  simp only [Act.put, List.setIfInBounds_toArray, List.set_cons_zero, List.set_cons_succ, List.getElem_toArray, List.getElem_cons_zero, List.getElem_cons_succ]
  refine any_take (i := 6) (v := (.slice s3 m cap2)) #[true, true, true, true, true, true, false, false, false, false, false, false, false, false, false, false, false, false, false, false, false, false] rfl (by kernel_rfl) (by kernel_rfl) (by kernel_rfl) (by kernel_rfl) (fun _ _ _ h => h) (.inl ⟨by kernel_rfl, fun x_ hu => by kernel_rfl⟩) hG ?_
  simp only [Act.put, List.setIfInBounds_toArray, List.set_cons_zero, List.set_cons_succ, List.getElem_toArray, List.getElem_cons_zero, List.getElem_cons_succ]
  refine any_take (i := 7) (v := (.int .i64 e)) #[true, true, true, true, true, true, true, false, false, false, false, false, false, false, false, false, false, false, false, false, false, false] rfl (by kernel_rfl) (by kernel_rfl) (by kernel_rfl) (by kernel_rfl) (fun _ _ _ h => h) (.inl ⟨by kernel_rfl, fun x_ hu => by kernel_rfl⟩) hG ?_
  simp only [Act.put, List.setIfInBounds_toArray, List.set_cons_zero, List.set_cons_succ, List.getElem_toArray, List.getElem_cons_zero, List.getElem_cons_succ]
  refine any_take (i := 8) (v := (.slice s6 e cap2)) #[true, true, true, true, true, true, true, true, false, false, false, false, false, false, false, false, false, false, false, false, false, false] rfl (by kernel_rfl) (by kernel_rfl) (by kernel_rfl) (by kernel_rfl) (fun _ _ _ h => h) (.inl ⟨by kernel_rfl, fun x_ hu => by rw [unhide hs6]; exact exec_upto _ (.tmp 29) (.tmp 30) rfl s3 m cap2 e rfl rfl hcp hem⟩) hG ?_
  simp only [Act.put, List.setIfInBounds_toArray, List.set_cons_zero, List.set_cons_succ, List.getElem_toArray, List.getElem_cons_zero, List.getElem_cons_succ]
  refine any_take (i := 10) (v := (.pointer (some ⟨w.heap.size, 0, none⟩))) #[true, true, true, true, true, true, true, true, true, false, false, false, false, false, false, false, false, false, false, false, false, false] rfl (by kernel_rfl) (by kernel_rfl) (by kernel_rfl) (by kernel_rfl) (fun _ _ _ h => h) (.inl ⟨by kernel_rfl, fun x_ hu => by kernel_rfl⟩) hG ?_
  simp only [Act.put, List.setIfInBounds_toArray, List.set_cons_zero, List.set_cons_succ, List.getElem_toArray, List.getElem_cons_zero, List.getElem_cons_succ]
  refine any_take (i := 11) (v := (.agg (kc K))) #[true, true, true, true, true, true, true, true, true, false, true, false, false, false, false, false, false, false, false, false, false, false] rfl (by kernel_rfl) (by kernel_rfl) (by kernel_rfl) (by kernel_rfl) (fun _ _ _ h => h) (.inl ⟨by kernel_rfl, fun x_ hu => exec_key _ (.tmp 33) rfl w.heap.size (by kernel_rfl) K N (some ⟨gq, 0, none⟩) n c5 (unhide hus) (hu.blk (unhide hU))⟩) hG ?_
  simp only [Act.put, List.setIfInBounds_toArray, List.set_cons_zero, List.set_cons_succ, List.getElem_toArray, List.getElem_cons_zero, List.getElem_cons_succ]
  refine any_take (i := 12) (v := (.pointer (some ⟨w.heap.size, 32, none⟩))) #[true, true, true, true, true, true, true, true, true, false, true, true, false, false, false, false, false, false, false, false, false, false] rfl (by kernel_rfl) (by kernel_rfl) (by kernel_rfl) (by kernel_rfl) (fun _ _ _ h => h) (.inl ⟨by kernel_rfl, fun x_ hu => by kernel_rfl⟩) hG ?_
  simp only [Act.put, List.setIfInBounds_toArray, List.set_cons_zero, List.set_cons_succ, List.getElem_toArray, List.getElem_cons_zero, List.getElem_cons_succ]
  refine any_take (i := 13) (v := (.agg (kc N))) #[true, true, true, true, true, true, true, true, true, false, true, true, true, false, false, false, false, false, false, false, false, false] rfl (by kernel_rfl) (by kernel_rfl) (by kernel_rfl) (by kernel_rfl) (fun _ _ _ h => h) (.inl ⟨by kernel_rfl, fun x_ hu => exec_nonce _ (.tmp 35) rfl w.heap.size (by kernel_rfl) K N (some ⟨gq, 0, none⟩) n c5 (unhide hus) (hu.blk (unhide hU))⟩) hG ?_
  simp only [Act.put, List.setIfInBounds_toArray, List.set_cons_zero, List.set_cons_succ, List.getElem_toArray, List.getElem_cons_zero, List.getElem_cons_succ]
  refine any_take (i := 14) (v := (.pointer (some ⟨w.heap.size, 44, none⟩))) #[true, true, true, true, true, true, true, true, true, false, true, true, true, true, false, false, false, false, false, false, false, false] rfl (by kernel_rfl) (by kernel_rfl) (by kernel_rfl) (by kernel_rfl) (fun _ _ _ h => h) (.inl ⟨by kernel_rfl, fun x_ hu => by kernel_rfl⟩) hG ?_
  simp only [Act.put, List.setIfInBounds_toArray, List.set_cons_zero, List.set_cons_succ, List.getElem_toArray, List.getElem_cons_zero, List.getElem_cons_succ]
  refine any_take (i := 15) (v := (.slice (some ⟨gq, 0, none⟩) n c5)) #[true, true, true, true, true, true, true, true, true, false, true, true, true, true, true, false, false, false, false, false, false, false] rfl (by kernel_rfl) (by kernel_rfl) (by kernel_rfl) (by kernel_rfl) (fun _ _ _ h => h) (.inl ⟨by kernel_rfl, fun x_ hu => exec_ad _ (.tmp 37) rfl w.heap.size (by kernel_rfl) K N (some ⟨gq, 0, none⟩) n c5 (unhide hus) (hu.blk (unhide hU))⟩) hG ?_
  simp only [Act.put, List.setIfInBounds_toArray, List.set_cons_zero, List.set_cons_succ, List.getElem_toArray, List.getElem_cons_zero, List.getElem_cons_succ]
  refine any_take (i := 16) (v := (.slice s5 k cap4)) #[true, true, true, true, true, true, true, true, true, false, true, true, true, true, true, true, false, false, false, false, false, false] rfl (by kernel_rfl) (by kernel_rfl) (by kernel_rfl) (by kernel_rfl) (fun _ _ _ h => h) (.inl ⟨by kernel_rfl, fun x_ hu => by kernel_rfl⟩) hG ?_
  simp only [Act.put, List.setIfInBounds_toArray, List.set_cons_zero, List.set_cons_succ, List.getElem_toArray, List.getElem_cons_zero, List.getElem_cons_succ]
  refine any_take (i := 17) (v := (.int .i64 e)) #[true, true, true, true, true, true, true, true, true, false, true, true, true, true, true, true, true, false, false, false, false, false] rfl (by kernel_rfl) (by kernel_rfl) (by kernel_rfl) (by kernel_rfl) (fun _ _ _ h => h) (.inl ⟨by kernel_rfl, fun x_ hu => by kernel_rfl⟩) hG ?_
  simp only [Act.put, List.setIfInBounds_toArray, List.set_cons_zero, List.set_cons_succ, List.getElem_toArray, List.getElem_cons_zero, List.getElem_cons_succ]
  refine any_take (i := 18) (v := (.slice s7 e cap4)) #[true, true, true, true, true, true, true, true, true, false, true, true, true, true, true, true, true, true, false, false, false, false] rfl (by kernel_rfl) (by kernel_rfl) (by kernel_rfl) (by kernel_rfl) (fun _ _ _ h => h) (.inl ⟨by kernel_rfl, fun x_ hu => by rw [unhide hs7]; exact exec_upto _ (.tmp 39) (.tmp 40) rfl s5 k cap4 e rfl rfl hcq hek⟩) hG ?_
  simp only [Act.put, List.setIfInBounds_toArray, List.set_cons_zero, List.set_cons_succ, List.getElem_toArray, List.getElem_cons_zero, List.getElem_cons_succ]
  refine any_one (i := 9) (by kernel_rfl) rfl (fun K_ hQ => ?_)
  refine step_callw (by kernel_rfl) 10 #[.agg (kc K), .agg (kc N), .slice (some ⟨gq, 0, none⟩) n c5, .slice s6 e cap2] (by kernel_rfl) ((seal_ok K N (unhide hus).kl (unhide hus).nl (unhide hus).kb (unhide hus).nb A X _ s6 n e c5 cap2 (by omega) _ ((unhide lA).gr hG) ((unhide lx).gr hG)).mono ?_)
  rintro r x1 ⟨v1_, rfl, ob1, hg⟩
  refine ⟨_, rfl, ?_⟩
  replace hG := hG.trans hg
  obtain ⟨sx, cx, rfl, l1⟩ := ob1.lb (sealL_isB _ _ _ _)
  rw [sealL_len, unhide hXl, ← unhide hnb] at l1 ⊢
  clear hg ob1
  refine hQ.out _ _ hG (fun _ => ?_)
  clear hQ K_
  simp only [Act.put, List.setIfInBounds_toArray, List.set_cons_zero, List.set_cons_succ, List.getElem_toArray, List.getElem_cons_zero, List.getElem_cons_succ]
  refine any_one (i := 19) (by kernel_rfl) rfl (fun K_ hQ => ?_)
  refine step_callw (by kernel_rfl) 10 #[.agg (kc K), .agg (kc N), .slice (some ⟨gq, 0, none⟩) n c5, .slice s7 e cap4] (by kernel_rfl) ((seal_ok K N (unhide hus).kl (unhide hus).nl (unhide hus).kb (unhide hus).nb A Y _ s7 n e c5 cap4 (by omega) _ ((unhide lA).gr hG) ((unhide ly).gr hG)).mono ?_)
  rintro r x2 ⟨v2_, rfl, ob2, hg⟩
  refine ⟨_, rfl, ?_⟩
  replace hG := hG.trans hg
  replace l1 := l1.gr hg
  obtain ⟨sy, cy, rfl, l2⟩ := ob2.lb (sealL_isB _ _ _ _)
  rw [sealL_len, unhide hYl, ← unhide hnb] at l2 ⊢
  clear hg ob2
  refine hQ.out _ _ hG (fun _ => ?_)
  clear hQ K_
  simp only [Act.put, List.setIfInBounds_toArray, List.set_cons_zero, List.set_cons_succ, List.getElem_toArray, List.getElem_cons_zero, List.getElem_cons_succ]
  refine any_one (i := 20) (by kernel_rfl) rfl (fun K_ hQ => ?_)
  replace hQ := hide hQ
  go_simp
  refine (unhide hQ).out _ _ hG (fun _ => ?_)
  clear hQ K_
  refine any_one (i := 21) (by kernel_rfl) rfl (fun K_ hQ => ?_)
  replace hQ := hide hQ
  go_simp
  refine (unhide hQ).out _ _ hG (fun _ => ?_)
  clear hQ K_
  refine any_done (by kernel_rfl) ?_
  have hu := hus
  clear hus
  have hc1 := l1.cap
  have hc2 := l2.cap
  obtain ⟨s8, hs8⟩ : ∃ x, x = if cx = 0 then sx else sx.map (·.add 0) := ⟨_, rfl⟩
  obtain ⟨s9, hs9⟩ : ∃ x, x = if cy = 0 then sy else sy.map (·.add 0) := ⟨_, rfl⟩
  have l3 : Hid (Lb x2 s8 e cx (xl K N 1 X)) := by
    have h := l1.upto e hle
    have h2 := seal_take K N A X
    rw [unhide hXl] at h2
    rw [← hs8, h2] at h
    exact h
  have l4 : Hid (Lb x2 s9 e cy (xl K N 1 Y)) := by
    have h := l2.upto e hle
    have h2 := seal_take K N A Y
    rw [unhide hYl] at h2
    rw [← hs9, h2] at h
    exact h
  have hS1 : Hid ((sealL K N A X).length = nb) := l1.len
  have hS2 : Hid ((sealL K N A Y).length = nb) := l2.len
  have hx1 : Hid ((xl K N 1 X).length = e) := (unhide l3).len
  have hx2 : Hid ((xl K N 1 Y).length = e) := (unhide l4).len
  replace hs8 := hide hs8; replace hs9 := hide hs9; replace l1 := hide l1; replace l2 := hide l2
  by_cases hXY : X = Y
  · subst hXY
    replace hG := hide hG
    go_upto_region 6 with fail
    replace hG := unhide hG
    refine any_start (S := fun v_ => Gr v3 v_) (by kernel_rfl) ?_
    replace hG := hG.drew
    have hGx := (Gr.refl x2).drew
    generalize World.drew _ = x3 at *
    simp only [List.size_toArray, List.length_cons, List.length_nil, Array.replicate, List.replicate]
    refine any_take (i := 0) (v := (.slice sx nb cx)) #[false, false, false, false, false, false, false, false, false, false, false, false, false, false, false, false, false, false, false, false, false, false, false, false, false, false, false, false, false] rfl (by kernel_rfl) (by kernel_rfl) (by kernel_rfl) (by kernel_rfl) (fun _ _ _ h => h) (.inl ⟨by kernel_rfl, fun x_ hu => by kernel_rfl⟩) hG ?_
    simp only [Act.put, List.setIfInBounds_toArray, List.set_cons_zero, List.set_cons_succ, List.getElem_toArray, List.getElem_cons_zero, List.getElem_cons_succ]
    refine any_take (i := 1) (v := (.slice sy nb cy)) #[true, false, false, false, false, false, false, false, false, false, false, false, false, false, false, false, false, false, false, false, false, false, false, false, false, false, false, false, false] rfl (by kernel_rfl) (by kernel_rfl) (by kernel_rfl) (by kernel_rfl) (fun _ _ _ h => h) (.inl ⟨by kernel_rfl, fun x_ hu => by kernel_rfl⟩) hG ?_
    simp only [Act.put, List.setIfInBounds_toArray, List.set_cons_zero, List.set_cons_succ, List.getElem_toArray, List.getElem_cons_zero, List.getElem_cons_succ]
    refine any_take (i := 3) (v := (.slice s3 m cap2)) #[true, true, false, false, false, false, false, false, false, false, false, false, false, false, false, false, false, false, false, false, false, false, false, false, false, false, false, false, false] rfl (by kernel_rfl) (by kernel_rfl) (by kernel_rfl) (by kernel_rfl) (fun _ _ _ h => h) (.inl ⟨by kernel_rfl, fun x_ hu => by kernel_rfl⟩) hG ?_
    simp only [Act.put, List.setIfInBounds_toArray, List.set_cons_zero, List.set_cons_succ, List.getElem_toArray, List.getElem_cons_zero, List.getElem_cons_succ]
    refine any_take (i := 4) (v := (.int .i64 e)) #[true, true, false, true, false, false, false, false, false, false, false, false, false, false, false, false, false, false, false, false, false, false, false, false, false, false, false, false, false] rfl (by kernel_rfl) (by kernel_rfl) (by kernel_rfl) (by kernel_rfl) (fun _ _ _ h => h) (.inl ⟨by kernel_rfl, fun x_ hu => by kernel_rfl⟩) hG ?_
    simp only [Act.put, List.setIfInBounds_toArray, List.set_cons_zero, List.set_cons_succ, List.getElem_toArray, List.getElem_cons_zero, List.getElem_cons_succ]
    refine any_take (i := 5) (v := (.slice s6 e cap2)) #[true, true, false, true, true, false, false, false, false, false, false, false, false, false, false, false, false, false, false, false, false, false, false, false, false, false, false, false, false] rfl (by kernel_rfl) (by kernel_rfl) (by kernel_rfl) (by kernel_rfl) (fun _ _ _ h => h) (.inl ⟨by kernel_rfl, fun x_ hu => by rw [unhide hs6]; exact exec_upto _ (.tmp 46) (.tmp 47) rfl s3 m cap2 e rfl rfl hcp hem⟩) hG ?_
    simp only [Act.put, List.setIfInBounds_toArray, List.set_cons_zero, List.set_cons_succ, List.getElem_toArray, List.getElem_cons_zero, List.getElem_cons_succ]
    refine any_take (i := 6) (v := (.slice s5 k cap4)) #[true, true, false, true, true, true, false, false, false, false, false, false, false, false, false, false, false, false, false, false, false, false, false, false, false, false, false, false, false] rfl (by kernel_rfl) (by kernel_rfl) (by kernel_rfl) (by kernel_rfl) (fun _ _ _ h => h) (.inl ⟨by kernel_rfl, fun x_ hu => by kernel_rfl⟩) hG ?_
    simp only [Act.put, List.setIfInBounds_toArray, List.set_cons_zero, List.set_cons_succ, List.getElem_toArray, List.getElem_cons_zero, List.getElem_cons_succ]
    refine any_take (i := 7) (v := (.int .i64 e)) #[true, true, false, true, true, true, true, false, false, false, false, false, false, false, false, false, false, false, false, false, false, false, false, false, false, false, false, false, false] rfl (by kernel_rfl) (by kernel_rfl) (by kernel_rfl) (by kernel_rfl) (fun _ _ _ h => h) (.inl ⟨by kernel_rfl, fun x_ hu => by kernel_rfl⟩) hG ?_
    simp only [Act.put, List.setIfInBounds_toArray, List.set_cons_zero, List.set_cons_succ, List.getElem_toArray, List.getElem_cons_zero, List.getElem_cons_succ]
    refine any_take (i := 8) (v := (.slice s7 e cap4)) #[true, true, false, true, true, true, true, true, false, false, false, false, false, false, false, false, false, false, false, false, false, false, false, false, false, false, false, false, false] rfl (by kernel_rfl) (by kernel_rfl) (by kernel_rfl) (by kernel_rfl) (fun _ _ _ h => h) (.inl ⟨by kernel_rfl, fun x_ hu => by rw [unhide hs7]; exact exec_upto _ (.tmp 49) (.tmp 50) rfl s5 k cap4 e rfl rfl hcq hek⟩) hG ?_
    simp only [Act.put, List.setIfInBounds_toArray, List.set_cons_zero, List.set_cons_succ, List.getElem_toArray, List.getElem_cons_zero, List.getElem_cons_succ]
    refine any_one (i := 2) (by kernel_rfl) rfl (fun K_ hQ => ?_)
    refine step_callw (by kernel_rfl) 9 #[.slice sx nb cx, .slice sy nb cy] (by kernel_rfl) ((equal_same (sealL K N A X) _ _ nb cx cy (unhide hS1) _ ((unhide l1).gr hGx).sl ((unhide l2).gr hGx).sl).mono ?_)
    rintro r y1 ⟨rfl, hy⟩
    refine ⟨_, rfl, ?_⟩
    replace hy := hy.symm
    subst hy
    refine hQ.out _ _ hG (fun _ => ?_)
    clear hQ K_
    simp only [Act.put, List.setIfInBounds_toArray, List.set_cons_zero, List.set_cons_succ, List.getElem_toArray, List.getElem_cons_zero, List.getElem_cons_succ]
    refine any_one (i := 9) (by kernel_rfl) rfl (fun K_ hQ => ?_)
    refine step_callw (by kernel_rfl) 9 #[.slice s6 e cap2, .slice s7 e cap4] (by kernel_rfl) ((equal_same X _ _ e cap2 cap4 (unhide hXl) _ ((unhide lx).gr hG).sl ((unhide ly).gr hG).sl).mono ?_)
    rintro r y2 ⟨rfl, hy⟩
    refine ⟨_, rfl, ?_⟩
    replace hy := hy.symm
    subst hy
    refine hQ.out _ _ hG (fun _ => ?_)
    clear hQ K_
    simp only [Act.put, List.setIfInBounds_toArray, List.set_cons_zero, List.set_cons_succ, List.getElem_toArray, List.getElem_cons_zero, List.getElem_cons_succ]
    refine any_take (i := 10) (v := (.bool true)) #[true, true, true, true, true, true, true, true, true, true, false, false, false, false, false, false, false, false, false, false, false, false, false, false, false, false, false, false, false] rfl (by kernel_rfl) (by kernel_rfl) (by kernel_rfl) (by kernel_rfl) (fun _ _ _ h => h) (.inl ⟨by kernel_rfl, fun x_ hu => by kernel_rfl⟩) hG ?_
    simp only [Act.put, List.setIfInBounds_toArray, List.set_cons_zero, List.set_cons_succ, List.getElem_toArray, List.getElem_cons_zero, List.getElem_cons_succ]
    refine any_take (i := 11) (v := (.bool true)) #[true, true, true, true, true, true, true, true, true, true, true, false, false, false, false, false, false, false, false, false, false, false, false, false, false, false, false, false, false] rfl (by kernel_rfl) (by kernel_rfl) (by kernel_rfl) (by kernel_rfl) (fun _ _ _ h => h) (.inl ⟨by kernel_rfl, fun x_ hu => by kernel_rfl⟩) hG ?_
    simp only [Act.put, List.setIfInBounds_toArray, List.set_cons_zero, List.set_cons_succ, List.getElem_toArray, List.getElem_cons_zero, List.getElem_cons_succ]
    refine any_take (i := 12) (v := (.slice sx nb cx)) #[true, true, true, true, true, true, true, true, true, true, true, true, false, false, false, false, false, false, false, false, false, false, false, false, false, false, false, false, false] rfl (by kernel_rfl) (by kernel_rfl) (by kernel_rfl) (by kernel_rfl) (fun _ _ _ h => h) (.inl ⟨by kernel_rfl, fun x_ hu => by kernel_rfl⟩) hG ?_
    simp only [Act.put, List.setIfInBounds_toArray, List.set_cons_zero, List.set_cons_succ, List.getElem_toArray, List.getElem_cons_zero, List.getElem_cons_succ]
    refine any_take (i := 13) (v := (.int .i64 e)) #[true, true, true, true, true, true, true, true, true, true, true, true, true, false, false, false, false, false, false, false, false, false, false, false, false, false, false, false, false] rfl (by kernel_rfl) (by kernel_rfl) (by kernel_rfl) (by kernel_rfl) (fun _ _ _ h => h) (.inl ⟨by kernel_rfl, fun x_ hu => by kernel_rfl⟩) hG ?_
    simp only [Act.put, List.setIfInBounds_toArray, List.set_cons_zero, List.set_cons_succ, List.getElem_toArray, List.getElem_cons_zero, List.getElem_cons_succ]
    refine any_take (i := 14) (v := (.slice s8 e cx)) #[true, true, true, true, true, true, true, true, true, true, true, true, true, true, false, false, false, false, false, false, false, false, false, false, false, false, false, false, false] rfl (by kernel_rfl) (by kernel_rfl) (by kernel_rfl) (by kernel_rfl) (fun _ _ _ h => h) (.inl ⟨by kernel_rfl, fun x_ hu => by rw [unhide hs8]; exact exec_upto _ (.tmp 55) (.tmp 56) rfl sx nb cx e rfl rfl hc1 hle⟩) hG ?_
    simp only [Act.put, List.setIfInBounds_toArray, List.set_cons_zero, List.set_cons_succ, List.getElem_toArray, List.getElem_cons_zero, List.getElem_cons_succ]
    refine any_take (i := 15) (v := (.slice sy nb cy)) #[true, true, true, true, true, true, true, true, true, true, true, true, true, true, true, false, false, false, false, false, false, false, false, false, false, false, false, false, false] rfl (by kernel_rfl) (by kernel_rfl) (by kernel_rfl) (by kernel_rfl) (fun _ _ _ h => h) (.inl ⟨by kernel_rfl, fun x_ hu => by kernel_rfl⟩) hG ?_
    simp only [Act.put, List.setIfInBounds_toArray, List.set_cons_zero, List.set_cons_succ, List.getElem_toArray, List.getElem_cons_zero, List.getElem_cons_succ]
    refine any_take (i := 16) (v := (.int .i64 e)) #[true, true, true, true, true, true, true, true, true, true, true, true, true, true, true, true, false, false, false, false, false, false, false, false, false, false, false, false, false] rfl (by kernel_rfl) (by kernel_rfl) (by kernel_rfl) (by kernel_rfl) (fun _ _ _ h => h) (.inl ⟨by kernel_rfl, fun x_ hu => by kernel_rfl⟩) hG ?_
    simp only [Act.put, List.setIfInBounds_toArray, List.set_cons_zero, List.set_cons_succ, List.getElem_toArray, List.getElem_cons_zero, List.getElem_cons_succ]
    refine any_take (i := 17) (v := (.slice s9 e cy)) #[true, true, true, true, true, true, true, true, true, true, true, true, true, true, true, true, true, false, false, false, false, false, false, false, false, false, false, false, false] rfl (by kernel_rfl) (by kernel_rfl) (by kernel_rfl) (by kernel_rfl) (fun _ _ _ h => h) (.inl ⟨by kernel_rfl, fun x_ hu => by rw [unhide hs9]; exact exec_upto _ (.tmp 58) (.tmp 59) rfl sy nb cy e rfl rfl hc2 hle⟩) hG ?_
    simp only [Act.put, List.setIfInBounds_toArray, List.set_cons_zero, List.set_cons_succ, List.getElem_toArray, List.getElem_cons_zero, List.getElem_cons_succ]
    refine any_take (i := 19) (v := (.slice s3 m cap2)) #[true, true, true, true, true, true, true, true, true, true, true, true, true, true, true, true, true, true, false, false, false, false, false, false, false, false, false, false, false] rfl (by kernel_rfl) (by kernel_rfl) (by kernel_rfl) (by kernel_rfl) (fun _ _ _ h => h) (.inl ⟨by kernel_rfl, fun x_ hu => by kernel_rfl⟩) hG ?_
    simp only [Act.put, List.setIfInBounds_toArray, List.set_cons_zero, List.set_cons_succ, List.getElem_toArray, List.getElem_cons_zero, List.getElem_cons_succ]
    refine any_take (i := 20) (v := (.int .i64 e)) #[true, true, true, true, true, true, true, true, true, true, true, true, true, true, true, true, true, true, false, true, false, false, false, false, false, false, false, false, false] rfl (by kernel_rfl) (by kernel_rfl) (by kernel_rfl) (by kernel_rfl) (fun _ _ _ h => h) (.inl ⟨by kernel_rfl, fun x_ hu => by kernel_rfl⟩) hG ?_
    simp only [Act.put, List.setIfInBounds_toArray, List.set_cons_zero, List.set_cons_succ, List.getElem_toArray, List.getElem_cons_zero, List.getElem_cons_succ]
    refine any_take (i := 21) (v := (.slice s6 e cap2)) #[true, true, true, true, true, true, true, true, true, true, true, true, true, true, true, true, true, true, false, true, true, false, false, false, false, false, false, false, false] rfl (by kernel_rfl) (by kernel_rfl) (by kernel_rfl) (by kernel_rfl) (fun _ _ _ h => h) (.inl ⟨by kernel_rfl, fun x_ hu => by rw [unhide hs6]; exact exec_upto _ (.tmp 62) (.tmp 63) rfl s3 m cap2 e rfl rfl hcp hem⟩) hG ?_
    simp only [Act.put, List.setIfInBounds_toArray, List.set_cons_zero, List.set_cons_succ, List.getElem_toArray, List.getElem_cons_zero, List.getElem_cons_succ]
    refine any_take (i := 22) (v := (.slice s5 k cap4)) #[true, true, true, true, true, true, true, true, true, true, true, true, true, true, true, true, true, true, false, true, true, true, false, false, false, false, false, false, false] rfl (by kernel_rfl) (by kernel_rfl) (by kernel_rfl) (by kernel_rfl) (fun _ _ _ h => h) (.inl ⟨by kernel_rfl, fun x_ hu => by kernel_rfl⟩) hG ?_
    simp only [Act.put, List.setIfInBounds_toArray, List.set_cons_zero, List.set_cons_succ, List.getElem_toArray, List.getElem_cons_zero, List.getElem_cons_succ]
    refine any_take (i := 23) (v := (.int .i64 e)) #[true, true, true, true, true, true, true, true, true, true, true, true, true, true, true, true, true, true, false, true, true, true, true, false, false, false, false, false, false] rfl (by kernel_rfl) (by kernel_rfl) (by kernel_rfl) (by kernel_rfl) (fun _ _ _ h => h) (.inl ⟨by kernel_rfl, fun x_ hu => by kernel_rfl⟩) hG ?_
    simp only [Act.put, List.setIfInBounds_toArray, List.set_cons_zero, List.set_cons_succ, List.getElem_toArray, List.getElem_cons_zero, List.getElem_cons_succ]
    refine any_take (i := 24) (v := (.slice s7 e cap4)) #[true, true, true, true, true, true, true, true, true, true, true, true, true, true, true, true, true, true, false, true, true, true, true, true, false, false, false, false, false] rfl (by kernel_rfl) (by kernel_rfl) (by kernel_rfl) (by kernel_rfl) (fun _ _ _ h => h) (.inl ⟨by kernel_rfl, fun x_ hu => by rw [unhide hs7]; exact exec_upto _ (.tmp 65) (.tmp 66) rfl s5 k cap4 e rfl rfl hcq hek⟩) hG ?_
    simp only [Act.put, List.setIfInBounds_toArray, List.set_cons_zero, List.set_cons_succ, List.getElem_toArray, List.getElem_cons_zero, List.getElem_cons_succ]
    refine any_one (i := 18) (by kernel_rfl) rfl (fun K_ hQ => ?_)
    refine step_callw (by kernel_rfl) 9 #[.slice s8 e cx, .slice s9 e cy] (by kernel_rfl) ((equal_same (xl K N 1 X) _ _ e cx cy (unhide hx1) _ ((unhide l3).gr hGx).sl ((unhide l4).gr hGx).sl).mono ?_)
    rintro r y3 ⟨rfl, hy⟩
    refine ⟨_, rfl, ?_⟩
    replace hy := hy.symm
    subst hy
    refine hQ.out _ _ hG (fun _ => ?_)
    clear hQ K_
    simp only [Act.put, List.setIfInBounds_toArray, List.set_cons_zero, List.set_cons_succ, List.getElem_toArray, List.getElem_cons_zero, List.getElem_cons_succ]
    refine any_one (i := 25) (by kernel_rfl) rfl (fun K_ hQ => ?_)
    refine step_callw (by kernel_rfl) 9 #[.slice s6 e cap2, .slice s7 e cap4] (by kernel_rfl) ((equal_same X _ _ e cap2 cap4 (unhide hXl) _ ((unhide lx).gr hG).sl ((unhide ly).gr hG).sl).mono ?_)
    rintro r y4 ⟨rfl, hy⟩
    refine ⟨_, rfl, ?_⟩
    replace hy := hy.symm
    subst hy
    refine hQ.out _ _ hG (fun _ => ?_)
    clear hQ K_
    simp only [Act.put, List.setIfInBounds_toArray, List.set_cons_zero, List.set_cons_succ, List.getElem_toArray, List.getElem_cons_zero, List.getElem_cons_succ]
    refine any_take (i := 26) (v := (.bool true)) #[true, true, true, true, true, true, true, true, true, true, true, true, true, true, true, true, true, true, true, true, true, true, true, true, true, true, false, false, false] rfl (by kernel_rfl) (by kernel_rfl) (by kernel_rfl) (by kernel_rfl) (fun _ _ _ h => h) (.inl ⟨by kernel_rfl, fun x_ hu => by kernel_rfl⟩) hG ?_
    simp only [Act.put, List.setIfInBounds_toArray, List.set_cons_zero, List.set_cons_succ, List.getElem_toArray, List.getElem_cons_zero, List.getElem_cons_succ]
    refine any_take (i := 27) (v := (.bool true)) #[true, true, true, true, true, true, true, true, true, true, true, true, true, true, true, true, true, true, true, true, true, true, true, true, true, true, true, false, false] rfl (by kernel_rfl) (by kernel_rfl) (by kernel_rfl) (by kernel_rfl) (fun _ _ _ h => h) (.inl ⟨by kernel_rfl, fun x_ hu => by kernel_rfl⟩) hG ?_
    simp only [Act.put, List.setIfInBounds_toArray, List.set_cons_zero, List.set_cons_succ, List.getElem_toArray, List.getElem_cons_zero, List.getElem_cons_succ]
    refine any_one (i := 28) (by kernel_rfl) rfl (fun K_ hQ => ?_)
    replace hQ := hide hQ
    go_simp
    refine (unhide hQ).out _ _ hG (fun _ => ?_)
    clear hQ K_
    refine any_done (by kernel_rfl) ?_
    clear hU hGx
    have hF : Hid (Gr w _) := (unhide hGw).trans hG
    clear hG hGw
    go_wp2_with fail
    rw [unhide hT]
    exact ⟨rfl, unhide hF⟩
  · have hne1 : sealL K N A X ≠ sealL K N A Y := fun h => hXY (seal_inj K N A (unhide hXb) (unhide hYb) ((unhide hXl).trans (unhide hYl).symm) h)
    have hne2 : xl K N 1 X ≠ xl K N 1 Y := fun h => hXY (xl_inj K N 1 (unhide hXb) (unhide hYb) h)
    replace hne1 := hide hne1; replace hne2 := hide hne2; replace hXY := hide hXY
    replace hG := hide hG
    go_upto_region 6 with fail
    replace hG := unhide hG
    refine any_start (S := fun v_ => Gr v3 v_) (by kernel_rfl) ?_
    replace hG := hG.drew
    have hGx := (Gr.refl x2).drew
    generalize World.drew _ = x3 at *
    simp only [List.size_toArray, List.length_cons, List.length_nil, Array.replicate, List.replicate]
    refine any_take (i := 0) (v := (.slice sx nb cx)) #[false, false, false, false, false, false, false, false, false, false, false, false, false, false, false, false, false, false, false, false, false, false, false, false, false, false, false, false, false] rfl (by kernel_rfl) (by kernel_rfl) (by kernel_rfl) (by kernel_rfl) (fun _ _ _ h => h) (.inl ⟨by kernel_rfl, fun x_ hu => by kernel_rfl⟩) hG ?_
    simp only [Act.put, List.setIfInBounds_toArray, List.set_cons_zero, List.set_cons_succ, List.getElem_toArray, List.getElem_cons_zero, List.getElem_cons_succ]
    refine any_take (i := 1) (v := (.slice sy nb cy)) #[true, false, false, false, false, false, false, false, false, false, false, false, false, false, false, false, false, false, false, false, false, false, false, false, false, false, false, false, false] rfl (by kernel_rfl) (by kernel_rfl) (by kernel_rfl) (by kernel_rfl) (fun _ _ _ h => h) (.inl ⟨by kernel_rfl, fun x_ hu => by kernel_rfl⟩) hG ?_
    simp only [Act.put, List.setIfInBounds_toArray, List.set_cons_zero, List.set_cons_succ, List.getElem_toArray, List.getElem_cons_zero, List.getElem_cons_succ]
    refine any_take (i := 3) (v := (.slice s3 m cap2)) #[true, true, false, false, false, false, false, false, false, false, false, false, false, false, false, false, false, false, false, false, false, false, false, false, false, false, false, false, false] rfl (by kernel_rfl) (by kernel_rfl) (by kernel_rfl) (by kernel_rfl) (fun _ _ _ h => h) (.inl ⟨by kernel_rfl, fun x_ hu => by kernel_rfl⟩) hG ?_
    simp only [Act.put, List.setIfInBounds_toArray, List.set_cons_zero, List.set_cons_succ, List.getElem_toArray, List.getElem_cons_zero, List.getElem_cons_succ]
    refine any_take (i := 4) (v := (.int .i64 e)) #[true, true, false, true, false, false, false, false, false, false, false, false, false, false, false, false, false, false, false, false, false, false, false, false, false, false, false, false, false] rfl (by kernel_rfl) (by kernel_rfl) (by kernel_rfl) (by kernel_rfl) (fun _ _ _ h => h) (.inl ⟨by kernel_rfl, fun x_ hu => by kernel_rfl⟩) hG ?_
    simp only [Act.put, List.setIfInBounds_toArray, List.set_cons_zero, List.set_cons_succ, List.getElem_toArray, List.getElem_cons_zero, List.getElem_cons_succ]
    refine any_take (i := 5) (v := (.slice s6 e cap2)) #[true, true, false, true, true, false, false, false, false, false, false, false, false, false, false, false, false, false, false, false, false, false, false, false, false, false, false, false, false] rfl (by kernel_rfl) (by kernel_rfl) (by kernel_rfl) (by kernel_rfl) (fun _ _ _ h => h) (.inl ⟨by kernel_rfl, fun x_ hu => by rw [unhide hs6]; exact exec_upto _ (.tmp 46) (.tmp 47) rfl s3 m cap2 e rfl rfl hcp hem⟩) hG ?_
    simp only [Act.put, List.setIfInBounds_toArray, List.set_cons_zero, List.set_cons_succ, List.getElem_toArray, List.getElem_cons_zero, List.getElem_cons_succ]
    refine any_take (i := 6) (v := (.slice s5 k cap4)) #[true, true, false, true, true, true, false, false, false, false, false, false, false, false, false, false, false, false, false, false, false, false, false, false, false, false, false, false, false] rfl (by kernel_rfl) (by kernel_rfl) (by kernel_rfl) (by kernel_rfl) (fun _ _ _ h => h) (.inl ⟨by kernel_rfl, fun x_ hu => by kernel_rfl⟩) hG ?_
    simp only [Act.put, List.setIfInBounds_toArray, List.set_cons_zero, List.set_cons_succ, List.getElem_toArray, List.getElem_cons_zero, List.getElem_cons_succ]
    refine any_take (i := 7) (v := (.int .i64 e)) #[true, true, false, true, true, true, true, false, false, false, false, false, false, false, false, false, false, false, false, false, false, false, false, false, false, false, false, false, false] rfl (by kernel_rfl) (by kernel_rfl) (by kernel_rfl) (by kernel_rfl) (fun _ _ _ h => h) (.inl ⟨by kernel_rfl, fun x_ hu => by kernel_rfl⟩) hG ?_
    simp only [Act.put, List.setIfInBounds_toArray, List.set_cons_zero, List.set_cons_succ, List.getElem_toArray, List.getElem_cons_zero, List.getElem_cons_succ]
    refine any_take (i := 8) (v := (.slice s7 e cap4)) #[true, true, false, true, true, true, true, true, false, false, false, false, false, false, false, false, false, false, false, false, false, false, false, false, false, false, false, false, false] rfl (by kernel_rfl) (by kernel_rfl) (by kernel_rfl) (by kernel_rfl) (fun _ _ _ h => h) (.inl ⟨by kernel_rfl, fun x_ hu => by rw [unhide hs7]; exact exec_upto _ (.tmp 49) (.tmp 50) rfl s5 k cap4 e rfl rfl hcq hek⟩) hG ?_
    simp only [Act.put, List.setIfInBounds_toArray, List.set_cons_zero, List.set_cons_succ, List.getElem_toArray, List.getElem_cons_zero, List.getElem_cons_succ]
    refine any_one (i := 2) (by kernel_rfl) rfl (fun K_ hQ => ?_)
    refine step_callw (by kernel_rfl) 9 #[.slice sx nb cx, .slice sy nb cy] (by kernel_rfl) ((equal_not (sealL K N A X) (sealL K N A Y) _ _ nb nb cx cy (unhide hS1) (unhide hS2) ((unhide l1).gr hGx).isB ((unhide l2).gr hGx).isB (unhide hne1) _ ((unhide l1).gr hGx).sl ((unhide l2).gr hGx).sl).mono ?_)
    rintro r y1 ⟨rfl, hy⟩
    refine ⟨_, rfl, ?_⟩
    replace hy := hy.symm
    subst hy
    refine hQ.out _ _ hG (fun _ => ?_)
    clear hQ K_
    simp only [Act.put, List.setIfInBounds_toArray, List.set_cons_zero, List.set_cons_succ, List.getElem_toArray, List.getElem_cons_zero, List.getElem_cons_succ]
    refine any_one (i := 9) (by kernel_rfl) rfl (fun K_ hQ => ?_)
    refine step_callw (by kernel_rfl) 9 #[.slice s6 e cap2, .slice s7 e cap4] (by kernel_rfl) ((equal_not X Y _ _ e e cap2 cap4 (unhide hXl) (unhide hYl) ((unhide lx).gr hG).isB ((unhide ly).gr hG).isB (unhide hXY) _ ((unhide lx).gr hG).sl ((unhide ly).gr hG).sl).mono ?_)
    rintro r y2 ⟨rfl, hy⟩
    refine ⟨_, rfl, ?_⟩
    replace hy := hy.symm
    subst hy
    refine hQ.out _ _ hG (fun _ => ?_)
    clear hQ K_
    simp only [Act.put, List.setIfInBounds_toArray, List.set_cons_zero, List.set_cons_succ, List.getElem_toArray, List.getElem_cons_zero, List.getElem_cons_succ]
    refine any_take (i := 10) (v := (.bool true)) #[true, true, true, true, true, true, true, true, true, true, false, false, false, false, false, false, false, false, false, false, false, false, false, false, false, false, false, false, false] rfl (by kernel_rfl) (by kernel_rfl) (by kernel_rfl) (by kernel_rfl) (fun _ _ _ h => h) (.inl ⟨by kernel_rfl, fun x_ hu => by kernel_rfl⟩) hG ?_
    simp only [Act.put, List.setIfInBounds_toArray, List.set_cons_zero, List.set_cons_succ, List.getElem_toArray, List.getElem_cons_zero, List.getElem_cons_succ]
    refine any_take (i := 11) (v := (.bool true)) #[true, true, true, true, true, true, true, true, true, true, true, false, false, false, false, false, false, false, false, false, false, false, false, false, false, false, false, false, false] rfl (by kernel_rfl) (by kernel_rfl) (by kernel_rfl) (by kernel_rfl) (fun _ _ _ h => h) (.inl ⟨by kernel_rfl, fun x_ hu => by kernel_rfl⟩) hG ?_
    simp only [Act.put, List.setIfInBounds_toArray, List.set_cons_zero, List.set_cons_succ, List.getElem_toArray, List.getElem_cons_zero, List.getElem_cons_succ]
    refine any_take (i := 12) (v := (.slice sx nb cx)) #[true, true, true, true, true, true, true, true, true, true, true, true, false, false, false, false, false, false, false, false, false, false, false, false, false, false, false, false, false] rfl (by kernel_rfl) (by kernel_rfl) (by kernel_rfl) (by kernel_rfl) (fun _ _ _ h => h) (.inl ⟨by kernel_rfl, fun x_ hu => by kernel_rfl⟩) hG ?_
    simp only [Act.put, List.setIfInBounds_toArray, List.set_cons_zero, List.set_cons_succ, List.getElem_toArray, List.getElem_cons_zero, List.getElem_cons_succ]
    refine any_take (i := 13) (v := (.int .i64 e)) #[true, true, true, true, true, true, true, true, true, true, true, true, true, false, false, false, false, false, false, false, false, false, false, false, false, false, false, false, false] rfl (by kernel_rfl) (by kernel_rfl) (by kernel_rfl) (by kernel_rfl) (fun _ _ _ h => h) (.inl ⟨by kernel_rfl, fun x_ hu => by kernel_rfl⟩) hG ?_
    simp only [Act.put, List.setIfInBounds_toArray, List.set_cons_zero, List.set_cons_succ, List.getElem_toArray, List.getElem_cons_zero, List.getElem_cons_succ]
    refine any_take (i := 14) (v := (.slice s8 e cx)) #[true, true, true, true, true, true, true, true, true, true, true, true, true, true, false, false, false, false, false, false, false, false, false, false, false, false, false, false, false] rfl (by kernel_rfl) (by kernel_rfl) (by kernel_rfl) (by kernel_rfl) (fun _ _ _ h => h) (.inl ⟨by kernel_rfl, fun x_ hu => by rw [unhide hs8]; exact exec_upto _ (.tmp 55) (.tmp 56) rfl sx nb cx e rfl rfl hc1 hle⟩) hG ?_
    simp only [Act.put, List.setIfInBounds_toArray, List.set_cons_zero, List.set_cons_succ, List.getElem_toArray, List.getElem_cons_zero, List.getElem_cons_succ]
    refine any_take (i := 15) (v := (.slice sy nb cy)) #[true, true, true, true, true, true, true, true, true, true, true, true, true, true, true, false, false, false, false, false, false, false, false, false, false, false, false, false, false] rfl (by kernel_rfl) (by kernel_rfl) (by kernel_rfl) (by kernel_rfl) (fun _ _ _ h => h) (.inl ⟨by kernel_rfl, fun x_ hu => by kernel_rfl⟩) hG ?_
    simp only [Act.put, List.setIfInBounds_toArray, List.set_cons_zero, List.set_cons_succ, List.getElem_toArray, List.getElem_cons_zero, List.getElem_cons_succ]
    refine any_take (i := 16) (v := (.int .i64 e)) #[true, true, true, true, true, true, true, true, true, true, true, true, true, true, true, true, false, false, false, false, false, false, false, false, false, false, false, false, false] rfl (by kernel_rfl) (by kernel_rfl) (by kernel_rfl) (by kernel_rfl) (fun _ _ _ h => h) (.inl ⟨by kernel_rfl, fun x_ hu => by kernel_rfl⟩) hG ?_
    simp only [Act.put, List.setIfInBounds_toArray, List.set_cons_zero, List.set_cons_succ, List.getElem_toArray, List.getElem_cons_zero, List.getElem_cons_succ]
    refine any_take (i := 17) (v := (.slice s9 e cy)) #[true, true, true, true, true, true, true, true, true, true, true, true, true, true, true, true, true, false, false, false, false, false, false, false, false, false, false, false, false] rfl (by kernel_rfl) (by kernel_rfl) (by kernel_rfl) (by kernel_rfl) (fun _ _ _ h => h) (.inl ⟨by kernel_rfl, fun x_ hu => by rw [unhide hs9]; exact exec_upto _ (.tmp 58) (.tmp 59) rfl sy nb cy e rfl rfl hc2 hle⟩) hG ?_
    simp only [Act.put, List.setIfInBounds_toArray, List.set_cons_zero, List.set_cons_succ, List.getElem_toArray, List.getElem_cons_zero, List.getElem_cons_succ]
    refine any_take (i := 19) (v := (.slice s3 m cap2)) #[true, true, true, true, true, true, true, true, true, true, true, true, true, true, true, true, true, true, false, false, false, false, false, false, false, false, false, false, false] rfl (by kernel_rfl) (by kernel_rfl) (by kernel_rfl) (by kernel_rfl) (fun _ _ _ h => h) (.inl ⟨by kernel_rfl, fun x_ hu => by kernel_rfl⟩) hG ?_
    simp only [Act.put, List.setIfInBounds_toArray, List.set_cons_zero, List.set_cons_succ, List.getElem_toArray, List.getElem_cons_zero, List.getElem_cons_succ]
    refine any_take (i := 20) (v := (.int .i64 e)) #[true, true, true, true, true, true, true, true, true, true, true, true, true, true, true, true, true, true, false, true, false, false, false, false, false, false, false, false, false] rfl (by kernel_rfl) (by kernel_rfl) (by kernel_rfl) (by kernel_rfl) (fun _ _ _ h => h) (.inl ⟨by kernel_rfl, fun x_ hu => by kernel_rfl⟩) hG ?_
    simp only [Act.put, List.setIfInBounds_toArray, List.set_cons_zero, List.set_cons_succ, List.getElem_toArray, List.getElem_cons_zero, List.getElem_cons_succ]
    refine any_take (i := 21) (v := (.slice s6 e cap2)) #[true, true, true, true, true, true, true, true, true, true, true, true, true, true, true, true, true, true, false, true, true, false, false, false, false, false, false, false, false] rfl (by kernel_rfl) (by kernel_rfl) (by kernel_rfl) (by kernel_rfl) (fun _ _ _ h => h) (.inl ⟨by kernel_rfl, fun x_ hu => by rw [unhide hs6]; exact exec_upto _ (.tmp 62) (.tmp 63) rfl s3 m cap2 e rfl rfl hcp hem⟩) hG ?_
    simp only [Act.put, List.setIfInBounds_toArray, List.set_cons_zero, List.set_cons_succ, List.getElem_toArray, List.getElem_cons_zero, List.getElem_cons_succ]
    refine any_take (i := 22) (v := (.slice s5 k cap4)) #[true, true, true, true, true, true, true, true, true, true, true, true, true, true, true, true, true, true, false, true, true, true, false, false, false, false, false, false, false] rfl (by kernel_rfl) (by kernel_rfl) (by kernel_rfl) (by kernel_rfl) (fun _ _ _ h => h) (.inl ⟨by kernel_rfl, fun x_ hu => by kernel_rfl⟩) hG ?_
    simp only [Act.put, List.setIfInBounds_toArray, List.set_cons_zero, List.set_cons_succ, List.getElem_toArray, List.getElem_cons_zero, List.getElem_cons_succ]
    refine any_take (i := 23) (v := (.int .i64 e)) #[true, true, true, true, true, true, true, true, true, true, true, true, true, true, true, true, true, true, false, true, true, true, true, false, false, false, false, false, false] rfl (by kernel_rfl) (by kernel_rfl) (by kernel_rfl) (by kernel_rfl) (fun _ _ _ h => h) (.inl ⟨by kernel_rfl, fun x_ hu => by kernel_rfl⟩) hG ?_
    simp only [Act.put, List.setIfInBounds_toArray, List.set_cons_zero, List.set_cons_succ, List.getElem_toArray, List.getElem_cons_zero, List.getElem_cons_succ]
    refine any_take (i := 24) (v := (.slice s7 e cap4)) #[true, true, true, true, true, true, true, true, true, true, true, true, true, true, true, true, true, true, false, true, true, true, true, true, false, false, false, false, false] rfl (by kernel_rfl) (by kernel_rfl) (by kernel_rfl) (by kernel_rfl) (fun _ _ _ h => h) (.inl ⟨by kernel_rfl, fun x_ hu => by rw [unhide hs7]; exact exec_upto _ (.tmp 65) (.tmp 66) rfl s5 k cap4 e rfl rfl hcq hek⟩) hG ?_
    simp only [Act.put, List.setIfInBounds_toArray, List.set_cons_zero, List.set_cons_succ, List.getElem_toArray, List.getElem_cons_zero, List.getElem_cons_succ]
    refine any_one (i := 18) (by kernel_rfl) rfl (fun K_ hQ => ?_)
    refine step_callw (by kernel_rfl) 9 #[.slice s8 e cx, .slice s9 e cy] (by kernel_rfl) ((equal_not (xl K N 1 X) (xl K N 1 Y) _ _ e e cx cy (unhide hx1) (unhide hx2) ((unhide l3).gr hGx).isB ((unhide l4).gr hGx).isB (unhide hne2) _ ((unhide l3).gr hGx).sl ((unhide l4).gr hGx).sl).mono ?_)
    rintro r y3 ⟨rfl, hy⟩
    refine ⟨_, rfl, ?_⟩
    replace hy := hy.symm
    subst hy
    refine hQ.out _ _ hG (fun _ => ?_)
    clear hQ K_
    simp only [Act.put, List.setIfInBounds_toArray, List.set_cons_zero, List.set_cons_succ, List.getElem_toArray, List.getElem_cons_zero, List.getElem_cons_succ]
    refine any_one (i := 25) (by kernel_rfl) rfl (fun K_ hQ => ?_)
    refine step_callw (by kernel_rfl) 9 #[.slice s6 e cap2, .slice s7 e cap4] (by kernel_rfl) ((equal_not X Y _ _ e e cap2 cap4 (unhide hXl) (unhide hYl) ((unhide lx).gr hG).isB ((unhide ly).gr hG).isB (unhide hXY) _ ((unhide lx).gr hG).sl ((unhide ly).gr hG).sl).mono ?_)
    rintro r y4 ⟨rfl, hy⟩
    refine ⟨_, rfl, ?_⟩
    replace hy := hy.symm
    subst hy
    refine hQ.out _ _ hG (fun _ => ?_)
    clear hQ K_
    simp only [Act.put, List.setIfInBounds_toArray, List.set_cons_zero, List.set_cons_succ, List.getElem_toArray, List.getElem_cons_zero, List.getElem_cons_succ]
    refine any_take (i := 26) (v := (.bool true)) #[true, true, true, true, true, true, true, true, true, true, true, true, true, true, true, true, true, true, true, true, true, true, true, true, true, true, false, false, false] rfl (by kernel_rfl) (by kernel_rfl) (by kernel_rfl) (by kernel_rfl) (fun _ _ _ h => h) (.inl ⟨by kernel_rfl, fun x_ hu => by kernel_rfl⟩) hG ?_
    simp only [Act.put, List.setIfInBounds_toArray, List.set_cons_zero, List.set_cons_succ, List.getElem_toArray, List.getElem_cons_zero, List.getElem_cons_succ]
    refine any_take (i := 27) (v := (.bool true)) #[true, true, true, true, true, true, true, true, true, true, true, true, true, true, true, true, true, true, true, true, true, true, true, true, true, true, true, false, false] rfl (by kernel_rfl) (by kernel_rfl) (by kernel_rfl) (by kernel_rfl) (fun _ _ _ h => h) (.inl ⟨by kernel_rfl, fun x_ hu => by kernel_rfl⟩) hG ?_
    simp only [Act.put, List.setIfInBounds_toArray, List.set_cons_zero, List.set_cons_succ, List.getElem_toArray, List.getElem_cons_zero, List.getElem_cons_succ]
    refine any_one (i := 28) (by kernel_rfl) rfl (fun K_ hQ => ?_)
    replace hQ := hide hQ
    go_simp
    refine (unhide hQ).out _ _ hG (fun _ => ?_)
    clear hQ K_
    refine any_done (by kernel_rfl) ?_
    clear hU hGx
    have hF : Hid (Gr w _) := (unhide hGw).trans hG
    clear hG hGw
    go_wp2_with fail
    rw [unhide hT]
    exact ⟨rfl, unhide hF⟩
end Go.Proofs.Ytdekjbdkpchbjab
