/-
  Of layer 12: what the proof leans on.
-/
import Derived.Test.YtaoiejgjdmakjabDoorForgesK11
namespace Go.Proofs.YtaoiejgjdmakjabDoor
open Go.RowKit
set_option maxRecDepth 100000
set_option linter.unusedSimpArgs false
set_option linter.unusedVariables false
set_option maxHeartbeats 4000000 in
theorem forges_law (A B : List Int) (a0 a1 : Option Addr) (n0 c0 n1 c1 : Nat) (m0 : Int) (b0 : -9223372036854775808 ≤ m0 ∧ m0 < 9223372036854775808) (w : World) (hf0 : Fst w) (hA : Lb w a0 n0 c0 A) (hA1 : Lb w a1 n1 c1 B) : Calls Tryd.prog 3 #[.slice a0 n0 c0, .slice a1 n1 c1, .int .i64 m0] w (Vl (.bool true) w) := by
  obtain ⟨T, hT⟩ : ∃ T, T = Vl (.bool true) w := ⟨_, rfl⟩
  rw [← hT]
  replace hT := hide hT
  have hcA := hA.cap
  have hcB := hA1.cap
  obtain ⟨na, hna⟩ : ∃ x, x = min n0 600 := ⟨_, rfl⟩
  obtain ⟨nb, hnb⟩ : ∃ x, x = min n1 600 := ⟨_, rfl⟩
  have ha1 : na ≤ n0 ∧ na ≤ 600 := by omega
  have hb1 : nb ≤ n1 ∧ nb ≤ 600 := by omega
  have ia : 0 ≤ (na : Int) ∧ (na : Int) ≤ (c0 : Int) := by omega
  have ib : 0 ≤ (nb : Int) ∧ (nb : Int) ≤ (c1 : Int) := by omega
  have hni : Hid ((na : Int) = if (600 : Int) < (n0 : Int) then (600 : Int) else (n0 : Int)) := by show _ = _; split <;> omega
  have hnj : Hid ((nb : Int) = if (600 : Int) < (n1 : Int) then (600 : Int) else (n1 : Int)) := by show _ = _; split <;> omega
  have lA := hA.pre na ha1.1
  have lB := hA1.pre nb hb1.1
  obtain ⟨A2, hA2⟩ : ∃ x, x = A.take na := ⟨_, rfl⟩
  obtain ⟨B2, hB2⟩ : ∃ x, x = B.take nb := ⟨_, rfl⟩
  rw [← hA2] at lA
  rw [← hB2] at lB
  have nA : A2.length = na := lA.len
  have nB : B2.length = nb := lB.len
  clear hA2 hB2
  replace hf0 := hide hf0; replace lA := hide lA; replace lB := hide lB; replace hna := hide hna; replace hnb := hide hnb; replace nA := hide nA; replace nB := hide nB
  clear hA hA1
  go_enter Tryd.func3, Tryd.ntmps3
  go_upto_region 1 with fail
  refine wp_region_lit ?_
  refine list_call 5 #[] (by kernel_rfl) (by kernel_rfl) ((wakes12_ok w (unhide hf0)).mono ?_)
  rintro r v0 ⟨rfl, hg⟩
  refine ⟨_, rfl, ?_⟩
  have hf := hide ((unhide hf0).gr hg)
  have hgw := hide hg
  clear hg
  simp only [Act.put, List.setIfInBounds_toArray, List.set_cons_zero, List.set_cons_succ, List.getElem_toArray, List.getElem_cons_zero, List.getElem_cons_succ]
  refine list_val (.bool false) (by kernel_rfl) (by kernel_rfl) ?_
  simp only [Act.put, List.setIfInBounds_toArray, List.set_cons_zero, List.set_cons_succ, List.getElem_toArray, List.getElem_cons_zero, List.getElem_cons_succ]
  refine wpList_nil ?_
  replace lA := hide ((unhide lA).gr (unhide hgw)); replace lB := hide ((unhide lB).gr (unhide hgw))
  go_upto_region 3 with fail
  refine wp_region_lit ?_
  refine list_call 6 #[.int .i64 0] (by kernel_rfl) (by kernel_rfl) ((store_ok 0 v0 (unhide hf)).mono ?_)
  rintro r u1 ⟨F, G, gs, gd, D, rfl, hXs, hwd, hDz⟩
  obtain ⟨s1, s2, s3, s4⟩ := sup0_is
  have hz := stz_bd 0
  generalize stz 0 = zz at *
  generalize sup0 = S0 at *
  have hs0 : S0.turn = 0 := by omega
  clear s1 s2 s3 s4
  refine ⟨_, rfl, ?_⟩
  replace hXs := hide hXs; replace hwd := hide hwd; replace hDz := hide hDz
  simp only [Act.put, List.setIfInBounds_toArray, List.set_cons_zero, List.set_cons_succ, List.getElem_toArray, List.getElem_cons_zero, List.getElem_cons_succ]
  refine list_val (.tuple #[.pointer (some ⟨gd, 0, none⟩), .pointer (some ⟨gs, 0, none⟩)]) (by kernel_rfl) (by kernel_rfl) ?_
  simp only [Act.put, List.setIfInBounds_toArray, List.set_cons_zero, List.set_cons_succ, List.getElem_toArray, List.getElem_cons_zero, List.getElem_cons_succ]
  refine list_val (.pointer (some ⟨gd, 0, none⟩)) (by kernel_rfl) (by kernel_rfl) ?_
  simp only [Act.put, List.setIfInBounds_toArray, List.set_cons_zero, List.set_cons_succ, List.getElem_toArray, List.getElem_cons_zero, List.getElem_cons_succ]
  refine list_val (.pointer (some ⟨gs, 0, none⟩)) (by kernel_rfl) (by kernel_rfl) ?_
  simp only [Act.put, List.setIfInBounds_toArray, List.set_cons_zero, List.set_cons_succ, List.getElem_toArray, List.getElem_cons_zero, List.getElem_cons_succ]
  (refine wpList_step fun K hK => ?_; replace hK := hide hK; go_simp; refine unhide hK _ _ ?_; clear hK K)
  (refine wpList_step fun K hK => ?_; replace hK := hide hK; go_simp; refine unhide hK _ _ ?_; clear hK K)
  refine wpList_nil ?_
  go_upto_region 4 with fail
  refine wp_region_lit ?_
  refine list_val (.pointer (some ⟨gs, 0, none⟩)) (by kernel_rfl) (by kernel_rfl) ?_
  simp only [Act.put, List.setIfInBounds_toArray, List.set_cons_zero, List.set_cons_succ, List.getElem_toArray, List.getElem_cons_zero, List.getElem_cons_succ]
  skip
  refine list_call 7 #[P0 gs] (by kernel_rfl) (by kernel_rfl) ((x_open (unhide hXs) (unhide hwd) (by omega) (unhide hf)).mono ?_)
  rintro r u2 ⟨l, H, rfl, hlx, hln, hg⟩
  refine ⟨_, rfl, ?_⟩
  have hX := hide hlx
  clear hlx hln
  clear hg
  simp only [Act.put, List.setIfInBounds_toArray, List.set_cons_zero, List.set_cons_succ, List.getElem_toArray, List.getElem_cons_zero, List.getElem_cons_succ]
  refine list_val (.tuple #[.pointer (some ⟨l, 0, none⟩), .int .i64 0]) (by kernel_rfl) (by kernel_rfl) ?_
  simp only [Act.put, List.setIfInBounds_toArray, List.set_cons_zero, List.set_cons_succ, List.getElem_toArray, List.getElem_cons_zero, List.getElem_cons_succ]
  refine list_val (.pointer (some ⟨l, 0, none⟩)) (by kernel_rfl) (by kernel_rfl) ?_
  simp only [Act.put, List.setIfInBounds_toArray, List.set_cons_zero, List.set_cons_succ, List.getElem_toArray, List.getElem_cons_zero, List.getElem_cons_succ]
  refine list_val (.int .i64 0) (by kernel_rfl) (by kernel_rfl) ?_
  simp only [Act.put, List.setIfInBounds_toArray, List.set_cons_zero, List.set_cons_succ, List.getElem_toArray, List.getElem_cons_zero, List.getElem_cons_succ]
  (refine wpList_step fun K hK => ?_; replace hK := hide hK; go_simp; refine unhide hK _ _ ?_; clear hK K)
  (refine wpList_step fun K hK => ?_; replace hK := hide hK; go_simp; refine unhide hK _ _ ?_; clear hK K)
  refine wpList_nil ?_
  go_upto_region 5 with fail
  refine wp_region_lit ?_
  refine list_val (.pointer (some ⟨gs, 0, none⟩)) (by kernel_rfl) (by kernel_rfl) ?_
  simp only [Act.put, List.setIfInBounds_toArray, List.set_cons_zero, List.set_cons_succ, List.getElem_toArray, List.getElem_cons_zero, List.getElem_cons_succ]
  refine list_val (.bool false) (by kernel_rfl) (by kernel_rfl) ?_
  simp only [Act.put, List.setIfInBounds_toArray, List.set_cons_zero, List.set_cons_succ, List.getElem_toArray, List.getElem_cons_zero, List.getElem_cons_succ]
  refine list_val (.bool false) (by kernel_rfl) (by kernel_rfl) ?_
  simp only [Act.put, List.setIfInBounds_toArray, List.set_cons_zero, List.set_cons_succ, List.getElem_toArray, List.getElem_cons_zero, List.getElem_cons_succ]
  refine list_val (.int .i64 0) (by kernel_rfl) (by kernel_rfl) ?_
  simp only [Act.put, List.setIfInBounds_toArray, List.set_cons_zero, List.set_cons_succ, List.getElem_toArray, List.getElem_cons_zero, List.getElem_cons_succ]
  refine list_val (.bool false) (by kernel_rfl) (by kernel_rfl) ?_
  simp only [Act.put, List.setIfInBounds_toArray, List.set_cons_zero, List.set_cons_succ, List.getElem_toArray, List.getElem_cons_zero, List.getElem_cons_succ]
  refine list_val (.bool false) (by kernel_rfl) (by kernel_rfl) ?_
  simp only [Act.put, List.setIfInBounds_toArray, List.set_cons_zero, List.set_cons_succ, List.getElem_toArray, List.getElem_cons_zero, List.getElem_cons_succ]
  refine wpList_nil ?_
  go_upto_region 7 with fail
  refine any_start (S := fun _ => True) (by kernel_rfl) ?_
  replace hX := hide ((unhide hX).more (Gr.refl _).drew)
  generalize World.drew _ = w0 at *
  simp only [List.size_toArray, List.length_cons, List.length_nil, Array.replicate, List.replicate]
  refine any_take (i := 0) (v := (.slice a0 n0 c0)) #[false, false, false, false, false, false, false, false, false, false, false, false] rfl (by kernel_rfl) (by kernel_rfl) (by kernel_rfl) (by kernel_rfl) (fun _ _ _ h => h) (.inl ⟨by kernel_rfl, fun x_ hu => by kernel_rfl⟩) trivial ?_
  simp only [Act.put, List.setIfInBounds_toArray, List.set_cons_zero, List.set_cons_succ, List.getElem_toArray, List.getElem_cons_zero, List.getElem_cons_succ]
  refine any_take (i := 1) (v := (.slice a0 n0 c0)) #[true, false, false, false, false, false, false, false, false, false, false, false] rfl (by kernel_rfl) (by kernel_rfl) (by kernel_rfl) (by kernel_rfl) (fun _ _ _ h => h) (.inl ⟨by kernel_rfl, fun x_ hu => by kernel_rfl⟩) trivial ?_
  simp only [Act.put, List.setIfInBounds_toArray, List.set_cons_zero, List.set_cons_succ, List.getElem_toArray, List.getElem_cons_zero, List.getElem_cons_succ]
  refine any_take (i := 2) (v := (.int .i64 n0)) #[true, true, false, false, false, false, false, false, false, false, false, false] rfl (by kernel_rfl) (by kernel_rfl) (by kernel_rfl) (by kernel_rfl) (fun _ _ _ h => h) (.inl ⟨by kernel_rfl, fun x_ hu => by kernel_rfl⟩) trivial ?_
  simp only [Act.put, List.setIfInBounds_toArray, List.set_cons_zero, List.set_cons_succ, List.getElem_toArray, List.getElem_cons_zero, List.getElem_cons_succ]
  refine any_take (i := 3) (v := (.int .i64 (na : Int))) #[true, true, true, false, false, false, false, false, false, false, false, false] rfl (by kernel_rfl) (by kernel_rfl) (by kernel_rfl) (by kernel_rfl) (fun _ _ _ h => h) (.inl ⟨by kernel_rfl, fun x_ hu => by have hmx := unhide hni; go_simp⟩) trivial ?_
  simp only [Act.put, List.setIfInBounds_toArray, List.set_cons_zero, List.set_cons_succ, List.getElem_toArray, List.getElem_cons_zero, List.getElem_cons_succ]
  refine any_take (i := 4) (v := (.slice a0 na c0)) #[true, true, true, true, false, false, false, false, false, false, false, false] rfl (by kernel_rfl) (by kernel_rfl) (by kernel_rfl) (by kernel_rfl) (fun _ _ _ h => h) (.inl ⟨by kernel_rfl, fun x_ hu => exec_upto2 _ (.tmp 35) (.tmp 38) rfl a0 n0 c0 na (by kernel_rfl) (by kernel_rfl) hcA ha1.1⟩) trivial ?_
  simp only [Act.put, List.setIfInBounds_toArray, List.set_cons_zero, List.set_cons_succ, List.getElem_toArray, List.getElem_cons_zero, List.getElem_cons_succ]
  refine any_take (i := 5) (v := (.slice a1 n1 c1)) #[true, true, true, true, true, false, false, false, false, false, false, false] rfl (by kernel_rfl) (by kernel_rfl) (by kernel_rfl) (by kernel_rfl) (fun _ _ _ h => h) (.inl ⟨by kernel_rfl, fun x_ hu => by kernel_rfl⟩) trivial ?_
  simp only [Act.put, List.setIfInBounds_toArray, List.set_cons_zero, List.set_cons_succ, List.getElem_toArray, List.getElem_cons_zero, List.getElem_cons_succ]
  refine any_take (i := 6) (v := (.slice a1 n1 c1)) #[true, true, true, true, true, true, false, false, false, false, false, false] rfl (by kernel_rfl) (by kernel_rfl) (by kernel_rfl) (by kernel_rfl) (fun _ _ _ h => h) (.inl ⟨by kernel_rfl, fun x_ hu => by kernel_rfl⟩) trivial ?_
  simp only [Act.put, List.setIfInBounds_toArray, List.set_cons_zero, List.set_cons_succ, List.getElem_toArray, List.getElem_cons_zero, List.getElem_cons_succ]
  refine any_take (i := 7) (v := (.int .i64 n1)) #[true, true, true, true, true, true, true, false, false, false, false, false] rfl (by kernel_rfl) (by kernel_rfl) (by kernel_rfl) (by kernel_rfl) (fun _ _ _ h => h) (.inl ⟨by kernel_rfl, fun x_ hu => by kernel_rfl⟩) trivial ?_
  simp only [Act.put, List.setIfInBounds_toArray, List.set_cons_zero, List.set_cons_succ, List.getElem_toArray, List.getElem_cons_zero, List.getElem_cons_succ]
  refine any_take (i := 8) (v := (.int .i64 (nb : Int))) #[true, true, true, true, true, true, true, true, false, false, false, false] rfl (by kernel_rfl) (by kernel_rfl) (by kernel_rfl) (by kernel_rfl) (fun _ _ _ h => h) (.inl ⟨by kernel_rfl, fun x_ hu => by have hmx := unhide hnj; go_simp⟩) trivial ?_
  simp only [Act.put, List.setIfInBounds_toArray, List.set_cons_zero, List.set_cons_succ, List.getElem_toArray, List.getElem_cons_zero, List.getElem_cons_succ]
  refine any_take (i := 9) (v := (.slice a1 nb c1)) #[true, true, true, true, true, true, true, true, true, false, false, false] rfl (by kernel_rfl) (by kernel_rfl) (by kernel_rfl) (by kernel_rfl) (fun _ _ _ h => h) (.inl ⟨by kernel_rfl, fun x_ hu => exec_upto2 _ (.tmp 40) (.tmp 43) rfl a1 n1 c1 nb (by kernel_rfl) (by kernel_rfl) hcB hb1.1⟩) trivial ?_
  simp only [Act.put, List.setIfInBounds_toArray, List.set_cons_zero, List.set_cons_succ, List.getElem_toArray, List.getElem_cons_zero, List.getElem_cons_succ]
  refine any_one (i := 10) (by kernel_rfl) rfl (fun K_ hQ => ?_)
  replace hQ := hide hQ
  go_simp
  refine (unhide hQ).out _ _ trivial (fun _ => ?_)
  clear hQ K_
  refine any_one (i := 11) (by kernel_rfl) rfl (fun K_ hQ => ?_)
  replace hQ := hide hQ
  go_simp
  refine (unhide hQ).out _ _ trivial (fun _ => ?_)
  clear hQ K_
  refine any_done (by kernel_rfl) ?_
  go_upto_region 8 with fail
  have hlg9 : 32 ≤ zz - lgo zz := by unfold lgo; omega
  replace hlg9 := hide hlg9
  refine wp_region_lit ?_
  refine list_val (.pointer (some ⟨l, 0, none⟩)) (by kernel_rfl) (by kernel_rfl) ?_
  simp only [Act.put, List.setIfInBounds_toArray, List.set_cons_zero, List.set_cons_succ, List.getElem_toArray, List.getElem_cons_zero, List.getElem_cons_succ]
  refine list_val (.slice a0 na c0) (by kernel_rfl) (by kernel_rfl) ?_
  simp only [Act.put, List.setIfInBounds_toArray, List.set_cons_zero, List.set_cons_succ, List.getElem_toArray, List.getElem_cons_zero, List.getElem_cons_succ]
  refine list_call 8 #[P0 l, .slice a0 na c0] (by kernel_rfl) (by kernel_rfl) ((x_append (unhide hX) (by omega) (unhide hf) A2 a0 na c0 ((unhide lA).gr (unhide hX).xs.gr) ((unhide hX).far (unhide lA)) (by rw [unhide hDz, unhide nA]; have := unhide hlg9; show 0 + ned na ≤ _; unfold ned; omega)).mono ?_)
  rintro r u3 ⟨Fma, Hma, Dma, rfl, hY, hE, hC, -⟩
  have hDz2 : Dma.safe.length = zz := hE.trans (unhide hDz)
  have hma : 3 + ((A2.length + 62) / 63 + 3) ≤ 3 + 13 := by rw [unhide nA]; omega
  generalize 3 + ((A2.length + 62) / 63 + 3) = ma at *
  have hX2 := hide hY
  replace hDz2 := hide hDz2
  clear hY hE hC hX hDz
  have hu1 : usd ([] ++ [A2]) = ned na := by rw [usd_app, usd_one, unhide nA]; exact Nat.zero_add _
  generalize ([] ++ [A2] : List (List Int)) = Y1 at *
  replace hu1 := hide hu1
  refine ⟨_, rfl, ?_⟩
  simp only [Act.put, List.setIfInBounds_toArray, List.set_cons_zero, List.set_cons_succ, List.getElem_toArray, List.getElem_cons_zero, List.getElem_cons_succ]
  refine list_val (.bool false) (by kernel_rfl) (by kernel_rfl) ?_
  simp only [Act.put, List.setIfInBounds_toArray, List.set_cons_zero, List.set_cons_succ, List.getElem_toArray, List.getElem_cons_zero, List.getElem_cons_succ]
  refine list_val (.bool false) (by kernel_rfl) (by kernel_rfl) ?_
  simp only [Act.put, List.setIfInBounds_toArray, List.set_cons_zero, List.set_cons_succ, List.getElem_toArray, List.getElem_cons_zero, List.getElem_cons_succ]
  refine list_val (.pointer (some ⟨l, 0, none⟩)) (by kernel_rfl) (by kernel_rfl) ?_
  simp only [Act.put, List.setIfInBounds_toArray, List.set_cons_zero, List.set_cons_succ, List.getElem_toArray, List.getElem_cons_zero, List.getElem_cons_succ]
  refine list_val (.slice a1 nb c1) (by kernel_rfl) (by kernel_rfl) ?_
  simp only [Act.put, List.setIfInBounds_toArray, List.set_cons_zero, List.set_cons_succ, List.getElem_toArray, List.getElem_cons_zero, List.getElem_cons_succ]
  refine list_call 8 #[P0 l, .slice a1 nb c1] (by kernel_rfl) (by kernel_rfl) ((x_append (unhide hX2) (by omega) (unhide hf) B2 a1 nb c1 ((unhide lB).gr (unhide hX2).xs.gr) ((unhide hX2).far (unhide lB)) (by rw [unhide hDz2, unhide nB]; have := unhide hlg9; rw [unhide hu1]; unfold ned; omega)).mono ?_)
  rintro r u4 ⟨Fmb, Hmb, Dmb, rfl, hY, hE, hC, -⟩
  have hDz3 : Dmb.safe.length = zz := hE.trans (unhide hDz2)
  have hmb : ma + ((B2.length + 62) / 63 + 3) ≤ ma + 13 := by rw [unhide nB]; omega
  generalize ma + ((B2.length + 62) / 63 + 3) = mb at *
  have hX3 := hide hY
  replace hDz3 := hide hDz3
  clear hY hE hC hX2 hDz2
  have hu2 : usd (Y1 ++ [B2]) = ned na + ned nb := by rw [usd_app, usd_one, unhide nB, unhide hu1]
  have hle := (unhide hX3).wd.wl.le
  rw [unhide hDz3] at hle
  generalize (Y1 ++ [B2] : List (List Int)) = Y2 at *
  obtain ⟨U, hU⟩ : ∃ U, U = usd Y2 := ⟨_, rfl⟩
  rw [← hU] at hle
  have hU22 : U ≤ 22 := by rw [hU, hu2]; unfold ned; omega
  replace hU := hide hU
  clear hu2
  refine ⟨_, rfl, ?_⟩
  simp only [Act.put, List.setIfInBounds_toArray, List.set_cons_zero, List.set_cons_succ, List.getElem_toArray, List.getElem_cons_zero, List.getElem_cons_succ]
  refine list_val (.bool false) (by kernel_rfl) (by kernel_rfl) ?_
  simp only [Act.put, List.setIfInBounds_toArray, List.set_cons_zero, List.set_cons_succ, List.getElem_toArray, List.getElem_cons_zero, List.getElem_cons_succ]
  refine list_val (.bool false) (by kernel_rfl) (by kernel_rfl) ?_
  simp only [Act.put, List.setIfInBounds_toArray, List.set_cons_zero, List.set_cons_succ, List.getElem_toArray, List.getElem_cons_zero, List.getElem_cons_succ]
  refine wpList_nil ?_
  go_upto_region 11 with fail
  refine wp_region_lit ?_
  refine list_val (.pointer (some ⟨l, 0, none⟩)) (by kernel_rfl) (by kernel_rfl) ?_
  simp only [Act.put, List.setIfInBounds_toArray, List.set_cons_zero, List.set_cons_succ, List.getElem_toArray, List.getElem_cons_zero, List.getElem_cons_succ]
  refine list_call 9 #[.pointer (some ⟨l, 0, none⟩)] (by kernel_rfl) (by kernel_rfl) ((x_used (unhide hX3)).mono ?_)
  rintro r y0 ⟨rfl, hg⟩
  refine ⟨_, rfl, ?_⟩
  rw [← unhide hU]
  replace hX3 := hide ((unhide hX3).more hg)
  clear hg
  simp only [Act.put, List.setIfInBounds_toArray, List.set_cons_zero, List.set_cons_succ, List.getElem_toArray, List.getElem_cons_zero, List.getElem_cons_succ]
  refine list_val (.int .i64 0) (by kernel_rfl) (by kernel_rfl) ?_
  simp only [Act.put, List.setIfInBounds_toArray, List.set_cons_zero, List.set_cons_succ, List.getElem_toArray, List.getElem_cons_zero, List.getElem_cons_succ]
  refine wpList_nil ?_
  have hO0 : Hid (Ob y0.heap.size y0 (.slice none 0 0) [] ∧ Gr y0 y0) := ⟨Ob.nil _ _, Gr.refl _⟩
  go_wp2_with fail
  go_loopw [57, 11] (fun i v wr => ∃ (j : Nat) (BL : List Int) (fa : Option Addr) (n6 fc : Nat), j ≤ U ∧ i = .int .i64 (j : Int) ∧ v = .slice fa n6 fc ∧ Hid (BL.length = 64 * j ∧ IsB BL) ∧ Hid (Ob y0.heap.size wr (.slice fa n6 fc) BL ∧ Gr y0 wr)) (fun i _ _ => U - (intOf i).toNat)
  case atStart => exact ⟨0, [], none, 0, 0, by omega, rfl, rfl, ⟨rfl, fun x hx => by cases hx⟩, hO0⟩
  case round =>
  clear hO0
  obtain ⟨j, BL, fa, n6, fc, hj, rfl, rfl, hBL, hO⟩ := hrel
  by_cases hlt : j < U
  · skip
    have jI : (j : Int) < (U : Int) := by omega
    obtain ⟨sj, hsj0⟩ : ∃ s, s = Dmb.cur (lgo Dmb.safe.length + j) := ⟨_, rfl⟩
    have hil : lgo Dmb.safe.length + j < Dmb.safe.length := by rw [unhide hDz3]; omega
    have hbb := Dk.cur_bb (unhide hX3).wd.fd.ok _ hil
    rw [← hsj0] at hbb
    have hsj := hbb.1
    have hsb := hide hbb.2
    obtain ⟨j1, hj1⟩ : ∃ k, k = j + 1 := ⟨_, rfl⟩
    have wj1 : IntKind.i64.wrap ((j : Int) + 1) = (j1 : Int) := by rw [IntKind.wrap_i64]; omega
    replace hsj0 := hide hsj0; replace hj1 := hide hj1; replace hil := hide hil
    clear hbb
    have hB := Bl.nil wr
    go_upto_region 14 with fail
    refine wp_region_lit ?_
    refine list_val (.pointer (some ⟨gs, 0, none⟩)) (by kernel_rfl) (by kernel_rfl) ?_
    simp only [Act.put, List.setIfInBounds_toArray, List.set_cons_zero, List.set_cons_succ, List.getElem_toArray, List.getElem_cons_zero, List.getElem_cons_succ]
    refine list_val (.int .i64 (j : Int)) (by kernel_rfl) (by kernel_rfl) ?_
    simp only [Act.put, List.setIfInBounds_toArray, List.set_cons_zero, List.set_cons_succ, List.getElem_toArray, List.getElem_cons_zero, List.getElem_cons_succ]
    have hsl := eslot_ok Fmb G gs gd mb Dmb S0 (unhide hX3).wd.fd.ok (by omega) (j : Int) (by have h9 := lgo_slots zz; rw [unhide hDz3]; constructor <;> omega) wr ((unhide hX3).more (unhide hO).2).xs.ls ((unhide hX3).more (unhide hO).2).xs.st
    rw [show ((((2 + 2 * ((Dmb.safe.length - 2) / 4) : Nat) : Int)) + (j : Int)) = ((lgo Dmb.safe.length + j : Nat) : Int) from by unfold lgo; omega] at hsl
    rw [read_cur (unhide hX3).wd.fd.dead _ (unhide hil), ← unhide hsj0] at hsl
    rw [show Dmb.readE ((lgo Dmb.safe.length + j : Nat) : Int) = 0 from by have h9 := unhide hil; unfold Dk.readE; rw [(unhide hX3).wd.fd.dead, if_neg (by decide), if_pos ⟨by omega, by omega⟩]] at hsl
    refine list_call 10 #[.pointer (some ⟨gs, 0, none⟩), .int .i64 (j : Int)] (by kernel_rfl) (by kernel_rfl) (hsl.mono ?_)
    rintro r z1 ⟨rfl, hg⟩
    replace hB := hB.more hg
    clear hg hsl
    refine ⟨_, rfl, ?_⟩
    simp only [Act.put, List.setIfInBounds_toArray, List.set_cons_zero, List.set_cons_succ, List.getElem_toArray, List.getElem_cons_zero, List.getElem_cons_succ]
    refine list_val (.tuple #[.agg (kc sj), .int .i64 0]) (by kernel_rfl) (by kernel_rfl) ?_
    simp only [Act.put, List.setIfInBounds_toArray, List.set_cons_zero, List.set_cons_succ, List.getElem_toArray, List.getElem_cons_zero, List.getElem_cons_succ]
    refine list_val (.agg (kc sj)) (by kernel_rfl) (by kernel_rfl) ?_
    simp only [Act.put, List.setIfInBounds_toArray, List.set_cons_zero, List.set_cons_succ, List.getElem_toArray, List.getElem_cons_zero, List.getElem_cons_succ]
    refine list_val (.int .i64 0) (by kernel_rfl) (by kernel_rfl) ?_
    simp only [Act.put, List.setIfInBounds_toArray, List.set_cons_zero, List.set_cons_succ, List.getElem_toArray, List.getElem_cons_zero, List.getElem_cons_succ]
    refine list_valw (.pointer (some ⟨z1.heap.size, 0, none⟩)) (z1.alloc (.cells (kc ZB) 35 (0, 0))) (by kernel_rfl) (by kernel_rfl) ?_
    replace hB := hB.new (kc ZB) 35
    simp only [List.nil_append, List.cons_append] at hB
    generalize World.alloc _ _ = z2 at *
    generalize z1.heap.size = gx at *
    replace hB : Bl wr [⟨gx, kc ZB, 35⟩] z2 := hB
    simp only [Act.put, List.setIfInBounds_toArray, List.set_cons_zero, List.set_cons_succ, List.getElem_toArray, List.getElem_cons_zero, List.getElem_cons_succ]
    refine list_store 35 (.tmp 13) (.tmp 64) (gx) (kc sj) 35 (kc ZB) (by kernel_rfl) rfl (by kernel_rfl) (by kernel_rfl) (hB.get 0 (x := ⟨gx, kc ZB, 35⟩) rfl) (by rw [Tryd.infoB, kc_size, hsj]) ((show (kc ZB).size = 64 from rfl).trans ((kc_size _).trans hsj).symm) (kc_one _) ?_
    replace hB := hB.set 0 (x := ⟨gx, kc ZB, 35⟩) rfl (kc sj)
    simp only [List.set_cons_zero, List.set_cons_succ] at hB
    generalize World.setRow _ _ _ = z3 at *
    replace hB : Bl wr [⟨gx, kc sj, 35⟩] z3 := hB
    simp only [Act.put, List.setIfInBounds_toArray, List.set_cons_zero, List.set_cons_succ, List.getElem_toArray, List.getElem_cons_zero, List.getElem_cons_succ]
    (refine wpList_step fun K hK => ?_; replace hK := hide hK; go_simp; refine unhide hK _ _ ?_; clear hK K)
    refine wpList_nil ?_
    replace hB := hide hB
    go_upto_region 15 with fail
    replace hB := unhide hB
    refine wp_region_lit ?_
    refine list_val (.slice fa n6 fc) (by kernel_rfl) (by kernel_rfl) ?_
    simp only [Act.put, List.setIfInBounds_toArray, List.set_cons_zero, List.set_cons_succ, List.getElem_toArray, List.getElem_cons_zero, List.getElem_cons_succ]
    refine list_val (.slice (some ⟨gx, 0, none⟩) 64 64) (by kernel_rfl) (by kernel_rfl) ?_
    simp only [Act.put, List.setIfInBounds_toArray, List.set_cons_zero, List.set_cons_succ, List.getElem_toArray, List.getElem_cons_zero, List.getElem_cons_succ]
    have hgz := hide ((unhide hO).2.trans hB.gr)
    have hOz := hide ((unhide hO).1.gr hB.gr)
    have hslz : Hid (Sl z3 (some ⟨gx, 0, none⟩) sj) := .inr ⟨gx, 0, rfl, kc_at (hB.get 0 (x := ⟨gx, kc sj, 35⟩) rfl)⟩
    refine app_bs (by kernel_rfl) (.tmp 66) (.tmp 67) rfl y0.heap.size _ _ rfl (unhide hOz) (some ⟨gx, 0, none⟩) 64 64 sj rfl hsj (unhide hslz) (by rw [(unhide hBL).1]; omega) (unhide hgz).size ?_
    intro v2 z4 hO3 hgr
    have hO4 : Hid (Ob y0.heap.size z4 v2 (BL ++ sj) ∧ Gr y0 z4) := ⟨hO3, (unhide hOz).grown (Nat.le_refl _) (unhide hgz) hgr⟩
    have hL4 : Hid ((BL ++ sj).length = 64 * j1 ∧ IsB (BL ++ sj)) := ⟨by rw [List.length_append, (unhide hBL).1, hsj, unhide hj1]; omega, isB_app (unhide hBL).2 (unhide hsb)⟩
    obtain ⟨fa2, fc2, hv2, -⟩ := hO3.slice
    generalize hn2 : (BL ++ sj).length = n62 at hv2
    clear hn2
    subst hv2
    clear hO3 hgr hslz hOz hgz hB
    simp only [Act.put, List.setIfInBounds_toArray, List.set_cons_zero, List.set_cons_succ, List.getElem_toArray, List.getElem_cons_zero, List.getElem_cons_succ]
    (refine wpList_step fun K hK => ?_; replace hK := hide hK; go_simp; refine unhide hK _ _ ?_; clear hK K)
    refine wpList_nil ?_
    go_wp2_with fail
    go_roundw
    case rel => exact ⟨j1, BL ++ sj, fa2, n62, fc2, by have := unhide hj1; omega, rfl, rfl, hL4, hO4⟩
    case measure => have := unhide hj1; simp [intOf]; omega
  have jI : ¬ (j : Int) < (U : Int) := by omega
  obtain rfl : j = U := by omega
  have hO2 := (unhide hO).1
  have hGy := (unhide hO).2
  obtain ⟨fa9, fc9, hv, hLf⟩ := hO2.lb (unhide hBL).2
  rw [(unhide hBL).1] at hv hLf
  injection hv with hv1 hn6 hv3
  subst hv1 hv3
  rw [← hn6] at hLf
  have hBb := hide (unhide hBL).2
  have hBn : Hid (BL.length = n6) := by show _ = _; rw [(unhide hBL).1, hn6]
  have hgy := hide ((unhide hX3).xs.gr.trans hGy)
  have hn6b : n6 ≤ 1408 := by omega
  replace hLf := hide hLf; replace hn6 := hide hn6
  clear hO hO2 hGy hBL hX3 hDz3
  obtain ⟨qa, hqa⟩ : ∃ q : Int, q = (if m0 < 0 then 0 else m0) := ⟨_, rfl⟩
  have pa : 0 ≤ qa := by rw [hqa]; split <;> omega
  obtain ⟨ta, hta⟩ : ∃ t : Int, t = qa % 64 := ⟨_, rfl⟩
  have ra : 0 ≤ ta ∧ ta < 64 := by omega
  have eta : qa.tmod 64 = ta := by rw [Int.tmod_eq_emod_of_nonneg pa, hta]
  have ewa : IntKind.i64.wrap ta = ta := by rw [IntKind.wrap_i64]; omega
  obtain ⟨za, hza⟩ : ∃ z : Nat, (z : Int) = 0 + ta := ⟨(0 + ta).toNat, by omega⟩
  have exa : IntKind.i64.wrap (0 + ta) = (za : Int) := by rw [IntKind.wrap_i64]; omega
  have bza : 0 ≤ za ∧ za < 0 + 64 := by omega
  replace hqa := hide hqa; replace hta := hide hta; replace hza := hide hza
  go_upto_region 17 with fail
  refine wp_region_lit ?_
  refine list_val (.int .i64 m0) (by kernel_rfl) (by kernel_rfl) ?_
  simp only [Act.put, List.setIfInBounds_toArray, List.set_cons_zero, List.set_cons_succ, List.getElem_toArray, List.getElem_cons_zero, List.getElem_cons_succ]
  refine list_val (.int .i64 qa) (by kernel_rfl) (by have hmx := unhide hqa; go_simp) ?_
  simp only [Act.put, List.setIfInBounds_toArray, List.set_cons_zero, List.set_cons_succ, List.getElem_toArray, List.getElem_cons_zero, List.getElem_cons_succ]
  refine list_val (.int .i64 ta) (by kernel_rfl) (by go_simp) ?_
  simp only [Act.put, List.setIfInBounds_toArray, List.set_cons_zero, List.set_cons_succ, List.getElem_toArray, List.getElem_cons_zero, List.getElem_cons_succ]
  (refine wpList_step fun K hK => ?_; replace hK := hide hK; go_simp; refine unhide hK _ _ ?_; clear hK K)
  refine wpList_nil ?_
  obtain ⟨ld, hld⟩ : ∃ k : Nat, (k : Int) = ta := ⟨ta.toNat, by omega⟩
  have hld64 : ld < 64 := by omega
  subst hld
  go_upto_region 18 with fail
  refine wp_region_lit ?_
  refine list_val (.int .i64 (ld : Int)) (by kernel_rfl) (by kernel_rfl) ?_
  simp only [Act.put, List.setIfInBounds_toArray, List.set_cons_zero, List.set_cons_succ, List.getElem_toArray, List.getElem_cons_zero, List.getElem_cons_succ]
  refine wpList_step fun K_ hQ => ?_
  rw [if_pos (by kernel_rfl)]
  refine make_op (.tmp 73) (.tmp 73) rfl ld ld (by kernel_rfl) (by kernel_rfl) (Nat.le_refl _) (by omega) ?_
  have hg := (Gr.refl wr).alloc (.cells (kc (List.replicate ld 0)) 5 (0, 0))
  have hom : Hid (Ob wr.heap.size (wr.alloc (.cells (kc (List.replicate ld 0)) 5 (0, 0))) (.slice (some ⟨wr.heap.size, 0, none⟩) ld ld) (List.replicate ld 0)) := ob_of (blk_new _ _) List.length_replicate (Nat.le_refl _) (by omega)
  have hgm := hide hg
  replace hLf := hide ((unhide hLf).gr hg)
  clear hg
  refine hQ _ _ ?_
  clear hQ K_
  generalize World.alloc _ _ = y5 at *
  simp only [Act.put, List.setIfInBounds_toArray, List.set_cons_zero, List.set_cons_succ, List.getElem_toArray, List.getElem_cons_zero, List.getElem_cons_succ]
  refine list_val (.slice fa n6 fc) (by kernel_rfl) (by kernel_rfl) ?_
  simp only [Act.put, List.setIfInBounds_toArray, List.set_cons_zero, List.set_cons_succ, List.getElem_toArray, List.getElem_cons_zero, List.getElem_cons_succ]
  refine app_bs (by kernel_rfl) (.tmp 74) (.tmp 75) rfl wr.heap.size _ _ rfl (unhide hom) fa n6 fc BL rfl (unhide hBn) (unhide hLf).sl (by rw [List.length_replicate]; omega) (unhide hgm).size ?_
  intro v2 z hO3 hgr
  have hgz : Hid (Gr w z) := ((unhide hgw).trans (unhide hgy)).trans ((unhide hom).grown (Nat.le_refl _) (unhide hgm) hgr)
  have hFb : IsB (List.replicate ld 0 ++ BL) := isB_app (isB_rep ld) (unhide hBb)
  obtain ⟨ga, gc, hv, hLg⟩ := hO3.lb hFb
  have hFl : (List.replicate ld (0 : Int) ++ BL).length = ld + n6 := by rw [List.length_append, List.length_replicate, unhide hBn]
  rw [hFl] at hv hLg
  subst hv
  generalize List.replicate ld (0 : Int) ++ BL = FB at *
  obtain ⟨n, hn⟩ : ∃ k, k = ld + n6 := ⟨_, rfl⟩
  rw [← hn] at hFl hLg ⊢
  have hn2 : n ≤ 1471 := by omega
  have hfz := hide ((unhide hf0).gr (unhide hgz))
  replace hFb := hide hFb; replace hFl := hide hFl; replace hLg := hide hLg; replace hn := hide hn
  clear hO3 hgr hom hgm hLf hBb hBn hgy hf hz hlg9 hs0 hle
  simp only [Act.put, List.setIfInBounds_toArray, List.set_cons_zero, List.set_cons_succ, List.getElem_toArray, List.getElem_cons_zero, List.getElem_cons_succ]
  (refine wpList_step fun K hK => ?_; replace hK := hide hK; go_simp; refine unhide hK _ _ ?_; clear hK K)
  refine wpList_nil ?_
  go_upto_region 19 with fail
  refine wp_region_lit ?_
  refine list_call 6 #[.int .i64 0] (by kernel_rfl) (by kernel_rfl) ((store_ok 0 z (unhide hfz)).mono ?_)
  rintro r q1 ⟨F, G, gs, gd, D, rfl, hXs, hwd, hDz⟩
  obtain ⟨s1, s2, s3, s4⟩ := sup0_is
  have hz := stz_bd 0
  generalize stz 0 = zz at *
  generalize sup0 = S0 at *
  have hs0 : S0.turn = 0 := by omega
  clear s1 s2 s3 s4
  refine ⟨_, rfl, ?_⟩
  replace hXs := hide hXs; replace hwd := hide hwd; replace hDz := hide hDz
  simp only [Act.put, List.setIfInBounds_toArray, List.set_cons_zero, List.set_cons_succ, List.getElem_toArray, List.getElem_cons_zero, List.getElem_cons_succ]
  refine list_val (.tuple #[.pointer (some ⟨gd, 0, none⟩), .pointer (some ⟨gs, 0, none⟩)]) (by kernel_rfl) (by kernel_rfl) ?_
  simp only [Act.put, List.setIfInBounds_toArray, List.set_cons_zero, List.set_cons_succ, List.getElem_toArray, List.getElem_cons_zero, List.getElem_cons_succ]
  refine list_val (.pointer (some ⟨gd, 0, none⟩)) (by kernel_rfl) (by kernel_rfl) ?_
  simp only [Act.put, List.setIfInBounds_toArray, List.set_cons_zero, List.set_cons_succ, List.getElem_toArray, List.getElem_cons_zero, List.getElem_cons_succ]
  refine list_val (.pointer (some ⟨gs, 0, none⟩)) (by kernel_rfl) (by kernel_rfl) ?_
  simp only [Act.put, List.setIfInBounds_toArray, List.set_cons_zero, List.set_cons_succ, List.getElem_toArray, List.getElem_cons_zero, List.getElem_cons_succ]
  (refine wpList_step fun K hK => ?_; replace hK := hide hK; go_simp; refine unhide hK _ _ ?_; clear hK K)
  (refine wpList_step fun K hK => ?_; replace hK := hide hK; go_simp; refine unhide hK _ _ ?_; clear hK K)
  refine wpList_nil ?_
  go_upto_region 20 with fail
  refine wp_region_lit ?_
  refine list_val (.pointer (some ⟨gs, 0, none⟩)) (by kernel_rfl) (by kernel_rfl) ?_
  simp only [Act.put, List.setIfInBounds_toArray, List.set_cons_zero, List.set_cons_succ, List.getElem_toArray, List.getElem_cons_zero, List.getElem_cons_succ]
  skip
  refine list_call 7 #[P0 gs] (by kernel_rfl) (by kernel_rfl) ((x_open (unhide hXs) (unhide hwd) (by omega) (unhide hfz)).mono ?_)
  rintro r q2 ⟨l, H, rfl, hlx, hln, hg⟩
  refine ⟨_, rfl, ?_⟩
  have hX := hide hlx
  clear hlx hln
  clear hg
  simp only [Act.put, List.setIfInBounds_toArray, List.set_cons_zero, List.set_cons_succ, List.getElem_toArray, List.getElem_cons_zero, List.getElem_cons_succ]
  refine list_val (.tuple #[.pointer (some ⟨l, 0, none⟩), .int .i64 0]) (by kernel_rfl) (by kernel_rfl) ?_
  simp only [Act.put, List.setIfInBounds_toArray, List.set_cons_zero, List.set_cons_succ, List.getElem_toArray, List.getElem_cons_zero, List.getElem_cons_succ]
  refine list_val (.pointer (some ⟨l, 0, none⟩)) (by kernel_rfl) (by kernel_rfl) ?_
  simp only [Act.put, List.setIfInBounds_toArray, List.set_cons_zero, List.set_cons_succ, List.getElem_toArray, List.getElem_cons_zero, List.getElem_cons_succ]
  refine list_val (.int .i64 0) (by kernel_rfl) (by kernel_rfl) ?_
  simp only [Act.put, List.setIfInBounds_toArray, List.set_cons_zero, List.set_cons_succ, List.getElem_toArray, List.getElem_cons_zero, List.getElem_cons_succ]
  (refine wpList_step fun K hK => ?_; replace hK := hide hK; go_simp; refine unhide hK _ _ ?_; clear hK K)
  (refine wpList_step fun K hK => ?_; replace hK := hide hK; go_simp; refine unhide hK _ _ ?_; clear hK K)
  refine wpList_nil ?_
  go_upto_region 21 with fail
  refine wp_region_lit ?_
  refine list_val (.pointer (some ⟨gs, 0, none⟩)) (by kernel_rfl) (by kernel_rfl) ?_
  simp only [Act.put, List.setIfInBounds_toArray, List.set_cons_zero, List.set_cons_succ, List.getElem_toArray, List.getElem_cons_zero, List.getElem_cons_succ]
  refine list_val (.bool false) (by kernel_rfl) (by kernel_rfl) ?_
  simp only [Act.put, List.setIfInBounds_toArray, List.set_cons_zero, List.set_cons_succ, List.getElem_toArray, List.getElem_cons_zero, List.getElem_cons_succ]
  refine list_val (.bool false) (by kernel_rfl) (by kernel_rfl) ?_
  simp only [Act.put, List.setIfInBounds_toArray, List.set_cons_zero, List.set_cons_succ, List.getElem_toArray, List.getElem_cons_zero, List.getElem_cons_succ]
  refine list_val (.int .i64 0) (by kernel_rfl) (by kernel_rfl) ?_
  simp only [Act.put, List.setIfInBounds_toArray, List.set_cons_zero, List.set_cons_succ, List.getElem_toArray, List.getElem_cons_zero, List.getElem_cons_succ]
  refine list_val (.bool false) (by kernel_rfl) (by kernel_rfl) ?_
  simp only [Act.put, List.setIfInBounds_toArray, List.set_cons_zero, List.set_cons_succ, List.getElem_toArray, List.getElem_cons_zero, List.getElem_cons_succ]
  refine list_val (.bool false) (by kernel_rfl) (by kernel_rfl) ?_
  simp only [Act.put, List.setIfInBounds_toArray, List.set_cons_zero, List.set_cons_succ, List.getElem_toArray, List.getElem_cons_zero, List.getElem_cons_succ]
  refine wpList_nil ?_
  have hlg9 : 32 ≤ zz - lgo zz := by unfold lgo; omega
  replace hlg9 := hide hlg9
  by_cases hfit : ned n ≤ zz - lgo zz
  · skip
    go_upto_region 23 with fail
    refine wp_region_lit ?_
    refine list_val (.pointer (some ⟨l, 0, none⟩)) (by kernel_rfl) (by kernel_rfl) ?_
    simp only [Act.put, List.setIfInBounds_toArray, List.set_cons_zero, List.set_cons_succ, List.getElem_toArray, List.getElem_cons_zero, List.getElem_cons_succ]
    refine list_val (.slice ga n gc) (by kernel_rfl) (by kernel_rfl) ?_
    simp only [Act.put, List.setIfInBounds_toArray, List.set_cons_zero, List.set_cons_succ, List.getElem_toArray, List.getElem_cons_zero, List.getElem_cons_succ]
    refine list_val (.int .i64 (n : Int)) (by kernel_rfl) (by kernel_rfl) ?_
    simp only [Act.put, List.setIfInBounds_toArray, List.set_cons_zero, List.set_cons_succ, List.getElem_toArray, List.getElem_cons_zero, List.getElem_cons_succ]
    refine list_call 11 #[.pointer (some ⟨l, 0, none⟩), .int .i64 (n : Int)] (by kernel_rfl) (by kernel_rfl) ((x_room (unhide hX) (n : Int) (by omega) (by omega)).mono ?_)
    rintro r q3 ⟨rfl, hg⟩
    refine ⟨_, rfl, ?_⟩
    rw [show decide ((0 : Int) ≤ (n : Int) ∧ nedI (n : Int) ≤ ((D.safe.length - lgo D.safe.length - usd [] : Nat) : Int)) = true from by rw [unhide hDz, nedI_nat, show usd [] = 0 from rfl]; exact decide_eq_true ⟨by omega, by omega⟩]
    replace hX := hide ((unhide hX).more hg)
    clear hg
    simp only [Act.put, List.setIfInBounds_toArray, List.set_cons_zero, List.set_cons_succ, List.getElem_toArray, List.getElem_cons_zero, List.getElem_cons_succ]
    refine list_val (.bool false) (by kernel_rfl) (by kernel_rfl) ?_
    simp only [Act.put, List.setIfInBounds_toArray, List.set_cons_zero, List.set_cons_succ, List.getElem_toArray, List.getElem_cons_zero, List.getElem_cons_succ]
    refine wpList_nil ?_
    obtain ⟨kN, hkN⟩ : ∃ k, k = ned FB.length := ⟨_, rfl⟩
    have hkn : ned n = kN := by rw [hkN, unhide hFl]
    have hkb : kN ≤ 30 := by rw [← hkn]; unfold ned; omega
    replace hkN := hide hkN; replace hkn := hide hkn
    go_upto_region 25 with fail
    refine wp_region_lit ?_
    refine list_val (.pointer (some ⟨gd, 0, none⟩)) (by kernel_rfl) (by kernel_rfl) ?_
    simp only [Act.put, List.setIfInBounds_toArray, List.set_cons_zero, List.set_cons_succ, List.getElem_toArray, List.getElem_cons_zero, List.getElem_cons_succ]
    refine list_val (.slice ga n gc) (by kernel_rfl) (by kernel_rfl) ?_
    simp only [Act.put, List.setIfInBounds_toArray, List.set_cons_zero, List.set_cons_succ, List.getElem_toArray, List.getElem_cons_zero, List.getElem_cons_succ]
    refine list_val (.int .i64 (n : Int)) (by kernel_rfl) (by kernel_rfl) ?_
    simp only [Act.put, List.setIfInBounds_toArray, List.set_cons_zero, List.set_cons_succ, List.getElem_toArray, List.getElem_cons_zero, List.getElem_cons_succ]
    refine list_call 13 #[.int .i64 (n : Int)] (by kernel_rfl) (by kernel_rfl) ((wneed_ok (n : Int) (by omega) (by omega) _).mono ?_)
    rintro r q4 ⟨rfl, hg⟩
    refine ⟨_, rfl, ?_⟩
    rw [nedI_nat, unhide hkn]
    replace hX := hide ((unhide hX).more hg)
    clear hg
    simp only [Act.put, List.setIfInBounds_toArray, List.set_cons_zero, List.set_cons_succ, List.getElem_toArray, List.getElem_cons_zero, List.getElem_cons_succ]
    have hwd2 := hide (unhide hX).wd
    refine list_call 12 #[P0 gd, .int .i64 (kN : Int)] (by kernel_rfl) (by kernel_rfl) ((x_arm (unhide hX) (by omega) (kN : Int) (by omega) (by omega)).mono ?_)
    rintro r q5 ⟨F5, rfl, hR5, -⟩
    refine ⟨_, rfl, ?_⟩
    replace hR5 := hide hR5
    clear hX
    simp only [Act.put, List.setIfInBounds_toArray, List.set_cons_zero, List.set_cons_succ, List.getElem_toArray, List.getElem_cons_zero, List.getElem_cons_succ]
    refine list_val (.bool false) (by kernel_rfl) (by kernel_rfl) ?_
    simp only [Act.put, List.setIfInBounds_toArray, List.set_cons_zero, List.set_cons_succ, List.getElem_toArray, List.getElem_cons_zero, List.getElem_cons_succ]
    refine list_val (.bool false) (by kernel_rfl) (by kernel_rfl) ?_
    simp only [Act.put, List.setIfInBounds_toArray, List.set_cons_zero, List.set_cons_succ, List.getElem_toArray, List.getElem_cons_zero, List.getElem_cons_succ]
    refine list_val (.pointer (some ⟨l, 0, none⟩)) (by kernel_rfl) (by kernel_rfl) ?_
    simp only [Act.put, List.setIfInBounds_toArray, List.set_cons_zero, List.set_cons_succ, List.getElem_toArray, List.getElem_cons_zero, List.getElem_cons_succ]
    refine list_val (.slice ga n gc) (by kernel_rfl) (by kernel_rfl) ?_
    simp only [Act.put, List.setIfInBounds_toArray, List.set_cons_zero, List.set_cons_succ, List.getElem_toArray, List.getElem_cons_zero, List.getElem_cons_succ]
    have hfit2 : usd ([] : List (List Int)) + ned FB.length ≤ D.safe.length - lgo D.safe.length := by rw [unhide hDz, ← unhide hkN, ← unhide hkn, show usd [] = 0 from rfl]; omega
    have hFl2 := unhide hFl
    have hd := wd_app_dead (unhide hwd2) [] (unhide hFb) hfit2 (unhide hwd2).turn (by omega)
    rw [← unhide hkN] at hd
    have hok := run_ok (appOps (lgo D.safe.length) S0.turn ([] : List (List Int)).length (usd []) FB) ((unhide hwd2).fd.ok.arm (kN : Int) (by omega)) (fun y hy => (app_mem (unhide hFb) y hy).1)
    rw [app_len] at hok
    refine list_call 8 #[P0 l, .slice ga n gc] (by kernel_rfl) (by kernel_rfl) ((x_app_armed (kN : Int) (by omega) (by omega) (unhide hR5) (unhide hwd2) (by omega) (unhide hfz) FB ga n gc ((unhide hLg).gr (unhide hR5).gr) ((unhide hR5).far (unhide hLg)) hfit2).mono ?_)
    rintro r q6 ⟨F6, H6, rfl, hR6, -⟩
    rw [hd.1] at hR6 ⊢
    have hW6 := hide hd.2
    have hm6 : 3 + ((FB.length + 62) / 63 + 3) ≤ 40 := by rw [hFl2]; omega
    generalize 3 + ((FB.length + 62) / 63 + 3) = m6 at *
    have hsz6 : (Dk.runD (appOps (lgo D.safe.length) S0.turn ([] : List (List Int)).length (usd []) FB) (D.armD (kN : Int))).1.safe.length = zz := (run_len _ _).trans (by rw [(arm_parts (unhide hwd2).fd.dead (a := (kN : Int)) (by omega)).2.2.1]; exact unhide hDz)
    generalize (Dk.runD (appOps (lgo D.safe.length) S0.turn ([] : List (List Int)).length (usd []) FB) (D.armD (kN : Int))).1 = E6 at *
    refine ⟨_, rfl, ?_⟩
    replace hR6 := hide hR6; replace hok := hide hok; replace hsz6 := hide hsz6
    clear hR5 hd hfit2 hFl2
    simp only [Act.put, List.setIfInBounds_toArray, List.set_cons_zero, List.set_cons_succ, List.getElem_toArray, List.getElem_cons_zero, List.getElem_cons_succ]
    refine list_val (.bool false) (by kernel_rfl) (by kernel_rfl) ?_
    simp only [Act.put, List.setIfInBounds_toArray, List.set_cons_zero, List.set_cons_succ, List.getElem_toArray, List.getElem_cons_zero, List.getElem_cons_succ]
    refine list_val (.bool false) (by kernel_rfl) (by kernel_rfl) ?_
    simp only [Act.put, List.setIfInBounds_toArray, List.set_cons_zero, List.set_cons_succ, List.getElem_toArray, List.getElem_cons_zero, List.getElem_cons_succ]
    refine list_val (.bool false) (by kernel_rfl) (by kernel_rfl) ?_
    simp only [Act.put, List.setIfInBounds_toArray, List.set_cons_zero, List.set_cons_succ, List.getElem_toArray, List.getElem_cons_zero, List.getElem_cons_succ]
    refine list_val (.pointer (some ⟨gd, 0, none⟩)) (by kernel_rfl) (by kernel_rfl) ?_
    simp only [Act.put, List.setIfInBounds_toArray, List.set_cons_zero, List.set_cons_succ, List.getElem_toArray, List.getElem_cons_zero, List.getElem_cons_succ]
    refine list_call 14 #[P0 gd, .slice none 0 0] (by kernel_rfl) (by kernel_rfl) ((x_crash (unhide hR6) (unhide hok) (by omega) [] none 0 0 ⟨rfl, .inl rfl, by omega, by omega⟩ (.inl rfl)).mono ?_)
    rintro r q7 ⟨F7, rfl, hR7, -⟩
    have hsz7 : (E6.crashD []).safe.length = zz := by rw [crash_size]; exact unhide hsz6
    generalize E6.crashD [] = E7 at *
    refine ⟨_, rfl, ?_⟩
    replace hR7 := hide hR7; replace hsz7 := hide hsz7
    clear hR6 hok hsz6
    simp only [Act.put, List.setIfInBounds_toArray, List.set_cons_zero, List.set_cons_succ, List.getElem_toArray, List.getElem_cons_zero, List.getElem_cons_succ]
    refine list_val (.bool false) (by kernel_rfl) (by kernel_rfl) ?_
    simp only [Act.put, List.setIfInBounds_toArray, List.set_cons_zero, List.set_cons_succ, List.getElem_toArray, List.getElem_cons_zero, List.getElem_cons_succ]
    refine list_val (.bool false) (by kernel_rfl) (by kernel_rfl) ?_
    simp only [Act.put, List.setIfInBounds_toArray, List.set_cons_zero, List.set_cons_succ, List.getElem_toArray, List.getElem_cons_zero, List.getElem_cons_succ]
    refine wpList_nil ?_
    go_upto_region 27 with fail
    refine wp_region_lit ?_
    refine list_val (.pointer (some ⟨gd, 0, none⟩)) (by kernel_rfl) (by kernel_rfl) ?_
    simp only [Act.put, List.setIfInBounds_toArray, List.set_cons_zero, List.set_cons_succ, List.getElem_toArray, List.getElem_cons_zero, List.getElem_cons_succ]
    refine list_call 15 #[P0 gd] (by kernel_rfl) (by kernel_rfl) ((again_ok z F7 gd E7 m6 S0 [] [] (unhide hfz) q7 (unhide hR7).gr (unhide hR7).ls (unhide hR7).oF (unhide hW6) (by omega)).mono ?_)
    rintro r q8 ⟨l8, gs8, G8, H8, rfl, hX8, hg⟩
    refine ⟨_, rfl, ?_⟩
    replace hX8 := hide hX8
    clear hg hR7 hW6
    simp only [Act.put, List.setIfInBounds_toArray, List.set_cons_zero, List.set_cons_succ, List.getElem_toArray, List.getElem_cons_zero, List.getElem_cons_succ]
    refine list_val (.tuple #[.pointer (some ⟨l8, 0, none⟩), .bool true]) (by kernel_rfl) (by kernel_rfl) ?_
    simp only [Act.put, List.setIfInBounds_toArray, List.set_cons_zero, List.set_cons_succ, List.getElem_toArray, List.getElem_cons_zero, List.getElem_cons_succ]
    refine list_val (.pointer (some ⟨l8, 0, none⟩)) (by kernel_rfl) (by kernel_rfl) ?_
    simp only [Act.put, List.setIfInBounds_toArray, List.set_cons_zero, List.set_cons_succ, List.getElem_toArray, List.getElem_cons_zero, List.getElem_cons_succ]
    refine list_val (.bool true) (by kernel_rfl) (by kernel_rfl) ?_
    simp only [Act.put, List.setIfInBounds_toArray, List.set_cons_zero, List.set_cons_succ, List.getElem_toArray, List.getElem_cons_zero, List.getElem_cons_succ]
    (refine wpList_step fun K hK => ?_; replace hK := hide hK; go_simp; refine unhide hK _ _ ?_; clear hK K)
    (refine wpList_step fun K hK => ?_; replace hK := hide hK; go_simp; refine unhide hK _ _ ?_; clear hK K)
    refine wpList_nil ?_
    go_upto_region 28 with fail
    refine wp_region_lit ?_
    refine list_val (.bool true) (by kernel_rfl) (by kernel_rfl) ?_
    simp only [Act.put, List.setIfInBounds_toArray, List.set_cons_zero, List.set_cons_succ, List.getElem_toArray, List.getElem_cons_zero, List.getElem_cons_succ]
    refine list_val (.bool false) (by kernel_rfl) (by kernel_rfl) ?_
    simp only [Act.put, List.setIfInBounds_toArray, List.set_cons_zero, List.set_cons_succ, List.getElem_toArray, List.getElem_cons_zero, List.getElem_cons_succ]
    refine list_val (.bool false) (by kernel_rfl) (by kernel_rfl) ?_
    simp only [Act.put, List.setIfInBounds_toArray, List.set_cons_zero, List.set_cons_succ, List.getElem_toArray, List.getElem_cons_zero, List.getElem_cons_succ]
    refine list_val (.pointer (some ⟨l8, 0, none⟩)) (by kernel_rfl) (by kernel_rfl) ?_
    simp only [Act.put, List.setIfInBounds_toArray, List.set_cons_zero, List.set_cons_succ, List.getElem_toArray, List.getElem_cons_zero, List.getElem_cons_succ]
    refine list_call 16 #[P0 l8] (by kernel_rfl) (by kernel_rfl) ((x_txs (unhide hX8)).mono ?_)
    rintro r q9 ⟨vx, rfl, hox, hg⟩
    obtain ⟨xa, xc, rfl, hlq⟩ := hox.lq
    refine ⟨_, rfl, ?_⟩
    replace hX8 := hide ((unhide hX8).more hg)
    clear hox hg hlq
    simp only [Act.put, List.setIfInBounds_toArray, List.set_cons_zero, List.set_cons_succ, List.getElem_toArray, List.getElem_cons_zero, List.getElem_cons_succ]
    refine list_val (.int .i64 0) (by kernel_rfl) (by kernel_rfl) ?_
    simp only [Act.put, List.setIfInBounds_toArray, List.set_cons_zero, List.set_cons_succ, List.getElem_toArray, List.getElem_cons_zero, List.getElem_cons_succ]
    refine list_val (.bool false) (by kernel_rfl) (by kernel_rfl) ?_
    simp only [Act.put, List.setIfInBounds_toArray, List.set_cons_zero, List.set_cons_succ, List.getElem_toArray, List.getElem_cons_zero, List.getElem_cons_succ]
    refine list_val (.bool false) (by kernel_rfl) (by kernel_rfl) ?_
    simp only [Act.put, List.setIfInBounds_toArray, List.set_cons_zero, List.set_cons_succ, List.getElem_toArray, List.getElem_cons_zero, List.getElem_cons_succ]
    refine list_val (.bool false) (by kernel_rfl) (by kernel_rfl) ?_
    simp only [Act.put, List.setIfInBounds_toArray, List.set_cons_zero, List.set_cons_succ, List.getElem_toArray, List.getElem_cons_zero, List.getElem_cons_succ]
    refine list_val (.pointer (some ⟨l8, 0, none⟩)) (by kernel_rfl) (by kernel_rfl) ?_
    simp only [Act.put, List.setIfInBounds_toArray, List.set_cons_zero, List.set_cons_succ, List.getElem_toArray, List.getElem_cons_zero, List.getElem_cons_succ]
    refine list_call 8 #[P0 l8, .slice none 0 0] (by kernel_rfl) (by kernel_rfl) ((x_append (unhide hX8) (by omega) (unhide hfz) [] none 0 0 (Lb.nil0 _) (.inl rfl) (by rw [unhide hsz7]; have := unhide hlg9; show 0 + 1 ≤ _; omega)).mono ?_)
    rintro r q10 ⟨F10, H10, E10, rfl, hX10, hE10, hC, -⟩
    have hm10 : m6 + ((([] : List Int).length + 62) / 63 + 3) ≤ 50 := by simp; omega
    generalize m6 + ((([] : List Int).length + 62) / 63 + 3) = m10 at *
    refine ⟨_, rfl, ?_⟩
    replace hX10 := hide hX10
    clear hX8 hC hE10 hsz7
    simp only [Act.put, List.setIfInBounds_toArray, List.set_cons_zero, List.set_cons_succ, List.getElem_toArray, List.getElem_cons_zero, List.getElem_cons_succ]
    refine list_val (.bool false) (by kernel_rfl) (by kernel_rfl) ?_
    simp only [Act.put, List.setIfInBounds_toArray, List.set_cons_zero, List.set_cons_succ, List.getElem_toArray, List.getElem_cons_zero, List.getElem_cons_succ]
    refine list_val (.bool false) (by kernel_rfl) (by kernel_rfl) ?_
    simp only [Act.put, List.setIfInBounds_toArray, List.set_cons_zero, List.set_cons_succ, List.getElem_toArray, List.getElem_cons_zero, List.getElem_cons_succ]
    refine wpList_nil ?_
    go_upto_region 30 with fail
    refine wp_region_lit ?_
    refine list_val (.pointer (some ⟨gd, 0, none⟩)) (by kernel_rfl) (by kernel_rfl) ?_
    simp only [Act.put, List.setIfInBounds_toArray, List.set_cons_zero, List.set_cons_succ, List.getElem_toArray, List.getElem_cons_zero, List.getElem_cons_succ]
    refine list_call 15 #[P0 gd] (by kernel_rfl) (by kernel_rfl) ((again_ok z F10 gd E10 m10 S0 [] ([] ++ [[]]) (unhide hfz) q10 (unhide hX10).xs.gr (unhide hX10).xs.ls (unhide hX10).xs.oF (unhide hX10).wd (by omega)).mono ?_)
    rintro r q11 ⟨l11, gs11, G11, H11, rfl, hX11, hg⟩
    refine ⟨_, rfl, ?_⟩
    replace hX11 := hide hX11
    clear hg hX10
    simp only [Act.put, List.setIfInBounds_toArray, List.set_cons_zero, List.set_cons_succ, List.getElem_toArray, List.getElem_cons_zero, List.getElem_cons_succ]
    refine list_val (.tuple #[.pointer (some ⟨l11, 0, none⟩), .bool true]) (by kernel_rfl) (by kernel_rfl) ?_
    simp only [Act.put, List.setIfInBounds_toArray, List.set_cons_zero, List.set_cons_succ, List.getElem_toArray, List.getElem_cons_zero, List.getElem_cons_succ]
    refine list_val (.pointer (some ⟨l11, 0, none⟩)) (by kernel_rfl) (by kernel_rfl) ?_
    simp only [Act.put, List.setIfInBounds_toArray, List.set_cons_zero, List.set_cons_succ, List.getElem_toArray, List.getElem_cons_zero, List.getElem_cons_succ]
    refine list_val (.bool true) (by kernel_rfl) (by kernel_rfl) ?_
    simp only [Act.put, List.setIfInBounds_toArray, List.set_cons_zero, List.set_cons_succ, List.getElem_toArray, List.getElem_cons_zero, List.getElem_cons_succ]
    (refine wpList_step fun K hK => ?_; replace hK := hide hK; go_simp; refine unhide hK _ _ ?_; clear hK K)
    (refine wpList_step fun K hK => ?_; replace hK := hide hK; go_simp; refine unhide hK _ _ ?_; clear hK K)
    refine wpList_nil ?_
    go_upto_region 31 with fail
    refine wp_region_lit ?_
    refine list_val (.bool true) (by kernel_rfl) (by kernel_rfl) ?_
    simp only [Act.put, List.setIfInBounds_toArray, List.set_cons_zero, List.set_cons_succ, List.getElem_toArray, List.getElem_cons_zero, List.getElem_cons_succ]
    refine list_val (.bool true) (by kernel_rfl) (by kernel_rfl) ?_
    simp only [Act.put, List.setIfInBounds_toArray, List.set_cons_zero, List.set_cons_succ, List.getElem_toArray, List.getElem_cons_zero, List.getElem_cons_succ]
    refine list_val (.pointer (some ⟨l11, 0, none⟩)) (by kernel_rfl) (by kernel_rfl) ?_
    simp only [Act.put, List.setIfInBounds_toArray, List.set_cons_zero, List.set_cons_succ, List.getElem_toArray, List.getElem_cons_zero, List.getElem_cons_succ]
    refine list_call 16 #[P0 l11] (by kernel_rfl) (by kernel_rfl) ((x_txs (unhide hX11)).mono ?_)
    rintro r q12 ⟨vx, rfl, hox, hg⟩
    obtain ⟨xb, xd, rfl, hlq⟩ := hox.lq
    refine ⟨_, rfl, ?_⟩
    replace hX11 := hide ((unhide hX11).more hg)
    clear hox hg hlq
    simp only [Act.put, List.setIfInBounds_toArray, List.set_cons_zero, List.set_cons_succ, List.getElem_toArray, List.getElem_cons_zero, List.getElem_cons_succ]
    refine list_val (.int .i64 1) (by kernel_rfl) (by kernel_rfl) ?_
    simp only [Act.put, List.setIfInBounds_toArray, List.set_cons_zero, List.set_cons_succ, List.getElem_toArray, List.getElem_cons_zero, List.getElem_cons_succ]
    refine list_val (.bool true) (by kernel_rfl) (by kernel_rfl) ?_
    simp only [Act.put, List.setIfInBounds_toArray, List.set_cons_zero, List.set_cons_succ, List.getElem_toArray, List.getElem_cons_zero, List.getElem_cons_succ]
    refine list_val (.bool true) (by kernel_rfl) (by kernel_rfl) ?_
    simp only [Act.put, List.setIfInBounds_toArray, List.set_cons_zero, List.set_cons_succ, List.getElem_toArray, List.getElem_cons_zero, List.getElem_cons_succ]
    refine list_val (.bool true) (by kernel_rfl) (by kernel_rfl) ?_
    simp only [Act.put, List.setIfInBounds_toArray, List.set_cons_zero, List.set_cons_succ, List.getElem_toArray, List.getElem_cons_zero, List.getElem_cons_succ]
    refine list_val (.pointer (some ⟨l11, 0, none⟩)) (by kernel_rfl) (by kernel_rfl) ?_
    simp only [Act.put, List.setIfInBounds_toArray, List.set_cons_zero, List.set_cons_succ, List.getElem_toArray, List.getElem_cons_zero, List.getElem_cons_succ]
    refine list_call 16 #[P0 l11] (by kernel_rfl) (by kernel_rfl) ((x_txs (unhide hX11)).mono ?_)
    rintro r q13 ⟨vx, rfl, hox, hg⟩
    obtain ⟨ya, yc, rfl, hlq⟩ := hox.lq
    refine ⟨_, rfl, ?_⟩
    replace hX11 := hide ((unhide hX11).more hg)
    clear hox hg
    simp only [Act.put, List.setIfInBounds_toArray, List.set_cons_zero, List.set_cons_succ, List.getElem_toArray, List.getElem_cons_zero, List.getElem_cons_succ]
    obtain ⟨p, o9, ai, ni, ci, rfl, hcc, hLb, -⟩ := hlq.at_ 0 (by decide)
    have hni0 : ni = 0 := hLb.len.symm
    subst hni0
    clear hlq hLb
    refine list_val (.pointer (some ⟨p, o9 + 0, none⟩)) (by kernel_rfl) (exec_ils _ (.tmp 146) (.const (.int .i64 0)) rfl p o9 1 yc 0 (by kernel_rfl) (by kernel_rfl) (by omega)) ?_
    simp only [Act.put, List.setIfInBounds_toArray, List.set_cons_zero, List.set_cons_succ, List.getElem_toArray, List.getElem_cons_zero, List.getElem_cons_succ]
    refine list_val (.slice ai 0 ci) (by kernel_rfl) (exec_sby _ (.tmp 147) rfl p (o9 + 0) (by kernel_rfl) ai 0 ci hcc) ?_
    simp only [Act.put, List.setIfInBounds_toArray, List.set_cons_zero, List.set_cons_succ, List.getElem_toArray, List.getElem_cons_zero, List.getElem_cons_succ]
    refine list_val (.int .i64 0) (by kernel_rfl) (by kernel_rfl) ?_
    simp only [Act.put, List.setIfInBounds_toArray, List.set_cons_zero, List.set_cons_succ, List.getElem_toArray, List.getElem_cons_zero, List.getElem_cons_succ]
    refine list_val (.bool true) (by kernel_rfl) (by kernel_rfl) ?_
    simp only [Act.put, List.setIfInBounds_toArray, List.set_cons_zero, List.set_cons_succ, List.getElem_toArray, List.getElem_cons_zero, List.getElem_cons_succ]
    refine list_val (.bool true) (by kernel_rfl) (by kernel_rfl) ?_
    simp only [Act.put, List.setIfInBounds_toArray, List.set_cons_zero, List.set_cons_succ, List.getElem_toArray, List.getElem_cons_zero, List.getElem_cons_succ]
    (refine wpList_step fun K hK => ?_; replace hK := hide hK; go_simp; refine unhide hK _ _ ?_; clear hK K)
    refine wpList_nil ?_
    have hZ : Hid (Vl (.bool true) w (.returned (.bool true)) q13) := ⟨rfl, (unhide hgz).trans (unhide hX11).xs.gr⟩
    clear hX11
    go_wp2_with fail
    rw [unhide hT]
    exact unhide hZ
  · skip
    go_upto_region 23 with fail
    refine wp_region_lit ?_
    refine list_val (.pointer (some ⟨l, 0, none⟩)) (by kernel_rfl) (by kernel_rfl) ?_
    simp only [Act.put, List.setIfInBounds_toArray, List.set_cons_zero, List.set_cons_succ, List.getElem_toArray, List.getElem_cons_zero, List.getElem_cons_succ]
    refine list_val (.slice ga n gc) (by kernel_rfl) (by kernel_rfl) ?_
    simp only [Act.put, List.setIfInBounds_toArray, List.set_cons_zero, List.set_cons_succ, List.getElem_toArray, List.getElem_cons_zero, List.getElem_cons_succ]
    refine list_val (.int .i64 (n : Int)) (by kernel_rfl) (by kernel_rfl) ?_
    simp only [Act.put, List.setIfInBounds_toArray, List.set_cons_zero, List.set_cons_succ, List.getElem_toArray, List.getElem_cons_zero, List.getElem_cons_succ]
    refine list_call 11 #[.pointer (some ⟨l, 0, none⟩), .int .i64 (n : Int)] (by kernel_rfl) (by kernel_rfl) ((x_room (unhide hX) (n : Int) (by omega) (by omega)).mono ?_)
    rintro r q3 ⟨rfl, hg⟩
    refine ⟨_, rfl, ?_⟩
    rw [show decide ((0 : Int) ≤ (n : Int) ∧ nedI (n : Int) ≤ ((D.safe.length - lgo D.safe.length - usd [] : Nat) : Int)) = false from by rw [unhide hDz, nedI_nat, show usd [] = 0 from rfl]; exact decide_eq_false (fun h => by omega)]
    replace hX := hide ((unhide hX).more hg)
    clear hg
    simp only [Act.put, List.setIfInBounds_toArray, List.set_cons_zero, List.set_cons_succ, List.getElem_toArray, List.getElem_cons_zero, List.getElem_cons_succ]
    refine list_val (.bool true) (by kernel_rfl) (by kernel_rfl) ?_
    simp only [Act.put, List.setIfInBounds_toArray, List.set_cons_zero, List.set_cons_succ, List.getElem_toArray, List.getElem_cons_zero, List.getElem_cons_succ]
    refine wpList_nil ?_
    have hZ : Hid (Vl (.bool true) w (.returned (.bool true)) q3) := ⟨rfl, (unhide hgz).trans (unhide hX).xs.gr⟩
    clear hX
    go_wp2_with fail
    rw [unhide hT]
    exact unhide hZ
end Go.Proofs.YtaoiejgjdmakjabDoor
