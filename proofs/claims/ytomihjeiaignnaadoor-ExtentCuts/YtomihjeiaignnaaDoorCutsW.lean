/-
  Of layer 11: what the proofs lean on.
-/
import Derived.Test.YtomihjeiaignnaaDoorCutsE1
namespace Go.Proofs.YtomihjeiaignnaaDoor
open Go.RowKit
set_option maxRecDepth 100000
set_option linter.unusedSimpArgs false
set_option linter.unusedVariables false
set_option maxHeartbeats 1000000 in
theorem cuts_law (A B : List Int) (a0 a1 : Option Addr) (n0 c0 n1 c1 : Nat) (m0 m1 m2 : Int) (b0 : -9223372036854775808 ≤ m0 ∧ m0 < 9223372036854775808) (b1 : -9223372036854775808 ≤ m1 ∧ m1 < 9223372036854775808) (b2 : -9223372036854775808 ≤ m2 ∧ m2 < 9223372036854775808) (ka : Option Addr) (kn kp : Nat) (keep : List Bool) (hkn : kn ≤ 140737488351232) (w : World) (hf : Fst w) (hA : Lb w a0 n0 c0 A) (hA1 : Lb w a1 n1 c1 B) (hKp : Kp w ka kn kp keep) : Calls Tryd.prog 7 #[.slice a0 n0 c0, .slice a1 n1 c1, .agg #[.int .i64 m0, .int .i64 m1, .int .i64 m2, .slice ka kn kp]] w (Vl (.bool true) w) := by
  obtain ⟨T, hT⟩ : ∃ T, T = Vl (.bool true) w := ⟨_, rfl⟩
  rw [← hT]
  have hcA := hA.cap
  have hcB := hA1.cap
  obtain ⟨SO, hSO⟩ : ∃ X : Array Value, X = #[.int .i64 m0, .int .i64 m1, .int .i64 m2, .slice ka kn kp] := ⟨_, rfl⟩
  rw [← hSO]
  replace hT := hide hT; replace hf := hide hf; replace hA := hide hA; replace hA1 := hide hA1; replace hKp := hide hKp; replace hSO := hide hSO
  go_enter Tryd.func7, Tryd.ntmps7
  go_upto_region 1 with fail
  have hB := ((Bl.nil w).new SO 70)
  simp only [size_alloc, List.nil_append, List.cons_append] at hB
  generalize World.alloc _ _ = u at *
  rw [unhide hSO] at hB
  replace hB : Bl w [⟨w.heap.size, #[.int .i64 m0, .int .i64 m1, .int .i64 m2, .slice ka kn kp], 70⟩] u := hB
  refine wp_region_lit ?_
  refine list_call 9 #[] (by kernel_rfl) (by kernel_rfl) ((wakes_ok _ ((unhide hf).gr hB.gr)).mono ?_)
  rintro r v0 ⟨rfl, hg⟩
  refine ⟨_, rfl, ?_⟩
  replace hB := hB.more hg
  clear hg
  simp only [Act.put, List.setIfInBounds_toArray, List.set_cons_zero, List.set_cons_succ, List.getElem_toArray, List.getElem_cons_zero, List.getElem_cons_succ]
  refine list_val (.bool false) (by kernel_rfl) (by kernel_rfl) ?_
  simp only [Act.put, List.setIfInBounds_toArray, List.set_cons_zero, List.set_cons_succ, List.getElem_toArray, List.getElem_cons_zero, List.getElem_cons_succ]
  refine wpList_nil ?_
  have hf0 := hide ((unhide hf).gr hB.gr)
  have hA0 := hide ((unhide hA).gr hB.gr)
  have hB0 := hide ((unhide hA1).gr hB.gr)
  have hK0 := hide ((unhide hKp).gr hB.gr)
  clear hf hA hA1 hKp
  obtain ⟨qa, hqa⟩ : ∃ q : Int, q = (if m0 < 0 then 0 else m0) := ⟨_, rfl⟩
  have pa : 0 ≤ qa := by rw [hqa]; split <;> omega
  obtain ⟨ta, hta⟩ : ∃ t : Int, t = qa % 64 := ⟨_, rfl⟩
  have ra : 0 ≤ ta ∧ ta < 64 := by omega
  have eta : qa.tmod 64 = ta := by rw [Int.tmod_eq_emod_of_nonneg pa, hta]
  have ewa : IntKind.i64.wrap ta = ta := by rw [IntKind.wrap_i64]; omega
  obtain ⟨za, hza⟩ : ∃ z : Nat, (z : Int) = 64 + ta := ⟨(64 + ta).toNat, by omega⟩
  have exa : IntKind.i64.wrap (64 + ta) = (za : Int) := by rw [IntKind.wrap_i64]; omega
  replace hqa := hide hqa; replace hta := hide hta
  replace hB := hide hB
  go_upto_region 3 with fail
  replace hB := unhide hB
  refine wp_region_lit ?_
  refine list_val (.pointer (some ⟨w.heap.size, 0, none⟩)) (by kernel_rfl) (by kernel_rfl) ?_
  simp only [Act.put, List.setIfInBounds_toArray, List.set_cons_zero, List.set_cons_succ, List.getElem_toArray, List.getElem_cons_zero, List.getElem_cons_succ]
  refine list_val (.int .i64 m0) (by kernel_rfl) (exec_i64 _ (.tmp 19) rfl (w.heap.size) 0 (by kernel_rfl) m0 (cell_of (hB.get 0 (x := ⟨w.heap.size, #[.int .i64 m0, .int .i64 m1, .int .i64 m2, .slice ka kn kp], 70⟩) rfl) (i := 0) rfl)) ?_
  simp only [Act.put, List.setIfInBounds_toArray, List.set_cons_zero, List.set_cons_succ, List.getElem_toArray, List.getElem_cons_zero, List.getElem_cons_succ]
  refine list_val (.int .i64 qa) (by kernel_rfl) (by have hmx := unhide hqa; go_simp) ?_
  simp only [Act.put, List.setIfInBounds_toArray, List.set_cons_zero, List.set_cons_succ, List.getElem_toArray, List.getElem_cons_zero, List.getElem_cons_succ]
  refine list_val (.int .i64 ta) (by kernel_rfl) (by go_simp) ?_
  simp only [Act.put, List.setIfInBounds_toArray, List.set_cons_zero, List.set_cons_succ, List.getElem_toArray, List.getElem_cons_zero, List.getElem_cons_succ]
  refine list_val (.int .i64 (za : Int)) (by kernel_rfl) (by go_simp) ?_
  simp only [Act.put, List.setIfInBounds_toArray, List.set_cons_zero, List.set_cons_succ, List.getElem_toArray, List.getElem_cons_zero, List.getElem_cons_succ]
  refine list_call 10 #[.int .i64 (za : Int)] (by kernel_rfl) (by kernel_rfl) ((dnew_ok (za : Int) _).mono ?_)
  intro r v1 h6
  unfold Dne at h6
  rw [if_pos ⟨by omega, by omega⟩] at h6
  obtain ⟨gd, F, rfl, hL, hF, hg1⟩ := h6
  rw [Int.toNat_natCast] at hL
  have kD := dk0_ok za (by omega) (by omega)
  have kl : (dk0 za).safe.length = za := by unfold dk0; simp
  have kd : (dk0 za).dead = false := rfl
  have kf : (dk0 za).left = -1 := rfl
  generalize dk0 za = D0 at *
  refine ⟨_, rfl, ?_⟩
  replace hL := hide hL; replace hF := hide hF; replace kD := hide kD; replace hg1 := hide hg1; replace kf := hide kf
  simp only [Act.put, List.setIfInBounds_toArray, List.set_cons_zero, List.set_cons_succ, List.getElem_toArray, List.getElem_cons_zero, List.getElem_cons_succ]
  refine list_val (.tuple #[.pointer (some ⟨gd, 0, none⟩), .int .i64 0]) (by kernel_rfl) (by kernel_rfl) ?_
  simp only [Act.put, List.setIfInBounds_toArray, List.set_cons_zero, List.set_cons_succ, List.getElem_toArray, List.getElem_cons_zero, List.getElem_cons_succ]
  refine list_val (.pointer (some ⟨gd, 0, none⟩)) (by kernel_rfl) (by kernel_rfl) ?_
  simp only [Act.put, List.setIfInBounds_toArray, List.set_cons_zero, List.set_cons_succ, List.getElem_toArray, List.getElem_cons_zero, List.getElem_cons_succ]
  refine list_val (.int .i64 0) (by kernel_rfl) (by kernel_rfl) ?_
  simp only [Act.put, List.setIfInBounds_toArray, List.set_cons_zero, List.set_cons_succ, List.getElem_toArray, List.getElem_cons_zero, List.getElem_cons_succ]
  (refine wpList_step fun K hK => ?_; replace hK := hide hK; go_simp; refine unhide hK _ _ ?_; clear hK K)
  (refine wpList_step fun K hK => ?_; replace hK := hide hK; go_simp; refine unhide hK _ _ ?_; clear hK K)
  refine wpList_nil ?_
  replace hB := hide hB
  go_upto_region 6 with fail
  replace hB := unhide hB
  refine wp_region_lit ?_
  refine list_val (.pointer (some ⟨gd, 0, none⟩)) (by kernel_rfl) (by kernel_rfl) ?_
  simp only [Act.put, List.setIfInBounds_toArray, List.set_cons_zero, List.set_cons_succ, List.getElem_toArray, List.getElem_cons_zero, List.getElem_cons_succ]
  refine list_call 11 #[P0 gd] (by kernel_rfl) (by kernel_rfl) ((eformat_ok F gd 0 D0 (unhide kD) (by omega) kd (unhide kf) (by omega) _ (unhide hL) ((unhide hf0).gr (unhide hg1)) (fun e => by have := unhide hF 0 e; have := fst_size (unhide hf0); omega)).mono ?_)
  rintro r v2 ⟨g, F2, G, rfl, hL2, hS, hG, hap, hc⟩
  obtain ⟨q1, q2, q3, q4, -⟩ := fmt_all (unhide kD) kd (unhide kf) (by omega)
  generalize (Dk.runD fmtOps D0).1 = D1 at *
  have hX : Xs v0 F2 G g gd D1 sup0 v2 := by
    have hown : ∀ i ∈ F2, v0.heap.size ≤ i := fun i hi => (hc.new i hi).elim (unhide hF i) (fun e => Nat.le_trans (unhide hg1).size e)
    exact ⟨Chg.own (unhide hg1) hc (unhide hF), hL2, by rw [q3]; exact hS, hown, fun i hi => Nat.le_trans (unhide hg1).size (hG i hi), hap⟩
  have kn1 : D1.safe.length = za := q3.trans kl
  obtain ⟨s1, s2, s3, s4⟩ := sup0_is
  refine ⟨_, rfl, ?_⟩
  clear hL2 hS hG hap hc q1 q4 hL hF kD hg1 kl kd kf q3 s1 s3 s4
  generalize sup0 = S0 at *
  obtain ⟨Rm, hRm⟩ : ∃ x, x = 64 * ((za - 2) / 4) := ⟨_, rfl⟩
  have hR2 : Rm ≤ 1984 := by omega
  obtain ⟨na, hna⟩ : ∃ x, x = min n0 Rm := ⟨_, rfl⟩
  obtain ⟨nb, hnb⟩ : ∃ x, x = min n1 Rm := ⟨_, rfl⟩
  have ha1 : na ≤ n0 ∧ na ≤ Rm := by omega
  have hb1 : nb ≤ n1 ∧ nb ≤ Rm := by omega
  have ia : 0 ≤ (na : Int) ∧ (na : Int) ≤ (c0 : Int) := by omega
  have ib : 0 ≤ (nb : Int) ∧ (nb : Int) ≤ (c1 : Int) := by omega
  have hni : Hid ((na : Int) = if (Rm : Int) < (n0 : Int) then (Rm : Int) else (n0 : Int)) := by show _ = _; split <;> omega
  have hnj : Hid ((nb : Int) = if (Rm : Int) < (n1 : Int) then (Rm : Int) else (n1 : Int)) := by show _ = _; split <;> omega
  replace hX := hide hX; replace q2 := hide q2; replace hRm := hide hRm; replace hna := hide hna; replace hnb := hide hnb
  simp only [Act.put, List.setIfInBounds_toArray, List.set_cons_zero, List.set_cons_succ, List.getElem_toArray, List.getElem_cons_zero, List.getElem_cons_succ]
  refine list_val (.tuple #[.pointer (some ⟨g, 0, none⟩), .int .i64 0]) (by kernel_rfl) (by kernel_rfl) ?_
  simp only [Act.put, List.setIfInBounds_toArray, List.set_cons_zero, List.set_cons_succ, List.getElem_toArray, List.getElem_cons_zero, List.getElem_cons_succ]
  refine list_val (.pointer (some ⟨g, 0, none⟩)) (by kernel_rfl) (by kernel_rfl) ?_
  simp only [Act.put, List.setIfInBounds_toArray, List.set_cons_zero, List.set_cons_succ, List.getElem_toArray, List.getElem_cons_zero, List.getElem_cons_succ]
  refine list_val (.int .i64 0) (by kernel_rfl) (by kernel_rfl) ?_
  simp only [Act.put, List.setIfInBounds_toArray, List.set_cons_zero, List.set_cons_succ, List.getElem_toArray, List.getElem_cons_zero, List.getElem_cons_succ]
  (refine wpList_step fun K hK => ?_; replace hK := hide hK; go_simp; refine unhide hK _ _ ?_; clear hK K)
  (refine wpList_step fun K hK => ?_; replace hK := hide hK; go_simp; refine unhide hK _ _ ?_; clear hK K)
  refine wpList_nil ?_
  replace hB := hide hB
  go_upto_region 9 with fail
  replace hB := unhide hB
  refine any_start (S := fun _ => True) (by kernel_rfl) ?_
  replace hX := hide ((unhide hX).more (Gr.refl _).drew)
  generalize World.drew _ = w0 at *
  replace hB := hide hB
  simp only [List.size_toArray, List.length_cons, List.length_nil, Array.replicate, List.replicate]
  refine any_take (i := 0) (v := (.slice a0 n0 c0)) #[false, false, false, false, false, false, false, false, false, false, false, false, false, false, false, false] rfl (by kernel_rfl) (by kernel_rfl) (by kernel_rfl) (by kernel_rfl) (fun _ _ _ h => h) (.inl ⟨by kernel_rfl, fun x_ hu => by kernel_rfl⟩) trivial ?_
  simp only [Act.put, List.setIfInBounds_toArray, List.set_cons_zero, List.set_cons_succ, List.getElem_toArray, List.getElem_cons_zero, List.getElem_cons_succ]
  refine any_take (i := 1) (v := (.slice a0 n0 c0)) #[true, false, false, false, false, false, false, false, false, false, false, false, false, false, false, false] rfl (by kernel_rfl) (by kernel_rfl) (by kernel_rfl) (by kernel_rfl) (fun _ _ _ h => h) (.inl ⟨by kernel_rfl, fun x_ hu => by kernel_rfl⟩) trivial ?_
  simp only [Act.put, List.setIfInBounds_toArray, List.set_cons_zero, List.set_cons_succ, List.getElem_toArray, List.getElem_cons_zero, List.getElem_cons_succ]
  refine any_take (i := 2) (v := (.int .i64 n0)) #[true, true, false, false, false, false, false, false, false, false, false, false, false, false, false, false] rfl (by kernel_rfl) (by kernel_rfl) (by kernel_rfl) (by kernel_rfl) (fun _ _ _ h => h) (.inl ⟨by kernel_rfl, fun x_ hu => by kernel_rfl⟩) trivial ?_
  simp only [Act.put, List.setIfInBounds_toArray, List.set_cons_zero, List.set_cons_succ, List.getElem_toArray, List.getElem_cons_zero, List.getElem_cons_succ]
  refine any_take (i := 3) (v := (.pointer (some ⟨g, 0, none⟩))) #[true, true, true, false, false, false, false, false, false, false, false, false, false, false, false, false] rfl (by kernel_rfl) (by kernel_rfl) (by kernel_rfl) (by kernel_rfl) (fun _ _ _ h => h) (.inl ⟨by kernel_rfl, fun x_ hu => by kernel_rfl⟩) trivial ?_
  simp only [Act.put, List.setIfInBounds_toArray, List.set_cons_zero, List.set_cons_succ, List.getElem_toArray, List.getElem_cons_zero, List.getElem_cons_succ]
  refine any_take (i := 7) (v := (.slice a1 n1 c1)) #[true, true, true, true, false, false, false, false, false, false, false, false, false, false, false, false] rfl (by kernel_rfl) (by kernel_rfl) (by kernel_rfl) (by kernel_rfl) (fun _ _ _ h => h) (.inl ⟨by kernel_rfl, fun x_ hu => by kernel_rfl⟩) trivial ?_
  simp only [Act.put, List.setIfInBounds_toArray, List.set_cons_zero, List.set_cons_succ, List.getElem_toArray, List.getElem_cons_zero, List.getElem_cons_succ]
  refine any_take (i := 8) (v := (.slice a1 n1 c1)) #[true, true, true, true, false, false, false, true, false, false, false, false, false, false, false, false] rfl (by kernel_rfl) (by kernel_rfl) (by kernel_rfl) (by kernel_rfl) (fun _ _ _ h => h) (.inl ⟨by kernel_rfl, fun x_ hu => by kernel_rfl⟩) trivial ?_
  simp only [Act.put, List.setIfInBounds_toArray, List.set_cons_zero, List.set_cons_succ, List.getElem_toArray, List.getElem_cons_zero, List.getElem_cons_succ]
  refine any_take (i := 9) (v := (.int .i64 n1)) #[true, true, true, true, false, false, false, true, true, false, false, false, false, false, false, false] rfl (by kernel_rfl) (by kernel_rfl) (by kernel_rfl) (by kernel_rfl) (fun _ _ _ h => h) (.inl ⟨by kernel_rfl, fun x_ hu => by kernel_rfl⟩) trivial ?_
  simp only [Act.put, List.setIfInBounds_toArray, List.set_cons_zero, List.set_cons_succ, List.getElem_toArray, List.getElem_cons_zero, List.getElem_cons_succ]
  refine any_take (i := 10) (v := (.pointer (some ⟨g, 0, none⟩))) #[true, true, true, true, false, false, false, true, true, true, false, false, false, false, false, false] rfl (by kernel_rfl) (by kernel_rfl) (by kernel_rfl) (by kernel_rfl) (fun _ _ _ h => h) (.inl ⟨by kernel_rfl, fun x_ hu => by kernel_rfl⟩) trivial ?_
  simp only [Act.put, List.setIfInBounds_toArray, List.set_cons_zero, List.set_cons_succ, List.getElem_toArray, List.getElem_cons_zero, List.getElem_cons_succ]
  refine any_one (i := 4) (by kernel_rfl) rfl (fun K_ hQ => ?_)
  refine step_callw (by kernel_rfl) 14 #[P0 g] (by kernel_rfl) ((eroom_ok F2 G g gd 3 D1 S0 (unhide q2).ok _ (unhide hX).ls (unhide hX).st).mono ?_)
  rintro r w4 ⟨rfl, hg⟩
  refine ⟨_, rfl, ?_⟩
  rw [kn1, ← unhide hRm]
  replace hX := hide ((unhide hX).more hg)
  clear hg
  refine hQ.out _ _ trivial (fun _ => ?_)
  clear hQ K_
  simp only [Act.put, List.setIfInBounds_toArray, List.set_cons_zero, List.set_cons_succ, List.getElem_toArray, List.getElem_cons_zero, List.getElem_cons_succ]
  refine any_take (i := 5) (v := (.int .i64 (na : Int))) #[true, true, true, true, true, false, false, true, true, true, true, false, false, false, false, false] rfl (by kernel_rfl) (by kernel_rfl) (by kernel_rfl) (by kernel_rfl) (fun _ _ _ h => h) (.inl ⟨by kernel_rfl, fun x_ hu => by have hmx := unhide hni; go_simp⟩) trivial ?_
  simp only [Act.put, List.setIfInBounds_toArray, List.set_cons_zero, List.set_cons_succ, List.getElem_toArray, List.getElem_cons_zero, List.getElem_cons_succ]
  refine any_take (i := 6) (v := (.slice a0 na c0)) #[true, true, true, true, true, true, false, true, true, true, true, false, false, false, false, false] rfl (by kernel_rfl) (by kernel_rfl) (by kernel_rfl) (by kernel_rfl) (fun _ _ _ h => h) (.inl ⟨by kernel_rfl, fun x_ hu => by go_simp⟩) trivial ?_
  simp only [Act.put, List.setIfInBounds_toArray, List.set_cons_zero, List.set_cons_succ, List.getElem_toArray, List.getElem_cons_zero, List.getElem_cons_succ]
  refine any_one (i := 11) (by kernel_rfl) rfl (fun K_ hQ => ?_)
  refine step_callw (by kernel_rfl) 14 #[P0 g] (by kernel_rfl) ((eroom_ok F2 G g gd 3 D1 S0 (unhide q2).ok _ (unhide hX).ls (unhide hX).st).mono ?_)
  rintro r w11 ⟨rfl, hg⟩
  refine ⟨_, rfl, ?_⟩
  rw [kn1, ← unhide hRm]
  replace hX := hide ((unhide hX).more hg)
  clear hg
  refine hQ.out _ _ trivial (fun _ => ?_)
  clear hQ K_
  simp only [Act.put, List.setIfInBounds_toArray, List.set_cons_zero, List.set_cons_succ, List.getElem_toArray, List.getElem_cons_zero, List.getElem_cons_succ]
  refine any_take (i := 12) (v := (.int .i64 (nb : Int))) #[true, true, true, true, true, true, true, true, true, true, true, true, false, false, false, false] rfl (by kernel_rfl) (by kernel_rfl) (by kernel_rfl) (by kernel_rfl) (fun _ _ _ h => h) (.inl ⟨by kernel_rfl, fun x_ hu => by have hmx := unhide hnj; go_simp⟩) trivial ?_
  simp only [Act.put, List.setIfInBounds_toArray, List.set_cons_zero, List.set_cons_succ, List.getElem_toArray, List.getElem_cons_zero, List.getElem_cons_succ]
  refine any_take (i := 13) (v := (.slice a1 nb c1)) #[true, true, true, true, true, true, true, true, true, true, true, true, true, false, false, false] rfl (by kernel_rfl) (by kernel_rfl) (by kernel_rfl) (by kernel_rfl) (fun _ _ _ h => h) (.inl ⟨by kernel_rfl, fun x_ hu => by go_simp⟩) trivial ?_
  simp only [Act.put, List.setIfInBounds_toArray, List.set_cons_zero, List.set_cons_succ, List.getElem_toArray, List.getElem_cons_zero, List.getElem_cons_succ]
  refine any_one (i := 14) (by kernel_rfl) rfl (fun K_ hQ => ?_)
  replace hQ := hide hQ
  go_simp
  refine (unhide hQ).out _ _ trivial (fun _ => ?_)
  clear hQ K_
  refine any_one (i := 15) (by kernel_rfl) rfl (fun K_ hQ => ?_)
  replace hQ := hide hQ
  go_simp
  refine (unhide hQ).out _ _ trivial (fun _ => ?_)
  clear hQ K_
  refine any_done (by kernel_rfl) ?_
  obtain ⟨A2, hA2⟩ : ∃ x, x = A.take na := ⟨_, rfl⟩
  obtain ⟨B2, hB2⟩ : ∃ x, x = B.take nb := ⟨_, rfl⟩
  have lA := (unhide hA0).pre na ha1.1
  have lB := (unhide hB0).pre nb hb1.1
  rw [← hA2] at lA
  rw [← hB2] at lB
  have nA : A2.length = na := lA.len
  have nB : B2.length = nb := lB.len
  replace lA := hide lA; replace lB := hide lB; replace hA2 := hide hA2; replace hB2 := hide hB2
  clear hA0 hB0
  obtain ⟨qb, hqb⟩ : ∃ q : Int, q = (if m1 < 0 then 0 else m1) := ⟨_, rfl⟩
  have pb : 0 ≤ qb := by rw [hqb]; split <;> omega
  obtain ⟨tb, htb⟩ : ∃ t : Int, t = qb % 3 := ⟨_, rfl⟩
  have rb : 0 ≤ tb ∧ tb < 3 := by omega
  have etb : qb.tmod 3 = tb := by rw [Int.tmod_eq_emod_of_nonneg pb, htb]
  have ewb : IntKind.i64.wrap tb = tb := by rw [IntKind.wrap_i64]; omega
  obtain ⟨zb, hzb⟩ : ∃ z : Nat, (z : Int) = 1 + tb := ⟨(1 + tb).toNat, by omega⟩
  have exb : IntKind.i64.wrap (1 + tb) = (zb : Int) := by rw [IntKind.wrap_i64]; omega
  replace hqb := hide hqb; replace htb := hide htb
  obtain ⟨qc, hqc⟩ : ∃ q : Int, q = (if m2 < 0 then 0 else m2) := ⟨_, rfl⟩
  have pc : 0 ≤ qc := by rw [hqc]; split <;> omega
  obtain ⟨tc, htc⟩ : ∃ t : Int, t = qc % 20 := ⟨_, rfl⟩
  have rc : 0 ≤ tc ∧ tc < 20 := by omega
  have etc : qc.tmod 20 = tc := by rw [Int.tmod_eq_emod_of_nonneg pc, htc]
  have ewc : IntKind.i64.wrap tc = tc := by rw [IntKind.wrap_i64]; omega
  obtain ⟨zc, hzc⟩ : ∃ z : Nat, (z : Int) = 0 + tc := ⟨(0 + tc).toNat, by omega⟩
  have exc : IntKind.i64.wrap (0 + tc) = (zc : Int) := by rw [IntKind.wrap_i64]; omega
  replace hqc := hide hqc; replace htc := hide htc
  go_upto_region 10 with fail
  replace hB := unhide hB
  refine wp_region_lit ?_
  refine list_val (.pointer (some ⟨w.heap.size, 1, none⟩)) (by kernel_rfl) (by kernel_rfl) ?_
  simp only [Act.put, List.setIfInBounds_toArray, List.set_cons_zero, List.set_cons_succ, List.getElem_toArray, List.getElem_cons_zero, List.getElem_cons_succ]
  refine list_val (.int .i64 m1) (by kernel_rfl) (exec_i64 _ (.tmp 50) rfl (w.heap.size) 1 (by kernel_rfl) m1 (cell_of ((hB.more (unhide hX).gr).get 0 (x := ⟨w.heap.size, #[.int .i64 m0, .int .i64 m1, .int .i64 m2, .slice ka kn kp], 70⟩) rfl) (i := 1) rfl)) ?_
  simp only [Act.put, List.setIfInBounds_toArray, List.set_cons_zero, List.set_cons_succ, List.getElem_toArray, List.getElem_cons_zero, List.getElem_cons_succ]
  refine list_val (.int .i64 qb) (by kernel_rfl) (by have hmx := unhide hqb; go_simp) ?_
  simp only [Act.put, List.setIfInBounds_toArray, List.set_cons_zero, List.set_cons_succ, List.getElem_toArray, List.getElem_cons_zero, List.getElem_cons_succ]
  refine list_val (.int .i64 tb) (by kernel_rfl) (by go_simp) ?_
  simp only [Act.put, List.setIfInBounds_toArray, List.set_cons_zero, List.set_cons_succ, List.getElem_toArray, List.getElem_cons_zero, List.getElem_cons_succ]
  refine list_val (.int .i64 (zb : Int)) (by kernel_rfl) (by go_simp) ?_
  simp only [Act.put, List.setIfInBounds_toArray, List.set_cons_zero, List.set_cons_succ, List.getElem_toArray, List.getElem_cons_zero, List.getElem_cons_succ]
  refine list_val (.int .i64 0) (by kernel_rfl) (by kernel_rfl) ?_
  simp only [Act.put, List.setIfInBounds_toArray, List.set_cons_zero, List.set_cons_succ, List.getElem_toArray, List.getElem_cons_zero, List.getElem_cons_succ]
  refine wpList_nil ?_
  have hz1 : 1 ≤ zb ∧ zb ≤ 3 := by omega
  have hJ0 : Hid (∃ F G D s, Xs v0 F G g gd D s w11 ∧ Fd D (3 + 40 * 0) s (if 0 = 0 then [] else A2) ∧ s.turn = 0 ∧ D.safe.length = za) := ⟨F2, G, D1, S0, unhide hX, (unhide q2).up (by omega), s2, kn1⟩
  replace hB := hide hB
  clear hX q2
  go_wp2_with fail
  go_loopw [55] (fun i wr => ∃ j : Nat, j ≤ zb ∧ i = .int .i64 (j : Int) ∧ Hid (∃ F G D s, Xs v0 F G g gd D s wr ∧ Fd D (3 + 40 * j) s (if j = 0 then [] else A2) ∧ s.turn = j ∧ D.safe.length = za)) (fun i _ => zb - (intOf i).toNat)
  case atStart => exact ⟨0, by omega, rfl, hJ0⟩
  case round =>
  clear hJ0
  obtain ⟨j, hj, rfl, hJ⟩ := hrel
  obtain ⟨F3, G3, D3, s3, hX, hFd, hst, kn3⟩ := unhide hJ
  clear hJ
  replace hX := hide hX; replace hFd := hide hFd
  by_cases hjz : j < zb
  · skip
    have jI : (j : Int) < (zb : Int) := by omega
    go_upto_region 12 with fail
    refine wp_region_lit ?_
    refine list_val (.pointer (some ⟨g, 0, none⟩)) (by kernel_rfl) (by kernel_rfl) ?_
    simp only [Act.put, List.setIfInBounds_toArray, List.set_cons_zero, List.set_cons_succ, List.getElem_toArray, List.getElem_cons_zero, List.getElem_cons_succ]
    refine list_val (.slice a0 na c0) (by kernel_rfl) (by kernel_rfl) ?_
    simp only [Act.put, List.setIfInBounds_toArray, List.set_cons_zero, List.set_cons_succ, List.getElem_toArray, List.getElem_cons_zero, List.getElem_cons_succ]
    have hfit : na ≤ 64 * ((D3.safe.length - 2) / 4) := by rw [kn3, ← unhide hRm]; exact ha1.2
    refine list_call 13 #[P0 g, .slice a0 na c0] (by kernel_rfl) (by kernel_rfl) ((etake_ok F3 G3 g gd _ D3 s3 _ (unhide hFd).ok (by omega) (unhide hFd).dead _ (unhide hX).ls (unhide hX).st (unhide hFd).len (unhide hFd).hs.os (unhide hX).ap ((unhide hf0).gr (unhide hX).gr) ((unhide hX).none_ (unhide hf0)) A2 a0 na c0 ((unhide lA).gr (unhide hX).gr) ((unhide hX).far (unhide lA)) hfit (by omega)).mono ?_)
    rintro r u4 ⟨F4, G4, rfl, hL4, hS4, hap4, hc4⟩
    obtain ⟨t1, t2, t3, -, -⟩ := take_all (M := A2) (unhide hFd) (unhide lA).isB (by rw [nA]; exact hfit) (by omega)
    rw [t1] at hS4 ⊢
    rw [if_pos rfl] at hS4
    obtain ⟨n1_, -, -, -⟩ := s3.next_is A2
    generalize (Dk.runD (takeOps s3 ((D3.safe.length - 2) / 4) A2) D3).1 = D4 at *
    have hX4 := (unhide hX).turn t3 hL4 hS4 hap4 hc4
    generalize s3.next A2 = s4 at *
    have hJ2 : Hid (∃ F G D s, Xs v0 F G g gd D s u4 ∧ Fd D (3 + 40 * (j + 1)) s (if (j + 1) = 0 then [] else A2) ∧ s.turn = (j + 1) ∧ D.safe.length = za) := ⟨F4, G4, D4, s4, hX4, by rw [if_neg (by omega)]; exact t2.up (by omega), by omega, t3.trans kn3⟩
    refine ⟨_, rfl, ?_⟩
    clear hL4 hS4 hap4 hc4 t1 t2 t3 n1_ hX4 hX hFd hfit
    simp only [Act.put, List.setIfInBounds_toArray, List.set_cons_zero, List.set_cons_succ, List.getElem_toArray, List.getElem_cons_zero, List.getElem_cons_succ]
    refine list_val (.bool false) (by kernel_rfl) (by go_simp) ?_
    simp only [Act.put, List.setIfInBounds_toArray, List.set_cons_zero, List.set_cons_succ, List.getElem_toArray, List.getElem_cons_zero, List.getElem_cons_succ]
    refine wpList_nil ?_
    go_wp2_with fail
    go_roundw
    case rel => exact ⟨j + 1, by omega, by go_num, hJ2⟩
    case measure => simp [intOf]; omega
  have jI : ¬ (j : Int) < (zb : Int) := by omega
  have hjz2 : j = zb := by omega
  have hj13 : 1 ≤ j ∧ j ≤ 3 := by omega
  replace hFd : Hid (Fd D3 (3 + 40 * j) s3 A2) := by have h := unhide hFd; rw [if_neg (by omega)] at h; exact h
  replace hjz2 := hide hjz2
  go_upto_region 15 with fail
  refine wp_region_lit ?_
  refine list_val (.pointer (some ⟨g, 0, none⟩)) (by kernel_rfl) (by kernel_rfl) ?_
  simp only [Act.put, List.setIfInBounds_toArray, List.set_cons_zero, List.set_cons_succ, List.getElem_toArray, List.getElem_cons_zero, List.getElem_cons_succ]
  refine list_call 20 #[.pointer (some ⟨g, 0, none⟩)] (by kernel_rfl) (by kernel_rfl) ((eturn_ok F3 G3 g gd _ D3 s3 A2 (unhide hFd).ok (by omega) (unhide hFd).dead (unhide hFd).len _ (unhide hX).ls (unhide hX).st (unhide hFd).hs.os ((unhide hf0).gr (unhide hX).gr)).mono ?_)
  rintro r u5 ⟨rfl, hg⟩
  refine ⟨_, rfl, ?_⟩
  rw [hst]
  replace hX := hide ((unhide hX).more hg)
  clear hg
  simp only [Act.put, List.setIfInBounds_toArray, List.set_cons_zero, List.set_cons_succ, List.getElem_toArray, List.getElem_cons_zero, List.getElem_cons_succ]
  (refine wpList_step fun K hK => ?_; replace hK := hide hK; go_simp; refine unhide hK _ _ ?_; clear hK K)
  refine wpList_nil ?_
  go_upto_region 16 with fail
  replace hB := unhide hB
  refine wp_region_lit ?_
  refine list_val (.pointer (some ⟨gd, 0, none⟩)) (by kernel_rfl) (by kernel_rfl) ?_
  simp only [Act.put, List.setIfInBounds_toArray, List.set_cons_zero, List.set_cons_succ, List.getElem_toArray, List.getElem_cons_zero, List.getElem_cons_succ]
  refine list_val (.pointer (some ⟨w.heap.size, 2, none⟩)) (by kernel_rfl) (by kernel_rfl) ?_
  simp only [Act.put, List.setIfInBounds_toArray, List.set_cons_zero, List.set_cons_succ, List.getElem_toArray, List.getElem_cons_zero, List.getElem_cons_succ]
  refine list_val (.int .i64 m2) (by kernel_rfl) (exec_i64 _ (.tmp 65) rfl (w.heap.size) 2 (by kernel_rfl) m2 (cell_of ((hB.more (unhide hX).gr).get 0 (x := ⟨w.heap.size, #[.int .i64 m0, .int .i64 m1, .int .i64 m2, .slice ka kn kp], 70⟩) rfl) (i := 2) rfl)) ?_
  simp only [Act.put, List.setIfInBounds_toArray, List.set_cons_zero, List.set_cons_succ, List.getElem_toArray, List.getElem_cons_zero, List.getElem_cons_succ]
  refine list_val (.int .i64 qc) (by kernel_rfl) (by have hmx := unhide hqc; go_simp) ?_
  simp only [Act.put, List.setIfInBounds_toArray, List.set_cons_zero, List.set_cons_succ, List.getElem_toArray, List.getElem_cons_zero, List.getElem_cons_succ]
  refine list_val (.int .i64 tc) (by kernel_rfl) (by go_simp) ?_
  simp only [Act.put, List.setIfInBounds_toArray, List.set_cons_zero, List.set_cons_succ, List.getElem_toArray, List.getElem_cons_zero, List.getElem_cons_succ]
  refine list_call 31 #[P0 gd, .int .i64 tc] (by kernel_rfl) (by kernel_rfl) ((darm_ok F3 gd _ D3 (unhide hFd).ok (by omega) tc (by omega) (by omega) _ (unhide hX).ls).mono ?_)
  rintro r u6 ⟨F5, rfl, hL5, hc5⟩
  obtain ⟨d1, d2, d3, d4, d5⟩ := arm_is (unhide hFd).dead tc rc.1
  have hcut := take_cut (M := B2) (unhide hFd) tc rc.1 (by omega) keep (unhide lB).isB (by rw [nB, kn3, ← unhide hRm]; exact hb1.2) (by omega)
  have okn := next_ok (unhide hFd).hs (unhide lB).isB (by rw [nB, kn3, ← unhide hRm]; exact hb1.2) (by omega) (by omega)
  have okA := (unhide hFd).ok.arm tc (by omega)
  have okE := run_ok (takeOps s3 ((D3.safe.length - 2) / 4) B2) okA (take_bb (unhide lB).isB okn)
  rw [take_len, nB] at okE
  have lenE := run_len (takeOps s3 ((D3.safe.length - 2) / 4) B2) (D3.armD tc)
  rw [d5]
  have hX5 := (unhide hX).dsk (by rw [d2]) hL5 hc5
  generalize D3.armD tc = DA at *
  have hlA : DA.safe.length = D3.safe.length := by rw [d2]
  have osA : Os DA ((DA.safe.length - 2) / 4) s3 A2 := Hs.os (by rw [d4, hlA]; exact (unhide hFd).hs)
  refine ⟨_, rfl, ?_⟩
  clear hL5 hc5 d2 d3 d4 d5 hX okn
  replace hX5 := hide hX5; replace hcut := hide hcut; replace okA := hide okA; replace okE := hide okE; replace osA := hide osA
  simp only [Act.put, List.setIfInBounds_toArray, List.set_cons_zero, List.set_cons_succ, List.getElem_toArray, List.getElem_cons_zero, List.getElem_cons_succ]
  refine wpList_nil ?_
  replace hB := hide hB
  go_upto_region 17 with fail
  replace hB := unhide hB
  refine wp_region_lit ?_
  refine list_val (.pointer (some ⟨g, 0, none⟩)) (by kernel_rfl) (by kernel_rfl) ?_
  simp only [Act.put, List.setIfInBounds_toArray, List.set_cons_zero, List.set_cons_succ, List.getElem_toArray, List.getElem_cons_zero, List.getElem_cons_succ]
  refine list_val (.slice a1 nb c1) (by kernel_rfl) (by kernel_rfl) ?_
  simp only [Act.put, List.setIfInBounds_toArray, List.set_cons_zero, List.set_cons_succ, List.getElem_toArray, List.getElem_cons_zero, List.getElem_cons_succ]
  have hfit : nb ≤ 64 * ((DA.safe.length - 2) / 4) := by rw [hlA, kn3, ← unhide hRm]; exact hb1.2
  refine list_call 13 #[P0 g, .slice a1 nb c1] (by kernel_rfl) (by kernel_rfl) ((etake_ok F5 G3 g gd _ DA s3 _ (unhide okA) (by omega) d1 _ (unhide hX5).ls (unhide hX5).st (by rw [hlA]; exact (unhide hFd).len) (unhide osA) (unhide hX5).ap ((unhide hf0).gr (unhide hX5).gr) ((unhide hX5).none_ (unhide hf0)) B2 a1 nb c1 ((unhide lB).gr (unhide hX5).gr) ((unhide hX5).far (unhide lB)) hfit (by omega)).mono ?_)
  rintro r u7 ⟨F6, G6, rfl, hL6, hS6, hap6, hc6⟩
  rw [hlA] at hL6 hS6 ⊢
  replace hcut := unhide hcut
  generalize (Dk.runD (takeOps s3 ((D3.safe.length - 2) / 4) B2) DA).1 = E at *
  generalize (Dk.runD (takeOps s3 ((D3.safe.length - 2) / 4) B2) DA).2 = e at *
  have hX6 := (unhide hX5).turn lenE hL6 (by rw [hlA]; exact hS6) hap6 hc6
  obtain ⟨n1_, -, -, -⟩ := s3.next_is B2
  generalize s3.next B2 = s4 at *
  have lenE3 : E.safe.length = za := by rw [lenE, hlA]; exact kn3
  refine ⟨_, rfl, ?_⟩
  clear hL6 hS6 hap6 hc6 hX5 osA okA hfit lenE
  replace hX6 := hide hX6; replace hcut := hide hcut
  simp only [Act.put, List.setIfInBounds_toArray, List.set_cons_zero, List.set_cons_succ, List.getElem_toArray, List.getElem_cons_zero, List.getElem_cons_succ]
  (refine wpList_step fun K hK => ?_; replace hK := hide hK; go_simp; refine unhide hK _ _ ?_; clear hK K)
  refine wpList_nil ?_
  replace hB := hide hB
  have h64 : 64 ≤ za := by omega
  have nbs : (nb + 63) / 64 ≤ 40 := by omega
  have wj : IntKind.u64.wrap ((j : Int) + 1) = ((j + 1 : Nat) : Int) := by rw [IntKind.wrap_u64]; omega
  rcases unhide hcut with ⟨h1, h2, h3⟩ | ⟨h1, h2, h3 | h3⟩
  · skip
    subst h1
    clear hcut
    replace h3 := hide h3; replace h2 := hide h2
    go_upto_region 18 with fail
    refine wp_region_lit ?_
    refine list_val (.pointer (some ⟨gd, 0, none⟩)) (by kernel_rfl) (by kernel_rfl) ?_
    simp only [Act.put, List.setIfInBounds_toArray, List.set_cons_zero, List.set_cons_succ, List.getElem_toArray, List.getElem_cons_zero, List.getElem_cons_succ]
    refine list_call 32 #[.pointer (some ⟨gd, 0, none⟩)] (by kernel_rfl) (by kernel_rfl) ((ddead_ok F6 gd _ E (unhide okE) (by omega) _ (unhide hX6).ls).mono ?_)
    rintro r u8 ⟨rfl, hg⟩
    refine ⟨_, rfl, ?_⟩
    rw [unhide h2]
    replace hX6 := hide ((unhide hX6).more hg)
    clear hg
    simp only [Act.put, List.setIfInBounds_toArray, List.set_cons_zero, List.set_cons_succ, List.getElem_toArray, List.getElem_cons_zero, List.getElem_cons_succ]
    (refine wpList_step fun K hK => ?_; replace hK := hide hK; go_simp; refine unhide hK _ _ ?_; clear hK K)
    refine wpList_nil ?_
    go_upto_region 19 with fail
    replace hB := unhide hB
    refine wp_region_lit ?_
    refine list_val (.pointer (some ⟨gd, 0, none⟩)) (by kernel_rfl) (by kernel_rfl) ?_
    simp only [Act.put, List.setIfInBounds_toArray, List.set_cons_zero, List.set_cons_succ, List.getElem_toArray, List.getElem_cons_zero, List.getElem_cons_succ]
    refine list_valw (.slice (some ⟨u8.heap.size, 0, none⟩) 0 0) (u8.alloc (.cells #[] 4 (0, 0))) (by kernel_rfl) (by kernel_rfl) ?_
    have hor : Or_ 1 4 u8.heap.size (u8.alloc (.cells #[] 4 (0, 0))) (.slice (some ⟨u8.heap.size, 0, none⟩) 0 0) [] := ⟨(fun r hr => by cases hr), rfl, .inr ⟨u8.heap.size, 0, _, rfl, Nat.le_refl _, blk_new _ _, Nat.zero_le _, by unfold maxLen; omega, rfl, rfl⟩⟩
    have hG := (Gr.refl u8).alloc (.cells #[] 4 (0, 0))
    have hX8 := hide ((unhide hX6).more hG)
    generalize World.alloc _ _ = u9 at *
    simp only [Act.put, List.setIfInBounds_toArray, List.set_cons_zero, List.set_cons_succ, List.getElem_toArray, List.getElem_cons_zero, List.getElem_cons_succ]
    refine list_val (.pointer (some ⟨w.heap.size, 3, none⟩)) (by kernel_rfl) (by kernel_rfl) ?_
    simp only [Act.put, List.setIfInBounds_toArray, List.set_cons_zero, List.set_cons_succ, List.getElem_toArray, List.getElem_cons_zero, List.getElem_cons_succ]
    refine list_val (.slice ka kn kp) (by kernel_rfl) (exec_sk _ (.tmp 77) rfl (w.heap.size) 3 (by kernel_rfl) ka kn kp (cell_of ((hB.more (unhide hX8).gr).get 0 (x := ⟨w.heap.size, #[.int .i64 m0, .int .i64 m1, .int .i64 m2, .slice ka kn kp], 70⟩) rfl) (i := 3) rfl)) ?_
    simp only [Act.put, List.setIfInBounds_toArray, List.set_cons_zero, List.set_cons_succ, List.getElem_toArray, List.getElem_cons_zero, List.getElem_cons_succ]
    refine wpList_step fun K_ hQ => ?_
    rw [if_pos (by kernel_rfl)]
    refine app_rows0 lt_k (.tmp 76) (.tmp 78) rfl u8.heap.size _ [] rfl hor ka kn kp (keep.map fun b => [Value.bool b]) rfl (by rw [List.length_map]; exact (unhide hK0).len) (by intro r hr; obtain ⟨b, _, rfl⟩ := List.mem_map.1 hr; rfl) ?_ (by intro r hr u hu; obtain ⟨b, _, rfl⟩ := List.mem_map.1 hr; rw [List.mem_singleton] at hu; subst hu; rfl) (by simp only [List.length_nil, Nat.zero_add]; omega) hG.size ?_
    · rcases ((unhide hK0).gr (unhide hX8).gr).sl with h | ⟨p, o, h1, h2⟩
      · left
        rw [h]
        rfl
      · exact .inr ⟨p, o, h1, by rw [flat_bools]; exact h2⟩
    intro v2_ u10 hor2 hgr
    have hG2 := grown_owned hor.2 (Nat.le_refl _) hG hgr
    rw [List.nil_append] at hor2
    obtain ⟨a2, c2, rfl, hls⟩ := hor2.ls
    have hfr := hor2.fr (Nat.le_refl _)
    have hlen : (keep.map fun b => [Value.bool b]).length = kn := by rw [List.length_map]; exact (unhide hK0).len
    rw [hlen] at hls ⊢
    have hkp := hide hls.kp
    have hX9 := hide ((unhide hX6).more hG2)
    have hfar : ∀ i ∈ F6, blkOf a2 ≠ some i := by
      intro i hi e
      rcases hfr i e with h | h
      · cases h
      · have := (unhide hX6).ls.lt i hi; omega
    replace hfar := hide hfar
    clear hor hor2 hgr hls hfr hG hG2 hlen hX8 hX6
    refine hQ _ _ ?_
    clear hQ K_
    simp only [Act.put, List.setIfInBounds_toArray, List.set_cons_zero, List.set_cons_succ, List.getElem_toArray, List.getElem_cons_zero, List.getElem_cons_succ]
    refine list_call 33 #[P0 gd, .slice a2 kn c2] (by kernel_rfl) (by kernel_rfl) ((dcrash_ok2 F6 gd _ E (unhide okE) (by omega) keep a2 kn c2 _ (unhide hX9).ls (unhide hkp) (.inr (unhide hfar))).mono ?_)
    rintro r u11 ⟨F7, rfl, hL7, hc7⟩
    have hX := (unhide hX9).dsk (crash_size E keep) hL7 hc7
    have lenC : (E.crashD keep).safe.length = za := (crash_size E keep).trans lenE3
    replace h3 := unhide h3
    generalize E.crashD keep = C at *
    refine ⟨_, rfl, ?_⟩
    clear hL7 hc7 hX9 hkp hfar okE h2
    replace hX := hide hX; replace h3 := hide h3
    simp only [Act.put, List.setIfInBounds_toArray, List.set_cons_zero, List.set_cons_succ, List.getElem_toArray, List.getElem_cons_zero, List.getElem_cons_succ]
    refine wpList_nil ?_
    replace hB := hide hB
    go_upto_region 20 with fail
    replace hB := unhide hB
    replace hB := hide hB
    refine wp_region_lit ?_
    refine list_val (.pointer (some ⟨gd, 0, none⟩)) (by kernel_rfl) (by kernel_rfl) ?_
    simp only [Act.put, List.setIfInBounds_toArray, List.set_cons_zero, List.set_cons_succ, List.getElem_toArray, List.getElem_cons_zero, List.getElem_cons_succ]
    refine list_call 18 #[P0 gd] (by kernel_rfl) (by kernel_rfl) ((eopen_ok F7 gd _ C s4 B2 (unhide h3).ok (by omega) (unhide h3).dead (by omega) _ (unhide hX).ls (unhide h3).hs.os ((unhide hf0).gr (unhide hX).gr)).mono ?_)
    rintro r u12 ⟨gt, GT, rfl, hSt, hGt, hg⟩
    refine ⟨_, rfl, ?_⟩
    replace hX := hide ((unhide hX).more hg)
    replace hSt := hide hSt
    clear hg hGt
    simp only [Act.put, List.setIfInBounds_toArray, List.set_cons_zero, List.set_cons_succ, List.getElem_toArray, List.getElem_cons_zero, List.getElem_cons_succ]
    refine list_val (.tuple #[.pointer (some ⟨gt, 0, none⟩), .int .i64 0]) (by kernel_rfl) (by kernel_rfl) ?_
    simp only [Act.put, List.setIfInBounds_toArray, List.set_cons_zero, List.set_cons_succ, List.getElem_toArray, List.getElem_cons_zero, List.getElem_cons_succ]
    refine list_val (.pointer (some ⟨gt, 0, none⟩)) (by kernel_rfl) (by kernel_rfl) ?_
    simp only [Act.put, List.setIfInBounds_toArray, List.set_cons_zero, List.set_cons_succ, List.getElem_toArray, List.getElem_cons_zero, List.getElem_cons_succ]
    refine list_val (.int .i64 0) (by kernel_rfl) (by kernel_rfl) ?_
    simp only [Act.put, List.setIfInBounds_toArray, List.set_cons_zero, List.set_cons_succ, List.getElem_toArray, List.getElem_cons_zero, List.getElem_cons_succ]
    (refine wpList_step fun K hK => ?_; replace hK := hide hK; go_simp; refine unhide hK _ _ ?_; clear hK K)
    (refine wpList_step fun K hK => ?_; replace hK := hide hK; go_simp; refine unhide hK _ _ ?_; clear hK K)
    refine wpList_nil ?_
    go_upto_region 21 with fail
    refine wp_region_lit ?_
    refine list_val (.int .i64 0) (by kernel_rfl) (by kernel_rfl) ?_
    simp only [Act.put, List.setIfInBounds_toArray, List.set_cons_zero, List.set_cons_succ, List.getElem_toArray, List.getElem_cons_zero, List.getElem_cons_succ]
    refine list_val (.bool false) (by kernel_rfl) (by go_simp) ?_
    simp only [Act.put, List.setIfInBounds_toArray, List.set_cons_zero, List.set_cons_succ, List.getElem_toArray, List.getElem_cons_zero, List.getElem_cons_succ]
    refine list_val (.bool false) (by kernel_rfl) (by kernel_rfl) ?_
    simp only [Act.put, List.setIfInBounds_toArray, List.set_cons_zero, List.set_cons_succ, List.getElem_toArray, List.getElem_cons_zero, List.getElem_cons_succ]
    refine list_val (.bool false) (by kernel_rfl) (by kernel_rfl) ?_
    simp only [Act.put, List.setIfInBounds_toArray, List.set_cons_zero, List.set_cons_succ, List.getElem_toArray, List.getElem_cons_zero, List.getElem_cons_succ]
    refine list_val (.int .i64 0) (by kernel_rfl) (by kernel_rfl) ?_
    simp only [Act.put, List.setIfInBounds_toArray, List.set_cons_zero, List.set_cons_succ, List.getElem_toArray, List.getElem_cons_zero, List.getElem_cons_succ]
    refine list_val (.bool false) (by kernel_rfl) (by go_simp) ?_
    simp only [Act.put, List.setIfInBounds_toArray, List.set_cons_zero, List.set_cons_succ, List.getElem_toArray, List.getElem_cons_zero, List.getElem_cons_succ]
    refine list_val (.bool false) (by kernel_rfl) (by go_simp) ?_
    simp only [Act.put, List.setIfInBounds_toArray, List.set_cons_zero, List.set_cons_succ, List.getElem_toArray, List.getElem_cons_zero, List.getElem_cons_succ]
    refine list_val (.bool false) (by kernel_rfl) (by kernel_rfl) ?_
    simp only [Act.put, List.setIfInBounds_toArray, List.set_cons_zero, List.set_cons_succ, List.getElem_toArray, List.getElem_cons_zero, List.getElem_cons_succ]
    refine list_val (.bool false) (by kernel_rfl) (by kernel_rfl) ?_
    simp only [Act.put, List.setIfInBounds_toArray, List.set_cons_zero, List.set_cons_succ, List.getElem_toArray, List.getElem_cons_zero, List.getElem_cons_succ]
    refine list_val (.bool false) (by kernel_rfl) (by kernel_rfl) ?_
    simp only [Act.put, List.setIfInBounds_toArray, List.set_cons_zero, List.set_cons_succ, List.getElem_toArray, List.getElem_cons_zero, List.getElem_cons_succ]
    refine list_val (.bool true) (by kernel_rfl) (by kernel_rfl) ?_
    simp only [Act.put, List.setIfInBounds_toArray, List.set_cons_zero, List.set_cons_succ, List.getElem_toArray, List.getElem_cons_zero, List.getElem_cons_succ]
    refine list_val (.bool true) (by kernel_rfl) (by kernel_rfl) ?_
    simp only [Act.put, List.setIfInBounds_toArray, List.set_cons_zero, List.set_cons_succ, List.getElem_toArray, List.getElem_cons_zero, List.getElem_cons_succ]
    refine list_val (.int .i64 0) (by kernel_rfl) (by kernel_rfl) ?_
    simp only [Act.put, List.setIfInBounds_toArray, List.set_cons_zero, List.set_cons_succ, List.getElem_toArray, List.getElem_cons_zero, List.getElem_cons_succ]
    refine list_val (.bool false) (by kernel_rfl) (by go_simp) ?_
    simp only [Act.put, List.setIfInBounds_toArray, List.set_cons_zero, List.set_cons_succ, List.getElem_toArray, List.getElem_cons_zero, List.getElem_cons_succ]
    refine list_val (.bool false) (by kernel_rfl) (by kernel_rfl) ?_
    simp only [Act.put, List.setIfInBounds_toArray, List.set_cons_zero, List.set_cons_succ, List.getElem_toArray, List.getElem_cons_zero, List.getElem_cons_succ]
    refine list_val (.bool false) (by kernel_rfl) (by kernel_rfl) ?_
    simp only [Act.put, List.setIfInBounds_toArray, List.set_cons_zero, List.set_cons_succ, List.getElem_toArray, List.getElem_cons_zero, List.getElem_cons_succ]
    refine wpList_nil ?_
    go_upto_region 23 with fail
    refine wp_region_lit ?_
    refine list_val (.pointer (some ⟨gt, 0, none⟩)) (by kernel_rfl) (by kernel_rfl) ?_
    simp only [Act.put, List.setIfInBounds_toArray, List.set_cons_zero, List.set_cons_succ, List.getElem_toArray, List.getElem_cons_zero, List.getElem_cons_succ]
    refine list_call 17 #[P0 gt] (by kernel_rfl) (by kernel_rfl) ((esnap_ok F7 GT gt gd _ C s4 B2 (unhide h3).ok (by omega) (unhide h3).dead (unhide h3).len _ (unhide hX).ls (unhide hSt) (unhide h3).hs.os ((unhide hf0).gr (unhide hX).gr)).mono ?_)
    rintro r u13 ⟨v5, rfl, hO, hg⟩
    obtain ⟨a5, c5, rfl, l5⟩ := ob_lb hO (unhide lB).isB (n := nb) nB
    refine ⟨_, rfl, ?_⟩
    replace hX := hide ((unhide hX).more hg); replace hSt := hide ((unhide hSt).gr hg); replace l5 := hide l5
    clear hO hg
    simp only [Act.put, List.setIfInBounds_toArray, List.set_cons_zero, List.set_cons_succ, List.getElem_toArray, List.getElem_cons_zero, List.getElem_cons_succ]
    refine list_val (.tuple #[.slice a5 nb c5, .int .i64 0]) (by kernel_rfl) (by kernel_rfl) ?_
    simp only [Act.put, List.setIfInBounds_toArray, List.set_cons_zero, List.set_cons_succ, List.getElem_toArray, List.getElem_cons_zero, List.getElem_cons_succ]
    refine list_val (.slice a5 nb c5) (by kernel_rfl) (by kernel_rfl) ?_
    simp only [Act.put, List.setIfInBounds_toArray, List.set_cons_zero, List.set_cons_succ, List.getElem_toArray, List.getElem_cons_zero, List.getElem_cons_succ]
    refine list_val (.int .i64 0) (by kernel_rfl) (by kernel_rfl) ?_
    simp only [Act.put, List.setIfInBounds_toArray, List.set_cons_zero, List.set_cons_succ, List.getElem_toArray, List.getElem_cons_zero, List.getElem_cons_succ]
    (refine wpList_step fun K hK => ?_; replace hK := hide hK; go_simp; refine unhide hK _ _ ?_; clear hK K)
    (refine wpList_step fun K hK => ?_; replace hK := hide hK; go_simp; refine unhide hK _ _ ?_; clear hK K)
    refine wpList_nil ?_
    go_upto_region 26 with fail
    have hs4 : s4.turn = j + 1 := by omega
    refine wp_region_lit ?_
    refine list_val (.pointer (some ⟨gt, 0, none⟩)) (by kernel_rfl) (by kernel_rfl) ?_
    simp only [Act.put, List.setIfInBounds_toArray, List.set_cons_zero, List.set_cons_succ, List.getElem_toArray, List.getElem_cons_zero, List.getElem_cons_succ]
    refine list_call 20 #[.pointer (some ⟨gt, 0, none⟩)] (by kernel_rfl) (by kernel_rfl) ((eturn_ok F7 GT gt gd _ C s4 B2 (unhide h3).ok (by omega) (unhide h3).dead (unhide h3).len _ (unhide hX).ls (unhide hSt) (unhide h3).hs.os ((unhide hf0).gr (unhide hX).gr)).mono ?_)
    rintro r u14 ⟨rfl, hg⟩
    refine ⟨_, rfl, ?_⟩
    rw [hs4]
    replace hX := hide ((unhide hX).more hg); replace hSt := hide ((unhide hSt).gr hg); replace l5 := hide ((unhide l5).gr hg)
    clear hg
    simp only [Act.put, List.setIfInBounds_toArray, List.set_cons_zero, List.set_cons_succ, List.getElem_toArray, List.getElem_cons_zero, List.getElem_cons_succ]
    refine list_val (.int .u64 (j : Int)) (by kernel_rfl) (by kernel_rfl) ?_
    simp only [Act.put, List.setIfInBounds_toArray, List.set_cons_zero, List.set_cons_succ, List.getElem_toArray, List.getElem_cons_zero, List.getElem_cons_succ]
    refine list_val (.int .u64 ((j + 1 : Nat) : Int)) (by kernel_rfl) (by go_simp) ?_
    simp only [Act.put, List.setIfInBounds_toArray, List.set_cons_zero, List.set_cons_succ, List.getElem_toArray, List.getElem_cons_zero, List.getElem_cons_succ]
    refine list_val (.bool true) (by kernel_rfl) (by go_simp) ?_
    simp only [Act.put, List.setIfInBounds_toArray, List.set_cons_zero, List.set_cons_succ, List.getElem_toArray, List.getElem_cons_zero, List.getElem_cons_succ]
    refine wpList_nil ?_
    go_upto_region 27 with fail
    refine wp_region_lit ?_
    refine list_val (.slice a5 nb c5) (by kernel_rfl) (by kernel_rfl) ?_
    simp only [Act.put, List.setIfInBounds_toArray, List.set_cons_zero, List.set_cons_succ, List.getElem_toArray, List.getElem_cons_zero, List.getElem_cons_succ]
    refine list_val (.slice a1 nb c1) (by kernel_rfl) (by kernel_rfl) ?_
    simp only [Act.put, List.setIfInBounds_toArray, List.set_cons_zero, List.set_cons_succ, List.getElem_toArray, List.getElem_cons_zero, List.getElem_cons_succ]
    refine list_call 34 #[.slice a5 nb c5, .slice a1 nb c1] (by kernel_rfl) (by kernel_rfl) ((eequal_ok B2 B2 _ _ nb _ nb _ _ (unhide l5) ((unhide lB).gr (unhide hX).gr) (by omega)).mono ?_)
    rintro r u15 ⟨rfl, hg⟩
    refine ⟨_, rfl, ?_⟩
    rw [decide_eq_true rfl]
    replace hX := hide ((unhide hX).more hg); replace hSt := hide ((unhide hSt).gr hg); replace l5 := hide ((unhide l5).gr hg)
    clear hg
    simp only [Act.put, List.setIfInBounds_toArray, List.set_cons_zero, List.set_cons_succ, List.getElem_toArray, List.getElem_cons_zero, List.getElem_cons_succ]
    (refine wpList_step fun K hK => ?_; replace hK := hide hK; go_simp; refine unhide hK _ _ ?_; clear hK K)
    refine wpList_nil ?_
    have hZ : Hid (Vl (.bool true) w (.returned (.bool true)) u15) := ⟨rfl, (unhide hB).gr.trans (unhide hX).gr⟩
    go_wp2_with fail
    rw [unhide hT]
    exact unhide hZ
  · skip
    subst h1
    clear hcut
    replace h3 := hide h3; replace h2 := hide h2
    go_upto_region 18 with fail
    refine wp_region_lit ?_
    refine list_val (.pointer (some ⟨gd, 0, none⟩)) (by kernel_rfl) (by kernel_rfl) ?_
    simp only [Act.put, List.setIfInBounds_toArray, List.set_cons_zero, List.set_cons_succ, List.getElem_toArray, List.getElem_cons_zero, List.getElem_cons_succ]
    refine list_call 32 #[.pointer (some ⟨gd, 0, none⟩)] (by kernel_rfl) (by kernel_rfl) ((ddead_ok F6 gd _ E (unhide okE) (by omega) _ (unhide hX6).ls).mono ?_)
    rintro r u8 ⟨rfl, hg⟩
    refine ⟨_, rfl, ?_⟩
    rw [unhide h2]
    replace hX6 := hide ((unhide hX6).more hg)
    clear hg
    simp only [Act.put, List.setIfInBounds_toArray, List.set_cons_zero, List.set_cons_succ, List.getElem_toArray, List.getElem_cons_zero, List.getElem_cons_succ]
    (refine wpList_step fun K hK => ?_; replace hK := hide hK; go_simp; refine unhide hK _ _ ?_; clear hK K)
    refine wpList_nil ?_
    go_upto_region 19 with fail
    replace hB := unhide hB
    refine wp_region_lit ?_
    refine list_val (.pointer (some ⟨gd, 0, none⟩)) (by kernel_rfl) (by kernel_rfl) ?_
    simp only [Act.put, List.setIfInBounds_toArray, List.set_cons_zero, List.set_cons_succ, List.getElem_toArray, List.getElem_cons_zero, List.getElem_cons_succ]
    refine list_valw (.slice (some ⟨u8.heap.size, 0, none⟩) 0 0) (u8.alloc (.cells #[] 4 (0, 0))) (by kernel_rfl) (by kernel_rfl) ?_
    have hor : Or_ 1 4 u8.heap.size (u8.alloc (.cells #[] 4 (0, 0))) (.slice (some ⟨u8.heap.size, 0, none⟩) 0 0) [] := ⟨(fun r hr => by cases hr), rfl, .inr ⟨u8.heap.size, 0, _, rfl, Nat.le_refl _, blk_new _ _, Nat.zero_le _, by unfold maxLen; omega, rfl, rfl⟩⟩
    have hG := (Gr.refl u8).alloc (.cells #[] 4 (0, 0))
    have hX8 := hide ((unhide hX6).more hG)
    generalize World.alloc _ _ = u9 at *
    simp only [Act.put, List.setIfInBounds_toArray, List.set_cons_zero, List.set_cons_succ, List.getElem_toArray, List.getElem_cons_zero, List.getElem_cons_succ]
    refine list_val (.pointer (some ⟨w.heap.size, 3, none⟩)) (by kernel_rfl) (by kernel_rfl) ?_
    simp only [Act.put, List.setIfInBounds_toArray, List.set_cons_zero, List.set_cons_succ, List.getElem_toArray, List.getElem_cons_zero, List.getElem_cons_succ]
    refine list_val (.slice ka kn kp) (by kernel_rfl) (exec_sk _ (.tmp 77) rfl (w.heap.size) 3 (by kernel_rfl) ka kn kp (cell_of ((hB.more (unhide hX8).gr).get 0 (x := ⟨w.heap.size, #[.int .i64 m0, .int .i64 m1, .int .i64 m2, .slice ka kn kp], 70⟩) rfl) (i := 3) rfl)) ?_
    simp only [Act.put, List.setIfInBounds_toArray, List.set_cons_zero, List.set_cons_succ, List.getElem_toArray, List.getElem_cons_zero, List.getElem_cons_succ]
    refine wpList_step fun K_ hQ => ?_
    rw [if_pos (by kernel_rfl)]
    refine app_rows0 lt_k (.tmp 76) (.tmp 78) rfl u8.heap.size _ [] rfl hor ka kn kp (keep.map fun b => [Value.bool b]) rfl (by rw [List.length_map]; exact (unhide hK0).len) (by intro r hr; obtain ⟨b, _, rfl⟩ := List.mem_map.1 hr; rfl) ?_ (by intro r hr u hu; obtain ⟨b, _, rfl⟩ := List.mem_map.1 hr; rw [List.mem_singleton] at hu; subst hu; rfl) (by simp only [List.length_nil, Nat.zero_add]; omega) hG.size ?_
    · rcases ((unhide hK0).gr (unhide hX8).gr).sl with h | ⟨p, o, h1, h2⟩
      · left
        rw [h]
        rfl
      · exact .inr ⟨p, o, h1, by rw [flat_bools]; exact h2⟩
    intro v2_ u10 hor2 hgr
    have hG2 := grown_owned hor.2 (Nat.le_refl _) hG hgr
    rw [List.nil_append] at hor2
    obtain ⟨a2, c2, rfl, hls⟩ := hor2.ls
    have hfr := hor2.fr (Nat.le_refl _)
    have hlen : (keep.map fun b => [Value.bool b]).length = kn := by rw [List.length_map]; exact (unhide hK0).len
    rw [hlen] at hls ⊢
    have hkp := hide hls.kp
    have hX9 := hide ((unhide hX6).more hG2)
    have hfar : ∀ i ∈ F6, blkOf a2 ≠ some i := by
      intro i hi e
      rcases hfr i e with h | h
      · cases h
      · have := (unhide hX6).ls.lt i hi; omega
    replace hfar := hide hfar
    clear hor hor2 hgr hls hfr hG hG2 hlen hX8 hX6
    refine hQ _ _ ?_
    clear hQ K_
    simp only [Act.put, List.setIfInBounds_toArray, List.set_cons_zero, List.set_cons_succ, List.getElem_toArray, List.getElem_cons_zero, List.getElem_cons_succ]
    refine list_call 33 #[P0 gd, .slice a2 kn c2] (by kernel_rfl) (by kernel_rfl) ((dcrash_ok2 F6 gd _ E (unhide okE) (by omega) keep a2 kn c2 _ (unhide hX9).ls (unhide hkp) (.inr (unhide hfar))).mono ?_)
    rintro r u11 ⟨F7, rfl, hL7, hc7⟩
    have hX := (unhide hX9).dsk (crash_size E keep) hL7 hc7
    have lenC : (E.crashD keep).safe.length = za := (crash_size E keep).trans lenE3
    replace h3 := unhide h3
    generalize E.crashD keep = C at *
    refine ⟨_, rfl, ?_⟩
    clear hL7 hc7 hX9 hkp hfar okE h2
    replace hX := hide hX; replace h3 := hide h3
    simp only [Act.put, List.setIfInBounds_toArray, List.set_cons_zero, List.set_cons_succ, List.getElem_toArray, List.getElem_cons_zero, List.getElem_cons_succ]
    refine wpList_nil ?_
    replace hB := hide hB
    go_upto_region 20 with fail
    replace hB := unhide hB
    replace hB := hide hB
    refine wp_region_lit ?_
    refine list_val (.pointer (some ⟨gd, 0, none⟩)) (by kernel_rfl) (by kernel_rfl) ?_
    simp only [Act.put, List.setIfInBounds_toArray, List.set_cons_zero, List.set_cons_succ, List.getElem_toArray, List.getElem_cons_zero, List.getElem_cons_succ]
    refine list_call 18 #[P0 gd] (by kernel_rfl) (by kernel_rfl) ((eopen_ok F7 gd _ C s3 A2 (unhide h3).ok (by omega) (unhide h3).dead (by omega) _ (unhide hX).ls (unhide h3).hs.os ((unhide hf0).gr (unhide hX).gr)).mono ?_)
    rintro r u12 ⟨gt, GT, rfl, hSt, hGt, hg⟩
    refine ⟨_, rfl, ?_⟩
    replace hX := hide ((unhide hX).more hg)
    replace hSt := hide hSt
    clear hg hGt
    simp only [Act.put, List.setIfInBounds_toArray, List.set_cons_zero, List.set_cons_succ, List.getElem_toArray, List.getElem_cons_zero, List.getElem_cons_succ]
    refine list_val (.tuple #[.pointer (some ⟨gt, 0, none⟩), .int .i64 0]) (by kernel_rfl) (by kernel_rfl) ?_
    simp only [Act.put, List.setIfInBounds_toArray, List.set_cons_zero, List.set_cons_succ, List.getElem_toArray, List.getElem_cons_zero, List.getElem_cons_succ]
    refine list_val (.pointer (some ⟨gt, 0, none⟩)) (by kernel_rfl) (by kernel_rfl) ?_
    simp only [Act.put, List.setIfInBounds_toArray, List.set_cons_zero, List.set_cons_succ, List.getElem_toArray, List.getElem_cons_zero, List.getElem_cons_succ]
    refine list_val (.int .i64 0) (by kernel_rfl) (by kernel_rfl) ?_
    simp only [Act.put, List.setIfInBounds_toArray, List.set_cons_zero, List.set_cons_succ, List.getElem_toArray, List.getElem_cons_zero, List.getElem_cons_succ]
    (refine wpList_step fun K hK => ?_; replace hK := hide hK; go_simp; refine unhide hK _ _ ?_; clear hK K)
    (refine wpList_step fun K hK => ?_; replace hK := hide hK; go_simp; refine unhide hK _ _ ?_; clear hK K)
    refine wpList_nil ?_
    go_upto_region 21 with fail
    refine wp_region_lit ?_
    refine list_val (.int .i64 0) (by kernel_rfl) (by kernel_rfl) ?_
    simp only [Act.put, List.setIfInBounds_toArray, List.set_cons_zero, List.set_cons_succ, List.getElem_toArray, List.getElem_cons_zero, List.getElem_cons_succ]
    refine list_val (.bool false) (by kernel_rfl) (by go_simp) ?_
    simp only [Act.put, List.setIfInBounds_toArray, List.set_cons_zero, List.set_cons_succ, List.getElem_toArray, List.getElem_cons_zero, List.getElem_cons_succ]
    refine list_val (.bool false) (by kernel_rfl) (by kernel_rfl) ?_
    simp only [Act.put, List.setIfInBounds_toArray, List.set_cons_zero, List.set_cons_succ, List.getElem_toArray, List.getElem_cons_zero, List.getElem_cons_succ]
    refine list_val (.bool true) (by kernel_rfl) (by kernel_rfl) ?_
    simp only [Act.put, List.setIfInBounds_toArray, List.set_cons_zero, List.set_cons_succ, List.getElem_toArray, List.getElem_cons_zero, List.getElem_cons_succ]
    refine list_val (.int .i64 7) (by kernel_rfl) (by kernel_rfl) ?_
    simp only [Act.put, List.setIfInBounds_toArray, List.set_cons_zero, List.set_cons_succ, List.getElem_toArray, List.getElem_cons_zero, List.getElem_cons_succ]
    refine list_val (.bool true) (by kernel_rfl) (by go_simp) ?_
    simp only [Act.put, List.setIfInBounds_toArray, List.set_cons_zero, List.set_cons_succ, List.getElem_toArray, List.getElem_cons_zero, List.getElem_cons_succ]
    refine list_val (.bool false) (by kernel_rfl) (by go_simp) ?_
    simp only [Act.put, List.setIfInBounds_toArray, List.set_cons_zero, List.set_cons_succ, List.getElem_toArray, List.getElem_cons_zero, List.getElem_cons_succ]
    refine list_val (.bool false) (by kernel_rfl) (by kernel_rfl) ?_
    simp only [Act.put, List.setIfInBounds_toArray, List.set_cons_zero, List.set_cons_succ, List.getElem_toArray, List.getElem_cons_zero, List.getElem_cons_succ]
    refine list_val (.bool false) (by kernel_rfl) (by kernel_rfl) ?_
    simp only [Act.put, List.setIfInBounds_toArray, List.set_cons_zero, List.set_cons_succ, List.getElem_toArray, List.getElem_cons_zero, List.getElem_cons_succ]
    refine list_val (.bool true) (by kernel_rfl) (by kernel_rfl) ?_
    simp only [Act.put, List.setIfInBounds_toArray, List.set_cons_zero, List.set_cons_succ, List.getElem_toArray, List.getElem_cons_zero, List.getElem_cons_succ]
    refine list_val (.bool false) (by kernel_rfl) (by kernel_rfl) ?_
    simp only [Act.put, List.setIfInBounds_toArray, List.set_cons_zero, List.set_cons_succ, List.getElem_toArray, List.getElem_cons_zero, List.getElem_cons_succ]
    refine list_val (.bool false) (by kernel_rfl) (by kernel_rfl) ?_
    simp only [Act.put, List.setIfInBounds_toArray, List.set_cons_zero, List.set_cons_succ, List.getElem_toArray, List.getElem_cons_zero, List.getElem_cons_succ]
    refine wpList_step fun K hK => ?_
    rw [if_neg (ne_true_of_eq_false (by kernel_rfl))]
    refine hK _ _ ?_
    clear hK K
    simp only [Act.put, List.setIfInBounds_toArray, List.set_cons_zero, List.set_cons_succ, List.getElem_toArray, List.getElem_cons_zero, List.getElem_cons_succ]
    refine wpList_step fun K hK => ?_
    rw [if_neg (ne_true_of_eq_false (by kernel_rfl))]
    refine hK _ _ ?_
    clear hK K
    simp only [Act.put, List.setIfInBounds_toArray, List.set_cons_zero, List.set_cons_succ, List.getElem_toArray, List.getElem_cons_zero, List.getElem_cons_succ]
    refine list_val (.bool false) (by kernel_rfl) (by kernel_rfl) ?_
    simp only [Act.put, List.setIfInBounds_toArray, List.set_cons_zero, List.set_cons_succ, List.getElem_toArray, List.getElem_cons_zero, List.getElem_cons_succ]
    refine list_val (.bool false) (by kernel_rfl) (by kernel_rfl) ?_
    simp only [Act.put, List.setIfInBounds_toArray, List.set_cons_zero, List.set_cons_succ, List.getElem_toArray, List.getElem_cons_zero, List.getElem_cons_succ]
    refine wpList_nil ?_
    go_upto_region 23 with fail
    refine wp_region_lit ?_
    refine list_val (.pointer (some ⟨gt, 0, none⟩)) (by kernel_rfl) (by kernel_rfl) ?_
    simp only [Act.put, List.setIfInBounds_toArray, List.set_cons_zero, List.set_cons_succ, List.getElem_toArray, List.getElem_cons_zero, List.getElem_cons_succ]
    refine list_call 17 #[P0 gt] (by kernel_rfl) (by kernel_rfl) ((esnap_ok F7 GT gt gd _ C s3 A2 (unhide h3).ok (by omega) (unhide h3).dead (unhide h3).len _ (unhide hX).ls (unhide hSt) (unhide h3).hs.os ((unhide hf0).gr (unhide hX).gr)).mono ?_)
    rintro r u13 ⟨v5, rfl, hO, hg⟩
    obtain ⟨a5, c5, rfl, l5⟩ := ob_lb hO (unhide lA).isB (n := na) nA
    refine ⟨_, rfl, ?_⟩
    replace hX := hide ((unhide hX).more hg); replace hSt := hide ((unhide hSt).gr hg); replace l5 := hide l5
    clear hO hg
    simp only [Act.put, List.setIfInBounds_toArray, List.set_cons_zero, List.set_cons_succ, List.getElem_toArray, List.getElem_cons_zero, List.getElem_cons_succ]
    refine list_val (.tuple #[.slice a5 na c5, .int .i64 0]) (by kernel_rfl) (by kernel_rfl) ?_
    simp only [Act.put, List.setIfInBounds_toArray, List.set_cons_zero, List.set_cons_succ, List.getElem_toArray, List.getElem_cons_zero, List.getElem_cons_succ]
    refine list_val (.slice a5 na c5) (by kernel_rfl) (by kernel_rfl) ?_
    simp only [Act.put, List.setIfInBounds_toArray, List.set_cons_zero, List.set_cons_succ, List.getElem_toArray, List.getElem_cons_zero, List.getElem_cons_succ]
    refine list_val (.int .i64 0) (by kernel_rfl) (by kernel_rfl) ?_
    simp only [Act.put, List.setIfInBounds_toArray, List.set_cons_zero, List.set_cons_succ, List.getElem_toArray, List.getElem_cons_zero, List.getElem_cons_succ]
    (refine wpList_step fun K hK => ?_; replace hK := hide hK; go_simp; refine unhide hK _ _ ?_; clear hK K)
    (refine wpList_step fun K hK => ?_; replace hK := hide hK; go_simp; refine unhide hK _ _ ?_; clear hK K)
    refine wpList_nil ?_
    go_upto_region 26 with fail
    have jn : ¬ (j : Int) = (j : Int) + 1 := by omega
    refine wp_region_lit ?_
    refine list_val (.pointer (some ⟨gt, 0, none⟩)) (by kernel_rfl) (by kernel_rfl) ?_
    simp only [Act.put, List.setIfInBounds_toArray, List.set_cons_zero, List.set_cons_succ, List.getElem_toArray, List.getElem_cons_zero, List.getElem_cons_succ]
    refine list_call 20 #[.pointer (some ⟨gt, 0, none⟩)] (by kernel_rfl) (by kernel_rfl) ((eturn_ok F7 GT gt gd _ C s3 A2 (unhide h3).ok (by omega) (unhide h3).dead (unhide h3).len _ (unhide hX).ls (unhide hSt) (unhide h3).hs.os ((unhide hf0).gr (unhide hX).gr)).mono ?_)
    rintro r u14 ⟨rfl, hg⟩
    refine ⟨_, rfl, ?_⟩
    rw [hst]
    replace hX := hide ((unhide hX).more hg); replace hSt := hide ((unhide hSt).gr hg); replace l5 := hide ((unhide l5).gr hg)
    clear hg
    simp only [Act.put, List.setIfInBounds_toArray, List.set_cons_zero, List.set_cons_succ, List.getElem_toArray, List.getElem_cons_zero, List.getElem_cons_succ]
    refine list_val (.int .u64 (j : Int)) (by kernel_rfl) (by kernel_rfl) ?_
    simp only [Act.put, List.setIfInBounds_toArray, List.set_cons_zero, List.set_cons_succ, List.getElem_toArray, List.getElem_cons_zero, List.getElem_cons_succ]
    refine list_val (.int .u64 ((j + 1 : Nat) : Int)) (by kernel_rfl) (by go_simp) ?_
    simp only [Act.put, List.setIfInBounds_toArray, List.set_cons_zero, List.set_cons_succ, List.getElem_toArray, List.getElem_cons_zero, List.getElem_cons_succ]
    refine list_val (.bool false) (by kernel_rfl) (by go_simp) ?_
    simp only [Act.put, List.setIfInBounds_toArray, List.set_cons_zero, List.set_cons_succ, List.getElem_toArray, List.getElem_cons_zero, List.getElem_cons_succ]
    refine wpList_nil ?_
    go_upto_region 28 with fail
    replace hX : Hid (Xs v0 F7 G6 g gd C s3 u14) := by have h := unhide hX; rw [if_neg (by decide)] at h; exact h
    refine wp_region_lit ?_
    refine list_val (.bool true) (by kernel_rfl) (by kernel_rfl) ?_
    simp only [Act.put, List.setIfInBounds_toArray, List.set_cons_zero, List.set_cons_succ, List.getElem_toArray, List.getElem_cons_zero, List.getElem_cons_succ]
    refine list_val (.bool true) (by kernel_rfl) (by kernel_rfl) ?_
    simp only [Act.put, List.setIfInBounds_toArray, List.set_cons_zero, List.set_cons_succ, List.getElem_toArray, List.getElem_cons_zero, List.getElem_cons_succ]
    refine list_val (.pointer (some ⟨gt, 0, none⟩)) (by kernel_rfl) (by kernel_rfl) ?_
    simp only [Act.put, List.setIfInBounds_toArray, List.set_cons_zero, List.set_cons_succ, List.getElem_toArray, List.getElem_cons_zero, List.getElem_cons_succ]
    refine list_call 20 #[.pointer (some ⟨gt, 0, none⟩)] (by kernel_rfl) (by kernel_rfl) ((eturn_ok F7 GT gt gd _ C s3 A2 (unhide h3).ok (by omega) (unhide h3).dead (unhide h3).len _ (unhide hX).ls (unhide hSt) (unhide h3).hs.os ((unhide hf0).gr (unhide hX).gr)).mono ?_)
    rintro r u15 ⟨rfl, hg⟩
    refine ⟨_, rfl, ?_⟩
    rw [hst]
    replace hX := hide ((unhide hX).more hg); replace hSt := hide ((unhide hSt).gr hg); replace l5 := hide ((unhide l5).gr hg)
    clear hg
    simp only [Act.put, List.setIfInBounds_toArray, List.set_cons_zero, List.set_cons_succ, List.getElem_toArray, List.getElem_cons_zero, List.getElem_cons_succ]
    refine list_val (.int .u64 (j : Int)) (by kernel_rfl) (by kernel_rfl) ?_
    simp only [Act.put, List.setIfInBounds_toArray, List.set_cons_zero, List.set_cons_succ, List.getElem_toArray, List.getElem_cons_zero, List.getElem_cons_succ]
    refine list_val (.bool true) (by kernel_rfl) (by go_simp) ?_
    simp only [Act.put, List.setIfInBounds_toArray, List.set_cons_zero, List.set_cons_succ, List.getElem_toArray, List.getElem_cons_zero, List.getElem_cons_succ]
    refine list_val (.bool true) (by kernel_rfl) (by kernel_rfl) ?_
    simp only [Act.put, List.setIfInBounds_toArray, List.set_cons_zero, List.set_cons_succ, List.getElem_toArray, List.getElem_cons_zero, List.getElem_cons_succ]
    refine list_val (.bool true) (by kernel_rfl) (by kernel_rfl) ?_
    simp only [Act.put, List.setIfInBounds_toArray, List.set_cons_zero, List.set_cons_succ, List.getElem_toArray, List.getElem_cons_zero, List.getElem_cons_succ]
    refine list_val (.slice a5 na c5) (by kernel_rfl) (by kernel_rfl) ?_
    simp only [Act.put, List.setIfInBounds_toArray, List.set_cons_zero, List.set_cons_succ, List.getElem_toArray, List.getElem_cons_zero, List.getElem_cons_succ]
    refine list_val (.slice a0 na c0) (by kernel_rfl) (by kernel_rfl) ?_
    simp only [Act.put, List.setIfInBounds_toArray, List.set_cons_zero, List.set_cons_succ, List.getElem_toArray, List.getElem_cons_zero, List.getElem_cons_succ]
    refine list_call 34 #[.slice a5 na c5, .slice a0 na c0] (by kernel_rfl) (by kernel_rfl) ((eequal_ok A2 A2 _ _ na _ na _ _ (unhide l5) ((unhide lA).gr (unhide hX).gr) (by omega)).mono ?_)
    rintro r u16 ⟨rfl, hg⟩
    refine ⟨_, rfl, ?_⟩
    rw [decide_eq_true rfl]
    replace hX := hide ((unhide hX).more hg); replace hSt := hide ((unhide hSt).gr hg); replace l5 := hide ((unhide l5).gr hg)
    clear hg
    simp only [Act.put, List.setIfInBounds_toArray, List.set_cons_zero, List.set_cons_succ, List.getElem_toArray, List.getElem_cons_zero, List.getElem_cons_succ]
    refine list_val (.bool true) (by kernel_rfl) (by kernel_rfl) ?_
    simp only [Act.put, List.setIfInBounds_toArray, List.set_cons_zero, List.set_cons_succ, List.getElem_toArray, List.getElem_cons_zero, List.getElem_cons_succ]
    refine list_val (.bool true) (by kernel_rfl) (by kernel_rfl) ?_
    simp only [Act.put, List.setIfInBounds_toArray, List.set_cons_zero, List.set_cons_succ, List.getElem_toArray, List.getElem_cons_zero, List.getElem_cons_succ]
    refine list_val (.pointer (some ⟨g, 0, none⟩)) (by kernel_rfl) (by kernel_rfl) ?_
    simp only [Act.put, List.setIfInBounds_toArray, List.set_cons_zero, List.set_cons_succ, List.getElem_toArray, List.getElem_cons_zero, List.getElem_cons_succ]
    refine list_call 20 #[.pointer (some ⟨g, 0, none⟩)] (by kernel_rfl) (by kernel_rfl) ((eturn_ok F7 G6 g gd _ C s3 A2 (unhide h3).ok (by omega) (unhide h3).dead (unhide h3).len _ (unhide hX).ls (unhide hX).st (unhide h3).hs.os ((unhide hf0).gr (unhide hX).gr)).mono ?_)
    rintro r u17 ⟨rfl, hg⟩
    refine ⟨_, rfl, ?_⟩
    rw [hst]
    replace hX := hide ((unhide hX).more hg); replace hSt := hide ((unhide hSt).gr hg); replace l5 := hide ((unhide l5).gr hg)
    clear hg
    simp only [Act.put, List.setIfInBounds_toArray, List.set_cons_zero, List.set_cons_succ, List.getElem_toArray, List.getElem_cons_zero, List.getElem_cons_succ]
    refine list_val (.int .u64 (j : Int)) (by kernel_rfl) (by kernel_rfl) ?_
    simp only [Act.put, List.setIfInBounds_toArray, List.set_cons_zero, List.set_cons_succ, List.getElem_toArray, List.getElem_cons_zero, List.getElem_cons_succ]
    refine list_val (.bool true) (by kernel_rfl) (by go_simp) ?_
    simp only [Act.put, List.setIfInBounds_toArray, List.set_cons_zero, List.set_cons_succ, List.getElem_toArray, List.getElem_cons_zero, List.getElem_cons_succ]
    refine list_val (.bool true) (by kernel_rfl) (by kernel_rfl) ?_
    simp only [Act.put, List.setIfInBounds_toArray, List.set_cons_zero, List.set_cons_succ, List.getElem_toArray, List.getElem_cons_zero, List.getElem_cons_succ]
    (refine wpList_step fun K hK => ?_; replace hK := hide hK; go_simp; refine unhide hK _ _ ?_; clear hK K)
    refine wpList_nil ?_
    have hZ : Hid (Vl (.bool true) w (.returned (.bool true)) u17) := ⟨rfl, (unhide hB).gr.trans (unhide hX).gr⟩
    go_wp2_with fail
    rw [unhide hT]
    exact unhide hZ
  · skip
    subst h1
    clear hcut
    replace h3 := hide h3; replace h2 := hide h2
    go_upto_region 18 with fail
    refine wp_region_lit ?_
    refine list_val (.pointer (some ⟨gd, 0, none⟩)) (by kernel_rfl) (by kernel_rfl) ?_
    simp only [Act.put, List.setIfInBounds_toArray, List.set_cons_zero, List.set_cons_succ, List.getElem_toArray, List.getElem_cons_zero, List.getElem_cons_succ]
    refine list_call 32 #[.pointer (some ⟨gd, 0, none⟩)] (by kernel_rfl) (by kernel_rfl) ((ddead_ok F6 gd _ E (unhide okE) (by omega) _ (unhide hX6).ls).mono ?_)
    rintro r u8 ⟨rfl, hg⟩
    refine ⟨_, rfl, ?_⟩
    rw [unhide h2]
    replace hX6 := hide ((unhide hX6).more hg)
    clear hg
    simp only [Act.put, List.setIfInBounds_toArray, List.set_cons_zero, List.set_cons_succ, List.getElem_toArray, List.getElem_cons_zero, List.getElem_cons_succ]
    (refine wpList_step fun K hK => ?_; replace hK := hide hK; go_simp; refine unhide hK _ _ ?_; clear hK K)
    refine wpList_nil ?_
    go_upto_region 19 with fail
    replace hB := unhide hB
    refine wp_region_lit ?_
    refine list_val (.pointer (some ⟨gd, 0, none⟩)) (by kernel_rfl) (by kernel_rfl) ?_
    simp only [Act.put, List.setIfInBounds_toArray, List.set_cons_zero, List.set_cons_succ, List.getElem_toArray, List.getElem_cons_zero, List.getElem_cons_succ]
    refine list_valw (.slice (some ⟨u8.heap.size, 0, none⟩) 0 0) (u8.alloc (.cells #[] 4 (0, 0))) (by kernel_rfl) (by kernel_rfl) ?_
    have hor : Or_ 1 4 u8.heap.size (u8.alloc (.cells #[] 4 (0, 0))) (.slice (some ⟨u8.heap.size, 0, none⟩) 0 0) [] := ⟨(fun r hr => by cases hr), rfl, .inr ⟨u8.heap.size, 0, _, rfl, Nat.le_refl _, blk_new _ _, Nat.zero_le _, by unfold maxLen; omega, rfl, rfl⟩⟩
    have hG := (Gr.refl u8).alloc (.cells #[] 4 (0, 0))
    have hX8 := hide ((unhide hX6).more hG)
    generalize World.alloc _ _ = u9 at *
    simp only [Act.put, List.setIfInBounds_toArray, List.set_cons_zero, List.set_cons_succ, List.getElem_toArray, List.getElem_cons_zero, List.getElem_cons_succ]
    refine list_val (.pointer (some ⟨w.heap.size, 3, none⟩)) (by kernel_rfl) (by kernel_rfl) ?_
    simp only [Act.put, List.setIfInBounds_toArray, List.set_cons_zero, List.set_cons_succ, List.getElem_toArray, List.getElem_cons_zero, List.getElem_cons_succ]
    refine list_val (.slice ka kn kp) (by kernel_rfl) (exec_sk _ (.tmp 77) rfl (w.heap.size) 3 (by kernel_rfl) ka kn kp (cell_of ((hB.more (unhide hX8).gr).get 0 (x := ⟨w.heap.size, #[.int .i64 m0, .int .i64 m1, .int .i64 m2, .slice ka kn kp], 70⟩) rfl) (i := 3) rfl)) ?_
    simp only [Act.put, List.setIfInBounds_toArray, List.set_cons_zero, List.set_cons_succ, List.getElem_toArray, List.getElem_cons_zero, List.getElem_cons_succ]
    refine wpList_step fun K_ hQ => ?_
    rw [if_pos (by kernel_rfl)]
    refine app_rows0 lt_k (.tmp 76) (.tmp 78) rfl u8.heap.size _ [] rfl hor ka kn kp (keep.map fun b => [Value.bool b]) rfl (by rw [List.length_map]; exact (unhide hK0).len) (by intro r hr; obtain ⟨b, _, rfl⟩ := List.mem_map.1 hr; rfl) ?_ (by intro r hr u hu; obtain ⟨b, _, rfl⟩ := List.mem_map.1 hr; rw [List.mem_singleton] at hu; subst hu; rfl) (by simp only [List.length_nil, Nat.zero_add]; omega) hG.size ?_
    · rcases ((unhide hK0).gr (unhide hX8).gr).sl with h | ⟨p, o, h1, h2⟩
      · left
        rw [h]
        rfl
      · exact .inr ⟨p, o, h1, by rw [flat_bools]; exact h2⟩
    intro v2_ u10 hor2 hgr
    have hG2 := grown_owned hor.2 (Nat.le_refl _) hG hgr
    rw [List.nil_append] at hor2
    obtain ⟨a2, c2, rfl, hls⟩ := hor2.ls
    have hfr := hor2.fr (Nat.le_refl _)
    have hlen : (keep.map fun b => [Value.bool b]).length = kn := by rw [List.length_map]; exact (unhide hK0).len
    rw [hlen] at hls ⊢
    have hkp := hide hls.kp
    have hX9 := hide ((unhide hX6).more hG2)
    have hfar : ∀ i ∈ F6, blkOf a2 ≠ some i := by
      intro i hi e
      rcases hfr i e with h | h
      · cases h
      · have := (unhide hX6).ls.lt i hi; omega
    replace hfar := hide hfar
    clear hor hor2 hgr hls hfr hG hG2 hlen hX8 hX6
    refine hQ _ _ ?_
    clear hQ K_
    simp only [Act.put, List.setIfInBounds_toArray, List.set_cons_zero, List.set_cons_succ, List.getElem_toArray, List.getElem_cons_zero, List.getElem_cons_succ]
    refine list_call 33 #[P0 gd, .slice a2 kn c2] (by kernel_rfl) (by kernel_rfl) ((dcrash_ok2 F6 gd _ E (unhide okE) (by omega) keep a2 kn c2 _ (unhide hX9).ls (unhide hkp) (.inr (unhide hfar))).mono ?_)
    rintro r u11 ⟨F7, rfl, hL7, hc7⟩
    have hX := (unhide hX9).dsk (crash_size E keep) hL7 hc7
    have lenC : (E.crashD keep).safe.length = za := (crash_size E keep).trans lenE3
    replace h3 := unhide h3
    generalize E.crashD keep = C at *
    refine ⟨_, rfl, ?_⟩
    clear hL7 hc7 hX9 hkp hfar okE h2
    replace hX := hide hX; replace h3 := hide h3
    simp only [Act.put, List.setIfInBounds_toArray, List.set_cons_zero, List.set_cons_succ, List.getElem_toArray, List.getElem_cons_zero, List.getElem_cons_succ]
    refine wpList_nil ?_
    replace hB := hide hB
    go_upto_region 20 with fail
    replace hB := unhide hB
    replace hB := hide hB
    refine wp_region_lit ?_
    refine list_val (.pointer (some ⟨gd, 0, none⟩)) (by kernel_rfl) (by kernel_rfl) ?_
    simp only [Act.put, List.setIfInBounds_toArray, List.set_cons_zero, List.set_cons_succ, List.getElem_toArray, List.getElem_cons_zero, List.getElem_cons_succ]
    refine list_call 18 #[P0 gd] (by kernel_rfl) (by kernel_rfl) ((eopen_ok F7 gd _ C s4 B2 (unhide h3).ok (by omega) (unhide h3).dead (by omega) _ (unhide hX).ls (unhide h3).hs.os ((unhide hf0).gr (unhide hX).gr)).mono ?_)
    rintro r u12 ⟨gt, GT, rfl, hSt, hGt, hg⟩
    refine ⟨_, rfl, ?_⟩
    replace hX := hide ((unhide hX).more hg)
    replace hSt := hide hSt
    clear hg hGt
    simp only [Act.put, List.setIfInBounds_toArray, List.set_cons_zero, List.set_cons_succ, List.getElem_toArray, List.getElem_cons_zero, List.getElem_cons_succ]
    refine list_val (.tuple #[.pointer (some ⟨gt, 0, none⟩), .int .i64 0]) (by kernel_rfl) (by kernel_rfl) ?_
    simp only [Act.put, List.setIfInBounds_toArray, List.set_cons_zero, List.set_cons_succ, List.getElem_toArray, List.getElem_cons_zero, List.getElem_cons_succ]
    refine list_val (.pointer (some ⟨gt, 0, none⟩)) (by kernel_rfl) (by kernel_rfl) ?_
    simp only [Act.put, List.setIfInBounds_toArray, List.set_cons_zero, List.set_cons_succ, List.getElem_toArray, List.getElem_cons_zero, List.getElem_cons_succ]
    refine list_val (.int .i64 0) (by kernel_rfl) (by kernel_rfl) ?_
    simp only [Act.put, List.setIfInBounds_toArray, List.set_cons_zero, List.set_cons_succ, List.getElem_toArray, List.getElem_cons_zero, List.getElem_cons_succ]
    (refine wpList_step fun K hK => ?_; replace hK := hide hK; go_simp; refine unhide hK _ _ ?_; clear hK K)
    (refine wpList_step fun K hK => ?_; replace hK := hide hK; go_simp; refine unhide hK _ _ ?_; clear hK K)
    refine wpList_nil ?_
    go_upto_region 21 with fail
    refine wp_region_lit ?_
    refine list_val (.int .i64 0) (by kernel_rfl) (by kernel_rfl) ?_
    simp only [Act.put, List.setIfInBounds_toArray, List.set_cons_zero, List.set_cons_succ, List.getElem_toArray, List.getElem_cons_zero, List.getElem_cons_succ]
    refine list_val (.bool false) (by kernel_rfl) (by go_simp) ?_
    simp only [Act.put, List.setIfInBounds_toArray, List.set_cons_zero, List.set_cons_succ, List.getElem_toArray, List.getElem_cons_zero, List.getElem_cons_succ]
    refine list_val (.bool false) (by kernel_rfl) (by kernel_rfl) ?_
    simp only [Act.put, List.setIfInBounds_toArray, List.set_cons_zero, List.set_cons_succ, List.getElem_toArray, List.getElem_cons_zero, List.getElem_cons_succ]
    refine list_val (.bool true) (by kernel_rfl) (by kernel_rfl) ?_
    simp only [Act.put, List.setIfInBounds_toArray, List.set_cons_zero, List.set_cons_succ, List.getElem_toArray, List.getElem_cons_zero, List.getElem_cons_succ]
    refine list_val (.int .i64 7) (by kernel_rfl) (by kernel_rfl) ?_
    simp only [Act.put, List.setIfInBounds_toArray, List.set_cons_zero, List.set_cons_succ, List.getElem_toArray, List.getElem_cons_zero, List.getElem_cons_succ]
    refine list_val (.bool true) (by kernel_rfl) (by go_simp) ?_
    simp only [Act.put, List.setIfInBounds_toArray, List.set_cons_zero, List.set_cons_succ, List.getElem_toArray, List.getElem_cons_zero, List.getElem_cons_succ]
    refine list_val (.bool false) (by kernel_rfl) (by go_simp) ?_
    simp only [Act.put, List.setIfInBounds_toArray, List.set_cons_zero, List.set_cons_succ, List.getElem_toArray, List.getElem_cons_zero, List.getElem_cons_succ]
    refine list_val (.bool false) (by kernel_rfl) (by kernel_rfl) ?_
    simp only [Act.put, List.setIfInBounds_toArray, List.set_cons_zero, List.set_cons_succ, List.getElem_toArray, List.getElem_cons_zero, List.getElem_cons_succ]
    refine list_val (.bool false) (by kernel_rfl) (by kernel_rfl) ?_
    simp only [Act.put, List.setIfInBounds_toArray, List.set_cons_zero, List.set_cons_succ, List.getElem_toArray, List.getElem_cons_zero, List.getElem_cons_succ]
    refine list_val (.bool true) (by kernel_rfl) (by kernel_rfl) ?_
    simp only [Act.put, List.setIfInBounds_toArray, List.set_cons_zero, List.set_cons_succ, List.getElem_toArray, List.getElem_cons_zero, List.getElem_cons_succ]
    refine list_val (.bool false) (by kernel_rfl) (by kernel_rfl) ?_
    simp only [Act.put, List.setIfInBounds_toArray, List.set_cons_zero, List.set_cons_succ, List.getElem_toArray, List.getElem_cons_zero, List.getElem_cons_succ]
    refine list_val (.bool false) (by kernel_rfl) (by kernel_rfl) ?_
    simp only [Act.put, List.setIfInBounds_toArray, List.set_cons_zero, List.set_cons_succ, List.getElem_toArray, List.getElem_cons_zero, List.getElem_cons_succ]
    refine wpList_step fun K hK => ?_
    rw [if_neg (ne_true_of_eq_false (by kernel_rfl))]
    refine hK _ _ ?_
    clear hK K
    simp only [Act.put, List.setIfInBounds_toArray, List.set_cons_zero, List.set_cons_succ, List.getElem_toArray, List.getElem_cons_zero, List.getElem_cons_succ]
    refine wpList_step fun K hK => ?_
    rw [if_neg (ne_true_of_eq_false (by kernel_rfl))]
    refine hK _ _ ?_
    clear hK K
    simp only [Act.put, List.setIfInBounds_toArray, List.set_cons_zero, List.set_cons_succ, List.getElem_toArray, List.getElem_cons_zero, List.getElem_cons_succ]
    refine list_val (.bool false) (by kernel_rfl) (by kernel_rfl) ?_
    simp only [Act.put, List.setIfInBounds_toArray, List.set_cons_zero, List.set_cons_succ, List.getElem_toArray, List.getElem_cons_zero, List.getElem_cons_succ]
    refine list_val (.bool false) (by kernel_rfl) (by kernel_rfl) ?_
    simp only [Act.put, List.setIfInBounds_toArray, List.set_cons_zero, List.set_cons_succ, List.getElem_toArray, List.getElem_cons_zero, List.getElem_cons_succ]
    refine wpList_nil ?_
    go_upto_region 23 with fail
    refine wp_region_lit ?_
    refine list_val (.pointer (some ⟨gt, 0, none⟩)) (by kernel_rfl) (by kernel_rfl) ?_
    simp only [Act.put, List.setIfInBounds_toArray, List.set_cons_zero, List.set_cons_succ, List.getElem_toArray, List.getElem_cons_zero, List.getElem_cons_succ]
    refine list_call 17 #[P0 gt] (by kernel_rfl) (by kernel_rfl) ((esnap_ok F7 GT gt gd _ C s4 B2 (unhide h3).ok (by omega) (unhide h3).dead (unhide h3).len _ (unhide hX).ls (unhide hSt) (unhide h3).hs.os ((unhide hf0).gr (unhide hX).gr)).mono ?_)
    rintro r u13 ⟨v5, rfl, hO, hg⟩
    obtain ⟨a5, c5, rfl, l5⟩ := ob_lb hO (unhide lB).isB (n := nb) nB
    refine ⟨_, rfl, ?_⟩
    replace hX := hide ((unhide hX).more hg); replace hSt := hide ((unhide hSt).gr hg); replace l5 := hide l5
    clear hO hg
    simp only [Act.put, List.setIfInBounds_toArray, List.set_cons_zero, List.set_cons_succ, List.getElem_toArray, List.getElem_cons_zero, List.getElem_cons_succ]
    refine list_val (.tuple #[.slice a5 nb c5, .int .i64 0]) (by kernel_rfl) (by kernel_rfl) ?_
    simp only [Act.put, List.setIfInBounds_toArray, List.set_cons_zero, List.set_cons_succ, List.getElem_toArray, List.getElem_cons_zero, List.getElem_cons_succ]
    refine list_val (.slice a5 nb c5) (by kernel_rfl) (by kernel_rfl) ?_
    simp only [Act.put, List.setIfInBounds_toArray, List.set_cons_zero, List.set_cons_succ, List.getElem_toArray, List.getElem_cons_zero, List.getElem_cons_succ]
    refine list_val (.int .i64 0) (by kernel_rfl) (by kernel_rfl) ?_
    simp only [Act.put, List.setIfInBounds_toArray, List.set_cons_zero, List.set_cons_succ, List.getElem_toArray, List.getElem_cons_zero, List.getElem_cons_succ]
    (refine wpList_step fun K hK => ?_; replace hK := hide hK; go_simp; refine unhide hK _ _ ?_; clear hK K)
    (refine wpList_step fun K hK => ?_; replace hK := hide hK; go_simp; refine unhide hK _ _ ?_; clear hK K)
    refine wpList_nil ?_
    go_upto_region 26 with fail
    have hs4 : s4.turn = j + 1 := by omega
    refine wp_region_lit ?_
    refine list_val (.pointer (some ⟨gt, 0, none⟩)) (by kernel_rfl) (by kernel_rfl) ?_
    simp only [Act.put, List.setIfInBounds_toArray, List.set_cons_zero, List.set_cons_succ, List.getElem_toArray, List.getElem_cons_zero, List.getElem_cons_succ]
    refine list_call 20 #[.pointer (some ⟨gt, 0, none⟩)] (by kernel_rfl) (by kernel_rfl) ((eturn_ok F7 GT gt gd _ C s4 B2 (unhide h3).ok (by omega) (unhide h3).dead (unhide h3).len _ (unhide hX).ls (unhide hSt) (unhide h3).hs.os ((unhide hf0).gr (unhide hX).gr)).mono ?_)
    rintro r u14 ⟨rfl, hg⟩
    refine ⟨_, rfl, ?_⟩
    rw [hs4]
    replace hX := hide ((unhide hX).more hg); replace hSt := hide ((unhide hSt).gr hg); replace l5 := hide ((unhide l5).gr hg)
    clear hg
    simp only [Act.put, List.setIfInBounds_toArray, List.set_cons_zero, List.set_cons_succ, List.getElem_toArray, List.getElem_cons_zero, List.getElem_cons_succ]
    refine list_val (.int .u64 (j : Int)) (by kernel_rfl) (by kernel_rfl) ?_
    simp only [Act.put, List.setIfInBounds_toArray, List.set_cons_zero, List.set_cons_succ, List.getElem_toArray, List.getElem_cons_zero, List.getElem_cons_succ]
    refine list_val (.int .u64 ((j + 1 : Nat) : Int)) (by kernel_rfl) (by go_simp) ?_
    simp only [Act.put, List.setIfInBounds_toArray, List.set_cons_zero, List.set_cons_succ, List.getElem_toArray, List.getElem_cons_zero, List.getElem_cons_succ]
    refine list_val (.bool true) (by kernel_rfl) (by go_simp) ?_
    simp only [Act.put, List.setIfInBounds_toArray, List.set_cons_zero, List.set_cons_succ, List.getElem_toArray, List.getElem_cons_zero, List.getElem_cons_succ]
    refine wpList_nil ?_
    go_upto_region 27 with fail
    refine wp_region_lit ?_
    refine list_val (.slice a5 nb c5) (by kernel_rfl) (by kernel_rfl) ?_
    simp only [Act.put, List.setIfInBounds_toArray, List.set_cons_zero, List.set_cons_succ, List.getElem_toArray, List.getElem_cons_zero, List.getElem_cons_succ]
    refine list_val (.slice a1 nb c1) (by kernel_rfl) (by kernel_rfl) ?_
    simp only [Act.put, List.setIfInBounds_toArray, List.set_cons_zero, List.set_cons_succ, List.getElem_toArray, List.getElem_cons_zero, List.getElem_cons_succ]
    refine list_call 34 #[.slice a5 nb c5, .slice a1 nb c1] (by kernel_rfl) (by kernel_rfl) ((eequal_ok B2 B2 _ _ nb _ nb _ _ (unhide l5) ((unhide lB).gr (unhide hX).gr) (by omega)).mono ?_)
    rintro r u15 ⟨rfl, hg⟩
    refine ⟨_, rfl, ?_⟩
    rw [decide_eq_true rfl]
    replace hX := hide ((unhide hX).more hg); replace hSt := hide ((unhide hSt).gr hg); replace l5 := hide ((unhide l5).gr hg)
    clear hg
    simp only [Act.put, List.setIfInBounds_toArray, List.set_cons_zero, List.set_cons_succ, List.getElem_toArray, List.getElem_cons_zero, List.getElem_cons_succ]
    (refine wpList_step fun K hK => ?_; replace hK := hide hK; go_simp; refine unhide hK _ _ ?_; clear hK K)
    refine wpList_nil ?_
    have hZ : Hid (Vl (.bool true) w (.returned (.bool true)) u15) := ⟨rfl, (unhide hB).gr.trans (unhide hX).gr⟩
    go_wp2_with fail
    rw [unhide hT]
    exact unhide hZ
end Go.Proofs.YtomihjeiaignnaaDoor
