/-
  Of layer 16: what the proof leans on.
-/
import Derived.Great.BuildSlice
import Derived.Test.YtpmgmpihmpifgaaDoorYK6
import Derived.Test.YtpmgmpihmpifgaaDoorUAgree
import Derived.Test.YtpmgmpihmpifgaaDoorURefX
namespace Go.Proofs.YtpmgmpihmpifgaaDoor
open Go.RowKit
set_option maxRecDepth 100000
set_option linter.unusedSimpArgs false
set_option linter.unusedVariables false
theorem digs_isK (n : Int) : IsK (Cv.digs n 32) := ⟨Cv.digs_len _ _, fun x hx => Cv.digs_by n 32 x hx⟩
theorem kn_ex (l : List Int) (h : IsK l) : ∃ n : Nat, n < 115792089237316195423570985008687907853269984665640564039457584007913129639936 ∧ l = Cv.digs (n : Int) 32 := by
  obtain ⟨n, hn, e⟩ := Cv.key_num l h.1 h.2
  obtain ⟨k, rfl⟩ := Int.eq_ofNat_of_zero_le hn.1
  exact ⟨k, by omega, e⟩
open Classical in
noncomputable def kn (l : List Int) : Nat := if h : IsK l then Classical.choose (kn_ex l h) else 0
theorem kn_digs {l : List Int} (h : IsK l) : l = Cv.digs (kn l : Int) 32 := by
  unfold kn
  rw [dif_pos h]
  exact (Classical.choose_spec (kn_ex l h)).2
theorem kn_lt {l : List Int} (h : IsK l) : kn l < 115792089237316195423570985008687907853269984665640564039457584007913129639936 := by
  unfold kn
  rw [dif_pos h]
  exact (Classical.choose_spec (kn_ex l h)).1
theorem kn_of (n : Nat) (h : n < 115792089237316195423570985008687907853269984665640564039457584007913129639936) : kn (Cv.digs (n : Int) 32) = n := by
  have h1 := kn_digs (digs_isK (n : Int))
  have h2 := kn_lt (digs_isK (n : Int))
  have := Cv.digs_inj (n : Int) (kn (Cv.digs (n : Int) 32) : Int) ⟨by omega, by omega⟩ ⟨by omega, by omega⟩ h1
  omega
noncomputable def agL (s u : List Int) : List Int := Cv.digs (Cv.xN (kn s) (kn u) : Int) 32
noncomputable def pubL (s : List Int) : List Int := Cv.digs (Cv.xN (kn s) 9 : Int) 32
def NLow (s u : List Int) : Prop := Cv.xN (kn s) (kn u) ≠ 0
theorem agL_isK (s u : List Int) : IsK (agL s u) := digs_isK _
theorem pubL_isK (s : List Int) : IsK (pubL s) := digs_isK _
theorem agree_yes (s u : List Int) (hs : IsK s) (hu : IsK u) (h : NLow s u) (w : World) :
    Calls Tryd.prog 34 #[.agg (kc s), .agg (kc u)] w (fun r w' => r = .returned (.tuple #[.agg (kc (agL s u)), .int .i64 0]) ∧ Gr w w') := by
  have h0 : Hid (Cv.xN (kn s) (kn u) ≠ 0) := by unfold NLow at h; exact hide h
  have h1 := Cv.agree_n (kn s) (kn u) h0 w
  rw [← kn_digs hs, ← kn_digs hu] at h1
  refine Calls.mono h1 ?_
  rintro r w' ⟨n, rfl, hn, hg⟩
  refine ⟨?_, hg⟩
  have e : Cv.kc (Cv.digs (n : Int) 32) = kc (agL s u) := by
    unfold agL
    rw [← unhide hn]
    rfl
  rw [e]
theorem agree_not (s u : List Int) (hs : IsK s) (hu : IsK u) (h : ¬ NLow s u) (w : World) :
    Calls Tryd.prog 34 #[.agg (kc s), .agg (kc u)] w (fun r w' => r = .returned (.tuple #[.agg (kc Z32), .int .i64 130]) ∧ Gr w w') := by
  have h0 : Hid (Cv.xN (kn s) (kn u) = 0) := by unfold NLow at h; exact hide (Classical.not_not.1 h)
  have h1 := Cv.agree_low (kn s) (kn u) h0 w
  rw [← kn_digs hs, ← kn_digs hu] at h1
  refine Calls.mono h1 ?_
  rintro r w' ⟨rfl, hg⟩
  refine ⟨?_, hg⟩
  have : Cv.digs (0 : Int) 32 = Z32 := by decide
  rw [this]
  rfl
theorem public_is (s : List Int) (hs : IsK s) (w : World) :
    Calls Tryd.prog 26 #[.agg (kc s)] w (fun r w' => r = .returned (.agg (kc (pubL s))) ∧ Gr w w') := by
  have h1 := Cv.public_at (kn s) w
  rw [← kn_digs hs] at h1
  unfold pubL
  generalize Cv.xN (kn s) 9 = n at *
  exact h1
set_option maxHeartbeats 4000000 in
theorem rderive_ok (Ky : List Int) (hKl : Ky.length = 32) (hKb : IsB Ky) (t : ByteArray) (ht : t.size ≤ 1000) (ps : List (List Int)) (ap : Option Addr) (m cp : Nat) (hm : ps.length = m) (hp : small4 ps) (w : World) (hF : Fst w) (hP : Pr w ap ps) : Calls Tryd.prog 37 #[.agg (kc Ky), .string t, .slice ap m cp] w (Derd (spL Ky (infoL (tb t) ps) 32) w) := by
  obtain ⟨T, hT⟩ : ∃ T, T = Derd (spL Ky (infoL (tb t) ps) 32) w := ⟨_, rfl⟩
  rw [← hT]
  replace hT := hide hT
  obtain ⟨SK, hSK⟩ : ∃ S, S = kc Ky := ⟨_, rfl⟩
  rw [← hSK]
  replace hSK := hide hSK
  replace hKb := hide hKb
  replace hF := hide hF
  replace hP := hide hP
  go_enter Tryd.func37, Tryd.ntmps37
  go_upto_region 1 with fail
  have hB := (((Bl.nil w).new SK 25).new #[.int .u8 0, .int .u8 0, .int .u8 0, .int .u8 0, .int .u8 0, .int .u8 0, .int .u8 0, .int .u8 0, .int .u8 0, .int .u8 0, .int .u8 0, .int .u8 0, .int .u8 0, .int .u8 0, .int .u8 0, .int .u8 0, .int .u8 0, .int .u8 0, .int .u8 0, .int .u8 0, .int .u8 0, .int .u8 0, .int .u8 0, .int .u8 0, .int .u8 0, .int .u8 0, .int .u8 0, .int .u8 0, .int .u8 0, .int .u8 0, .int .u8 0, .int .u8 0] 25)
  simp only [size_alloc, List.nil_append, List.cons_append] at hB
  generalize World.alloc _ _ = u at *
  rw [unhide hSK] at hB
  replace hB : Bl w [⟨w.heap.size, kc Ky, 25⟩, ⟨w.heap.size + 1, kc Z32, 25⟩] u := hB
  refine wp_region_lit ?_
  refine list_val (.agg (kc Ky)) (by kernel_rfl) (exec_arr _ 25 (.tmp 3) rfl (w.heap.size) (by kernel_rfl) (kc Ky) 25 _ (hB.get 0 (x := ⟨w.heap.size, kc Ky, 25⟩) rfl) Tryd.underlying25 rfl (by rw [Tryd.infoKey, kc_size, hKl])) ?_
  simp only [nrm]
  refine list_val (.string t) (by kernel_rfl) (by kernel_rfl) ?_
  simp only [nrm]
  refine list_val (.slice ap m cp) (by kernel_rfl) (by kernel_rfl) ?_
  simp only [nrm]
  refine list_call 59 #[.agg (kc Ky), .string t, .slice ap m cp] (by kernel_rfl) (by kernel_rfl) ((rtwo_ok Ky hKl (unhide hKb) t ht ps ap m cp hm hp u ((unhide hF).gr hB.gr) ((unhide hP).gr hB.gr)).mono ?_)
  rintro r_ u1 ⟨rfl, hg⟩
  replace hB := hB.more hg
  clear hg
  have hfe := spL_fewer Ky (infoL (tb t) ps) 32 64 (by omega)
  obtain ⟨D, hD⟩ : ∃ D, D = (spL Ky (infoL (tb t) ps) 64).take 32 := ⟨_, rfl⟩
  obtain ⟨E, hE⟩ : ∃ D, D = (spL Ky (infoL (tb t) ps) 64).drop 32 := ⟨_, rfl⟩
  have hDl : D.length = 32 := by rw [hD, List.length_take, spL_len]; rfl
  have hEl : E.length = 32 := by rw [hE, List.length_drop, spL_len]
  rw [← hD] at hfe
  rw [← hD, ← hE]
  replace hfe := hide hfe
  clear hD hE
  refine ⟨_, rfl, ?_⟩
  simp only [nrm]
  refine list_val (.tuple #[.agg (kc D), .agg (kc E)]) (by kernel_rfl) (by kernel_rfl) ?_
  simp only [nrm]
  refine list_val (.agg (kc D)) (by kernel_rfl) (by kernel_rfl) ?_
  simp only [nrm]
  refine list_val (.agg (kc E)) (by kernel_rfl) (by kernel_rfl) ?_
  simp only [nrm]
  refine list_valw (.pointer (some ⟨u1.heap.size, 0, none⟩)) (u1.alloc (.cells (kc Z32) 25 (0, 0))) (by kernel_rfl) (by kernel_rfl) ?_
  replace hB := hB.new (kc Z32) 25
  simp only [List.nil_append, List.cons_append] at hB
  generalize World.alloc _ _ = u2 at *
  generalize u1.heap.size = gd at *
  replace hB : Bl w [⟨w.heap.size, kc Ky, 25⟩, ⟨w.heap.size + 1, kc Z32, 25⟩, ⟨gd, kc Z32, 25⟩] u2 := hB
  simp only [nrm]
  refine list_valw (.pointer (some ⟨u2.heap.size, 0, none⟩)) (u2.alloc (.cells (kc Z32) 25 (0, 0))) (by kernel_rfl) (by kernel_rfl) ?_
  replace hB := hB.new (kc Z32) 25
  simp only [List.nil_append, List.cons_append] at hB
  generalize World.alloc _ _ = u3 at *
  generalize u2.heap.size = ge at *
  replace hB : Bl w [⟨w.heap.size, kc Ky, 25⟩, ⟨w.heap.size + 1, kc Z32, 25⟩, ⟨gd, kc Z32, 25⟩, ⟨ge, kc Z32, 25⟩] u3 := hB
  simp only [nrm]
  refine list_store 25 (.tmp 7) (.tmp 14) (gd) (kc D) 25 (kc Z32) (by kernel_rfl) rfl (by kernel_rfl) (by kernel_rfl) (hB.get 2 (x := ⟨gd, kc Z32, 25⟩) rfl) (by rw [Tryd.infoKey, kc_size, hDl]) (by rw [kc_size, kc_size, hDl]; rfl) (kc_one _) ?_
  replace hB := hB.set 2 (x := ⟨gd, kc Z32, 25⟩) rfl (kc D)
  simp only [List.set_cons_zero, List.set_cons_succ] at hB
  generalize World.setRow _ _ _ = u4 at *
  simp only [nrm]
  refine list_store 25 (.tmp 8) (.tmp 15) (ge) (kc E) 25 (kc Z32) (by kernel_rfl) rfl (by kernel_rfl) (by kernel_rfl) (hB.get 3 (x := ⟨ge, kc Z32, 25⟩) rfl) (by rw [Tryd.infoKey, kc_size, hEl]) (by rw [kc_size, kc_size, hEl]; rfl) (kc_one _) ?_
  replace hB := hB.set 3 (x := ⟨ge, kc Z32, 25⟩) rfl (kc E)
  simp only [List.set_cons_zero, List.set_cons_succ] at hB
  generalize World.setRow _ _ _ = u5 at *
  simp only [nrm]
  refine wpList_nil ?_
  replace hB := hide hB
  go_upto_region 2 with fail
  replace hB := unhide hB
  refine wp_region_lit ?_
  refine list_val (.agg (kc D)) (by kernel_rfl) (exec_arr _ 25 (.tmp 7) rfl (gd) (by kernel_rfl) (kc D) 25 _ (hB.get 2 (x := ⟨gd, kc D, 25⟩) rfl) Tryd.underlying25 rfl (by rw [Tryd.infoKey, kc_size, hDl])) ?_
  simp only [nrm]
  refine list_store 25 (.tmp 6) (.tmp 16) (w.heap.size + 1) (kc D) 25 (kc Z32) (by kernel_rfl) rfl (by kernel_rfl) (by kernel_rfl) (hB.get 1 (x := ⟨w.heap.size + 1, kc Z32, 25⟩) rfl) (by rw [Tryd.infoKey, kc_size, hDl]) (by rw [kc_size, kc_size, hDl]; rfl) (kc_one _) ?_
  replace hB := hB.set 1 (x := ⟨w.heap.size + 1, kc Z32, 25⟩) rfl (kc D)
  simp only [List.set_cons_zero, List.set_cons_succ] at hB
  generalize World.setRow _ _ _ = u6 at *
  simp only [nrm]
  refine wpList_nil ?_
  replace hB := hide hB
  go_wp2_with fail
  replace hB := unhide hB
  rw [unhide hT]
  exact bodyPost_ret (v := .agg (kc D)) (results_cell_row Tryd.results37 _ _ (w.heap.size + 1) 25 (kc D) (0, 0) _ rfl (hB.get 1 (x := ⟨w.heap.size + 1, kc D, 25⟩) rfl) Tryd.underlying25 rfl (by rw [Tryd.infoKey, kc_size, hDl])) rfl (⟨by rw [unhide hfe], hB.gr⟩)
set_option maxHeartbeats 4000000 in
theorem eless_ok (A B : List Int) (hA : A.length = 32) (hB0 : B.length = 32) (w : World) : Calls Tryd.prog 21 #[.agg (kc A), .agg (kc B)] w (Bod (ltL A B) w) := by
  obtain ⟨T, hT⟩ : ∃ T, T = Bod (ltL A B) w := ⟨_, rfl⟩
  rw [← hT]
  replace hT := hide hT
  obtain ⟨AA, hAA⟩ : ∃ KK, KK = kc A := ⟨_, rfl⟩
  obtain ⟨BB, hBB⟩ : ∃ KK, KK = kc B := ⟨_, rfl⟩
  rw [← hAA, ← hBB]
  replace hAA := hide hAA
  replace hBB := hide hBB
  go_enter Tryd.func21, Tryd.ntmps21
  go_upto_region 1 with fail
  have hB := ((Bl.nil w).new AA 25).new BB 25
  simp only [List.nil_append, List.cons_append, size_alloc] at hB
  generalize World.alloc _ _ = u at *
  rw [unhide hAA, unhide hBB] at hB
  replace hB : Hid (Bl w [⟨w.heap.size, kc A, 25⟩, ⟨w.heap.size + 1, kc B, 25⟩] u) := hide hB
  go_wp2_with fail
  go_loopw [6] (fun i wr => ∃ (j : Nat), j ≤ 32 ∧ i = .int .i64 (j : Int) ∧ Hid (∀ k, k < j → A.getD k 0 = B.getD k 0) ∧ Hid (Bl w [⟨w.heap.size, kc A, 25⟩, ⟨w.heap.size + 1, kc B, 25⟩] wr)) (fun i _ => 32 - (intOf i).toNat)
  case atStart => exact ⟨0, by omega, rfl, fun k hk => absurd hk (by omega), hB⟩
  case round =>
  clear hB
  obtain ⟨j, hj, rfl, hE, hB⟩ := hrel
  by_cases hlt : j < 32
  · have jI : (j : Int) < 32 := by omega
    obtain ⟨p, hp⟩ : ∃ c, c = A.getD j 0 := ⟨_, rfl⟩
    obtain ⟨q, hq⟩ : ∃ c, c = B.getD j 0 := ⟨_, rfl⟩
    replace hp := hide hp; replace hq := hide hq
    go_upto_region 4 with fail
    by_cases hpq : p = q
    · replace hpq := hide hpq
      refine any_start (S := fun v => Bl w [⟨w.heap.size, kc A, 25⟩, ⟨w.heap.size + 1, kc B, 25⟩] v) (by kernel_rfl) ?_
      replace hB := hide ((unhide hB).drew)
      generalize World.drew _ = x0 at *
      simp only [List.size_toArray, List.length_cons, List.length_nil, Array.replicate, List.replicate]
      refine any_take (i := 0) (v := (.int .i64 (j : Int))) #[false, false, false, false, false, false, false] rfl (by kernel_rfl) (by kernel_rfl) (by kernel_rfl) (by kernel_rfl) (fun _ _ _ h => h) (.inl ⟨by kernel_rfl, fun x_ hu => by kernel_rfl⟩) (unhide hB) ?_
      simp only [nrm]
      refine any_take (i := 1) (v := (.pointer (some ⟨w.heap.size, j, none⟩))) #[true, false, false, false, false, false, false] rfl (by kernel_rfl) (by kernel_rfl) (by kernel_rfl) (by kernel_rfl) (fun _ _ _ h => h) (.inl ⟨by kernel_rfl, fun x_ hu => exec_kat _ (.tmp 2) (.tmp 9) rfl (w.heap.size) j (by kernel_rfl) (by kernel_rfl) hlt⟩) (unhide hB) ?_
      simp only [nrm]
      refine any_take (i := 2) (v := (.int .u8 p)) #[true, true, false, false, false, false, false] rfl (by kernel_rfl) (by kernel_rfl) (by kernel_rfl) (by kernel_rfl) (fun _ _ _ h => h) (.inl ⟨by kernel_rfl, fun x_ hu => exec_u8 _ (.tmp 10) rfl (w.heap.size) j (by kernel_rfl) p (by rw [unhide hp]; exact kc_cell (hu.get 0 (x := ⟨w.heap.size, kc A, 25⟩) rfl) j (by omega))⟩) (unhide hB) ?_
      simp only [nrm]
      refine any_take (i := 3) (v := (.int .i64 (j : Int))) #[true, true, true, false, false, false, false] rfl (by kernel_rfl) (by kernel_rfl) (by kernel_rfl) (by kernel_rfl) (fun _ _ _ h => h) (.inl ⟨by kernel_rfl, fun x_ hu => by kernel_rfl⟩) (unhide hB) ?_
      simp only [nrm]
      refine any_take (i := 4) (v := (.pointer (some ⟨w.heap.size + 1, j, none⟩))) #[true, true, true, true, false, false, false] rfl (by kernel_rfl) (by kernel_rfl) (by kernel_rfl) (by kernel_rfl) (fun _ _ _ h => h) (.inl ⟨by kernel_rfl, fun x_ hu => exec_kat _ (.tmp 3) (.tmp 12) rfl (w.heap.size + 1) j (by kernel_rfl) (by kernel_rfl) hlt⟩) (unhide hB) ?_
      simp only [nrm]
      refine any_take (i := 5) (v := (.int .u8 q)) #[true, true, true, true, true, false, false] rfl (by kernel_rfl) (by kernel_rfl) (by kernel_rfl) (by kernel_rfl) (fun _ _ _ h => h) (.inl ⟨by kernel_rfl, fun x_ hu => exec_u8 _ (.tmp 13) rfl (w.heap.size + 1) j (by kernel_rfl) q (by rw [unhide hq]; exact kc_cell (hu.get 1 (x := ⟨w.heap.size + 1, kc B, 25⟩) rfl) j (by omega))⟩) (unhide hB) ?_
      simp only [nrm]
      refine any_take (i := 6) (v := (.bool false)) #[true, true, true, true, true, true, false] rfl (by kernel_rfl) (by kernel_rfl) (by kernel_rfl) (by kernel_rfl) (fun _ _ _ h => h) (.inl ⟨by kernel_rfl, fun x_ hu => by have h := unhide hpq; go_simp⟩) (unhide hB) ?_
      simp only [nrm]
      refine any_done (by kernel_rfl) ?_
      have hE2 : Hid (∀ k, k < j + 1 → A.getD k 0 = B.getD k 0) := fun k hk => by
        by_cases e : k = j
        · rw [e, ← unhide hp, ← unhide hq]; exact unhide hpq
        · exact unhide hE k (by omega)
      go_wp2_with fail
      go_roundw
      case rel => exact ⟨j + 1, by omega, by simp, hE2, hB⟩
      case measure => simp [intOf]; omega
    · have hlt2 : ltL A B = decide (p < q) := by rw [unhide hp, unhide hq]; exact ltL_at A B j (unhide hE) (by omega) (by omega) (by rw [← unhide hp, ← unhide hq]; exact hpq)
      obtain ⟨bb, hbb⟩ : ∃ b, b = decide (p < q) := ⟨_, rfl⟩
      rw [hlt2, ← hbb] at hT
      replace hpq := hide hpq; replace hbb := hide hbb
      clear hlt2
      refine any_start (S := fun v => Bl w [⟨w.heap.size, kc A, 25⟩, ⟨w.heap.size + 1, kc B, 25⟩] v) (by kernel_rfl) ?_
      replace hB := hide ((unhide hB).drew)
      generalize World.drew _ = x0 at *
      simp only [List.size_toArray, List.length_cons, List.length_nil, Array.replicate, List.replicate]
      refine any_take (i := 0) (v := (.int .i64 (j : Int))) #[false, false, false, false, false, false, false] rfl (by kernel_rfl) (by kernel_rfl) (by kernel_rfl) (by kernel_rfl) (fun _ _ _ h => h) (.inl ⟨by kernel_rfl, fun x_ hu => by kernel_rfl⟩) (unhide hB) ?_
      simp only [nrm]
      refine any_take (i := 1) (v := (.pointer (some ⟨w.heap.size, j, none⟩))) #[true, false, false, false, false, false, false] rfl (by kernel_rfl) (by kernel_rfl) (by kernel_rfl) (by kernel_rfl) (fun _ _ _ h => h) (.inl ⟨by kernel_rfl, fun x_ hu => exec_kat _ (.tmp 2) (.tmp 9) rfl (w.heap.size) j (by kernel_rfl) (by kernel_rfl) hlt⟩) (unhide hB) ?_
      simp only [nrm]
      refine any_take (i := 2) (v := (.int .u8 p)) #[true, true, false, false, false, false, false] rfl (by kernel_rfl) (by kernel_rfl) (by kernel_rfl) (by kernel_rfl) (fun _ _ _ h => h) (.inl ⟨by kernel_rfl, fun x_ hu => exec_u8 _ (.tmp 10) rfl (w.heap.size) j (by kernel_rfl) p (by rw [unhide hp]; exact kc_cell (hu.get 0 (x := ⟨w.heap.size, kc A, 25⟩) rfl) j (by omega))⟩) (unhide hB) ?_
      simp only [nrm]
      refine any_take (i := 3) (v := (.int .i64 (j : Int))) #[true, true, true, false, false, false, false] rfl (by kernel_rfl) (by kernel_rfl) (by kernel_rfl) (by kernel_rfl) (fun _ _ _ h => h) (.inl ⟨by kernel_rfl, fun x_ hu => by kernel_rfl⟩) (unhide hB) ?_
      simp only [nrm]
      refine any_take (i := 4) (v := (.pointer (some ⟨w.heap.size + 1, j, none⟩))) #[true, true, true, true, false, false, false] rfl (by kernel_rfl) (by kernel_rfl) (by kernel_rfl) (by kernel_rfl) (fun _ _ _ h => h) (.inl ⟨by kernel_rfl, fun x_ hu => exec_kat _ (.tmp 3) (.tmp 12) rfl (w.heap.size + 1) j (by kernel_rfl) (by kernel_rfl) hlt⟩) (unhide hB) ?_
      simp only [nrm]
      refine any_take (i := 5) (v := (.int .u8 q)) #[true, true, true, true, true, false, false] rfl (by kernel_rfl) (by kernel_rfl) (by kernel_rfl) (by kernel_rfl) (fun _ _ _ h => h) (.inl ⟨by kernel_rfl, fun x_ hu => exec_u8 _ (.tmp 13) rfl (w.heap.size + 1) j (by kernel_rfl) q (by rw [unhide hq]; exact kc_cell (hu.get 1 (x := ⟨w.heap.size + 1, kc B, 25⟩) rfl) j (by omega))⟩) (unhide hB) ?_
      simp only [nrm]
      refine any_take (i := 6) (v := (.bool true)) #[true, true, true, true, true, true, false] rfl (by kernel_rfl) (by kernel_rfl) (by kernel_rfl) (by kernel_rfl) (fun _ _ _ h => h) (.inl ⟨by kernel_rfl, fun x_ hu => by have h := unhide hpq; go_simp⟩) (unhide hB) ?_
      simp only [nrm]
      refine any_done (by kernel_rfl) ?_
      go_upto_region 5 with fail
      refine any_start (S := fun v => Bl w [⟨w.heap.size, kc A, 25⟩, ⟨w.heap.size + 1, kc B, 25⟩] v) (by kernel_rfl) ?_
      replace hB := hide ((unhide hB).drew)
      generalize World.drew _ = x1 at *
      simp only [List.size_toArray, List.length_cons, List.length_nil, Array.replicate, List.replicate]
      refine any_take (i := 0) (v := (.int .i64 (j : Int))) #[false, false, false, false, false, false, false, false] rfl (by kernel_rfl) (by kernel_rfl) (by kernel_rfl) (by kernel_rfl) (fun _ _ _ h => h) (.inl ⟨by kernel_rfl, fun x_ hu => by kernel_rfl⟩) (unhide hB) ?_
      simp only [nrm]
      refine any_take (i := 1) (v := (.pointer (some ⟨w.heap.size, j, none⟩))) #[true, false, false, false, false, false, false, false] rfl (by kernel_rfl) (by kernel_rfl) (by kernel_rfl) (by kernel_rfl) (fun _ _ _ h => h) (.inl ⟨by kernel_rfl, fun x_ hu => exec_kat _ (.tmp 2) (.tmp 16) rfl (w.heap.size) j (by kernel_rfl) (by kernel_rfl) hlt⟩) (unhide hB) ?_
      simp only [nrm]
      refine any_take (i := 2) (v := (.int .u8 p)) #[true, true, false, false, false, false, false, false] rfl (by kernel_rfl) (by kernel_rfl) (by kernel_rfl) (by kernel_rfl) (fun _ _ _ h => h) (.inl ⟨by kernel_rfl, fun x_ hu => exec_u8 _ (.tmp 17) rfl (w.heap.size) j (by kernel_rfl) p (by rw [unhide hp]; exact kc_cell (hu.get 0 (x := ⟨w.heap.size, kc A, 25⟩) rfl) j (by omega))⟩) (unhide hB) ?_
      simp only [nrm]
      refine any_take (i := 3) (v := (.int .i64 (j : Int))) #[true, true, true, false, false, false, false, false] rfl (by kernel_rfl) (by kernel_rfl) (by kernel_rfl) (by kernel_rfl) (fun _ _ _ h => h) (.inl ⟨by kernel_rfl, fun x_ hu => by kernel_rfl⟩) (unhide hB) ?_
      simp only [nrm]
      refine any_take (i := 4) (v := (.pointer (some ⟨w.heap.size + 1, j, none⟩))) #[true, true, true, true, false, false, false, false] rfl (by kernel_rfl) (by kernel_rfl) (by kernel_rfl) (by kernel_rfl) (fun _ _ _ h => h) (.inl ⟨by kernel_rfl, fun x_ hu => exec_kat _ (.tmp 3) (.tmp 19) rfl (w.heap.size + 1) j (by kernel_rfl) (by kernel_rfl) hlt⟩) (unhide hB) ?_
      simp only [nrm]
      refine any_take (i := 5) (v := (.int .u8 q)) #[true, true, true, true, true, false, false, false] rfl (by kernel_rfl) (by kernel_rfl) (by kernel_rfl) (by kernel_rfl) (fun _ _ _ h => h) (.inl ⟨by kernel_rfl, fun x_ hu => exec_u8 _ (.tmp 20) rfl (w.heap.size + 1) j (by kernel_rfl) q (by rw [unhide hq]; exact kc_cell (hu.get 1 (x := ⟨w.heap.size + 1, kc B, 25⟩) rfl) j (by omega))⟩) (unhide hB) ?_
      simp only [nrm]
      refine any_take (i := 6) (v := (.bool bb)) #[true, true, true, true, true, true, false, false] rfl (by kernel_rfl) (by kernel_rfl) (by kernel_rfl) (by kernel_rfl) (fun _ _ _ h => h) (.inl ⟨by kernel_rfl, fun x_ hu => by rw [unhide hbb]; go_simp⟩) (unhide hB) ?_
      simp only [nrm]
      refine any_one (i := 7) (by kernel_rfl) rfl (fun K hK => ?_)
      replace hK := hide hK
      go_simp
      refine (unhide hK).out _ _ (unhide hB) (fun _ => ?_)
      clear hK K
      refine any_done (by kernel_rfl) ?_
      have hZ : Hid (T (.returned (.bool bb)) x1) := by
        rw [unhide hT]
        exact ⟨rfl, (unhide hB).gr⟩
      go_wp2_with fail
      exact unhide hZ
  · have e : j = 32 := by omega
    subst e
    have hab : A = B := list_of_getD (by omega) fun k hk => unhide hE k (by omega)
    rw [hab, ltL_irr] at hT
    clear hlt hab
    have hZ : Hid (T (.returned (.bool false)) wr) := by
      rw [unhide hT]
      exact ⟨rfl, (unhide hB).gr⟩
    go_wp2_with fail
    exact unhide hZ
def K9 : List Int := 9 :: List.replicate 31 0
theorem K9_isK : IsK K9 := ⟨rfl, by unfold IsB K9; decide⟩
theorem rx_is (s u : List Int) (hs : IsK s) (hu : IsK u) (w : World) :
    Calls Tryd.prog 36 #[.agg (kc s), .agg (kc u)] w (fun r w' => r = .returned (.agg (kc (agL s u))) ∧ Gr w w') := by
  have h1 := Cv.rx_ok (kn s) (kn u) (kn_lt hu) w
  rw [← kn_digs hs, ← kn_digs hu] at h1
  unfold agL
  generalize Cv.xN (kn s) (kn u) = n at *
  exact h1
theorem ag_nine (s : List Int) : agL s K9 = pubL s := by
  unfold agL pubL
  have e : K9 = Cv.digs ((9 : Nat) : Int) 32 := by decide
  rw [e, kn_of 9 (by decide)]
theorem low_zero (s u : List Int) : ¬ NLow s u ↔ agL s u = Z32 := by
  have hz : Cv.digs ((0 : Nat) : Int) 32 = Z32 := by decide
  unfold NLow agL
  constructor
  · intro h
    rw [Classical.not_not.1 h]
    exact hz
  · intro h h2
    rw [← hz] at h
    have h3 := Cv.xN_256 (kn s) (kn u)
    have := Cv.digs_inj ((Cv.xN (kn s) (kn u) : Nat) : Int) ((0 : Nat) : Int) ⟨by omega, by omega⟩ ⟨by omega, by omega⟩ h
    omega
def tPair : ByteArray := ⟨#[112, 97, 105, 114]⟩
noncomputable def prA (K U : List Int) : List (List Int) := if ltL (pubL K) U = true then [pubL K, U] else [U, pubL K]
noncomputable def prK (K U : List Int) : List Int := spL (agL K U) (infoL (tb tPair) (prA K U)) 32
theorem prK_len (K U : List Int) : (prK K U).length = 32 := spL_len _ _ _
theorem built_pair (D : List Int) (hD : D.length = 32) (f : Bool) : Tryd.prog.built 36 [(0, .agg (kc D)), (1, .bool f)] = some (pairv D f) := by
  match D, hD with
  | [a0, a1, a2, a3, a4, a5, a6, a7, a8, a9, b0, b1, b2, b3, b4, b5, b6, b7, b8, b9, c0, c1, c2, c3, c4, c5, c6, c7, c8, c9, d0, d1], _ =>
    show Tryd.prog.built 36 [(0, .agg (kc [a0, a1, a2, a3, a4, a5, a6, a7, a8, a9, b0, b1, b2, b3, b4, b5, b6, b7, b8, b9, c0, c1, c2, c3, c4, c5, c6, c7, c8, c9, d0, d1])), (1, .bool f)] = some (pairv [a0, a1, a2, a3, a4, a5, a6, a7, a8, a9, b0, b1, b2, b3, b4, b5, b6, b7, b8, b9, c0, c1, c2, c3, c4, c5, c6, c7, c8, c9, d0, d1] f)
    kernel_rfl
theorem exec_bpair {a : Act} {o : Oper} (w : World) (x y : Operand) (ho : o.op = .build 36 #[(0, x), (1, y)]) (D : List Int) (hD : D.length = 32) (f : Bool) (hx : a.eval x = .agg (kc D)) (hy : a.eval y = .bool f) :
    (execOp a.eval o).run Tryd.prog w = .ok (.value (.agg (pairv D f))) w := by
  have h := run_build (P := Tryd.prog) w 36 #[(0, .agg (kc D)), (1, .bool f)] _ (built_pair D hD f)
  unfold execOp
  simp only [ho, List.map_toArray, List.map_cons, List.map_nil, hx, hy, Sem.run_bind, h, Result.andThen_ok, Sem.run_pure]
def Prd (D : List Int) (f : Bool) (e : Int) (w : World) (r : Ending) (w' : World) : Prop := r = .returned (.tuple #[.agg (pairv D f), .int .i64 e]) ∧ Gr w w'
theorem pr_two {w : World} {p : Nat} {a b : Option Addr} {n c m d : Nat} {t : TypeId} {P Q : List Int} (h : w.heap[p]? = some (.cells #[.slice a n c, .slice b m d] t (0, 0))) (hp : Lb w a n c P) (hq : Lb w b m d Q) : Pr w (some ⟨p, 0, none⟩) [P, Q] := by
  refine .inr ⟨p, 0, rfl, fun j hj => ?_⟩
  have hj2 : j = 0 ∨ j = 1 := by simp at hj; omega
  rcases hj2 with rfl | rfl
  · exact ⟨a, n, c, cell_of h rfl, hp.len, hp.isB, hp.sl, hp.cap, hp.max⟩
  · exact ⟨b, m, d, cell_of h rfl, hq.len, hq.isB, hq.sl, hq.cap, hq.max⟩
theorem small_two {A B : List Int} (hA : A.length = 32) (hB : B.length = 32) : small4 [A, B] := ⟨by simp, fun p hp => by
  simp only [List.mem_cons, List.not_mem_nil, or_false] at hp
  rcases hp with rfl | rfl <;> omega⟩
set_option maxHeartbeats 4000000 in
theorem pair_own (A U : List Int) (hA : IsK A) (hU : IsK U) (hown : U = pubL A) (w : World) (hF : Fst w) : Calls Tryd.prog 18 #[.agg (kc A), .agg (kc U)] w (Prd Z32 false 262 w) := by
  obtain ⟨T, hT⟩ : ∃ T, T = Prd Z32 false 262 w := ⟨_, rfl⟩
  rw [← hT]
  replace hT := hide hT
  have hAl := hA.1
  have hUl := hU.1
  replace hown := hide hown
  obtain ⟨SA, hSA⟩ : ∃ S, S = kc A := ⟨_, rfl⟩
  obtain ⟨SU, hSU⟩ : ∃ S, S = kc U := ⟨_, rfl⟩
  rw [← hSA, ← hSU]
  replace hSA := hide hSA
  replace hSU := hide hSU
  replace hA := hide hA
  replace hU := hide hU
  replace hF := hide hF
  go_enter Tryd.func18, Tryd.ntmps18
  go_upto_region 1 with fail
  have hB := ((((Bl.nil w).new SA 25).new SU 25).new #[.int .u8 0, .int .u8 0, .int .u8 0, .int .u8 0, .int .u8 0, .int .u8 0, .int .u8 0, .int .u8 0, .int .u8 0, .int .u8 0, .int .u8 0, .int .u8 0, .int .u8 0, .int .u8 0, .int .u8 0, .int .u8 0, .int .u8 0, .int .u8 0, .int .u8 0, .int .u8 0, .int .u8 0, .int .u8 0, .int .u8 0, .int .u8 0, .int .u8 0, .int .u8 0, .int .u8 0, .int .u8 0, .int .u8 0, .int .u8 0, .int .u8 0, .int .u8 0, .bool false] 36)
  simp only [size_alloc, List.nil_append, List.cons_append] at hB
  generalize World.alloc _ _ = u at *
  rw [unhide hSA, unhide hSU] at hB
  replace hB : Bl w [⟨w.heap.size, kc A, 25⟩, ⟨w.heap.size + 1, kc U, 25⟩, ⟨w.heap.size + 1 + 1, pairv Z32 false, 36⟩] u := hB
  refine wp_region_lit ?_
  refine list_val (.agg (kc A)) (by kernel_rfl) (exec_arr _ 25 (.tmp 2) rfl (w.heap.size) (by kernel_rfl) (kc A) 25 _ (hB.get 0 (x := ⟨w.heap.size, kc A, 25⟩) rfl) Tryd.underlying25 rfl (by rw [Tryd.infoKey, kc_size, hAl])) ?_
  simp only [nrm]
  refine list_call 26 #[.agg (kc A)] (by kernel_rfl) (by kernel_rfl) ((public_is A (unhide hA) u).mono ?_)
  rintro r_ u1 ⟨rfl, hg⟩
  replace hB := hB.more hg
  clear hg
  obtain ⟨P, hP⟩ : ∃ P, P = pubL A := ⟨_, rfl⟩
  have hPk : IsK P := by rw [hP]; exact pubL_isK A
  have hPl := hPk.1
  rw [← hP]
  replace hP := hide hP; replace hPk := hide hPk
  refine ⟨_, rfl, ?_⟩
  simp only [nrm]
  refine list_valw (.pointer (some ⟨u1.heap.size, 0, none⟩)) (u1.alloc (.cells (kc Z32) 25 (0, 0))) (by kernel_rfl) (by kernel_rfl) ?_
  replace hB := hB.new (kc Z32) 25
  simp only [List.nil_append, List.cons_append] at hB
  generalize World.alloc _ _ = u2 at *
  generalize u1.heap.size = gw at *
  replace hB : Bl w [⟨w.heap.size, kc A, 25⟩, ⟨w.heap.size + 1, kc U, 25⟩, ⟨w.heap.size + 1 + 1, pairv Z32 false, 36⟩, ⟨gw, kc Z32, 25⟩] u2 := hB
  simp only [nrm]
  refine list_store 25 (.tmp 6) (.tmp 13) (gw) (kc P) 25 (kc Z32) (by kernel_rfl) rfl (by kernel_rfl) (by kernel_rfl) (hB.get 3 (x := ⟨gw, kc Z32, 25⟩) rfl) (by rw [Tryd.infoKey, kc_size, hPl]) (by rw [kc_size, kc_size, hPl]; rfl) (kc_one _) ?_
  replace hB := hB.set 3 (x := ⟨gw, kc Z32, 25⟩) rfl (kc P)
  simp only [List.set_cons_zero, List.set_cons_succ] at hB
  generalize World.setRow _ _ _ = u3 at *
  simp only [nrm]
  refine wpList_nil ?_
  replace hB := hide hB
  go_upto_region 2 with fail
  replace hB := unhide hB
  refine wp_region_lit ?_
  refine list_val (.agg (kc U)) (by kernel_rfl) (exec_arr _ 25 (.tmp 3) rfl (w.heap.size + 1) (by kernel_rfl) (kc U) 25 _ (hB.get 1 (x := ⟨w.heap.size + 1, kc U, 25⟩) rfl) Tryd.underlying25 rfl (by rw [Tryd.infoKey, kc_size, hUl])) ?_
  simp only [nrm]
  refine list_val (.agg (kc P)) (by kernel_rfl) (exec_arr _ 25 (.tmp 6) rfl (gw) (by kernel_rfl) (kc P) 25 _ (hB.get 3 (x := ⟨gw, kc P, 25⟩) rfl) Tryd.underlying25 rfl (by rw [Tryd.infoKey, kc_size, hPl])) ?_
  simp only [nrm]
  refine list_val (.bool true) (by kernel_rfl) (exec_eq_k _ (.tmp 14) (.tmp 15) rfl U P hUl hPl (by kernel_rfl) (by kernel_rfl) (by kernel_rfl) true (by rw [unhide hP]; simpa using unhide hown)) ?_
  simp only [nrm]
  refine wpList_nil ?_
  replace hB := hide hB
  go_upto_region 3 with fail
  replace hB := unhide hB
  refine wp_region_lit ?_
  refine list_val (.agg (pairv Z32 false)) (by kernel_rfl) (by kernel_rfl) ?_
  simp only [nrm]
  refine list_store 36 (.tmp 4) (.tmp 17) (w.heap.size + 1 + 1) (pairv Z32 false) 36 (pairv Z32 false) (by kernel_rfl) rfl (by kernel_rfl) (by kernel_rfl) (hB.get 2 (x := ⟨w.heap.size + 1 + 1, pairv Z32 false, 36⟩) rfl) (by rw [Tryd.infoPair, pairv_size, Z32_len]) (rfl) (pairv_one _ _) ?_
  replace hB := hB.set 2 (x := ⟨w.heap.size + 1 + 1, pairv Z32 false, 36⟩) rfl (pairv Z32 false)
  simp only [List.set_cons_zero, List.set_cons_succ] at hB
  generalize World.setRow _ _ _ = u4 at *
  simp only [nrm]
  (refine wpList_step fun K hK => ?_; replace hK := hide hK; go_simp; refine unhide hK _ _ ?_; clear hK K)
  refine wpList_nil ?_
  replace hB := hide hB
  go_wp2_with fail
  replace hB := unhide hB
  rw [unhide hT]
  exact bodyPost_ret (v := .tuple #[.agg (pairv Z32 false), .int .i64 262]) (results_cell_tmp Tryd.results18 _ _ (w.heap.size + 1 + 1) 36 (pairv Z32 false) (0, 0) _ rfl (.int .i64 262) rfl (hB.get 2 (x := ⟨w.heap.size + 1 + 1, pairv Z32 false, 36⟩) rfl) Tryd.underlying36 rfl (by rw [Tryd.infoPair, pairv_size, Z32_len])) rfl ⟨rfl, hB.gr⟩
set_option maxHeartbeats 4000000 in
theorem pair_low (A U : List Int) (hA : IsK A) (hU : IsK U) (hown : ¬ U = pubL A) (hlow : ¬ NLow A U) (w : World) (hF : Fst w) : Calls Tryd.prog 18 #[.agg (kc A), .agg (kc U)] w (Prd Z32 false 130 w) := by
  obtain ⟨T, hT⟩ : ∃ T, T = Prd Z32 false 130 w := ⟨_, rfl⟩
  rw [← hT]
  replace hT := hide hT
  have hAl := hA.1
  have hUl := hU.1
  replace hown := hide hown
  replace hlow := hide hlow
  obtain ⟨SA, hSA⟩ : ∃ S, S = kc A := ⟨_, rfl⟩
  obtain ⟨SU, hSU⟩ : ∃ S, S = kc U := ⟨_, rfl⟩
  rw [← hSA, ← hSU]
  replace hSA := hide hSA
  replace hSU := hide hSU
  replace hA := hide hA
  replace hU := hide hU
  replace hF := hide hF
  go_enter Tryd.func18, Tryd.ntmps18
  go_upto_region 1 with fail
  have hB := ((((Bl.nil w).new SA 25).new SU 25).new #[.int .u8 0, .int .u8 0, .int .u8 0, .int .u8 0, .int .u8 0, .int .u8 0, .int .u8 0, .int .u8 0, .int .u8 0, .int .u8 0, .int .u8 0, .int .u8 0, .int .u8 0, .int .u8 0, .int .u8 0, .int .u8 0, .int .u8 0, .int .u8 0, .int .u8 0, .int .u8 0, .int .u8 0, .int .u8 0, .int .u8 0, .int .u8 0, .int .u8 0, .int .u8 0, .int .u8 0, .int .u8 0, .int .u8 0, .int .u8 0, .int .u8 0, .int .u8 0, .bool false] 36)
  simp only [size_alloc, List.nil_append, List.cons_append] at hB
  generalize World.alloc _ _ = u at *
  rw [unhide hSA, unhide hSU] at hB
  replace hB : Bl w [⟨w.heap.size, kc A, 25⟩, ⟨w.heap.size + 1, kc U, 25⟩, ⟨w.heap.size + 1 + 1, pairv Z32 false, 36⟩] u := hB
  refine wp_region_lit ?_
  refine list_val (.agg (kc A)) (by kernel_rfl) (exec_arr _ 25 (.tmp 2) rfl (w.heap.size) (by kernel_rfl) (kc A) 25 _ (hB.get 0 (x := ⟨w.heap.size, kc A, 25⟩) rfl) Tryd.underlying25 rfl (by rw [Tryd.infoKey, kc_size, hAl])) ?_
  simp only [nrm]
  refine list_call 26 #[.agg (kc A)] (by kernel_rfl) (by kernel_rfl) ((public_is A (unhide hA) u).mono ?_)
  rintro r_ u1 ⟨rfl, hg⟩
  replace hB := hB.more hg
  clear hg
  obtain ⟨P, hP⟩ : ∃ P, P = pubL A := ⟨_, rfl⟩
  have hPk : IsK P := by rw [hP]; exact pubL_isK A
  have hPl := hPk.1
  rw [← hP]
  replace hP := hide hP; replace hPk := hide hPk
  refine ⟨_, rfl, ?_⟩
  simp only [nrm]
  refine list_valw (.pointer (some ⟨u1.heap.size, 0, none⟩)) (u1.alloc (.cells (kc Z32) 25 (0, 0))) (by kernel_rfl) (by kernel_rfl) ?_
  replace hB := hB.new (kc Z32) 25
  simp only [List.nil_append, List.cons_append] at hB
  generalize World.alloc _ _ = u2 at *
  generalize u1.heap.size = gw at *
  replace hB : Bl w [⟨w.heap.size, kc A, 25⟩, ⟨w.heap.size + 1, kc U, 25⟩, ⟨w.heap.size + 1 + 1, pairv Z32 false, 36⟩, ⟨gw, kc Z32, 25⟩] u2 := hB
  simp only [nrm]
  refine list_store 25 (.tmp 6) (.tmp 13) (gw) (kc P) 25 (kc Z32) (by kernel_rfl) rfl (by kernel_rfl) (by kernel_rfl) (hB.get 3 (x := ⟨gw, kc Z32, 25⟩) rfl) (by rw [Tryd.infoKey, kc_size, hPl]) (by rw [kc_size, kc_size, hPl]; rfl) (kc_one _) ?_
  replace hB := hB.set 3 (x := ⟨gw, kc Z32, 25⟩) rfl (kc P)
  simp only [List.set_cons_zero, List.set_cons_succ] at hB
  generalize World.setRow _ _ _ = u3 at *
  simp only [nrm]
  refine wpList_nil ?_
  replace hB := hide hB
  go_upto_region 2 with fail
  replace hB := unhide hB
  refine wp_region_lit ?_
  refine list_val (.agg (kc U)) (by kernel_rfl) (exec_arr _ 25 (.tmp 3) rfl (w.heap.size + 1) (by kernel_rfl) (kc U) 25 _ (hB.get 1 (x := ⟨w.heap.size + 1, kc U, 25⟩) rfl) Tryd.underlying25 rfl (by rw [Tryd.infoKey, kc_size, hUl])) ?_
  simp only [nrm]
  refine list_val (.agg (kc P)) (by kernel_rfl) (exec_arr _ 25 (.tmp 6) rfl (gw) (by kernel_rfl) (kc P) 25 _ (hB.get 3 (x := ⟨gw, kc P, 25⟩) rfl) Tryd.underlying25 rfl (by rw [Tryd.infoKey, kc_size, hPl])) ?_
  simp only [nrm]
  refine list_val (.bool false) (by kernel_rfl) (exec_eq_k _ (.tmp 14) (.tmp 15) rfl U P hUl hPl (by kernel_rfl) (by kernel_rfl) (by kernel_rfl) false (by rw [unhide hP]; simpa using unhide hown)) ?_
  simp only [nrm]
  refine wpList_nil ?_
  replace hB := hide hB
  go_upto_region 4 with fail
  replace hB := unhide hB
  refine wp_region_lit ?_
  refine list_val (.agg (kc A)) (by kernel_rfl) (exec_arr _ 25 (.tmp 2) rfl (w.heap.size) (by kernel_rfl) (kc A) 25 _ (hB.get 0 (x := ⟨w.heap.size, kc A, 25⟩) rfl) Tryd.underlying25 rfl (by rw [Tryd.infoKey, kc_size, hAl])) ?_
  simp only [nrm]
  refine list_val (.agg (kc U)) (by kernel_rfl) (exec_arr _ 25 (.tmp 3) rfl (w.heap.size + 1) (by kernel_rfl) (kc U) 25 _ (hB.get 1 (x := ⟨w.heap.size + 1, kc U, 25⟩) rfl) Tryd.underlying25 rfl (by rw [Tryd.infoKey, kc_size, hUl])) ?_
  simp only [nrm]
  refine list_call 34 #[.agg (kc A), .agg (kc U)] (by kernel_rfl) (by kernel_rfl) ((agree_not A U (unhide hA) (unhide hU) (unhide hlow) u3).mono ?_)
  rintro r_ u4 ⟨rfl, hg⟩
  replace hB := hB.more hg
  clear hg
  refine ⟨_, rfl, ?_⟩
  simp only [nrm]
  refine list_val (.tuple #[.agg (kc Z32), .int .i64 130]) (by kernel_rfl) (by kernel_rfl) ?_
  simp only [nrm]
  refine list_val (.agg (kc Z32)) (by kernel_rfl) (by kernel_rfl) ?_
  simp only [nrm]
  refine list_val (.int .i64 130) (by kernel_rfl) (by kernel_rfl) ?_
  simp only [nrm]
  refine list_valw (.pointer (some ⟨u4.heap.size, 0, none⟩)) (u4.alloc (.cells (kc Z32) 25 (0, 0))) (by kernel_rfl) (by kernel_rfl) ?_
  replace hB := hB.new (kc Z32) 25
  simp only [List.nil_append, List.cons_append] at hB
  generalize World.alloc _ _ = u5 at *
  generalize u4.heap.size = gc at *
  replace hB : Bl w [⟨w.heap.size, kc A, 25⟩, ⟨w.heap.size + 1, kc U, 25⟩, ⟨w.heap.size + 1 + 1, pairv Z32 false, 36⟩, ⟨gw, kc P, 25⟩, ⟨gc, kc Z32, 25⟩] u5 := hB
  simp only [nrm]
  refine list_store 25 (.tmp 7) (.tmp 22) (gc) (kc Z32) 25 (kc Z32) (by kernel_rfl) rfl (by kernel_rfl) (by kernel_rfl) (hB.get 4 (x := ⟨gc, kc Z32, 25⟩) rfl) (by rw [Tryd.infoKey, kc_size, Z32_len]) rfl (kc_one _) ?_
  replace hB := hB.set 4 (x := ⟨gc, kc Z32, 25⟩) rfl (kc Z32)
  simp only [List.set_cons_zero, List.set_cons_succ] at hB
  generalize World.setRow _ _ _ = u6 at *
  simp only [nrm]
  (refine wpList_step fun K hK => ?_; replace hK := hide hK; go_simp; refine unhide hK _ _ ?_; clear hK K)
  refine wpList_nil ?_
  replace hB := hide hB
  go_upto_region 5 with fail
  replace hB := unhide hB
  refine wp_region_lit ?_
  refine list_val (.int .i64 130) (by kernel_rfl) (by kernel_rfl) ?_
  simp only [nrm]
  refine list_val (.bool true) (by kernel_rfl) (by kernel_rfl) ?_
  simp only [nrm]
  refine wpList_nil ?_
  replace hB := hide hB
  go_upto_region 6 with fail
  replace hB := unhide hB
  refine wp_region_lit ?_
  refine list_val (.agg (pairv Z32 false)) (by kernel_rfl) (by kernel_rfl) ?_
  simp only [nrm]
  refine list_val (.int .i64 130) (by kernel_rfl) (by kernel_rfl) ?_
  simp only [nrm]
  refine list_store 36 (.tmp 4) (.tmp 26) (w.heap.size + 1 + 1) (pairv Z32 false) 36 (pairv Z32 false) (by kernel_rfl) rfl (by kernel_rfl) (by kernel_rfl) (hB.get 2 (x := ⟨w.heap.size + 1 + 1, pairv Z32 false, 36⟩) rfl) (by rw [Tryd.infoPair, pairv_size, Z32_len]) (rfl) (pairv_one _ _) ?_
  replace hB := hB.set 2 (x := ⟨w.heap.size + 1 + 1, pairv Z32 false, 36⟩) rfl (pairv Z32 false)
  simp only [List.set_cons_zero, List.set_cons_succ] at hB
  generalize World.setRow _ _ _ = u7 at *
  simp only [nrm]
  (refine wpList_step fun K hK => ?_; replace hK := hide hK; go_simp; refine unhide hK _ _ ?_; clear hK K)
  refine wpList_nil ?_
  replace hB := hide hB
  go_wp2_with fail
  replace hB := unhide hB
  rw [unhide hT]
  exact bodyPost_ret (v := .tuple #[.agg (pairv Z32 false), .int .i64 130]) (results_cell_tmp Tryd.results18 _ _ (w.heap.size + 1 + 1) 36 (pairv Z32 false) (0, 0) _ rfl (.int .i64 130) rfl (hB.get 2 (x := ⟨w.heap.size + 1 + 1, pairv Z32 false, 36⟩) rfl) Tryd.underlying36 rfl (by rw [Tryd.infoPair, pairv_size, Z32_len])) rfl ⟨rfl, hB.gr⟩
set_option maxHeartbeats 4000000 in
theorem pair_yes (A U : List Int) (hA : IsK A) (hU : IsK U) (hown : ¬ U = pubL A) (hlow : NLow A U) (w : World) (hF : Fst w) : Calls Tryd.prog 18 #[.agg (kc A), .agg (kc U)] w (Prd (prK A U) (ltL (pubL A) U) 0 w) := by
  obtain ⟨T, hT⟩ : ∃ T, T = Prd (prK A U) (ltL (pubL A) U) 0 w := ⟨_, rfl⟩
  rw [← hT]
  replace hT := hide hT
  have hAl := hA.1
  have hUl := hU.1
  replace hown := hide hown
  replace hlow := hide hlow
  obtain ⟨SA, hSA⟩ : ∃ S, S = kc A := ⟨_, rfl⟩
  obtain ⟨SU, hSU⟩ : ∃ S, S = kc U := ⟨_, rfl⟩
  rw [← hSA, ← hSU]
  replace hSA := hide hSA
  replace hSU := hide hSU
  replace hA := hide hA
  replace hU := hide hU
  replace hF := hide hF
  go_enter Tryd.func18, Tryd.ntmps18
  go_upto_region 1 with fail
  have hB := ((((Bl.nil w).new SA 25).new SU 25).new #[.int .u8 0, .int .u8 0, .int .u8 0, .int .u8 0, .int .u8 0, .int .u8 0, .int .u8 0, .int .u8 0, .int .u8 0, .int .u8 0, .int .u8 0, .int .u8 0, .int .u8 0, .int .u8 0, .int .u8 0, .int .u8 0, .int .u8 0, .int .u8 0, .int .u8 0, .int .u8 0, .int .u8 0, .int .u8 0, .int .u8 0, .int .u8 0, .int .u8 0, .int .u8 0, .int .u8 0, .int .u8 0, .int .u8 0, .int .u8 0, .int .u8 0, .int .u8 0, .bool false] 36)
  simp only [size_alloc, List.nil_append, List.cons_append] at hB
  generalize World.alloc _ _ = u at *
  rw [unhide hSA, unhide hSU] at hB
  replace hB : Bl w [⟨w.heap.size, kc A, 25⟩, ⟨w.heap.size + 1, kc U, 25⟩, ⟨w.heap.size + 1 + 1, pairv Z32 false, 36⟩] u := hB
  refine wp_region_lit ?_
  refine list_val (.agg (kc A)) (by kernel_rfl) (exec_arr _ 25 (.tmp 2) rfl (w.heap.size) (by kernel_rfl) (kc A) 25 _ (hB.get 0 (x := ⟨w.heap.size, kc A, 25⟩) rfl) Tryd.underlying25 rfl (by rw [Tryd.infoKey, kc_size, hAl])) ?_
  simp only [nrm]
  refine list_call 26 #[.agg (kc A)] (by kernel_rfl) (by kernel_rfl) ((public_is A (unhide hA) u).mono ?_)
  rintro r_ u1 ⟨rfl, hg⟩
  replace hB := hB.more hg
  clear hg
  obtain ⟨P, hP⟩ : ∃ P, P = pubL A := ⟨_, rfl⟩
  have hPk : IsK P := by rw [hP]; exact pubL_isK A
  have hPl := hPk.1
  rw [← hP]
  replace hP := hide hP; replace hPk := hide hPk
  refine ⟨_, rfl, ?_⟩
  simp only [nrm]
  refine list_valw (.pointer (some ⟨u1.heap.size, 0, none⟩)) (u1.alloc (.cells (kc Z32) 25 (0, 0))) (by kernel_rfl) (by kernel_rfl) ?_
  replace hB := hB.new (kc Z32) 25
  simp only [List.nil_append, List.cons_append] at hB
  generalize World.alloc _ _ = u2 at *
  generalize u1.heap.size = gw at *
  replace hB : Bl w [⟨w.heap.size, kc A, 25⟩, ⟨w.heap.size + 1, kc U, 25⟩, ⟨w.heap.size + 1 + 1, pairv Z32 false, 36⟩, ⟨gw, kc Z32, 25⟩] u2 := hB
  simp only [nrm]
  refine list_store 25 (.tmp 6) (.tmp 13) (gw) (kc P) 25 (kc Z32) (by kernel_rfl) rfl (by kernel_rfl) (by kernel_rfl) (hB.get 3 (x := ⟨gw, kc Z32, 25⟩) rfl) (by rw [Tryd.infoKey, kc_size, hPl]) (by rw [kc_size, kc_size, hPl]; rfl) (kc_one _) ?_
  replace hB := hB.set 3 (x := ⟨gw, kc Z32, 25⟩) rfl (kc P)
  simp only [List.set_cons_zero, List.set_cons_succ] at hB
  generalize World.setRow _ _ _ = u3 at *
  simp only [nrm]
  refine wpList_nil ?_
  replace hB := hide hB
  go_upto_region 2 with fail
  replace hB := unhide hB
  refine wp_region_lit ?_
  refine list_val (.agg (kc U)) (by kernel_rfl) (exec_arr _ 25 (.tmp 3) rfl (w.heap.size + 1) (by kernel_rfl) (kc U) 25 _ (hB.get 1 (x := ⟨w.heap.size + 1, kc U, 25⟩) rfl) Tryd.underlying25 rfl (by rw [Tryd.infoKey, kc_size, hUl])) ?_
  simp only [nrm]
  refine list_val (.agg (kc P)) (by kernel_rfl) (exec_arr _ 25 (.tmp 6) rfl (gw) (by kernel_rfl) (kc P) 25 _ (hB.get 3 (x := ⟨gw, kc P, 25⟩) rfl) Tryd.underlying25 rfl (by rw [Tryd.infoKey, kc_size, hPl])) ?_
  simp only [nrm]
  refine list_val (.bool false) (by kernel_rfl) (exec_eq_k _ (.tmp 14) (.tmp 15) rfl U P hUl hPl (by kernel_rfl) (by kernel_rfl) (by kernel_rfl) false (by rw [unhide hP]; simpa using unhide hown)) ?_
  simp only [nrm]
  refine wpList_nil ?_
  replace hB := hide hB
  go_upto_region 4 with fail
  replace hB := unhide hB
  refine wp_region_lit ?_
  refine list_val (.agg (kc A)) (by kernel_rfl) (exec_arr _ 25 (.tmp 2) rfl (w.heap.size) (by kernel_rfl) (kc A) 25 _ (hB.get 0 (x := ⟨w.heap.size, kc A, 25⟩) rfl) Tryd.underlying25 rfl (by rw [Tryd.infoKey, kc_size, hAl])) ?_
  simp only [nrm]
  refine list_val (.agg (kc U)) (by kernel_rfl) (exec_arr _ 25 (.tmp 3) rfl (w.heap.size + 1) (by kernel_rfl) (kc U) 25 _ (hB.get 1 (x := ⟨w.heap.size + 1, kc U, 25⟩) rfl) Tryd.underlying25 rfl (by rw [Tryd.infoKey, kc_size, hUl])) ?_
  simp only [nrm]
  refine list_call 34 #[.agg (kc A), .agg (kc U)] (by kernel_rfl) (by kernel_rfl) ((agree_yes A U (unhide hA) (unhide hU) (unhide hlow) u3).mono ?_)
  rintro r_ u4 ⟨rfl, hg⟩
  replace hB := hB.more hg
  clear hg
  obtain ⟨G, hG⟩ : ∃ P, P = agL A U := ⟨_, rfl⟩
  have hGk : IsK G := by rw [hG]; exact agL_isK A U
  have hGl := hGk.1
  rw [← hG]
  replace hG := hide hG; replace hGk := hide hGk
  refine ⟨_, rfl, ?_⟩
  simp only [nrm]
  refine list_val (.tuple #[.agg (kc G), .int .i64 0]) (by kernel_rfl) (by kernel_rfl) ?_
  simp only [nrm]
  refine list_val (.agg (kc G)) (by kernel_rfl) (by kernel_rfl) ?_
  simp only [nrm]
  refine list_val (.int .i64 0) (by kernel_rfl) (by kernel_rfl) ?_
  simp only [nrm]
  refine list_valw (.pointer (some ⟨u4.heap.size, 0, none⟩)) (u4.alloc (.cells (kc Z32) 25 (0, 0))) (by kernel_rfl) (by kernel_rfl) ?_
  replace hB := hB.new (kc Z32) 25
  simp only [List.nil_append, List.cons_append] at hB
  generalize World.alloc _ _ = u5 at *
  generalize u4.heap.size = gc at *
  replace hB : Bl w [⟨w.heap.size, kc A, 25⟩, ⟨w.heap.size + 1, kc U, 25⟩, ⟨w.heap.size + 1 + 1, pairv Z32 false, 36⟩, ⟨gw, kc P, 25⟩, ⟨gc, kc Z32, 25⟩] u5 := hB
  simp only [nrm]
  refine list_store 25 (.tmp 7) (.tmp 22) (gc) (kc G) 25 (kc Z32) (by kernel_rfl) rfl (by kernel_rfl) (by kernel_rfl) (hB.get 4 (x := ⟨gc, kc Z32, 25⟩) rfl) (by rw [Tryd.infoKey, kc_size, hGl]) (by rw [kc_size, kc_size, hGl]; rfl) (kc_one _) ?_
  replace hB := hB.set 4 (x := ⟨gc, kc Z32, 25⟩) rfl (kc G)
  simp only [List.set_cons_zero, List.set_cons_succ] at hB
  generalize World.setRow _ _ _ = u6 at *
  simp only [nrm]
  (refine wpList_step fun K hK => ?_; replace hK := hide hK; go_simp; refine unhide hK _ _ ?_; clear hK K)
  refine wpList_nil ?_
  replace hB := hide hB
  go_upto_region 5 with fail
  replace hB := unhide hB
  refine wp_region_lit ?_
  refine list_val (.int .i64 0) (by kernel_rfl) (by kernel_rfl) ?_
  simp only [nrm]
  refine list_val (.bool false) (by kernel_rfl) (by kernel_rfl) ?_
  simp only [nrm]
  refine wpList_nil ?_
  replace hB := hide hB
  go_upto_region 7 with fail
  replace hB := unhide hB
  refine wp_region_lit ?_
  refine list_val (.agg (kc P)) (by kernel_rfl) (exec_arr _ 25 (.tmp 6) rfl (gw) (by kernel_rfl) (kc P) 25 _ (hB.get 3 (x := ⟨gw, kc P, 25⟩) rfl) Tryd.underlying25 rfl (by rw [Tryd.infoKey, kc_size, hPl])) ?_
  simp only [nrm]
  refine list_val (.agg (kc U)) (by kernel_rfl) (exec_arr _ 25 (.tmp 3) rfl (w.heap.size + 1) (by kernel_rfl) (kc U) 25 _ (hB.get 1 (x := ⟨w.heap.size + 1, kc U, 25⟩) rfl) Tryd.underlying25 rfl (by rw [Tryd.infoKey, kc_size, hUl])) ?_
  simp only [nrm]
  refine list_call 20 #[.agg (kc P), .agg (kc U)] (by kernel_rfl) (by kernel_rfl) ((less_ok P U hPl hUl u6).mono ?_)
  rintro r_ u7 ⟨rfl, hg⟩
  replace hB := hB.more hg
  clear hg
  obtain ⟨fi, hfi⟩ : ∃ P_, P_ = ltL P U := ⟨_, rfl⟩
  rw [← hfi]
  replace hfi := hide hfi
  refine ⟨_, rfl, ?_⟩
  simp only [nrm]
  (refine wpList_step fun K hK => ?_; replace hK := hide hK; go_simp; refine unhide hK _ _ ?_; clear hK K)
  refine wpList_nil ?_
  replace hB := hide hB
  go_upto_region 8 with fail
  replace hB := unhide hB
  refine any_start (S := fun v => v.heap[w.heap.size + 1]? = some (.cells (kc U) 25 (0, 0)) ∧ v.heap[gw]? = some (.cells (kc P) 25 (0, 0)) ∧ True) (by kernel_rfl) ?_
  replace hB := hB.drew
  generalize World.drew _ = v1_ at *
  simp only [List.size_toArray, List.length_cons, List.length_nil, Array.replicate, List.replicate]
  refine any_take (i := 0) (v := (.agg (kc U))) #[false, false, false, false, false, false] rfl (by kernel_rfl) (by kernel_rfl) (by kernel_rfl) (by kernel_rfl) (fun _ _ _ h => h) (.inl ⟨by kernel_rfl, fun x_ hu => exec_arr x_ 25 (.tmp 3) rfl (w.heap.size + 1) (by kernel_rfl) (kc U) 25 _ hu.1 Tryd.underlying25 rfl (by rw [Tryd.infoKey, kc_size, hUl])⟩) ⟨(hB.get 1 (x := ⟨w.heap.size + 1, (kc U), 25⟩) rfl), (hB.get 3 (x := ⟨gw, (kc P), 25⟩) rfl), trivial⟩ ?_
  simp only [nrm]
  refine any_take (i := 1) (v := (.agg (kc P))) #[true, false, false, false, false, false] rfl (by kernel_rfl) (by kernel_rfl) (by kernel_rfl) (by kernel_rfl) (fun _ _ _ h => h) (.inl ⟨by kernel_rfl, fun x_ hu => exec_arr x_ 25 (.tmp 6) rfl gw (by kernel_rfl) (kc P) 25 _ hu.2.1 Tryd.underlying25 rfl (by rw [Tryd.infoKey, kc_size, hPl])⟩) ⟨(hB.get 1 (x := ⟨w.heap.size + 1, (kc U), 25⟩) rfl), (hB.get 3 (x := ⟨gw, (kc P), 25⟩) rfl), trivial⟩ ?_
  simp only [nrm]
  have hSf : ∀ v, Gr v1_ v → (fun v => v.heap[w.heap.size + 1]? = some (.cells (kc U) 25 (0, 0)) ∧ v.heap[gw]? = some (.cells (kc P) 25 (0, 0)) ∧ True) v := fun v k => ⟨k.blk (hB.get 1 (x := ⟨w.heap.size + 1, (kc U), 25⟩) rfl), k.blk (hB.get 3 (x := ⟨gw, (kc P), 25⟩) rfl), trivial⟩
  refine stage2 v1_ #[.int .u8 0, .int .u8 0, .int .u8 0, .int .u8 0, .int .u8 0, .int .u8 0, .int .u8 0, .int .u8 0, .int .u8 0, .int .u8 0, .int .u8 0, .int .u8 0, .int .u8 0, .int .u8 0, .int .u8 0, .int .u8 0, .int .u8 0, .int .u8 0, .int .u8 0, .int .u8 0, .int .u8 0, .int .u8 0, .int .u8 0, .int .u8 0, .int .u8 0, .int .u8 0, .int .u8 0, .int .u8 0, .int .u8 0, .int .u8 0, .int .u8 0, .int .u8 0] 25 (fw2 _ 10 11) (fun b8_1 b8_2 => #[true, true, b8_1, b8_2, false, false]) 2 3 4 true hSf (by kernel_rfl) (fun _ _ => ⟨rfl, rfl⟩) ?_ ?_ ?_ (M2.first (fun b8_1 b8_2 => #[true, true, b8_1, b8_2, false, false]) _ rfl rfl)
  all_goals simp only [fw2, Act.put, List.setIfInBounds_toArray, List.set_cons_zero, List.set_cons_succ, List.getElem_toArray, List.getElem_cons_zero, List.getElem_cons_succ]
  · intro q8_1 q8_2 x K hK
    refine wpOp_step (o := _) rfl (fun K' hK' => ?_)
    replace hK' := hide hK'
    replace hK := hide hK
    go_simp
    exact unhide hK' _ _ (unhide hK)
  · intro q8_1 q8_2 x K hK
    refine wpOp_step (o := _) rfl (fun K' hK' => ?_)
    replace hK' := hide hK'
    replace hK := hide hK
    go_simp
    exact unhide hK' _ _ (unhide hK)
  intro b8_1 b8_2 q8_1 q8_2 g8_1 g8_2 v2_ hM hall
  obtain ⟨rfl, rfl⟩ := hall (by trivial)
  obtain ⟨rfl, rfl, hB'⟩ := hM.all hB
  replace hB := hB'
  clear hB' hM hall
  simp only [List.cons_append, List.nil_append] at hB
  replace hB : Bl w [⟨w.heap.size, (kc A), 25⟩, ⟨w.heap.size + 1, (kc U), 25⟩, ⟨w.heap.size + 1 + 1, (pairv Z32 false), 36⟩, ⟨gw, (kc P), 25⟩, ⟨gc, (kc G), 25⟩, ⟨g8_1, (kc Z32), 25⟩, ⟨g8_2, (kc Z32), 25⟩] v2_ := hB
  refine wpOp_step (o := _) rfl (fun K' hK' => ?_)
  replace hK' := hide hK'
  rw [if_pos (by kernel_rfl)]
  refine wp_store_row 25 (.tmp 10) (.tmp 31) rfl g8_1 (kc U) (by kernel_rfl) (by kernel_rfl) 25 (kc Z32) (hB.get 5 (x := ⟨g8_1, (kc Z32), 25⟩) rfl) (by rw [Tryd.infoKey, kc_size, hUl]) (((kc_size _).trans Z32_len).trans ((kc_size _).trans hUl).symm) (kc_one _) ?_
  replace hB := hB.set 5 (x := ⟨g8_1, (kc Z32), 25⟩) rfl (kc U)
  simp only [List.set_cons_zero, List.set_cons_succ] at hB
  refine unhide hK' _ _ ⟨⟨(hB.get 1 (x := ⟨w.heap.size + 1, (kc U), 25⟩) rfl), (hB.get 3 (x := ⟨gw, (kc P), 25⟩) rfl), trivial⟩, ?_⟩
  clear hK' K' hSf
  generalize World.setRow _ _ _ = v3_ at *
  simp only [nrm]
  refine any_one (i := 5) (by kernel_rfl) rfl (fun K hK => ?_)
  rw [if_pos (by kernel_rfl)]
  refine wp_store_row 25 (.tmp 11) (.tmp 32) rfl g8_2 (kc P) (by kernel_rfl) (by kernel_rfl) 25 (kc Z32) (hB.get 6 (x := ⟨g8_2, (kc Z32), 25⟩) rfl) (by rw [Tryd.infoKey, kc_size, hPl]) (((kc_size _).trans Z32_len).trans ((kc_size _).trans hPl).symm) (kc_one _) ?_
  replace hB := hB.set 6 (x := ⟨g8_2, (kc Z32), 25⟩) rfl (kc P)
  simp only [List.set_cons_zero, List.set_cons_succ] at hB
  refine hK.out _ _ ⟨(hB.get 1 (x := ⟨w.heap.size + 1, (kc U), 25⟩) rfl), (hB.get 3 (x := ⟨gw, (kc P), 25⟩) rfl), trivial⟩ (fun _ => ?_)
  clear hK K
  generalize World.setRow _ _ _ = v4_ at *
  simp only [nrm]
  refine any_done (by kernel_rfl) ?_
  replace hB : Bl w [⟨w.heap.size, kc A, 25⟩, ⟨w.heap.size + 1, kc U, 25⟩, ⟨w.heap.size + 1 + 1, pairv Z32 false, 36⟩, ⟨gw, kc P, 25⟩, ⟨gc, kc G, 25⟩, ⟨g8_1, kc U, 25⟩, ⟨g8_2, kc P, 25⟩] v4_ := hB
  cases fi with
  | false =>
    replace hB := hide hB
    go_upto_region 11 with fail
    replace hB := unhide hB
    refine any_start (S := fun v => v.heap[gc]? = some (.cells (kc G) 25 (0, 0))) (by kernel_rfl) ?_
    replace hB := hB.drew
    generalize World.drew _ = y0 at *
    simp only [List.size_toArray, List.length_cons, List.length_nil, Array.replicate, List.replicate]
    refine any_take (i := 0) (v := (.agg (kc G))) #[false, false, false, false, false, false, false, false, false] rfl (by kernel_rfl) (by kernel_rfl) (by kernel_rfl) (by kernel_rfl) (fun _ _ _ h => h) (.inl ⟨by kernel_rfl, fun x_ hu => exec_arr _ 25 (.tmp 7) rfl (gc) (by kernel_rfl) (kc G) 25 _ (hu) Tryd.underlying25 rfl (by rw [Tryd.infoKey, kc_size, hGl])⟩) (hB.get 4 (x := ⟨gc, kc G, 25⟩) rfl) ?_
    simp only [nrm]
    refine any_take (i := 1) (v := (.slice (some ⟨g8_1, 0, none⟩) 32 32)) #[true, false, false, false, false, false, false, false, false] rfl (by kernel_rfl) (by kernel_rfl) (by kernel_rfl) (by kernel_rfl) (fun _ _ _ h => h) (.inl ⟨by kernel_rfl, fun x_ hu => by kernel_rfl⟩) (hB.get 4 (x := ⟨gc, kc G, 25⟩) rfl) ?_
    simp only [nrm]
    refine any_take (i := 2) (v := (.slice (some ⟨g8_2, 0, none⟩) 32 32)) #[true, true, false, false, false, false, false, false, false] rfl (by kernel_rfl) (by kernel_rfl) (by kernel_rfl) (by kernel_rfl) (fun _ _ _ h => h) (.inl ⟨by kernel_rfl, fun x_ hu => by kernel_rfl⟩) (hB.get 4 (x := ⟨gc, kc G, 25⟩) rfl) ?_
    simp only [nrm]
    refine any_take (i := 5) (v := (.bool false)) #[true, true, true, false, false, false, false, false, false] rfl (by kernel_rfl) (by kernel_rfl) (by kernel_rfl) (by kernel_rfl) (fun _ _ _ h => h) (.inl ⟨by kernel_rfl, fun x_ hu => by kernel_rfl⟩) (hB.get 4 (x := ⟨gc, kc G, 25⟩) rfl) ?_
    simp only [nrm]
    refine any_one (i := 3) (by kernel_rfl) rfl (fun K hK => ?_)
    replace hB := hide hB
    replace hK := hide hK
    go_simp
    refine (unhide hK).out _ _ ?_ (fun _ => ?_)
    · exact ((Gr.refl y0).alloc (.cells #[.slice (some ⟨g8_1, 0, none⟩) 32 32, .slice (some ⟨g8_2, 0, none⟩) 32 32] 33)).blk ((unhide hB).get 4 (x := ⟨gc, kc G, 25⟩) rfl)
    clear hK K
    have hg := (Gr.refl y0).alloc (.cells #[.slice (some ⟨g8_1, 0, none⟩) 32 32, .slice (some ⟨g8_2, 0, none⟩) 32 32] 33 (0, 0))
    have hnew := blk_new y0 (.cells #[.slice (some ⟨g8_1, 0, none⟩) 32 32, .slice (some ⟨g8_2, 0, none⟩) 32 32] 33 (0, 0))
    replace hB := (unhide hB).more hg
    generalize World.alloc _ _ = y1 at *
    generalize y0.heap.size = gq at *
    clear hg
    simp only [nrm]
    refine any_one (i := 4) (by kernel_rfl) rfl (fun K hK => ?_)
    refine step_callw (by kernel_rfl) 35 #[.agg (kc G), .string tPair, .slice (some ⟨gq, 0, none⟩) 2 2] (by kernel_rfl) ((derive_ok G hGl (unhide hGk).2 tPair (by decide) [U, P] (some ⟨gq, 0, none⟩) 2 2 rfl (small_two hUl hPl) y1 ((unhide hF).gr hB.gr) (pr_two hnew (kc_lb (n := 32) (hB.get 5 (x := ⟨g8_1, kc U, 25⟩) rfl) hUl (unhide hU).2 (by omega)) (kc_lb (n := 32) (hB.get 6 (x := ⟨g8_2, kc P, 25⟩) rfl) hPl (unhide hPk).2 (by omega)))).mono ?_)
    rintro r y2 ⟨rfl, hg⟩
    refine ⟨_, rfl, ?_⟩
    replace hB := hB.more hg
    clear hg hnew
    obtain ⟨D, hD⟩ : ∃ D, D = spL G (infoL (tb tPair) [U, P]) 32 := ⟨_, rfl⟩
    rw [← hD]
    have hDl : D.length = 32 := by rw [hD, spL_len]
    replace hD := hide hD
    refine hK.out _ _ (hB.get 4 (x := ⟨gc, kc G, 25⟩) rfl) (fun _ => ?_)
    clear hK K
    simp only [nrm]
    refine any_take (i := 6) (v := (.agg (pairv D false))) #[true, true, true, true, true, true, false, false, false] rfl (by kernel_rfl) (by kernel_rfl) (by kernel_rfl) (by kernel_rfl) (fun _ _ _ h => h) (.inl ⟨by kernel_rfl, fun x_ hu => exec_bpair _ (.tmp 40) (.tmp 41) rfl D hDl false (by kernel_rfl) (by kernel_rfl)⟩) (hB.get 4 (x := ⟨gc, kc G, 25⟩) rfl) ?_
    simp only [nrm]
    refine any_one (i := 7) (by kernel_rfl) rfl (fun K hK => ?_)
    refine step_storew 36 (.tmp 4) (.tmp 42) (w.heap.size + 1 + 1) (pairv D false) 36 (pairv Z32 false) (by kernel_rfl) rfl (by kernel_rfl) (by kernel_rfl) (hB.get 2 (x := ⟨w.heap.size + 1 + 1, pairv Z32 false, 36⟩) rfl) (by rw [Tryd.infoPair, pairv_size, hDl]) (by rw [pairv_size, pairv_size, hDl]; rfl) (pairv_one _ _) ?_
    replace hB := hB.set 2 (x := ⟨w.heap.size + 1 + 1, pairv Z32 false, 36⟩) rfl (pairv D false)
    simp only [List.set_cons_zero, List.set_cons_succ] at hB
    generalize World.setRow _ _ _ = y3 at *
    refine hK.out _ _ (hB.get 4 (x := ⟨gc, kc G, 25⟩) rfl) (fun _ => ?_)
    clear hK K
    simp only [nrm]
    refine any_one (i := 8) (by kernel_rfl) rfl (fun K hK => ?_)
    replace hK := hide hK
    go_simp
    refine (unhide hK).out _ _ (hB.get 4 (x := ⟨gc, kc G, 25⟩) rfl) (fun _ => ?_)
    clear hK K
    refine any_done (by kernel_rfl) ?_
    have hDr : D = prK A U := by
      rw [unhide hD, unhide hG]
      unfold prK prA
      rw [← unhide hP, ← unhide hfi]
      rfl
    replace hDr := hide hDr
    replace hB := hide hB
    go_wp2_with fail
    replace hB := unhide hB
    rw [unhide hT]
    exact bodyPost_ret (v := .tuple #[.agg (pairv D false), .int .i64 0]) (results_cell_tmp Tryd.results18 _ _ (w.heap.size + 1 + 1) 36 (pairv D false) (0, 0) _ rfl (.int .i64 0) rfl (hB.get 2 (x := ⟨w.heap.size + 1 + 1, pairv D false, 36⟩) rfl) Tryd.underlying36 rfl (by rw [Tryd.infoPair, pairv_size, hDl])) rfl ⟨by rw [unhide hDr, ← unhide hP, ← unhide hfi], hB.gr⟩
  | true =>
    replace hB := hide hB
    go_upto_region 10 with fail
    replace hB := unhide hB
    refine any_start (S := fun v => v.heap[w.heap.size + 1]? = some (.cells (kc U) 25 (0, 0)) ∧ v.heap[gw]? = some (.cells (kc P) 25 (0, 0)) ∧ True) (by kernel_rfl) ?_
    replace hB := hB.drew
    generalize World.drew _ = v25_ at *
    simp only [List.size_toArray, List.length_cons, List.length_nil, Array.replicate, List.replicate]
    refine any_take (i := 0) (v := (.agg (kc P))) #[false, false, false, false] rfl (by kernel_rfl) (by kernel_rfl) (by kernel_rfl) (by kernel_rfl) (fun _ _ _ h => h) (.inl ⟨by kernel_rfl, fun x_ hu => exec_arr x_ 25 (.tmp 6) rfl gw (by kernel_rfl) (kc P) 25 _ hu.2.1 Tryd.underlying25 rfl (by rw [Tryd.infoKey, kc_size, hPl])⟩) ⟨(hB.get 1 (x := ⟨w.heap.size + 1, (kc U), 25⟩) rfl), (hB.get 3 (x := ⟨gw, (kc P), 25⟩) rfl), trivial⟩ ?_
    simp only [nrm]
    refine any_take (i := 1) (v := (.agg (kc U))) #[true, false, false, false] rfl (by kernel_rfl) (by kernel_rfl) (by kernel_rfl) (by kernel_rfl) (fun _ _ _ h => h) (.inl ⟨by kernel_rfl, fun x_ hu => exec_arr x_ 25 (.tmp 3) rfl (w.heap.size + 1) (by kernel_rfl) (kc U) 25 _ hu.1 Tryd.underlying25 rfl (by rw [Tryd.infoKey, kc_size, hUl])⟩) ⟨(hB.get 1 (x := ⟨w.heap.size + 1, (kc U), 25⟩) rfl), (hB.get 3 (x := ⟨gw, (kc P), 25⟩) rfl), trivial⟩ ?_
    simp only [nrm]
    refine any_one (i := 2) (by kernel_rfl) rfl (fun K hK => ?_)
    rw [if_pos (by kernel_rfl)]
    refine wp_store_row 25 (.tmp 10) (.tmp 34) rfl g8_1 (kc P) (by kernel_rfl) (by kernel_rfl) 25 (kc U) (hB.get 5 (x := ⟨g8_1, (kc U), 25⟩) rfl) (by rw [Tryd.infoKey, kc_size, hPl]) (((kc_size _).trans hUl).trans ((kc_size _).trans hPl).symm) (kc_one _) ?_
    replace hB := hB.set 5 (x := ⟨g8_1, (kc U), 25⟩) rfl (kc P)
    simp only [List.set_cons_zero, List.set_cons_succ] at hB
    refine hK.out _ _ ⟨(hB.get 1 (x := ⟨w.heap.size + 1, (kc U), 25⟩) rfl), (hB.get 3 (x := ⟨gw, (kc P), 25⟩) rfl), trivial⟩ (fun _ => ?_)
    clear hK K
    generalize World.setRow _ _ _ = v26_ at *
    simp only [nrm]
    refine any_one (i := 3) (by kernel_rfl) rfl (fun K hK => ?_)
    rw [if_pos (by kernel_rfl)]
    refine wp_store_row 25 (.tmp 11) (.tmp 35) rfl g8_2 (kc U) (by kernel_rfl) (by kernel_rfl) 25 (kc P) (hB.get 6 (x := ⟨g8_2, (kc P), 25⟩) rfl) (by rw [Tryd.infoKey, kc_size, hUl]) (((kc_size _).trans hPl).trans ((kc_size _).trans hUl).symm) (kc_one _) ?_
    replace hB := hB.set 6 (x := ⟨g8_2, (kc P), 25⟩) rfl (kc U)
    simp only [List.set_cons_zero, List.set_cons_succ] at hB
    refine hK.out _ _ ⟨(hB.get 1 (x := ⟨w.heap.size + 1, (kc U), 25⟩) rfl), (hB.get 3 (x := ⟨gw, (kc P), 25⟩) rfl), trivial⟩ (fun _ => ?_)
    clear hK K
    generalize World.setRow _ _ _ = v27_ at *
    simp only [nrm]
    refine any_done (by kernel_rfl) ?_
    replace hB : Bl w [⟨w.heap.size, kc A, 25⟩, ⟨w.heap.size + 1, kc U, 25⟩, ⟨w.heap.size + 1 + 1, pairv Z32 false, 36⟩, ⟨gw, kc P, 25⟩, ⟨gc, kc G, 25⟩, ⟨g8_1, kc P, 25⟩, ⟨g8_2, kc U, 25⟩] v27_ := hB
    replace hB := hide hB
    go_upto_region 11 with fail
    replace hB := unhide hB
    refine any_start (S := fun v => v.heap[gc]? = some (.cells (kc G) 25 (0, 0))) (by kernel_rfl) ?_
    replace hB := hB.drew
    generalize World.drew _ = y0 at *
    simp only [List.size_toArray, List.length_cons, List.length_nil, Array.replicate, List.replicate]
    refine any_take (i := 0) (v := (.agg (kc G))) #[false, false, false, false, false, false, false, false, false] rfl (by kernel_rfl) (by kernel_rfl) (by kernel_rfl) (by kernel_rfl) (fun _ _ _ h => h) (.inl ⟨by kernel_rfl, fun x_ hu => exec_arr _ 25 (.tmp 7) rfl (gc) (by kernel_rfl) (kc G) 25 _ (hu) Tryd.underlying25 rfl (by rw [Tryd.infoKey, kc_size, hGl])⟩) (hB.get 4 (x := ⟨gc, kc G, 25⟩) rfl) ?_
    simp only [nrm]
    refine any_take (i := 1) (v := (.slice (some ⟨g8_1, 0, none⟩) 32 32)) #[true, false, false, false, false, false, false, false, false] rfl (by kernel_rfl) (by kernel_rfl) (by kernel_rfl) (by kernel_rfl) (fun _ _ _ h => h) (.inl ⟨by kernel_rfl, fun x_ hu => by kernel_rfl⟩) (hB.get 4 (x := ⟨gc, kc G, 25⟩) rfl) ?_
    simp only [nrm]
    refine any_take (i := 2) (v := (.slice (some ⟨g8_2, 0, none⟩) 32 32)) #[true, true, false, false, false, false, false, false, false] rfl (by kernel_rfl) (by kernel_rfl) (by kernel_rfl) (by kernel_rfl) (fun _ _ _ h => h) (.inl ⟨by kernel_rfl, fun x_ hu => by kernel_rfl⟩) (hB.get 4 (x := ⟨gc, kc G, 25⟩) rfl) ?_
    simp only [nrm]
    refine any_take (i := 5) (v := (.bool true)) #[true, true, true, false, false, false, false, false, false] rfl (by kernel_rfl) (by kernel_rfl) (by kernel_rfl) (by kernel_rfl) (fun _ _ _ h => h) (.inl ⟨by kernel_rfl, fun x_ hu => by kernel_rfl⟩) (hB.get 4 (x := ⟨gc, kc G, 25⟩) rfl) ?_
    simp only [nrm]
    refine any_one (i := 3) (by kernel_rfl) rfl (fun K hK => ?_)
    replace hB := hide hB
    replace hK := hide hK
    go_simp
    refine (unhide hK).out _ _ ?_ (fun _ => ?_)
    · exact ((Gr.refl y0).alloc (.cells #[.slice (some ⟨g8_1, 0, none⟩) 32 32, .slice (some ⟨g8_2, 0, none⟩) 32 32] 33)).blk ((unhide hB).get 4 (x := ⟨gc, kc G, 25⟩) rfl)
    clear hK K
    have hg := (Gr.refl y0).alloc (.cells #[.slice (some ⟨g8_1, 0, none⟩) 32 32, .slice (some ⟨g8_2, 0, none⟩) 32 32] 33 (0, 0))
    have hnew := blk_new y0 (.cells #[.slice (some ⟨g8_1, 0, none⟩) 32 32, .slice (some ⟨g8_2, 0, none⟩) 32 32] 33 (0, 0))
    replace hB := (unhide hB).more hg
    generalize World.alloc _ _ = y1 at *
    generalize y0.heap.size = gq at *
    clear hg
    simp only [nrm]
    refine any_one (i := 4) (by kernel_rfl) rfl (fun K hK => ?_)
    refine step_callw (by kernel_rfl) 35 #[.agg (kc G), .string tPair, .slice (some ⟨gq, 0, none⟩) 2 2] (by kernel_rfl) ((derive_ok G hGl (unhide hGk).2 tPair (by decide) [P, U] (some ⟨gq, 0, none⟩) 2 2 rfl (small_two hPl hUl) y1 ((unhide hF).gr hB.gr) (pr_two hnew (kc_lb (n := 32) (hB.get 5 (x := ⟨g8_1, kc P, 25⟩) rfl) hPl (unhide hPk).2 (by omega)) (kc_lb (n := 32) (hB.get 6 (x := ⟨g8_2, kc U, 25⟩) rfl) hUl (unhide hU).2 (by omega)))).mono ?_)
    rintro r y2 ⟨rfl, hg⟩
    refine ⟨_, rfl, ?_⟩
    replace hB := hB.more hg
    clear hg hnew
    obtain ⟨D, hD⟩ : ∃ D, D = spL G (infoL (tb tPair) [P, U]) 32 := ⟨_, rfl⟩
    rw [← hD]
    have hDl : D.length = 32 := by rw [hD, spL_len]
    replace hD := hide hD
    refine hK.out _ _ (hB.get 4 (x := ⟨gc, kc G, 25⟩) rfl) (fun _ => ?_)
    clear hK K
    simp only [nrm]
    refine any_take (i := 6) (v := (.agg (pairv D true))) #[true, true, true, true, true, true, false, false, false] rfl (by kernel_rfl) (by kernel_rfl) (by kernel_rfl) (by kernel_rfl) (fun _ _ _ h => h) (.inl ⟨by kernel_rfl, fun x_ hu => exec_bpair _ (.tmp 40) (.tmp 41) rfl D hDl true (by kernel_rfl) (by kernel_rfl)⟩) (hB.get 4 (x := ⟨gc, kc G, 25⟩) rfl) ?_
    simp only [nrm]
    refine any_one (i := 7) (by kernel_rfl) rfl (fun K hK => ?_)
    refine step_storew 36 (.tmp 4) (.tmp 42) (w.heap.size + 1 + 1) (pairv D true) 36 (pairv Z32 false) (by kernel_rfl) rfl (by kernel_rfl) (by kernel_rfl) (hB.get 2 (x := ⟨w.heap.size + 1 + 1, pairv Z32 false, 36⟩) rfl) (by rw [Tryd.infoPair, pairv_size, hDl]) (by rw [pairv_size, pairv_size, hDl]; rfl) (pairv_one _ _) ?_
    replace hB := hB.set 2 (x := ⟨w.heap.size + 1 + 1, pairv Z32 false, 36⟩) rfl (pairv D true)
    simp only [List.set_cons_zero, List.set_cons_succ] at hB
    generalize World.setRow _ _ _ = y3 at *
    refine hK.out _ _ (hB.get 4 (x := ⟨gc, kc G, 25⟩) rfl) (fun _ => ?_)
    clear hK K
    simp only [nrm]
    refine any_one (i := 8) (by kernel_rfl) rfl (fun K hK => ?_)
    replace hK := hide hK
    go_simp
    refine (unhide hK).out _ _ (hB.get 4 (x := ⟨gc, kc G, 25⟩) rfl) (fun _ => ?_)
    clear hK K
    refine any_done (by kernel_rfl) ?_
    have hDr : D = prK A U := by
      rw [unhide hD, unhide hG]
      unfold prK prA
      rw [← unhide hP, ← unhide hfi]
      rfl
    replace hDr := hide hDr
    replace hB := hide hB
    go_wp2_with fail
    replace hB := unhide hB
    rw [unhide hT]
    exact bodyPost_ret (v := .tuple #[.agg (pairv D true), .int .i64 0]) (results_cell_tmp Tryd.results18 _ _ (w.heap.size + 1 + 1) 36 (pairv D true) (0, 0) _ rfl (.int .i64 0) rfl (hB.get 2 (x := ⟨w.heap.size + 1 + 1, pairv D true, 36⟩) rfl) Tryd.underlying36 rfl (by rw [Tryd.infoPair, pairv_size, hDl])) rfl ⟨by rw [unhide hDr, ← unhide hP, ← unhide hfi], hB.gr⟩
set_option maxHeartbeats 4000000 in
theorem epair_own (A U : List Int) (hA : IsK A) (hU : IsK U) (hown : U = pubL A) (w : World) (hF : Fst w) : Calls Tryd.prog 19 #[.agg (kc A), .agg (kc U)] w (Prd Z32 false 262 w) := by
  obtain ⟨T, hT⟩ : ∃ T, T = Prd Z32 false 262 w := ⟨_, rfl⟩
  rw [← hT]
  replace hT := hide hT
  have hAl := hA.1
  have hUl := hU.1
  replace hown := hide hown
  obtain ⟨SA, hSA⟩ : ∃ S, S = kc A := ⟨_, rfl⟩
  obtain ⟨SU, hSU⟩ : ∃ S, S = kc U := ⟨_, rfl⟩
  rw [← hSA, ← hSU]
  replace hSA := hide hSA
  replace hSU := hide hSU
  replace hA := hide hA
  replace hU := hide hU
  replace hF := hide hF
  go_enter Tryd.func19, Tryd.ntmps19
  go_upto_region 1 with fail
  have hB := ((((Bl.nil w).new SA 25).new SU 25).new #[.int .u8 0, .int .u8 0, .int .u8 0, .int .u8 0, .int .u8 0, .int .u8 0, .int .u8 0, .int .u8 0, .int .u8 0, .int .u8 0, .int .u8 0, .int .u8 0, .int .u8 0, .int .u8 0, .int .u8 0, .int .u8 0, .int .u8 0, .int .u8 0, .int .u8 0, .int .u8 0, .int .u8 0, .int .u8 0, .int .u8 0, .int .u8 0, .int .u8 0, .int .u8 0, .int .u8 0, .int .u8 0, .int .u8 0, .int .u8 0, .int .u8 0, .int .u8 0, .bool false] 36)
  simp only [size_alloc, List.nil_append, List.cons_append] at hB
  generalize World.alloc _ _ = u at *
  rw [unhide hSA, unhide hSU] at hB
  replace hB : Bl w [⟨w.heap.size, kc A, 25⟩, ⟨w.heap.size + 1, kc U, 25⟩, ⟨w.heap.size + 1 + 1, pairv Z32 false, 36⟩] u := hB
  refine wp_region_lit ?_
  refine list_val (.agg (kc A)) (by kernel_rfl) (exec_arr _ 25 (.tmp 2) rfl (w.heap.size) (by kernel_rfl) (kc A) 25 _ (hB.get 0 (x := ⟨w.heap.size, kc A, 25⟩) rfl) Tryd.underlying25 rfl (by rw [Tryd.infoKey, kc_size, hAl])) ?_
  simp only [nrm]
  refine list_val (.agg (kc K9)) (by kernel_rfl) (by kernel_rfl) ?_
  simp only [nrm]
  refine list_call 36 #[.agg (kc A), .agg (kc K9)] (by kernel_rfl) (by kernel_rfl) ((rx_is A K9 (unhide hA) K9_isK u).mono ?_)
  rintro r_ u1 ⟨hr_, hg⟩
  rw [ag_nine] at hr_
  subst hr_
  replace hB := hB.more hg
  clear hg
  obtain ⟨P, hP⟩ : ∃ P, P = pubL A := ⟨_, rfl⟩
  have hPk : IsK P := by rw [hP]; exact pubL_isK A
  have hPl := hPk.1
  rw [← hP]
  replace hP := hide hP; replace hPk := hide hPk
  refine ⟨_, rfl, ?_⟩
  simp only [nrm]
  refine list_valw (.pointer (some ⟨u1.heap.size, 0, none⟩)) (u1.alloc (.cells (kc Z32) 25 (0, 0))) (by kernel_rfl) (by kernel_rfl) ?_
  replace hB := hB.new (kc Z32) 25
  simp only [List.nil_append, List.cons_append] at hB
  generalize World.alloc _ _ = u2 at *
  generalize u1.heap.size = gw at *
  replace hB : Bl w [⟨w.heap.size, kc A, 25⟩, ⟨w.heap.size + 1, kc U, 25⟩, ⟨w.heap.size + 1 + 1, pairv Z32 false, 36⟩, ⟨gw, kc Z32, 25⟩] u2 := hB
  simp only [nrm]
  refine list_store 25 (.tmp 6) (.tmp 13) (gw) (kc P) 25 (kc Z32) (by kernel_rfl) rfl (by kernel_rfl) (by kernel_rfl) (hB.get 3 (x := ⟨gw, kc Z32, 25⟩) rfl) (by rw [Tryd.infoKey, kc_size, hPl]) (by rw [kc_size, kc_size, hPl]; rfl) (kc_one _) ?_
  replace hB := hB.set 3 (x := ⟨gw, kc Z32, 25⟩) rfl (kc P)
  simp only [List.set_cons_zero, List.set_cons_succ] at hB
  generalize World.setRow _ _ _ = u3 at *
  simp only [nrm]
  refine wpList_nil ?_
  replace hB := hide hB
  go_upto_region 2 with fail
  replace hB := unhide hB
  refine wp_region_lit ?_
  refine list_val (.agg (kc P)) (by kernel_rfl) (exec_arr _ 25 (.tmp 6) rfl (gw) (by kernel_rfl) (kc P) 25 _ (hB.get 3 (x := ⟨gw, kc P, 25⟩) rfl) Tryd.underlying25 rfl (by rw [Tryd.infoKey, kc_size, hPl])) ?_
  simp only [nrm]
  refine list_val (.agg (kc U)) (by kernel_rfl) (exec_arr _ 25 (.tmp 3) rfl (w.heap.size + 1) (by kernel_rfl) (kc U) 25 _ (hB.get 1 (x := ⟨w.heap.size + 1, kc U, 25⟩) rfl) Tryd.underlying25 rfl (by rw [Tryd.infoKey, kc_size, hUl])) ?_
  simp only [nrm]
  refine list_val (.bool true) (by kernel_rfl) (exec_eq_k _ (.tmp 14) (.tmp 15) rfl P U hPl hUl (by kernel_rfl) (by kernel_rfl) (by kernel_rfl) true (by rw [unhide hP]; simpa [eq_comm] using unhide hown)) ?_
  simp only [nrm]
  refine wpList_nil ?_
  replace hB := hide hB
  go_upto_region 3 with fail
  replace hB := unhide hB
  refine wp_region_lit ?_
  refine list_val (.agg (pairv Z32 false)) (by kernel_rfl) (by kernel_rfl) ?_
  simp only [nrm]
  refine list_store 36 (.tmp 4) (.tmp 17) (w.heap.size + 1 + 1) (pairv Z32 false) 36 (pairv Z32 false) (by kernel_rfl) rfl (by kernel_rfl) (by kernel_rfl) (hB.get 2 (x := ⟨w.heap.size + 1 + 1, pairv Z32 false, 36⟩) rfl) (by rw [Tryd.infoPair, pairv_size, Z32_len]) (rfl) (pairv_one _ _) ?_
  replace hB := hB.set 2 (x := ⟨w.heap.size + 1 + 1, pairv Z32 false, 36⟩) rfl (pairv Z32 false)
  simp only [List.set_cons_zero, List.set_cons_succ] at hB
  generalize World.setRow _ _ _ = u4 at *
  simp only [nrm]
  (refine wpList_step fun K hK => ?_; replace hK := hide hK; go_simp; refine unhide hK _ _ ?_; clear hK K)
  refine wpList_nil ?_
  replace hB := hide hB
  go_wp2_with fail
  replace hB := unhide hB
  rw [unhide hT]
  exact bodyPost_ret (v := .tuple #[.agg (pairv Z32 false), .int .i64 262]) (results_cell_tmp Tryd.results19 _ _ (w.heap.size + 1 + 1) 36 (pairv Z32 false) (0, 0) _ rfl (.int .i64 262) rfl (hB.get 2 (x := ⟨w.heap.size + 1 + 1, pairv Z32 false, 36⟩) rfl) Tryd.underlying36 rfl (by rw [Tryd.infoPair, pairv_size, Z32_len])) rfl ⟨rfl, hB.gr⟩
set_option maxHeartbeats 4000000 in
theorem epair_low (A U : List Int) (hA : IsK A) (hU : IsK U) (hown : ¬ U = pubL A) (hlow : ¬ NLow A U) (w : World) (hF : Fst w) : Calls Tryd.prog 19 #[.agg (kc A), .agg (kc U)] w (Prd Z32 false 130 w) := by
  obtain ⟨T, hT⟩ : ∃ T, T = Prd Z32 false 130 w := ⟨_, rfl⟩
  rw [← hT]
  replace hT := hide hT
  have hAl := hA.1
  have hUl := hU.1
  replace hown := hide hown
  replace hlow := hide hlow
  obtain ⟨SA, hSA⟩ : ∃ S, S = kc A := ⟨_, rfl⟩
  obtain ⟨SU, hSU⟩ : ∃ S, S = kc U := ⟨_, rfl⟩
  rw [← hSA, ← hSU]
  replace hSA := hide hSA
  replace hSU := hide hSU
  replace hA := hide hA
  replace hU := hide hU
  replace hF := hide hF
  go_enter Tryd.func19, Tryd.ntmps19
  go_upto_region 1 with fail
  have hB := ((((Bl.nil w).new SA 25).new SU 25).new #[.int .u8 0, .int .u8 0, .int .u8 0, .int .u8 0, .int .u8 0, .int .u8 0, .int .u8 0, .int .u8 0, .int .u8 0, .int .u8 0, .int .u8 0, .int .u8 0, .int .u8 0, .int .u8 0, .int .u8 0, .int .u8 0, .int .u8 0, .int .u8 0, .int .u8 0, .int .u8 0, .int .u8 0, .int .u8 0, .int .u8 0, .int .u8 0, .int .u8 0, .int .u8 0, .int .u8 0, .int .u8 0, .int .u8 0, .int .u8 0, .int .u8 0, .int .u8 0, .bool false] 36)
  simp only [size_alloc, List.nil_append, List.cons_append] at hB
  generalize World.alloc _ _ = u at *
  rw [unhide hSA, unhide hSU] at hB
  replace hB : Bl w [⟨w.heap.size, kc A, 25⟩, ⟨w.heap.size + 1, kc U, 25⟩, ⟨w.heap.size + 1 + 1, pairv Z32 false, 36⟩] u := hB
  refine wp_region_lit ?_
  refine list_val (.agg (kc A)) (by kernel_rfl) (exec_arr _ 25 (.tmp 2) rfl (w.heap.size) (by kernel_rfl) (kc A) 25 _ (hB.get 0 (x := ⟨w.heap.size, kc A, 25⟩) rfl) Tryd.underlying25 rfl (by rw [Tryd.infoKey, kc_size, hAl])) ?_
  simp only [nrm]
  refine list_val (.agg (kc K9)) (by kernel_rfl) (by kernel_rfl) ?_
  simp only [nrm]
  refine list_call 36 #[.agg (kc A), .agg (kc K9)] (by kernel_rfl) (by kernel_rfl) ((rx_is A K9 (unhide hA) K9_isK u).mono ?_)
  rintro r_ u1 ⟨hr_, hg⟩
  rw [ag_nine] at hr_
  subst hr_
  replace hB := hB.more hg
  clear hg
  obtain ⟨P, hP⟩ : ∃ P, P = pubL A := ⟨_, rfl⟩
  have hPk : IsK P := by rw [hP]; exact pubL_isK A
  have hPl := hPk.1
  rw [← hP]
  replace hP := hide hP; replace hPk := hide hPk
  refine ⟨_, rfl, ?_⟩
  simp only [nrm]
  refine list_valw (.pointer (some ⟨u1.heap.size, 0, none⟩)) (u1.alloc (.cells (kc Z32) 25 (0, 0))) (by kernel_rfl) (by kernel_rfl) ?_
  replace hB := hB.new (kc Z32) 25
  simp only [List.nil_append, List.cons_append] at hB
  generalize World.alloc _ _ = u2 at *
  generalize u1.heap.size = gw at *
  replace hB : Bl w [⟨w.heap.size, kc A, 25⟩, ⟨w.heap.size + 1, kc U, 25⟩, ⟨w.heap.size + 1 + 1, pairv Z32 false, 36⟩, ⟨gw, kc Z32, 25⟩] u2 := hB
  simp only [nrm]
  refine list_store 25 (.tmp 6) (.tmp 13) (gw) (kc P) 25 (kc Z32) (by kernel_rfl) rfl (by kernel_rfl) (by kernel_rfl) (hB.get 3 (x := ⟨gw, kc Z32, 25⟩) rfl) (by rw [Tryd.infoKey, kc_size, hPl]) (by rw [kc_size, kc_size, hPl]; rfl) (kc_one _) ?_
  replace hB := hB.set 3 (x := ⟨gw, kc Z32, 25⟩) rfl (kc P)
  simp only [List.set_cons_zero, List.set_cons_succ] at hB
  generalize World.setRow _ _ _ = u3 at *
  simp only [nrm]
  refine wpList_nil ?_
  replace hB := hide hB
  go_upto_region 2 with fail
  replace hB := unhide hB
  refine wp_region_lit ?_
  refine list_val (.agg (kc P)) (by kernel_rfl) (exec_arr _ 25 (.tmp 6) rfl (gw) (by kernel_rfl) (kc P) 25 _ (hB.get 3 (x := ⟨gw, kc P, 25⟩) rfl) Tryd.underlying25 rfl (by rw [Tryd.infoKey, kc_size, hPl])) ?_
  simp only [nrm]
  refine list_val (.agg (kc U)) (by kernel_rfl) (exec_arr _ 25 (.tmp 3) rfl (w.heap.size + 1) (by kernel_rfl) (kc U) 25 _ (hB.get 1 (x := ⟨w.heap.size + 1, kc U, 25⟩) rfl) Tryd.underlying25 rfl (by rw [Tryd.infoKey, kc_size, hUl])) ?_
  simp only [nrm]
  refine list_val (.bool false) (by kernel_rfl) (exec_eq_k _ (.tmp 14) (.tmp 15) rfl P U hPl hUl (by kernel_rfl) (by kernel_rfl) (by kernel_rfl) false (by rw [unhide hP]; simpa [eq_comm] using unhide hown)) ?_
  simp only [nrm]
  refine wpList_nil ?_
  replace hB := hide hB
  go_upto_region 4 with fail
  replace hB := unhide hB
  refine wp_region_lit ?_
  refine list_val (.agg (kc A)) (by kernel_rfl) (exec_arr _ 25 (.tmp 2) rfl (w.heap.size) (by kernel_rfl) (kc A) 25 _ (hB.get 0 (x := ⟨w.heap.size, kc A, 25⟩) rfl) Tryd.underlying25 rfl (by rw [Tryd.infoKey, kc_size, hAl])) ?_
  simp only [nrm]
  refine list_val (.agg (kc U)) (by kernel_rfl) (exec_arr _ 25 (.tmp 3) rfl (w.heap.size + 1) (by kernel_rfl) (kc U) 25 _ (hB.get 1 (x := ⟨w.heap.size + 1, kc U, 25⟩) rfl) Tryd.underlying25 rfl (by rw [Tryd.infoKey, kc_size, hUl])) ?_
  simp only [nrm]
  refine list_call 36 #[.agg (kc A), .agg (kc U)] (by kernel_rfl) (by kernel_rfl) ((rx_is A U (unhide hA) (unhide hU) u3).mono ?_)
  rintro r_ u4 ⟨rfl, hg⟩
  replace hB := hB.more hg
  clear hg
  obtain ⟨G, hG⟩ : ∃ P, P = agL A U := ⟨_, rfl⟩
  have hGk : IsK G := by rw [hG]; exact agL_isK A U
  have hGl := hGk.1
  rw [← hG]
  replace hG := hide hG; replace hGk := hide hGk
  refine ⟨_, rfl, ?_⟩
  simp only [nrm]
  refine list_valw (.pointer (some ⟨u4.heap.size, 0, none⟩)) (u4.alloc (.cells (kc Z32) 25 (0, 0))) (by kernel_rfl) (by kernel_rfl) ?_
  replace hB := hB.new (kc Z32) 25
  simp only [List.nil_append, List.cons_append] at hB
  generalize World.alloc _ _ = u5 at *
  generalize u4.heap.size = gc at *
  replace hB : Bl w [⟨w.heap.size, kc A, 25⟩, ⟨w.heap.size + 1, kc U, 25⟩, ⟨w.heap.size + 1 + 1, pairv Z32 false, 36⟩, ⟨gw, kc P, 25⟩, ⟨gc, kc Z32, 25⟩] u5 := hB
  simp only [nrm]
  refine list_store 25 (.tmp 7) (.tmp 20) (gc) (kc G) 25 (kc Z32) (by kernel_rfl) rfl (by kernel_rfl) (by kernel_rfl) (hB.get 4 (x := ⟨gc, kc Z32, 25⟩) rfl) (by rw [Tryd.infoKey, kc_size, hGl]) (by rw [kc_size, kc_size, hGl]; rfl) (kc_one _) ?_
  replace hB := hB.set 4 (x := ⟨gc, kc Z32, 25⟩) rfl (kc G)
  simp only [List.set_cons_zero, List.set_cons_succ] at hB
  generalize World.setRow _ _ _ = u6 at *
  simp only [nrm]
  refine wpList_nil ?_
  replace hB := hide hB
  go_upto_region 5 with fail
  replace hB := unhide hB
  refine wp_region_lit ?_
  refine list_val (.agg (kc G)) (by kernel_rfl) (exec_arr _ 25 (.tmp 7) rfl (gc) (by kernel_rfl) (kc G) 25 _ (hB.get 4 (x := ⟨gc, kc G, 25⟩) rfl) Tryd.underlying25 rfl (by rw [Tryd.infoKey, kc_size, hGl])) ?_
  simp only [nrm]
  refine list_val (.agg (kc Z32)) (by kernel_rfl) (by kernel_rfl) ?_
  simp only [nrm]
  refine list_val (.bool true) (by kernel_rfl) (exec_eq_k _ (.tmp 21) (.tmp 22) rfl G Z32 hGl Z32_len (by kernel_rfl) (by kernel_rfl) (by kernel_rfl) true (by rw [unhide hG]; exact decide_eq_true ((low_zero A U).1 (unhide hlow)))) ?_
  simp only [nrm]
  refine wpList_nil ?_
  replace hB := hide hB
  go_upto_region 6 with fail
  replace hB := unhide hB
  refine wp_region_lit ?_
  refine list_val (.agg (pairv Z32 false)) (by kernel_rfl) (by kernel_rfl) ?_
  simp only [nrm]
  refine list_store 36 (.tmp 4) (.tmp 24) (w.heap.size + 1 + 1) (pairv Z32 false) 36 (pairv Z32 false) (by kernel_rfl) rfl (by kernel_rfl) (by kernel_rfl) (hB.get 2 (x := ⟨w.heap.size + 1 + 1, pairv Z32 false, 36⟩) rfl) (by rw [Tryd.infoPair, pairv_size, Z32_len]) (rfl) (pairv_one _ _) ?_
  replace hB := hB.set 2 (x := ⟨w.heap.size + 1 + 1, pairv Z32 false, 36⟩) rfl (pairv Z32 false)
  simp only [List.set_cons_zero, List.set_cons_succ] at hB
  generalize World.setRow _ _ _ = u7 at *
  simp only [nrm]
  (refine wpList_step fun K hK => ?_; replace hK := hide hK; go_simp; refine unhide hK _ _ ?_; clear hK K)
  refine wpList_nil ?_
  replace hB := hide hB
  go_wp2_with fail
  replace hB := unhide hB
  rw [unhide hT]
  exact bodyPost_ret (v := .tuple #[.agg (pairv Z32 false), .int .i64 130]) (results_cell_tmp Tryd.results19 _ _ (w.heap.size + 1 + 1) 36 (pairv Z32 false) (0, 0) _ rfl (.int .i64 130) rfl (hB.get 2 (x := ⟨w.heap.size + 1 + 1, pairv Z32 false, 36⟩) rfl) Tryd.underlying36 rfl (by rw [Tryd.infoPair, pairv_size, Z32_len])) rfl ⟨rfl, hB.gr⟩
set_option maxHeartbeats 4000000 in
theorem epair_yes (A U : List Int) (hA : IsK A) (hU : IsK U) (hown : ¬ U = pubL A) (hlow : NLow A U) (w : World) (hF : Fst w) : Calls Tryd.prog 19 #[.agg (kc A), .agg (kc U)] w (Prd (prK A U) (ltL (pubL A) U) 0 w) := by
  obtain ⟨T, hT⟩ : ∃ T, T = Prd (prK A U) (ltL (pubL A) U) 0 w := ⟨_, rfl⟩
  rw [← hT]
  replace hT := hide hT
  have hAl := hA.1
  have hUl := hU.1
  replace hown := hide hown
  replace hlow := hide hlow
  obtain ⟨SA, hSA⟩ : ∃ S, S = kc A := ⟨_, rfl⟩
  obtain ⟨SU, hSU⟩ : ∃ S, S = kc U := ⟨_, rfl⟩
  rw [← hSA, ← hSU]
  replace hSA := hide hSA
  replace hSU := hide hSU
  replace hA := hide hA
  replace hU := hide hU
  replace hF := hide hF
  go_enter Tryd.func19, Tryd.ntmps19
  go_upto_region 1 with fail
  have hB := ((((Bl.nil w).new SA 25).new SU 25).new #[.int .u8 0, .int .u8 0, .int .u8 0, .int .u8 0, .int .u8 0, .int .u8 0, .int .u8 0, .int .u8 0, .int .u8 0, .int .u8 0, .int .u8 0, .int .u8 0, .int .u8 0, .int .u8 0, .int .u8 0, .int .u8 0, .int .u8 0, .int .u8 0, .int .u8 0, .int .u8 0, .int .u8 0, .int .u8 0, .int .u8 0, .int .u8 0, .int .u8 0, .int .u8 0, .int .u8 0, .int .u8 0, .int .u8 0, .int .u8 0, .int .u8 0, .int .u8 0, .bool false] 36)
  simp only [size_alloc, List.nil_append, List.cons_append] at hB
  generalize World.alloc _ _ = u at *
  rw [unhide hSA, unhide hSU] at hB
  replace hB : Bl w [⟨w.heap.size, kc A, 25⟩, ⟨w.heap.size + 1, kc U, 25⟩, ⟨w.heap.size + 1 + 1, pairv Z32 false, 36⟩] u := hB
  refine wp_region_lit ?_
  refine list_val (.agg (kc A)) (by kernel_rfl) (exec_arr _ 25 (.tmp 2) rfl (w.heap.size) (by kernel_rfl) (kc A) 25 _ (hB.get 0 (x := ⟨w.heap.size, kc A, 25⟩) rfl) Tryd.underlying25 rfl (by rw [Tryd.infoKey, kc_size, hAl])) ?_
  simp only [nrm]
  refine list_val (.agg (kc K9)) (by kernel_rfl) (by kernel_rfl) ?_
  simp only [nrm]
  refine list_call 36 #[.agg (kc A), .agg (kc K9)] (by kernel_rfl) (by kernel_rfl) ((rx_is A K9 (unhide hA) K9_isK u).mono ?_)
  rintro r_ u1 ⟨hr_, hg⟩
  rw [ag_nine] at hr_
  subst hr_
  replace hB := hB.more hg
  clear hg
  obtain ⟨P, hP⟩ : ∃ P, P = pubL A := ⟨_, rfl⟩
  have hPk : IsK P := by rw [hP]; exact pubL_isK A
  have hPl := hPk.1
  rw [← hP]
  replace hP := hide hP; replace hPk := hide hPk
  refine ⟨_, rfl, ?_⟩
  simp only [nrm]
  refine list_valw (.pointer (some ⟨u1.heap.size, 0, none⟩)) (u1.alloc (.cells (kc Z32) 25 (0, 0))) (by kernel_rfl) (by kernel_rfl) ?_
  replace hB := hB.new (kc Z32) 25
  simp only [List.nil_append, List.cons_append] at hB
  generalize World.alloc _ _ = u2 at *
  generalize u1.heap.size = gw at *
  replace hB : Bl w [⟨w.heap.size, kc A, 25⟩, ⟨w.heap.size + 1, kc U, 25⟩, ⟨w.heap.size + 1 + 1, pairv Z32 false, 36⟩, ⟨gw, kc Z32, 25⟩] u2 := hB
  simp only [nrm]
  refine list_store 25 (.tmp 6) (.tmp 13) (gw) (kc P) 25 (kc Z32) (by kernel_rfl) rfl (by kernel_rfl) (by kernel_rfl) (hB.get 3 (x := ⟨gw, kc Z32, 25⟩) rfl) (by rw [Tryd.infoKey, kc_size, hPl]) (by rw [kc_size, kc_size, hPl]; rfl) (kc_one _) ?_
  replace hB := hB.set 3 (x := ⟨gw, kc Z32, 25⟩) rfl (kc P)
  simp only [List.set_cons_zero, List.set_cons_succ] at hB
  generalize World.setRow _ _ _ = u3 at *
  simp only [nrm]
  refine wpList_nil ?_
  replace hB := hide hB
  go_upto_region 2 with fail
  replace hB := unhide hB
  refine wp_region_lit ?_
  refine list_val (.agg (kc P)) (by kernel_rfl) (exec_arr _ 25 (.tmp 6) rfl (gw) (by kernel_rfl) (kc P) 25 _ (hB.get 3 (x := ⟨gw, kc P, 25⟩) rfl) Tryd.underlying25 rfl (by rw [Tryd.infoKey, kc_size, hPl])) ?_
  simp only [nrm]
  refine list_val (.agg (kc U)) (by kernel_rfl) (exec_arr _ 25 (.tmp 3) rfl (w.heap.size + 1) (by kernel_rfl) (kc U) 25 _ (hB.get 1 (x := ⟨w.heap.size + 1, kc U, 25⟩) rfl) Tryd.underlying25 rfl (by rw [Tryd.infoKey, kc_size, hUl])) ?_
  simp only [nrm]
  refine list_val (.bool false) (by kernel_rfl) (exec_eq_k _ (.tmp 14) (.tmp 15) rfl P U hPl hUl (by kernel_rfl) (by kernel_rfl) (by kernel_rfl) false (by rw [unhide hP]; simpa [eq_comm] using unhide hown)) ?_
  simp only [nrm]
  refine wpList_nil ?_
  replace hB := hide hB
  go_upto_region 4 with fail
  replace hB := unhide hB
  refine wp_region_lit ?_
  refine list_val (.agg (kc A)) (by kernel_rfl) (exec_arr _ 25 (.tmp 2) rfl (w.heap.size) (by kernel_rfl) (kc A) 25 _ (hB.get 0 (x := ⟨w.heap.size, kc A, 25⟩) rfl) Tryd.underlying25 rfl (by rw [Tryd.infoKey, kc_size, hAl])) ?_
  simp only [nrm]
  refine list_val (.agg (kc U)) (by kernel_rfl) (exec_arr _ 25 (.tmp 3) rfl (w.heap.size + 1) (by kernel_rfl) (kc U) 25 _ (hB.get 1 (x := ⟨w.heap.size + 1, kc U, 25⟩) rfl) Tryd.underlying25 rfl (by rw [Tryd.infoKey, kc_size, hUl])) ?_
  simp only [nrm]
  refine list_call 36 #[.agg (kc A), .agg (kc U)] (by kernel_rfl) (by kernel_rfl) ((rx_is A U (unhide hA) (unhide hU) u3).mono ?_)
  rintro r_ u4 ⟨rfl, hg⟩
  replace hB := hB.more hg
  clear hg
  obtain ⟨G, hG⟩ : ∃ P, P = agL A U := ⟨_, rfl⟩
  have hGk : IsK G := by rw [hG]; exact agL_isK A U
  have hGl := hGk.1
  rw [← hG]
  replace hG := hide hG; replace hGk := hide hGk
  refine ⟨_, rfl, ?_⟩
  simp only [nrm]
  refine list_valw (.pointer (some ⟨u4.heap.size, 0, none⟩)) (u4.alloc (.cells (kc Z32) 25 (0, 0))) (by kernel_rfl) (by kernel_rfl) ?_
  replace hB := hB.new (kc Z32) 25
  simp only [List.nil_append, List.cons_append] at hB
  generalize World.alloc _ _ = u5 at *
  generalize u4.heap.size = gc at *
  replace hB : Bl w [⟨w.heap.size, kc A, 25⟩, ⟨w.heap.size + 1, kc U, 25⟩, ⟨w.heap.size + 1 + 1, pairv Z32 false, 36⟩, ⟨gw, kc P, 25⟩, ⟨gc, kc Z32, 25⟩] u5 := hB
  simp only [nrm]
  refine list_store 25 (.tmp 7) (.tmp 20) (gc) (kc G) 25 (kc Z32) (by kernel_rfl) rfl (by kernel_rfl) (by kernel_rfl) (hB.get 4 (x := ⟨gc, kc Z32, 25⟩) rfl) (by rw [Tryd.infoKey, kc_size, hGl]) (by rw [kc_size, kc_size, hGl]; rfl) (kc_one _) ?_
  replace hB := hB.set 4 (x := ⟨gc, kc Z32, 25⟩) rfl (kc G)
  simp only [List.set_cons_zero, List.set_cons_succ] at hB
  generalize World.setRow _ _ _ = u6 at *
  simp only [nrm]
  refine wpList_nil ?_
  replace hB := hide hB
  go_upto_region 5 with fail
  replace hB := unhide hB
  refine wp_region_lit ?_
  refine list_val (.agg (kc G)) (by kernel_rfl) (exec_arr _ 25 (.tmp 7) rfl (gc) (by kernel_rfl) (kc G) 25 _ (hB.get 4 (x := ⟨gc, kc G, 25⟩) rfl) Tryd.underlying25 rfl (by rw [Tryd.infoKey, kc_size, hGl])) ?_
  simp only [nrm]
  refine list_val (.agg (kc Z32)) (by kernel_rfl) (by kernel_rfl) ?_
  simp only [nrm]
  refine list_val (.bool false) (by kernel_rfl) (exec_eq_k _ (.tmp 21) (.tmp 22) rfl G Z32 hGl Z32_len (by kernel_rfl) (by kernel_rfl) (by kernel_rfl) false (by rw [unhide hG]; exact decide_eq_false (fun e => (low_zero A U).2 e (unhide hlow)))) ?_
  simp only [nrm]
  refine wpList_nil ?_
  replace hB := hide hB
  go_upto_region 7 with fail
  replace hB := unhide hB
  refine wp_region_lit ?_
  refine list_val (.agg (kc P)) (by kernel_rfl) (exec_arr _ 25 (.tmp 6) rfl (gw) (by kernel_rfl) (kc P) 25 _ (hB.get 3 (x := ⟨gw, kc P, 25⟩) rfl) Tryd.underlying25 rfl (by rw [Tryd.infoKey, kc_size, hPl])) ?_
  simp only [nrm]
  refine list_val (.agg (kc U)) (by kernel_rfl) (exec_arr _ 25 (.tmp 3) rfl (w.heap.size + 1) (by kernel_rfl) (kc U) 25 _ (hB.get 1 (x := ⟨w.heap.size + 1, kc U, 25⟩) rfl) Tryd.underlying25 rfl (by rw [Tryd.infoKey, kc_size, hUl])) ?_
  simp only [nrm]
  refine list_call 21 #[.agg (kc P), .agg (kc U)] (by kernel_rfl) (by kernel_rfl) ((eless_ok P U hPl hUl u6).mono ?_)
  rintro r_ u7 ⟨rfl, hg⟩
  replace hB := hB.more hg
  clear hg
  obtain ⟨fi, hfi⟩ : ∃ P_, P_ = ltL P U := ⟨_, rfl⟩
  rw [← hfi]
  replace hfi := hide hfi
  refine ⟨_, rfl, ?_⟩
  simp only [nrm]
  (refine wpList_step fun K hK => ?_; replace hK := hide hK; go_simp; refine unhide hK _ _ ?_; clear hK K)
  refine wpList_nil ?_
  replace hB := hide hB
  go_upto_region 8 with fail
  replace hB := unhide hB
  refine any_start (S := fun v => v.heap[w.heap.size + 1]? = some (.cells (kc U) 25 (0, 0)) ∧ v.heap[gw]? = some (.cells (kc P) 25 (0, 0)) ∧ True) (by kernel_rfl) ?_
  replace hB := hB.drew
  generalize World.drew _ = v1_ at *
  simp only [List.size_toArray, List.length_cons, List.length_nil, Array.replicate, List.replicate]
  refine any_take (i := 0) (v := (.agg (kc P))) #[false, false, false, false, false, false] rfl (by kernel_rfl) (by kernel_rfl) (by kernel_rfl) (by kernel_rfl) (fun _ _ _ h => h) (.inl ⟨by kernel_rfl, fun x_ hu => exec_arr x_ 25 (.tmp 6) rfl gw (by kernel_rfl) (kc P) 25 _ hu.2.1 Tryd.underlying25 rfl (by rw [Tryd.infoKey, kc_size, hPl])⟩) ⟨(hB.get 1 (x := ⟨w.heap.size + 1, (kc U), 25⟩) rfl), (hB.get 3 (x := ⟨gw, (kc P), 25⟩) rfl), trivial⟩ ?_
  simp only [nrm]
  refine any_take (i := 1) (v := (.agg (kc U))) #[true, false, false, false, false, false] rfl (by kernel_rfl) (by kernel_rfl) (by kernel_rfl) (by kernel_rfl) (fun _ _ _ h => h) (.inl ⟨by kernel_rfl, fun x_ hu => exec_arr x_ 25 (.tmp 3) rfl (w.heap.size + 1) (by kernel_rfl) (kc U) 25 _ hu.1 Tryd.underlying25 rfl (by rw [Tryd.infoKey, kc_size, hUl])⟩) ⟨(hB.get 1 (x := ⟨w.heap.size + 1, (kc U), 25⟩) rfl), (hB.get 3 (x := ⟨gw, (kc P), 25⟩) rfl), trivial⟩ ?_
  simp only [nrm]
  have hSf : ∀ v, Gr v1_ v → (fun v => v.heap[w.heap.size + 1]? = some (.cells (kc U) 25 (0, 0)) ∧ v.heap[gw]? = some (.cells (kc P) 25 (0, 0)) ∧ True) v := fun v k => ⟨k.blk (hB.get 1 (x := ⟨w.heap.size + 1, (kc U), 25⟩) rfl), k.blk (hB.get 3 (x := ⟨gw, (kc P), 25⟩) rfl), trivial⟩
  refine stage2 v1_ #[.int .u8 0, .int .u8 0, .int .u8 0, .int .u8 0, .int .u8 0, .int .u8 0, .int .u8 0, .int .u8 0, .int .u8 0, .int .u8 0, .int .u8 0, .int .u8 0, .int .u8 0, .int .u8 0, .int .u8 0, .int .u8 0, .int .u8 0, .int .u8 0, .int .u8 0, .int .u8 0, .int .u8 0, .int .u8 0, .int .u8 0, .int .u8 0, .int .u8 0, .int .u8 0, .int .u8 0, .int .u8 0, .int .u8 0, .int .u8 0, .int .u8 0, .int .u8 0] 25 (fw2 _ 9 10) (fun b8_1 b8_2 => #[true, true, b8_1, b8_2, false, false]) 2 3 4 true hSf (by kernel_rfl) (fun _ _ => ⟨rfl, rfl⟩) ?_ ?_ ?_ (M2.first (fun b8_1 b8_2 => #[true, true, b8_1, b8_2, false, false]) _ rfl rfl)
  all_goals simp only [fw2, Act.put, List.setIfInBounds_toArray, List.set_cons_zero, List.set_cons_succ, List.getElem_toArray, List.getElem_cons_zero, List.getElem_cons_succ]
  · intro q8_1 q8_2 x K hK
    refine wpOp_step (o := _) rfl (fun K' hK' => ?_)
    replace hK' := hide hK'
    replace hK := hide hK
    go_simp
    exact unhide hK' _ _ (unhide hK)
  · intro q8_1 q8_2 x K hK
    refine wpOp_step (o := _) rfl (fun K' hK' => ?_)
    replace hK' := hide hK'
    replace hK := hide hK
    go_simp
    exact unhide hK' _ _ (unhide hK)
  intro b8_1 b8_2 q8_1 q8_2 g8_1 g8_2 v2_ hM hall
  obtain ⟨rfl, rfl⟩ := hall (by trivial)
  obtain ⟨rfl, rfl, hB'⟩ := hM.all hB
  replace hB := hB'
  clear hB' hM hall
  simp only [List.cons_append, List.nil_append] at hB
  replace hB : Bl w [⟨w.heap.size, (kc A), 25⟩, ⟨w.heap.size + 1, (kc U), 25⟩, ⟨w.heap.size + 1 + 1, (pairv Z32 false), 36⟩, ⟨gw, (kc P), 25⟩, ⟨gc, (kc G), 25⟩, ⟨g8_1, (kc Z32), 25⟩, ⟨g8_2, (kc Z32), 25⟩] v2_ := hB
  refine wpOp_step (o := _) rfl (fun K' hK' => ?_)
  replace hK' := hide hK'
  rw [if_pos (by kernel_rfl)]
  refine wp_store_row 25 (.tmp 9) (.tmp 28) rfl g8_1 (kc P) (by kernel_rfl) (by kernel_rfl) 25 (kc Z32) (hB.get 5 (x := ⟨g8_1, (kc Z32), 25⟩) rfl) (by rw [Tryd.infoKey, kc_size, hPl]) (((kc_size _).trans Z32_len).trans ((kc_size _).trans hPl).symm) (kc_one _) ?_
  replace hB := hB.set 5 (x := ⟨g8_1, (kc Z32), 25⟩) rfl (kc P)
  simp only [List.set_cons_zero, List.set_cons_succ] at hB
  refine unhide hK' _ _ ⟨⟨(hB.get 1 (x := ⟨w.heap.size + 1, (kc U), 25⟩) rfl), (hB.get 3 (x := ⟨gw, (kc P), 25⟩) rfl), trivial⟩, ?_⟩
  clear hK' K' hSf
  generalize World.setRow _ _ _ = v3_ at *
  simp only [nrm]
  refine any_one (i := 5) (by kernel_rfl) rfl (fun K hK => ?_)
  rw [if_pos (by kernel_rfl)]
  refine wp_store_row 25 (.tmp 10) (.tmp 29) rfl g8_2 (kc U) (by kernel_rfl) (by kernel_rfl) 25 (kc Z32) (hB.get 6 (x := ⟨g8_2, (kc Z32), 25⟩) rfl) (by rw [Tryd.infoKey, kc_size, hUl]) (((kc_size _).trans Z32_len).trans ((kc_size _).trans hUl).symm) (kc_one _) ?_
  replace hB := hB.set 6 (x := ⟨g8_2, (kc Z32), 25⟩) rfl (kc U)
  simp only [List.set_cons_zero, List.set_cons_succ] at hB
  refine hK.out _ _ ⟨(hB.get 1 (x := ⟨w.heap.size + 1, (kc U), 25⟩) rfl), (hB.get 3 (x := ⟨gw, (kc P), 25⟩) rfl), trivial⟩ (fun _ => ?_)
  clear hK K
  generalize World.setRow _ _ _ = v4_ at *
  simp only [nrm]
  refine any_done (by kernel_rfl) ?_
  replace hB : Bl w [⟨w.heap.size, kc A, 25⟩, ⟨w.heap.size + 1, kc U, 25⟩, ⟨w.heap.size + 1 + 1, pairv Z32 false, 36⟩, ⟨gw, kc P, 25⟩, ⟨gc, kc G, 25⟩, ⟨g8_1, kc P, 25⟩, ⟨g8_2, kc U, 25⟩] v4_ := hB
  cases fi with
  | true =>
    replace hB := hide hB
    go_upto_region 11 with fail
    replace hB := unhide hB
    refine any_start (S := fun v => v.heap[gc]? = some (.cells (kc G) 25 (0, 0))) (by kernel_rfl) ?_
    replace hB := hB.drew
    generalize World.drew _ = y0 at *
    simp only [List.size_toArray, List.length_cons, List.length_nil, Array.replicate, List.replicate]
    refine any_take (i := 0) (v := (.agg (kc G))) #[false, false, false, false, false, false, false, false, false] rfl (by kernel_rfl) (by kernel_rfl) (by kernel_rfl) (by kernel_rfl) (fun _ _ _ h => h) (.inl ⟨by kernel_rfl, fun x_ hu => exec_arr _ 25 (.tmp 7) rfl (gc) (by kernel_rfl) (kc G) 25 _ (hu) Tryd.underlying25 rfl (by rw [Tryd.infoKey, kc_size, hGl])⟩) (hB.get 4 (x := ⟨gc, kc G, 25⟩) rfl) ?_
    simp only [nrm]
    refine any_take (i := 1) (v := (.slice (some ⟨g8_1, 0, none⟩) 32 32)) #[true, false, false, false, false, false, false, false, false] rfl (by kernel_rfl) (by kernel_rfl) (by kernel_rfl) (by kernel_rfl) (fun _ _ _ h => h) (.inl ⟨by kernel_rfl, fun x_ hu => by kernel_rfl⟩) (hB.get 4 (x := ⟨gc, kc G, 25⟩) rfl) ?_
    simp only [nrm]
    refine any_take (i := 2) (v := (.slice (some ⟨g8_2, 0, none⟩) 32 32)) #[true, true, false, false, false, false, false, false, false] rfl (by kernel_rfl) (by kernel_rfl) (by kernel_rfl) (by kernel_rfl) (fun _ _ _ h => h) (.inl ⟨by kernel_rfl, fun x_ hu => by kernel_rfl⟩) (hB.get 4 (x := ⟨gc, kc G, 25⟩) rfl) ?_
    simp only [nrm]
    refine any_take (i := 5) (v := (.bool true)) #[true, true, true, false, false, false, false, false, false] rfl (by kernel_rfl) (by kernel_rfl) (by kernel_rfl) (by kernel_rfl) (fun _ _ _ h => h) (.inl ⟨by kernel_rfl, fun x_ hu => by kernel_rfl⟩) (hB.get 4 (x := ⟨gc, kc G, 25⟩) rfl) ?_
    simp only [nrm]
    refine any_one (i := 3) (by kernel_rfl) rfl (fun K hK => ?_)
    replace hB := hide hB
    replace hK := hide hK
    go_simp
    refine (unhide hK).out _ _ ?_ (fun _ => ?_)
    · exact ((Gr.refl y0).alloc (.cells #[.slice (some ⟨g8_1, 0, none⟩) 32 32, .slice (some ⟨g8_2, 0, none⟩) 32 32] 33)).blk ((unhide hB).get 4 (x := ⟨gc, kc G, 25⟩) rfl)
    clear hK K
    have hg := (Gr.refl y0).alloc (.cells #[.slice (some ⟨g8_1, 0, none⟩) 32 32, .slice (some ⟨g8_2, 0, none⟩) 32 32] 33 (0, 0))
    have hnew := blk_new y0 (.cells #[.slice (some ⟨g8_1, 0, none⟩) 32 32, .slice (some ⟨g8_2, 0, none⟩) 32 32] 33 (0, 0))
    replace hB := (unhide hB).more hg
    generalize World.alloc _ _ = y1 at *
    generalize y0.heap.size = gq at *
    clear hg
    simp only [nrm]
    refine any_one (i := 4) (by kernel_rfl) rfl (fun K hK => ?_)
    refine step_callw (by kernel_rfl) 37 #[.agg (kc G), .string tPair, .slice (some ⟨gq, 0, none⟩) 2 2] (by kernel_rfl) ((rderive_ok G hGl (unhide hGk).2 tPair (by decide) [P, U] (some ⟨gq, 0, none⟩) 2 2 rfl (small_two hPl hUl) y1 ((unhide hF).gr hB.gr) (pr_two hnew (kc_lb (n := 32) (hB.get 5 (x := ⟨g8_1, kc P, 25⟩) rfl) hPl (unhide hPk).2 (by omega)) (kc_lb (n := 32) (hB.get 6 (x := ⟨g8_2, kc U, 25⟩) rfl) hUl (unhide hU).2 (by omega)))).mono ?_)
    rintro r y2 ⟨rfl, hg⟩
    refine ⟨_, rfl, ?_⟩
    replace hB := hB.more hg
    clear hg hnew
    obtain ⟨D, hD⟩ : ∃ D, D = spL G (infoL (tb tPair) [P, U]) 32 := ⟨_, rfl⟩
    rw [← hD]
    have hDl : D.length = 32 := by rw [hD, spL_len]
    replace hD := hide hD
    refine hK.out _ _ (hB.get 4 (x := ⟨gc, kc G, 25⟩) rfl) (fun _ => ?_)
    clear hK K
    simp only [nrm]
    refine any_take (i := 6) (v := (.agg (pairv D true))) #[true, true, true, true, true, true, false, false, false] rfl (by kernel_rfl) (by kernel_rfl) (by kernel_rfl) (by kernel_rfl) (fun _ _ _ h => h) (.inl ⟨by kernel_rfl, fun x_ hu => exec_bpair _ (.tmp 38) (.tmp 39) rfl D hDl true (by kernel_rfl) (by kernel_rfl)⟩) (hB.get 4 (x := ⟨gc, kc G, 25⟩) rfl) ?_
    simp only [nrm]
    refine any_one (i := 7) (by kernel_rfl) rfl (fun K hK => ?_)
    refine step_storew 36 (.tmp 4) (.tmp 40) (w.heap.size + 1 + 1) (pairv D true) 36 (pairv Z32 false) (by kernel_rfl) rfl (by kernel_rfl) (by kernel_rfl) (hB.get 2 (x := ⟨w.heap.size + 1 + 1, pairv Z32 false, 36⟩) rfl) (by rw [Tryd.infoPair, pairv_size, hDl]) (by rw [pairv_size, pairv_size, hDl]; rfl) (pairv_one _ _) ?_
    replace hB := hB.set 2 (x := ⟨w.heap.size + 1 + 1, pairv Z32 false, 36⟩) rfl (pairv D true)
    simp only [List.set_cons_zero, List.set_cons_succ] at hB
    generalize World.setRow _ _ _ = y3 at *
    refine hK.out _ _ (hB.get 4 (x := ⟨gc, kc G, 25⟩) rfl) (fun _ => ?_)
    clear hK K
    simp only [nrm]
    refine any_one (i := 8) (by kernel_rfl) rfl (fun K hK => ?_)
    replace hK := hide hK
    go_simp
    refine (unhide hK).out _ _ (hB.get 4 (x := ⟨gc, kc G, 25⟩) rfl) (fun _ => ?_)
    clear hK K
    refine any_done (by kernel_rfl) ?_
    have hDr : D = prK A U := by
      rw [unhide hD, unhide hG]
      unfold prK prA
      rw [← unhide hP, ← unhide hfi]
      rfl
    replace hDr := hide hDr
    replace hB := hide hB
    go_wp2_with fail
    replace hB := unhide hB
    rw [unhide hT]
    exact bodyPost_ret (v := .tuple #[.agg (pairv D true), .int .i64 0]) (results_cell_tmp Tryd.results19 _ _ (w.heap.size + 1 + 1) 36 (pairv D true) (0, 0) _ rfl (.int .i64 0) rfl (hB.get 2 (x := ⟨w.heap.size + 1 + 1, pairv D true, 36⟩) rfl) Tryd.underlying36 rfl (by rw [Tryd.infoPair, pairv_size, hDl])) rfl ⟨by rw [unhide hDr, ← unhide hP, ← unhide hfi], hB.gr⟩
  | false =>
    replace hB := hide hB
    go_upto_region 10 with fail
    replace hB := unhide hB
    refine wp_region_lit ?_
    refine list_val (.agg (kc U)) (by kernel_rfl) (exec_arr _ 25 (.tmp 10) rfl (g8_2) (by kernel_rfl) (kc U) 25 _ (hB.get 6 (x := ⟨g8_2, kc U, 25⟩) rfl) Tryd.underlying25 rfl (by rw [Tryd.infoKey, kc_size, hUl])) ?_
    simp only [nrm]
    refine list_val (.agg (kc P)) (by kernel_rfl) (exec_arr _ 25 (.tmp 9) rfl (g8_1) (by kernel_rfl) (kc P) 25 _ (hB.get 5 (x := ⟨g8_1, kc P, 25⟩) rfl) Tryd.underlying25 rfl (by rw [Tryd.infoKey, kc_size, hPl])) ?_
    simp only [nrm]
    refine list_store 25 (.tmp 9) (.tmp 32) (g8_1) (kc U) 25 (kc P) (by kernel_rfl) rfl (by kernel_rfl) (by kernel_rfl) (hB.get 5 (x := ⟨g8_1, kc P, 25⟩) rfl) (by rw [Tryd.infoKey, kc_size, hUl]) (by rw [kc_size, kc_size, hUl, hPl]) (kc_one _) ?_
    replace hB := hB.set 5 (x := ⟨g8_1, kc P, 25⟩) rfl (kc U)
    simp only [List.set_cons_zero, List.set_cons_succ] at hB
    generalize World.setRow _ _ _ = x1 at *
    simp only [nrm]
    refine list_store 25 (.tmp 10) (.tmp 33) (g8_2) (kc P) 25 (kc U) (by kernel_rfl) rfl (by kernel_rfl) (by kernel_rfl) (hB.get 6 (x := ⟨g8_2, kc U, 25⟩) rfl) (by rw [Tryd.infoKey, kc_size, hPl]) (by rw [kc_size, kc_size, hPl, hUl]) (kc_one _) ?_
    replace hB := hB.set 6 (x := ⟨g8_2, kc U, 25⟩) rfl (kc P)
    simp only [List.set_cons_zero, List.set_cons_succ] at hB
    generalize World.setRow _ _ _ = x2 at *
    simp only [nrm]
    refine wpList_nil ?_
    replace hB := hide hB
    go_upto_region 11 with fail
    replace hB := unhide hB
    refine any_start (S := fun v => v.heap[gc]? = some (.cells (kc G) 25 (0, 0))) (by kernel_rfl) ?_
    replace hB := hB.drew
    generalize World.drew _ = y0 at *
    simp only [List.size_toArray, List.length_cons, List.length_nil, Array.replicate, List.replicate]
    refine any_take (i := 0) (v := (.agg (kc G))) #[false, false, false, false, false, false, false, false, false] rfl (by kernel_rfl) (by kernel_rfl) (by kernel_rfl) (by kernel_rfl) (fun _ _ _ h => h) (.inl ⟨by kernel_rfl, fun x_ hu => exec_arr _ 25 (.tmp 7) rfl (gc) (by kernel_rfl) (kc G) 25 _ (hu) Tryd.underlying25 rfl (by rw [Tryd.infoKey, kc_size, hGl])⟩) (hB.get 4 (x := ⟨gc, kc G, 25⟩) rfl) ?_
    simp only [nrm]
    refine any_take (i := 1) (v := (.slice (some ⟨g8_1, 0, none⟩) 32 32)) #[true, false, false, false, false, false, false, false, false] rfl (by kernel_rfl) (by kernel_rfl) (by kernel_rfl) (by kernel_rfl) (fun _ _ _ h => h) (.inl ⟨by kernel_rfl, fun x_ hu => by kernel_rfl⟩) (hB.get 4 (x := ⟨gc, kc G, 25⟩) rfl) ?_
    simp only [nrm]
    refine any_take (i := 2) (v := (.slice (some ⟨g8_2, 0, none⟩) 32 32)) #[true, true, false, false, false, false, false, false, false] rfl (by kernel_rfl) (by kernel_rfl) (by kernel_rfl) (by kernel_rfl) (fun _ _ _ h => h) (.inl ⟨by kernel_rfl, fun x_ hu => by kernel_rfl⟩) (hB.get 4 (x := ⟨gc, kc G, 25⟩) rfl) ?_
    simp only [nrm]
    refine any_take (i := 5) (v := (.bool false)) #[true, true, true, false, false, false, false, false, false] rfl (by kernel_rfl) (by kernel_rfl) (by kernel_rfl) (by kernel_rfl) (fun _ _ _ h => h) (.inl ⟨by kernel_rfl, fun x_ hu => by kernel_rfl⟩) (hB.get 4 (x := ⟨gc, kc G, 25⟩) rfl) ?_
    simp only [nrm]
    refine any_one (i := 3) (by kernel_rfl) rfl (fun K hK => ?_)
    replace hB := hide hB
    replace hK := hide hK
    go_simp
    refine (unhide hK).out _ _ ?_ (fun _ => ?_)
    · exact ((Gr.refl y0).alloc (.cells #[.slice (some ⟨g8_1, 0, none⟩) 32 32, .slice (some ⟨g8_2, 0, none⟩) 32 32] 33)).blk ((unhide hB).get 4 (x := ⟨gc, kc G, 25⟩) rfl)
    clear hK K
    have hg := (Gr.refl y0).alloc (.cells #[.slice (some ⟨g8_1, 0, none⟩) 32 32, .slice (some ⟨g8_2, 0, none⟩) 32 32] 33 (0, 0))
    have hnew := blk_new y0 (.cells #[.slice (some ⟨g8_1, 0, none⟩) 32 32, .slice (some ⟨g8_2, 0, none⟩) 32 32] 33 (0, 0))
    replace hB := (unhide hB).more hg
    generalize World.alloc _ _ = y1 at *
    generalize y0.heap.size = gq at *
    clear hg
    simp only [nrm]
    refine any_one (i := 4) (by kernel_rfl) rfl (fun K hK => ?_)
    refine step_callw (by kernel_rfl) 37 #[.agg (kc G), .string tPair, .slice (some ⟨gq, 0, none⟩) 2 2] (by kernel_rfl) ((rderive_ok G hGl (unhide hGk).2 tPair (by decide) [U, P] (some ⟨gq, 0, none⟩) 2 2 rfl (small_two hUl hPl) y1 ((unhide hF).gr hB.gr) (pr_two hnew (kc_lb (n := 32) (hB.get 5 (x := ⟨g8_1, kc U, 25⟩) rfl) hUl (unhide hU).2 (by omega)) (kc_lb (n := 32) (hB.get 6 (x := ⟨g8_2, kc P, 25⟩) rfl) hPl (unhide hPk).2 (by omega)))).mono ?_)
    rintro r y2 ⟨rfl, hg⟩
    refine ⟨_, rfl, ?_⟩
    replace hB := hB.more hg
    clear hg hnew
    obtain ⟨D, hD⟩ : ∃ D, D = spL G (infoL (tb tPair) [U, P]) 32 := ⟨_, rfl⟩
    rw [← hD]
    have hDl : D.length = 32 := by rw [hD, spL_len]
    replace hD := hide hD
    refine hK.out _ _ (hB.get 4 (x := ⟨gc, kc G, 25⟩) rfl) (fun _ => ?_)
    clear hK K
    simp only [nrm]
    refine any_take (i := 6) (v := (.agg (pairv D false))) #[true, true, true, true, true, true, false, false, false] rfl (by kernel_rfl) (by kernel_rfl) (by kernel_rfl) (by kernel_rfl) (fun _ _ _ h => h) (.inl ⟨by kernel_rfl, fun x_ hu => exec_bpair _ (.tmp 38) (.tmp 39) rfl D hDl false (by kernel_rfl) (by kernel_rfl)⟩) (hB.get 4 (x := ⟨gc, kc G, 25⟩) rfl) ?_
    simp only [nrm]
    refine any_one (i := 7) (by kernel_rfl) rfl (fun K hK => ?_)
    refine step_storew 36 (.tmp 4) (.tmp 40) (w.heap.size + 1 + 1) (pairv D false) 36 (pairv Z32 false) (by kernel_rfl) rfl (by kernel_rfl) (by kernel_rfl) (hB.get 2 (x := ⟨w.heap.size + 1 + 1, pairv Z32 false, 36⟩) rfl) (by rw [Tryd.infoPair, pairv_size, hDl]) (by rw [pairv_size, pairv_size, hDl]; rfl) (pairv_one _ _) ?_
    replace hB := hB.set 2 (x := ⟨w.heap.size + 1 + 1, pairv Z32 false, 36⟩) rfl (pairv D false)
    simp only [List.set_cons_zero, List.set_cons_succ] at hB
    generalize World.setRow _ _ _ = y3 at *
    refine hK.out _ _ (hB.get 4 (x := ⟨gc, kc G, 25⟩) rfl) (fun _ => ?_)
    clear hK K
    simp only [nrm]
    refine any_one (i := 8) (by kernel_rfl) rfl (fun K hK => ?_)
    replace hK := hide hK
    go_simp
    refine (unhide hK).out _ _ (hB.get 4 (x := ⟨gc, kc G, 25⟩) rfl) (fun _ => ?_)
    clear hK K
    refine any_done (by kernel_rfl) ?_
    have hDr : D = prK A U := by
      rw [unhide hD, unhide hG]
      unfold prK prA
      rw [← unhide hP, ← unhide hfi]
      rfl
    replace hDr := hide hDr
    replace hB := hide hB
    go_wp2_with fail
    replace hB := unhide hB
    rw [unhide hT]
    exact bodyPost_ret (v := .tuple #[.agg (pairv D false), .int .i64 0]) (results_cell_tmp Tryd.results19 _ _ (w.heap.size + 1 + 1) 36 (pairv D false) (0, 0) _ rfl (.int .i64 0) rfl (hB.get 2 (x := ⟨w.heap.size + 1 + 1, pairv D false, 36⟩) rfl) Tryd.underlying36 rfl (by rw [Tryd.infoPair, pairv_size, hDl])) rfl ⟨by rw [unhide hDr, ← unhide hP, ← unhide hfi], hB.gr⟩
end Go.Proofs.YtpmgmpihmpifgaaDoor
