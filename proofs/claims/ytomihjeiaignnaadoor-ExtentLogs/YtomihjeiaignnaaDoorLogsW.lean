/-
  Of layer 11: what the proofs lean on.
-/
import Derived.Test.YtomihjeiaignnaaDoorLogsE1
namespace Go.Proofs.YtomihjeiaignnaaDoor
open Go.RowKit
set_option maxRecDepth 100000
set_option linter.unusedSimpArgs false
set_option linter.unusedVariables false
theorem dk0_cur (n j : Nat) (hj : j < n) : (dk0 n).cur j = ZB := by
  unfold Dk.cur dk0
  show (List.replicate n ZB).getD j [] = ZB
  rw [List.getD_eq_getElem?_getD, List.getElem?_replicate, if_pos hj]
  rfl
theorem held_len (D : Dk) : (heldL D).length = D.safe.length := heldN_len D _
theorem ls_sec {w : World} {a : Option Addr} {n c : Nat} {D : Dk} (h : Ls 64 w a n c ((heldL D).map bv)) (hn : D.safe.length = n) (hd : D.dead = false) (i : Nat) (hi : i < n) : ∃ p o, a = some ⟨p, o, none⟩ ∧ w.rangeAt p (o + 64 * i) (bv (D.cur i)) := by
  obtain ⟨p, o, h1, h2⟩ := h.at_ i hi
  refine ⟨p, o, h1, ?_⟩
  rw [getD_map bv (heldL D) i [] [] (by rw [held_len]; omega), held_at hd i (by omega)] at h2
  exact h2
theorem pnd_len {l : List Int} {w w' : World} {r : Ending} (h : Pnd l w r w') : ∃ a c, r = .returned (.slice a l.length c) ∧ Gr w w' := by
  obtain ⟨v, h1, h2, h3⟩ := h
  obtain ⟨a, c, h4, h5⟩ := h2.ls
  refine ⟨a, c, ?_, h3⟩
  rw [h1, h4]
  unfold iv
  rw [List.length_map]
set_option maxHeartbeats 1000000 in
theorem logs_law (n0 at0 : Int) (b0 : -9223372036854775808 ≤ n0 ∧ n0 < 9223372036854775808) (b1 : -9223372036854775808 ≤ at0 ∧ at0 < 9223372036854775808) (b : List Int) (hbb : BB b) (w : World) (hf : Fst w) : Calls Tryd.prog 5 #[.int .i64 n0, .int .i64 at0, .agg (kc b)] w (Vl (.bool true) w) := by
  obtain ⟨T, hT⟩ : ∃ T, T = Vl (.bool true) w := ⟨_, rfl⟩
  rw [← hT]
  obtain ⟨SO, hSO⟩ : ∃ X : Array Value, X = kc b := ⟨_, rfl⟩
  rw [← hSO]
  have hbl := hbb.1
  replace hT := hide hT; replace hf := hide hf; replace hSO := hide hSO; replace hbb := hide hbb
  go_enter Tryd.func5, Tryd.ntmps5
  go_upto_region 1 with fail
  have hB := ((Bl.nil w).new SO 50)
  simp only [size_alloc, List.nil_append, List.cons_append] at hB
  generalize World.alloc _ _ = u at *
  rw [unhide hSO] at hB
  replace hB : Bl w [⟨w.heap.size, kc b, 50⟩] u := hB
  refine wp_region_lit ?_
  refine list_call 9 #[] (by kernel_rfl) (by kernel_rfl) ((wakes_ok _ ((unhide hf).gr hB.gr)).mono ?_)
  rintro r v0 ⟨rfl, hg⟩
  refine ⟨_, rfl, ?_⟩
  replace hB := hB.more hg
  clear hg
  simp only [Act.put, List.setIfInBounds_toArray, List.set_cons_zero, List.set_cons_succ, List.getElem_toArray, List.getElem_cons_zero, List.getElem_cons_succ]
  refine list_val (.bool false) (by kernel_rfl) (by kernel_rfl) ?_
  simp only [Act.put, List.setIfInBounds_toArray, List.set_cons_zero, List.set_cons_succ, List.getElem_toArray, List.getElem_cons_zero, List.getElem_cons_succ]
  refine wpList_nil ?_
  have hf0 := hide ((unhide hf).gr hB.gr)
  clear hf
  obtain ⟨qa, hqa⟩ : ∃ q : Int, q = (if n0 < 0 then 0 else n0) := ⟨_, rfl⟩
  have pa : 0 ≤ qa := by rw [hqa]; split <;> omega
  obtain ⟨ta, hta⟩ : ∃ t : Int, t = qa % 100 := ⟨_, rfl⟩
  have ra : 0 ≤ ta ∧ ta < 100 := by omega
  have eta : qa.tmod 100 = ta := by rw [Int.tmod_eq_emod_of_nonneg pa, hta]
  have ewa : IntKind.i64.wrap ta = ta := by rw [IntKind.wrap_i64]; omega
  obtain ⟨za, hza⟩ : ∃ z : Nat, (z : Int) = 64 + ta := ⟨(64 + ta).toNat, by omega⟩
  have exa : IntKind.i64.wrap (64 + ta) = (za : Int) := by rw [IntKind.wrap_i64]; omega
  have bza : 64 ≤ za ∧ za < 64 + 100 := by omega
  replace hqa := hide hqa; replace hta := hide hta; replace hza := hide hza
  replace hB := hide hB
  go_upto_region 3 with fail
  replace hB := unhide hB
  refine wp_region_lit ?_
  refine list_val (.int .i64 n0) (by kernel_rfl) (by kernel_rfl) ?_
  simp only [Act.put, List.setIfInBounds_toArray, List.set_cons_zero, List.set_cons_succ, List.getElem_toArray, List.getElem_cons_zero, List.getElem_cons_succ]
  refine list_val (.int .i64 qa) (by kernel_rfl) (by have hmx := unhide hqa; go_simp) ?_
  simp only [Act.put, List.setIfInBounds_toArray, List.set_cons_zero, List.set_cons_succ, List.getElem_toArray, List.getElem_cons_zero, List.getElem_cons_succ]
  refine list_val (.int .i64 ta) (by kernel_rfl) (by go_simp) ?_
  simp only [Act.put, List.setIfInBounds_toArray, List.set_cons_zero, List.set_cons_succ, List.getElem_toArray, List.getElem_cons_zero, List.getElem_cons_succ]
  refine list_val (.int .i64 (za : Int)) (by kernel_rfl) (by go_simp) ?_
  simp only [Act.put, List.setIfInBounds_toArray, List.set_cons_zero, List.set_cons_succ, List.getElem_toArray, List.getElem_cons_zero, List.getElem_cons_succ]
  (refine wpList_step fun K hK => ?_; replace hK := hide hK; go_simp; refine unhide hK _ _ ?_; clear hK K)
  refine wpList_nil ?_
  replace hB := hide hB
  go_upto_region 4 with fail
  replace hB := unhide hB
  refine wp_region_lit ?_
  refine list_val (.int .i64 (za : Int)) (by kernel_rfl) (by kernel_rfl) ?_
  simp only [Act.put, List.setIfInBounds_toArray, List.set_cons_zero, List.set_cons_succ, List.getElem_toArray, List.getElem_cons_zero, List.getElem_cons_succ]
  refine list_call 10 #[.int .i64 (za : Int)] (by kernel_rfl) (by kernel_rfl) ((dnew_ok (za : Int) _).mono ?_)
  intro r v1 h6
  unfold Dne at h6
  rw [if_pos ⟨by omega, by omega⟩] at h6
  obtain ⟨gd, F, rfl, hL, hF, hg1⟩ := h6
  rw [Int.toNat_natCast] at hL
  have kD := dk0_ok za (by omega) (by omega)
  have kl : (dk0 za).safe.length = za := by unfold dk0; simp
  have kd : (dk0 za).dead = false := rfl
  have kf : (dk0 za).left = -1 := rfl
  have kcur : ∀ j, j < za → (dk0 za).cur j = ZB := fun j hj => dk0_cur za j hj
  generalize dk0 za = D0 at *
  refine ⟨_, rfl, ?_⟩
  replace hL := hide hL; replace hF := hide hF; replace kD := hide kD; replace hg1 := hide hg1; replace kf := hide kf; replace kcur := hide kcur
  simp only [Act.put, List.setIfInBounds_toArray, List.set_cons_zero, List.set_cons_succ, List.getElem_toArray, List.getElem_cons_zero, List.getElem_cons_succ]
  refine list_val (.tuple #[.pointer (some ⟨gd, 0, none⟩), .int .i64 0]) (by kernel_rfl) (by kernel_rfl) ?_
  simp only [Act.put, List.setIfInBounds_toArray, List.set_cons_zero, List.set_cons_succ, List.getElem_toArray, List.getElem_cons_zero, List.getElem_cons_succ]
  refine list_val (.pointer (some ⟨gd, 0, none⟩)) (by kernel_rfl) (by kernel_rfl) ?_
  simp only [Act.put, List.setIfInBounds_toArray, List.set_cons_zero, List.set_cons_succ, List.getElem_toArray, List.getElem_cons_zero, List.getElem_cons_succ]
  refine list_val (.int .i64 0) (by kernel_rfl) (by kernel_rfl) ?_
  simp only [Act.put, List.setIfInBounds_toArray, List.set_cons_zero, List.set_cons_succ, List.getElem_toArray, List.getElem_cons_zero, List.getElem_cons_succ]
  (refine wpList_step fun K hK => ?_; replace hK := hide hK; go_simp; refine unhide hK _ _ ?_; clear hK K)
  (refine wpList_step fun K hK => ?_; replace hK := hide hK; go_simp; refine unhide hK _ _ ?_; clear hK K)
  refine wpList_nil ?_
  replace hB := hide hB
  go_upto_region 7 with fail
  replace hB := unhide hB
  refine wp_region_lit ?_
  refine list_val (.pointer (some ⟨gd, 0, none⟩)) (by kernel_rfl) (by kernel_rfl) ?_
  simp only [Act.put, List.setIfInBounds_toArray, List.set_cons_zero, List.set_cons_succ, List.getElem_toArray, List.getElem_cons_zero, List.getElem_cons_succ]
  refine list_call 11 #[P0 gd] (by kernel_rfl) (by kernel_rfl) ((eformat_ok F gd 0 D0 (unhide kD) (by omega) kd (unhide kf) (by omega) _ (unhide hL) ((unhide hf0).gr (unhide hg1)) (fun e => by have := unhide hF 0 e; have := fst_size (unhide hf0); omega)).mono ?_)
  rintro r v2 ⟨g, F2, G, rfl, hL2, hS, hG, hap, hc⟩
  obtain ⟨q1, q2, q3, q4, q5⟩ := fmt_all (unhide kD) kd (unhide kf) (by omega)
  generalize (Dk.runD fmtOps D0).1 = D1 at *
  have hX : Xs v0 F2 G g gd D1 sup0 v2 := by
    have hown : ∀ i ∈ F2, v0.heap.size ≤ i := fun i hi => (hc.new i hi).elim (unhide hF i) (fun e => Nat.le_trans (unhide hg1).size e)
    exact ⟨Chg.own (unhide hg1) hc (unhide hF), hL2, by rw [q3]; exact hS, hown, fun i hi => Nat.le_trans (unhide hg1).size (hG i hi), hap⟩
  have kn1 : D1.safe.length = za := q3.trans kl
  obtain ⟨s1, s2, s3, s4⟩ := sup0_is
  refine ⟨_, rfl, ?_⟩
  clear hL2 hS hG hap hc q1 hL hF kD hg1 kl kd kf q3 s1 s3 s4
  generalize sup0 = S0 at *
  replace hX := hide hX; replace q2 := hide q2; replace q4 := hide q4; replace q5 := hide q5
  simp only [Act.put, List.setIfInBounds_toArray, List.set_cons_zero, List.set_cons_succ, List.getElem_toArray, List.getElem_cons_zero, List.getElem_cons_succ]
  refine list_val (.tuple #[.pointer (some ⟨g, 0, none⟩), .int .i64 0]) (by kernel_rfl) (by kernel_rfl) ?_
  simp only [Act.put, List.setIfInBounds_toArray, List.set_cons_zero, List.set_cons_succ, List.getElem_toArray, List.getElem_cons_zero, List.getElem_cons_succ]
  refine list_val (.pointer (some ⟨g, 0, none⟩)) (by kernel_rfl) (by kernel_rfl) ?_
  simp only [Act.put, List.setIfInBounds_toArray, List.set_cons_zero, List.set_cons_succ, List.getElem_toArray, List.getElem_cons_zero, List.getElem_cons_succ]
  refine list_val (.int .i64 0) (by kernel_rfl) (by kernel_rfl) ?_
  simp only [Act.put, List.setIfInBounds_toArray, List.set_cons_zero, List.set_cons_succ, List.getElem_toArray, List.getElem_cons_zero, List.getElem_cons_succ]
  (refine wpList_step fun K hK => ?_; replace hK := hide hK; go_simp; refine unhide hK _ _ ?_; clear hK K)
  (refine wpList_step fun K hK => ?_; replace hK := hide hK; go_simp; refine unhide hK _ _ ?_; clear hK K)
  refine wpList_nil ?_
  replace hB := hide hB
  go_upto_region 10 with fail
  replace hB := unhide hB
  have hBw := hide hB
  clear hB
  have hB := Bl.nil v2
  refine wp_region_lit ?_
  refine list_val (.pointer (some ⟨gd, 0, none⟩)) (by kernel_rfl) (by kernel_rfl) ?_
  simp only [Act.put, List.setIfInBounds_toArray, List.set_cons_zero, List.set_cons_succ, List.getElem_toArray, List.getElem_cons_zero, List.getElem_cons_succ]
  refine list_call 15 #[P0 gd] (by kernel_rfl) (by kernel_rfl) ((sectors_ok F2 gd 3 D1 (unhide q2).ok (by omega) (unhide q2).dead v2 ((unhide hX).ls.gr hB.gr)).mono ?_)
  rintro r v3 ⟨a1, c1, rfl, hlsa1, hfra1, hg⟩
  rw [kn1] at hlsa1 ⊢
  have hfara1 : Hid (∀ i ∈ F2, blkOf a1 ≠ some i) := fun i hi e => by
    rcases hfra1 i e with e | e
    · cases e
    · have h1 := ((unhide hX).ls.gr hB.gr).lt i hi
      omega
  replace hg := hB.gr.trans hg
  skip
  replace hX := hide ((unhide hX).more hg)
  clear hB hfra1 hg
  have hB := Bl.nil v3
  replace hlsa1 := hide hlsa1
  refine ⟨_, rfl, ?_⟩
  simp only [Act.put, List.setIfInBounds_toArray, List.set_cons_zero, List.set_cons_succ, List.getElem_toArray, List.getElem_cons_zero, List.getElem_cons_succ]
  refine list_val (.tuple #[.agg #[.slice a1 za c1], .bool true]) (by kernel_rfl) (by kernel_rfl) ?_
  simp only [Act.put, List.setIfInBounds_toArray, List.set_cons_zero, List.set_cons_succ, List.getElem_toArray, List.getElem_cons_zero, List.getElem_cons_succ]
  refine list_val (.agg #[.slice a1 za c1]) (by kernel_rfl) (by kernel_rfl) ?_
  simp only [Act.put, List.setIfInBounds_toArray, List.set_cons_zero, List.set_cons_succ, List.getElem_toArray, List.getElem_cons_zero, List.getElem_cons_succ]
  refine list_val (.bool true) (by kernel_rfl) (by kernel_rfl) ?_
  simp only [Act.put, List.setIfInBounds_toArray, List.set_cons_zero, List.set_cons_succ, List.getElem_toArray, List.getElem_cons_zero, List.getElem_cons_succ]
  refine list_valw (.pointer (some ⟨v3.heap.size, 0, none⟩)) (v3.alloc (.cells (#[.slice none 0 0]) 38 (0, 0))) (by kernel_rfl) (by kernel_rfl) ?_
  replace hB := hB.new (#[.slice none 0 0]) 38
  simp only [List.nil_append, List.cons_append] at hB
  generalize World.alloc _ _ = v4 at *
  generalize v3.heap.size = gw at *
  replace hB : Bl v3 [⟨gw, #[.slice none 0 0], 38⟩] v4 := hB
  simp only [Act.put, List.setIfInBounds_toArray, List.set_cons_zero, List.set_cons_succ, List.getElem_toArray, List.getElem_cons_zero, List.getElem_cons_succ]
  refine list_store 38 (.tmp 10) (.tmp 40) (gw) (#[.slice a1 za c1]) 38 (#[.slice none 0 0]) (by kernel_rfl) rfl (by kernel_rfl) (by kernel_rfl) (hB.get 0 (x := ⟨gw, #[.slice none 0 0], 38⟩) rfl) (by rw [Tryd.infoRd11]; rfl) rfl (by simp [Value.oneCell']) ?_
  replace hB := hB.set 0 (x := ⟨gw, #[.slice none 0 0], 38⟩) rfl (#[.slice a1 za c1])
  simp only [List.set_cons_zero, List.set_cons_succ] at hB
  generalize World.setRow _ _ _ = v5 at *
  replace hB : Bl v3 [⟨gw, #[.slice a1 za c1], 38⟩] v5 := hB
  simp only [Act.put, List.setIfInBounds_toArray, List.set_cons_zero, List.set_cons_succ, List.getElem_toArray, List.getElem_cons_zero, List.getElem_cons_succ]
  (refine wpList_step fun K hK => ?_; replace hK := hide hK; go_simp; refine unhide hK _ _ ?_; clear hK K)
  refine wpList_nil ?_
  have hgwF : Hid (gw ∉ F2) := fun e => by have h1 := (unhide hX).ls.lt gw e; have h2 := hB.own 0 (x := ⟨gw, #[.slice a1 za c1], 38⟩) rfl; dsimp only at h2; omega
  have hgw : Hid (v5.heap[gw]? = some (.cells (#[.slice a1 za c1]) 38 (0, 0))) := (hB.get 0 (x := ⟨gw, #[.slice a1 za c1], 38⟩) rfl)
  replace hlsa1 := hide ((unhide hlsa1).gr hB.gr)
  replace hX := hide ((unhide hX).more hB.gr)
  clear hB
  have hB := Bl.nil v5
  obtain ⟨h, hh⟩ : ∃ x, x = (za - 2) / 4 := ⟨_, rfl⟩
  obtain ⟨lg, hlg⟩ : ∃ x, x = 2 + 2 * h := ⟨_, rfl⟩
  obtain ⟨sl, hsl⟩ : ∃ x, x = za - 2 - 2 * h := ⟨_, rfl⟩
  have hza : 64 ≤ za ∧ za ≤ 163 := by omega
  have hlz : lg + sl = za := by omega
  have hslv : Hid (D1.safe.length - 2 - 2 * ((D1.safe.length - 2) / 4) = sl) := by show _ = _; rw [kn1, hsl, hh]
  have hlgv : Hid (2 + 2 * ((D1.safe.length - 2) / 4) = lg) := by show _ = _; rw [kn1, hlg, hh]
  replace hh := hide hh; replace hlg := hide hlg; replace hsl := hide hsl
  have hf1 := hide ((unhide hf0).gr (unhide hX).gr)
  have hat : (0 ≤ at0 ∧ at0 < (sl : Int)) ∨ (at0 < 0 ∨ (0 ≤ at0 ∧ (sl : Int) ≤ at0)) := by omega
  rcases hat with hat | hat
  · skip
    have hin : Hid (0 ≤ at0 ∧ at0 < ((D1.safe.length - 2 - 2 * ((D1.safe.length - 2) / 4) : Nat) : Int)) := by show _ ∧ _; rw [unhide hslv]; exact hat
    obtain ⟨ix, hix⟩ : ∃ x : Nat, (x : Int) = (lg : Int) + at0 := ⟨((lg : Int) + at0).toNat, by omega⟩
    have hixv : Hid (((2 + 2 * ((D1.safe.length - 2) / 4) : Nat) : Int) + at0 = (ix : Int)) := by show _ = _; rw [unhide hlgv]; exact hix.symm
    have hixl : ix < za := by omega
    have hix2 : (lg : Int) + at0 = (ix : Int) := hix.symm
    have hlg2 : lg ≤ ix := by omega
    replace hix := hide hix
    replace hB := hide hB
    go_upto_region 11 with fail
    replace hB := unhide hB
    clear hf1
    refine wp_region_lit ?_
    refine list_val (.pointer (some ⟨g, 0, none⟩)) (by kernel_rfl) (by kernel_rfl) ?_
    simp only [Act.put, List.setIfInBounds_toArray, List.set_cons_zero, List.set_cons_succ, List.getElem_toArray, List.getElem_cons_zero, List.getElem_cons_succ]
    refine list_val (.int .i64 at0) (by kernel_rfl) (by kernel_rfl) ?_
    simp only [Act.put, List.setIfInBounds_toArray, List.set_cons_zero, List.set_cons_succ, List.getElem_toArray, List.getElem_cons_zero, List.getElem_cons_succ]
    refine list_val (.agg (kc b)) (by kernel_rfl) (exec_arr _ 50 (.tmp 5) rfl (w.heap.size) (by kernel_rfl) (kc b) 50 _ (((unhide hX).gr).blk ((unhide hBw).get 0 (x := ⟨w.heap.size, kc b, 50⟩) rfl)) Tryd.underlying50 rfl (by rw [Tryd.infoB, kc_size, hbl])) ?_
    simp only [Act.put, List.setIfInBounds_toArray, List.set_cons_zero, List.set_cons_succ, List.getElem_toArray, List.getElem_cons_zero, List.getElem_cons_succ]
    refine list_call 27 #[P0 g, .int .i64 at0, .agg (kc b)] (by kernel_rfl) (by kernel_rfl) ((eput_ok F2 G g gd 3 D1 S0 (unhide q2).ok (by omega) at0 (unhide hin) b (unhide hbb) (unhide hX).ap v5 (unhide hX).ls (unhide hX).st).mono ?_)
    rintro r v6 ⟨F3, rfl, hL3, hc3⟩
    rw [unhide hixv] at hL3 ⊢
    obtain ⟨i1, i2, i3, i4, i5, i6⟩ := step_write (unhide q2).dead (ix, b) (by rw [kn1]; exact hixl) (by rw [(unhide q2).left]; decide)
    have hcur2 := Dk.write_cur (unhide q2).dead (by rw [(unhide q2).left]; decide) (ix : Int) ⟨by omega, by rw [kn1]; omega⟩ b
    have ok2 := (unhide q2).ok.write (ix : Int) b (unhide hbb)
    replace i1 : D1.writeE (ix : Int) = 0 := i1
    replace i2 : (D1.writeD (ix : Int) b).dead = false := i2
    replace i3 : (D1.writeD (ix : Int) b).safe = D1.safe := i3
    replace i4 : (D1.writeD (ix : Int) b).pend = D1.pend ++ [(ix, b)] := i4
    replace i5 : (D1.writeD (ix : Int) b).left = (if 0 < D1.left then D1.left - 1 else D1.left) := i5
    rw [i1]
    have hX6 := (unhide hX).dsk (by rw [i3]) hL3 hc3
    generalize D1.writeD (ix : Int) b = D2 at *
    have kn2 : D2.safe.length = za := by rw [i3]; exact kn1
    have hpl2 : Hid (D2.pend.length = 1) := by show D2.pend.length = 1; rw [i4, unhide q4]; rfl
    have hlf2 : Hid (D2.left ≠ 0) := by show D2.left ≠ 0; rw [i5, (unhide q2).left]; decide
    have hd2 : Hid (D2.dead = false) := i2
    replace hlsa1 := hide ((unhide hlsa1).chg hc3 (unhide hfara1))
    replace hgw := hide (hc3.blk (unhide hgw) (unhide hgwF))
    have hslv2 : Hid (D2.safe.length - 2 - 2 * ((D2.safe.length - 2) / 4) = sl) := by show _ = _; rw [i3]; exact unhide hslv
    have hin2 : Hid (0 ≤ at0 ∧ at0 < ((D2.safe.length - 2 - 2 * ((D2.safe.length - 2) / 4) : Nat) : Int)) := by show _ ∧ _; rw [i3]; exact unhide hin
    have hixv2 : Hid (((2 + 2 * ((D2.safe.length - 2) / 4) : Nat) : Int) + at0 = (ix : Int)) := by show _ = _; rw [i3]; exact unhide hixv
    have hc2 : Hid (∀ i, D2.cur i = if ix = i then b else D1.cur i) := by
      intro i
      have h9 := hcur2 i
      rw [Int.toNat_natCast] at h9
      exact h9
    have hrd2 : Hid (D2.readB (ix : Int) = b ∧ D2.readE (ix : Int) = 0) := by
      refine ⟨?_, ?_⟩
      · rw [read_cur i2 ix (by omega), unhide hc2, if_pos rfl]
      · unfold Dk.readE
        rw [i2, if_neg (by decide), if_pos ⟨by omega, by omega⟩]
    replace hX := hide hX6
    have hf1 := hide ((unhide hf0).gr (unhide hX).gr)
    clear hB hL3 hc3 hX6 i1 i2 i3 i4 i5 i6 hcur2
    replace ok2 := hide ok2
    have hB := Bl.nil v6
    refine ⟨_, rfl, ?_⟩
    simp only [Act.put, List.setIfInBounds_toArray, List.set_cons_zero, List.set_cons_succ, List.getElem_toArray, List.getElem_cons_zero, List.getElem_cons_succ]
    (refine wpList_step fun K hK => ?_; replace hK := hide hK; go_simp; refine unhide hK _ _ ?_; clear hK K)
    refine wpList_nil ?_
    replace hB := hide hB
    go_upto_region 12 with fail
    replace hB := unhide hB
    refine wp_region_lit ?_
    refine list_val (.pointer (some ⟨g, 0, none⟩)) (by kernel_rfl) (by kernel_rfl) ?_
    simp only [Act.put, List.setIfInBounds_toArray, List.set_cons_zero, List.set_cons_succ, List.getElem_toArray, List.getElem_cons_zero, List.getElem_cons_succ]
    refine list_val (.int .i64 at0) (by kernel_rfl) (by kernel_rfl) ?_
    simp only [Act.put, List.setIfInBounds_toArray, List.set_cons_zero, List.set_cons_succ, List.getElem_toArray, List.getElem_cons_zero, List.getElem_cons_succ]
    refine list_call 28 #[P0 g, .int .i64 at0] (by kernel_rfl) (by kernel_rfl) ((eslot_ok F3 G g gd 4 D2 S0 (unhide ok2) (by omega) at0 (unhide hin2) v6 (unhide hX).ls (unhide hX).st).mono ?_)
    rintro r v7 ⟨rfl, hg⟩
    rw [unhide hixv2, (unhide hrd2).1, (unhide hrd2).2]
    replace hB := hB.more hg
    clear hg
    refine ⟨_, rfl, ?_⟩
    simp only [Act.put, List.setIfInBounds_toArray, List.set_cons_zero, List.set_cons_succ, List.getElem_toArray, List.getElem_cons_zero, List.getElem_cons_succ]
    refine list_val (.tuple #[.agg (kc b), .int .i64 0]) (by kernel_rfl) (by kernel_rfl) ?_
    simp only [Act.put, List.setIfInBounds_toArray, List.set_cons_zero, List.set_cons_succ, List.getElem_toArray, List.getElem_cons_zero, List.getElem_cons_succ]
    refine list_val (.agg (kc b)) (by kernel_rfl) (by kernel_rfl) ?_
    simp only [Act.put, List.setIfInBounds_toArray, List.set_cons_zero, List.set_cons_succ, List.getElem_toArray, List.getElem_cons_zero, List.getElem_cons_succ]
    refine list_val (.int .i64 0) (by kernel_rfl) (by kernel_rfl) ?_
    simp only [Act.put, List.setIfInBounds_toArray, List.set_cons_zero, List.set_cons_succ, List.getElem_toArray, List.getElem_cons_zero, List.getElem_cons_succ]
    refine list_valw (.pointer (some ⟨v7.heap.size, 0, none⟩)) (v7.alloc (.cells (kc ZB) 50 (0, 0))) (by kernel_rfl) (by kernel_rfl) ?_
    replace hB := hB.new (kc ZB) 50
    simp only [List.nil_append, List.cons_append] at hB
    generalize World.alloc _ _ = v8 at *
    generalize v7.heap.size = gk at *
    replace hB : Bl v6 [⟨gk, kc ZB, 50⟩] v8 := hB
    simp only [Act.put, List.setIfInBounds_toArray, List.set_cons_zero, List.set_cons_succ, List.getElem_toArray, List.getElem_cons_zero, List.getElem_cons_succ]
    refine list_store 50 (.tmp 12) (.tmp 50) (gk) (kc b) 50 (kc ZB) (by kernel_rfl) rfl (by kernel_rfl) (by kernel_rfl) (hB.get 0 (x := ⟨gk, kc ZB, 50⟩) rfl) (by rw [Tryd.infoB, kc_size, hbl]) ((show (kc ZB).size = 64 from rfl).trans ((kc_size _).trans hbl).symm) (kc_one _) ?_
    replace hB := hB.set 0 (x := ⟨gk, kc ZB, 50⟩) rfl (kc b)
    simp only [List.set_cons_zero, List.set_cons_succ] at hB
    generalize World.setRow _ _ _ = v9 at *
    replace hB : Bl v6 [⟨gk, kc b, 50⟩] v9 := hB
    simp only [Act.put, List.setIfInBounds_toArray, List.set_cons_zero, List.set_cons_succ, List.getElem_toArray, List.getElem_cons_zero, List.getElem_cons_succ]
    (refine wpList_step fun K hK => ?_; replace hK := hide hK; go_simp; refine unhide hK _ _ ?_; clear hK K)
    refine wpList_nil ?_
    have hgk : Hid (v9.heap[gk]? = some (.cells (kc b) 50 (0, 0))) := (hB.get 0 (x := ⟨gk, kc b, 50⟩) rfl)
    replace hlsa1 := hide ((unhide hlsa1).gr hB.gr)
    replace hgw := hide (hB.gr.blk (unhide hgw))
    replace hf1 := hide ((unhide hf1).gr hB.gr)
    replace hX := hide ((unhide hX).more hB.gr)
    clear hB
    have hB := Bl.nil v9
    replace hB := hide hB
    go_upto_region 13 with fail
    replace hB := unhide hB
    refine wp_region_lit ?_
    refine list_val (.pointer (some ⟨gd, 0, none⟩)) (by kernel_rfl) (by kernel_rfl) ?_
    simp only [Act.put, List.setIfInBounds_toArray, List.set_cons_zero, List.set_cons_succ, List.getElem_toArray, List.getElem_cons_zero, List.getElem_cons_succ]
    refine list_call 15 #[P0 gd] (by kernel_rfl) (by kernel_rfl) ((sectors_ok F3 gd 4 D2 (unhide ok2) (by omega) (unhide hd2) v9 ((unhide hX).ls.gr hB.gr)).mono ?_)
    rintro r v10 ⟨a2, c2, rfl, hlsa2, hfra2, hg⟩
    rw [kn2] at hlsa2 ⊢
    have hfara2 : Hid (∀ i ∈ F3, blkOf a2 ≠ some i) := fun i hi e => by
      rcases hfra2 i e with e | e
      · cases e
      · have h1 := ((unhide hX).ls.gr hB.gr).lt i hi
        omega
    replace hg := hB.gr.trans hg
    replace hlsa1 := hide ((unhide hlsa1).gr hg)
    replace hgw := hide (hg.blk (unhide hgw))
    replace hgk := hide (hg.blk (unhide hgk))
    replace hf1 := hide ((unhide hf1).gr hg)
    replace hX := hide ((unhide hX).more hg)
    clear hB hfra2 hg
    have hB := Bl.nil v10
    replace hlsa2 := hide hlsa2
    refine ⟨_, rfl, ?_⟩
    simp only [Act.put, List.setIfInBounds_toArray, List.set_cons_zero, List.set_cons_succ, List.getElem_toArray, List.getElem_cons_zero, List.getElem_cons_succ]
    refine list_val (.tuple #[.agg #[.slice a2 za c2], .bool true]) (by kernel_rfl) (by kernel_rfl) ?_
    simp only [Act.put, List.setIfInBounds_toArray, List.set_cons_zero, List.set_cons_succ, List.getElem_toArray, List.getElem_cons_zero, List.getElem_cons_succ]
    refine list_val (.agg #[.slice a2 za c2]) (by kernel_rfl) (by kernel_rfl) ?_
    simp only [Act.put, List.setIfInBounds_toArray, List.set_cons_zero, List.set_cons_succ, List.getElem_toArray, List.getElem_cons_zero, List.getElem_cons_succ]
    refine list_val (.bool true) (by kernel_rfl) (by kernel_rfl) ?_
    simp only [Act.put, List.setIfInBounds_toArray, List.set_cons_zero, List.set_cons_succ, List.getElem_toArray, List.getElem_cons_zero, List.getElem_cons_succ]
    refine list_valw (.pointer (some ⟨v10.heap.size, 0, none⟩)) (v10.alloc (.cells (#[.slice none 0 0]) 38 (0, 0))) (by kernel_rfl) (by kernel_rfl) ?_
    replace hB := hB.new (#[.slice none 0 0]) 38
    simp only [List.nil_append, List.cons_append] at hB
    generalize World.alloc _ _ = v11 at *
    generalize v10.heap.size = gy at *
    replace hB : Bl v10 [⟨gy, #[.slice none 0 0], 38⟩] v11 := hB
    simp only [Act.put, List.setIfInBounds_toArray, List.set_cons_zero, List.set_cons_succ, List.getElem_toArray, List.getElem_cons_zero, List.getElem_cons_succ]
    refine list_store 38 (.tmp 14) (.tmp 55) (gy) (#[.slice a2 za c2]) 38 (#[.slice none 0 0]) (by kernel_rfl) rfl (by kernel_rfl) (by kernel_rfl) (hB.get 0 (x := ⟨gy, #[.slice none 0 0], 38⟩) rfl) (by rw [Tryd.infoRd11]; rfl) rfl (by simp [Value.oneCell']) ?_
    replace hB := hB.set 0 (x := ⟨gy, #[.slice none 0 0], 38⟩) rfl (#[.slice a2 za c2])
    simp only [List.set_cons_zero, List.set_cons_succ] at hB
    generalize World.setRow _ _ _ = v12 at *
    replace hB : Bl v10 [⟨gy, #[.slice a2 za c2], 38⟩] v12 := hB
    simp only [Act.put, List.setIfInBounds_toArray, List.set_cons_zero, List.set_cons_succ, List.getElem_toArray, List.getElem_cons_zero, List.getElem_cons_succ]
    (refine wpList_step fun K hK => ?_; replace hK := hide hK; go_simp; refine unhide hK _ _ ?_; clear hK K)
    refine wpList_nil ?_
    have hgy : Hid (v12.heap[gy]? = some (.cells (#[.slice a2 za c2]) 38 (0, 0))) := (hB.get 0 (x := ⟨gy, #[.slice a2 za c2], 38⟩) rfl)
    replace hlsa1 := hide ((unhide hlsa1).gr hB.gr)
    replace hlsa2 := hide ((unhide hlsa2).gr hB.gr)
    replace hgw := hide (hB.gr.blk (unhide hgw))
    replace hgk := hide (hB.gr.blk (unhide hgk))
    replace hf1 := hide ((unhide hf1).gr hB.gr)
    replace hX := hide ((unhide hX).more hB.gr)
    clear hB
    have hB := Bl.nil v12
    have hat1 : ¬ at0 < 0 := by omega
    have hat2 : ¬ (sl : Int) ≤ at0 := by omega
    clear hat
    replace hB := hide hB
    go_upto_region 14 with fail
    replace hB := unhide hB
    refine wp_region_lit ?_
    refine list_val (.int .i64 at0) (by kernel_rfl) (by kernel_rfl) ?_
    simp only [Act.put, List.setIfInBounds_toArray, List.set_cons_zero, List.set_cons_succ, List.getElem_toArray, List.getElem_cons_zero, List.getElem_cons_succ]
    refine list_val (.bool false) (by kernel_rfl) (by go_simp) ?_
    simp only [Act.put, List.setIfInBounds_toArray, List.set_cons_zero, List.set_cons_succ, List.getElem_toArray, List.getElem_cons_zero, List.getElem_cons_succ]
    refine list_val (.bool false) (by kernel_rfl) (by kernel_rfl) ?_
    simp only [Act.put, List.setIfInBounds_toArray, List.set_cons_zero, List.set_cons_succ, List.getElem_toArray, List.getElem_cons_zero, List.getElem_cons_succ]
    refine list_val (.int .i64 at0) (by kernel_rfl) (by kernel_rfl) ?_
    simp only [Act.put, List.setIfInBounds_toArray, List.set_cons_zero, List.set_cons_succ, List.getElem_toArray, List.getElem_cons_zero, List.getElem_cons_succ]
    refine list_val (.pointer (some ⟨g, 0, none⟩)) (by kernel_rfl) (by kernel_rfl) ?_
    simp only [Act.put, List.setIfInBounds_toArray, List.set_cons_zero, List.set_cons_succ, List.getElem_toArray, List.getElem_cons_zero, List.getElem_cons_succ]
    refine list_call 23 #[.pointer (some ⟨g, 0, none⟩)] (by kernel_rfl) (by kernel_rfl) ((eslots_ok F3 G g gd _ D2 S0 (unhide ok2) _ ((unhide hX).ls.gr hB.gr) ((unhide hX).st.gr hB.gr)).mono ?_)
    rintro r v13 ⟨rfl, hg⟩
    refine ⟨_, rfl, ?_⟩
    rw [unhide hslv2]
    replace hB := hB.more hg
    clear hg
    simp only [Act.put, List.setIfInBounds_toArray, List.set_cons_zero, List.set_cons_succ, List.getElem_toArray, List.getElem_cons_zero, List.getElem_cons_succ]
    refine list_val (.bool false) (by kernel_rfl) (by go_simp) ?_
    simp only [Act.put, List.setIfInBounds_toArray, List.set_cons_zero, List.set_cons_succ, List.getElem_toArray, List.getElem_cons_zero, List.getElem_cons_succ]
    refine list_val (.bool false) (by kernel_rfl) (by kernel_rfl) ?_
    simp only [Act.put, List.setIfInBounds_toArray, List.set_cons_zero, List.set_cons_succ, List.getElem_toArray, List.getElem_cons_zero, List.getElem_cons_succ]
    refine wpList_nil ?_
    replace hB := hide hB
    go_upto_region 16 with fail
    replace hB := unhide hB
    refine wp_region_lit ?_
    refine list_val (.pointer (some ⟨gy, 0, none⟩)) (by kernel_rfl) (by kernel_rfl) ?_
    simp only [Act.put, List.setIfInBounds_toArray, List.set_cons_zero, List.set_cons_succ, List.getElem_toArray, List.getElem_cons_zero, List.getElem_cons_succ]
    refine list_val (.slice a2 za c2) (by kernel_rfl) (exec_sb _ (.tmp 82) rfl gy 0 (by kernel_rfl) a2 za c2 (cell_of (hB.gr.blk (unhide hgy)) (i := 0) rfl)) ?_
    simp only [Act.put, List.setIfInBounds_toArray, List.set_cons_zero, List.set_cons_succ, List.getElem_toArray, List.getElem_cons_zero, List.getElem_cons_succ]
    refine list_val (.int .i64 za) (by kernel_rfl) (by kernel_rfl) ?_
    simp only [Act.put, List.setIfInBounds_toArray, List.set_cons_zero, List.set_cons_succ, List.getElem_toArray, List.getElem_cons_zero, List.getElem_cons_succ]
    refine list_val (.int .i64 0) (by kernel_rfl) (by kernel_rfl) ?_
    simp only [Act.put, List.setIfInBounds_toArray, List.set_cons_zero, List.set_cons_succ, List.getElem_toArray, List.getElem_cons_zero, List.getElem_cons_succ]
    refine wpList_nil ?_
    have hG13 := hide hB.gr
    clear hB
    have h5 : Hid (v12.heap[w.heap.size]? = some (.cells (kc b) 50 (0, 0))) := ((unhide hX).gr).blk ((unhide hBw).get 0 (x := ⟨w.heap.size, kc b, 50⟩) rfl)
    have i9 : IntKind.i64.wrap ((za : Int) - (sl : Int)) = (lg : Int) := by rw [IntKind.wrap_i64]; omega
    have i8 : IntKind.i64.wrap ((lg : Int) + at0) = (ix : Int) := by rw [hix2, IntKind.wrap_i64]; omega
    clear hix2
    go_wp2_with fail
    go_loopw [85] (fun i wr => ∃ j : Nat, j ≤ za ∧ i = .int .i64 (j : Int) ∧ Hid (Gr v12 wr)) (fun i _ => za - (intOf i).toNat)
    case atStart => exact ⟨0, by omega, rfl, hG13⟩
    case round =>
    clear hG13
    obtain ⟨j, hj, rfl, hG⟩ := hrel
    by_cases hjz : j < za
    · skip
      have jI : (j : Int) < (za : Int) := by omega
      obtain ⟨p2, o2, rfl, hr2⟩ := ls_sec (unhide hlsa2) kn2 (unhide hd2) j hjz
      obtain ⟨p1, o1, rfl, hr1⟩ := ls_sec (unhide hlsa1) kn1 (unhide q2).dead j hjz
      have hcj := unhide hc2 j
      have hl2 := (Dk.cur_bb (unhide ok2) j (by omega)).1
      obtain ⟨x2, hx2⟩ : ∃ x, x = D2.cur j := ⟨_, rfl⟩
      obtain ⟨x1, hx1⟩ : ∃ x, x = D1.cur j := ⟨_, rfl⟩
      rw [← hx2] at hr2 hcj hl2
      rw [← hx1] at hr1 hcj
      replace hr1 := hide hr1; replace hr2 := hide hr2; replace hx1 := hide hx1; replace hx2 := hide hx2
      have hB : Bl v12 [] wr := (Bl.nil v12).more (unhide hG)
      clear hG
      replace hB := hide hB
      replace hcj := hide hcj
      go_upto_region 19 with fail
      replace hB := unhide hB
      by_cases hji : ix = j
      · skip
        have hxb : x2 = b := by have h9 := unhide hcj; rw [if_pos hji] at h9; exact h9
        have hjI : (j : Int) = (ix : Int) := by omega
        replace hxb := hide hxb
        rw [unhide hxb] at hr2
        clear hji hcj
        refine wp_region_lit ?_
        refine list_val (.int .i64 (j : Int)) (by kernel_rfl) (by kernel_rfl) ?_
        simp only [Act.put, List.setIfInBounds_toArray, List.set_cons_zero, List.set_cons_succ, List.getElem_toArray, List.getElem_cons_zero, List.getElem_cons_succ]
        refine list_val (.int .i64 (za : Int)) (by kernel_rfl) (by kernel_rfl) ?_
        simp only [Act.put, List.setIfInBounds_toArray, List.set_cons_zero, List.set_cons_succ, List.getElem_toArray, List.getElem_cons_zero, List.getElem_cons_succ]
        refine list_val (.pointer (some ⟨g, 0, none⟩)) (by kernel_rfl) (by kernel_rfl) ?_
        simp only [Act.put, List.setIfInBounds_toArray, List.set_cons_zero, List.set_cons_succ, List.getElem_toArray, List.getElem_cons_zero, List.getElem_cons_succ]
        refine list_call 23 #[.pointer (some ⟨g, 0, none⟩)] (by kernel_rfl) (by kernel_rfl) ((eslots_ok F3 G g gd _ D2 S0 (unhide ok2) _ ((unhide hX).ls.gr hB.gr) ((unhide hX).st.gr hB.gr)).mono ?_)
        rintro r y1 ⟨rfl, hg⟩
        refine ⟨_, rfl, ?_⟩
        rw [unhide hslv2]
        replace hB := hB.more hg
        clear hg
        simp only [Act.put, List.setIfInBounds_toArray, List.set_cons_zero, List.set_cons_succ, List.getElem_toArray, List.getElem_cons_zero, List.getElem_cons_succ]
        refine list_val (.int .i64 (lg : Int)) (by kernel_rfl) (by go_simp) ?_
        simp only [Act.put, List.setIfInBounds_toArray, List.set_cons_zero, List.set_cons_succ, List.getElem_toArray, List.getElem_cons_zero, List.getElem_cons_succ]
        refine list_val (.int .i64 at0) (by kernel_rfl) (by kernel_rfl) ?_
        simp only [Act.put, List.setIfInBounds_toArray, List.set_cons_zero, List.set_cons_succ, List.getElem_toArray, List.getElem_cons_zero, List.getElem_cons_succ]
        refine list_val (.int .i64 (ix : Int)) (by kernel_rfl) (by go_simp) ?_
        simp only [Act.put, List.setIfInBounds_toArray, List.set_cons_zero, List.set_cons_succ, List.getElem_toArray, List.getElem_cons_zero, List.getElem_cons_succ]
        refine list_val (.bool true) (by kernel_rfl) (by go_simp) ?_
        simp only [Act.put, List.setIfInBounds_toArray, List.set_cons_zero, List.set_cons_succ, List.getElem_toArray, List.getElem_cons_zero, List.getElem_cons_succ]
        refine wpList_nil ?_
        have hG := hB.gr
        clear hB
        replace hG := hide hG
        go_upto_region 20 with fail
        replace hG := unhide hG
        refine any_start (S := fun (v : World) => Gr v12 v) (by kernel_rfl) ?_
        replace hG := hG.drew
        generalize World.drew _ = y2 at *
        simp only [List.size_toArray, List.length_cons, List.length_nil, Array.replicate, List.replicate]
        refine any_take (i := 0) (v := (.pointer (some ⟨gy, 0, none⟩))) #[false, false, false, false, false, false, false] rfl (by kernel_rfl) (by kernel_rfl) (by kernel_rfl) (by kernel_rfl) (fun _ _ _ h => h) (.inl ⟨by kernel_rfl, fun x_ hu => by kernel_rfl⟩) hG ?_
        simp only [Act.put, List.setIfInBounds_toArray, List.set_cons_zero, List.set_cons_succ, List.getElem_toArray, List.getElem_cons_zero, List.getElem_cons_succ]
        refine any_take (i := 1) (v := (.slice (some ⟨p2, o2, none⟩) za c2)) #[true, false, false, false, false, false, false] rfl (by kernel_rfl) (by kernel_rfl) (by kernel_rfl) (by kernel_rfl) (fun _ _ _ h => h) (.inl ⟨by kernel_rfl, fun x_ hu => exec_sb _ (.tmp 96) rfl gy 0 (by kernel_rfl) (some ⟨p2, o2, none⟩) za c2 (cell_of (hu.blk (unhide hgy)) (i := 0) rfl)⟩) hG ?_
        simp only [Act.put, List.setIfInBounds_toArray, List.set_cons_zero, List.set_cons_succ, List.getElem_toArray, List.getElem_cons_zero, List.getElem_cons_succ]
        refine any_take (i := 2) (v := (.int .i64 (j : Int))) #[true, true, false, false, false, false, false] rfl (by kernel_rfl) (by kernel_rfl) (by kernel_rfl) (by kernel_rfl) (fun _ _ _ h => h) (.inl ⟨by kernel_rfl, fun x_ hu => by kernel_rfl⟩) hG ?_
        simp only [Act.put, List.setIfInBounds_toArray, List.set_cons_zero, List.set_cons_succ, List.getElem_toArray, List.getElem_cons_zero, List.getElem_cons_succ]
        refine any_take (i := 3) (v := (.pointer (some ⟨p2, o2 + 64 * j, none⟩))) #[true, true, true, false, false, false, false] rfl (by kernel_rfl) (by kernel_rfl) (by kernel_rfl) (by kernel_rfl) (fun _ _ _ h => h) (.inl ⟨by kernel_rfl, fun x_ hu => exec_ib _ (.tmp 97) (.tmp 98) rfl p2 o2 za c2 j rfl rfl hjz⟩) hG ?_
        simp only [Act.put, List.setIfInBounds_toArray, List.set_cons_zero, List.set_cons_succ, List.getElem_toArray, List.getElem_cons_zero, List.getElem_cons_succ]
        refine any_take (i := 4) (v := (.agg (kc b))) #[true, true, true, true, false, false, false] rfl (by kernel_rfl) (by kernel_rfl) (by kernel_rfl) (by kernel_rfl) (fun _ _ _ h => h) (.inl ⟨by kernel_rfl, fun x_ hu => exec_row _ 50 (.tmp 99) rfl p2 (o2 + 64 * j) (by kernel_rfl) (bv b) _ (range_gr (unhide hr2) hu) Tryd.underlying50 rfl (by rw [Tryd.infoB, bv_len, hbl])⟩) hG ?_
        simp only [Act.put, List.setIfInBounds_toArray, List.set_cons_zero, List.set_cons_succ, List.getElem_toArray, List.getElem_cons_zero, List.getElem_cons_succ]
        refine any_take (i := 5) (v := (.agg (kc b))) #[true, true, true, true, true, false, false] rfl (by kernel_rfl) (by kernel_rfl) (by kernel_rfl) (by kernel_rfl) (fun _ _ _ h => h) (.inl ⟨by kernel_rfl, fun x_ hu => exec_arr _ 50 (.tmp 5) rfl (w.heap.size) (by kernel_rfl) (kc b) 50 _ (hu.blk (unhide h5)) Tryd.underlying50 rfl (by rw [Tryd.infoB, kc_size, hbl])⟩) hG ?_
        simp only [Act.put, List.setIfInBounds_toArray, List.set_cons_zero, List.set_cons_succ, List.getElem_toArray, List.getElem_cons_zero, List.getElem_cons_succ]
        refine any_take (i := 6) (v := (.bool false)) #[true, true, true, true, true, true, false] rfl (by kernel_rfl) (by kernel_rfl) (by kernel_rfl) (by kernel_rfl) (fun _ _ _ h => h) (.inl ⟨by kernel_rfl, fun x_ hu => exec_neB _ (.tmp 100) (.tmp 101) rfl b hbl (by kernel_rfl) (by kernel_rfl)⟩) hG ?_
        simp only [Act.put, List.setIfInBounds_toArray, List.set_cons_zero, List.set_cons_succ, List.getElem_toArray, List.getElem_cons_zero, List.getElem_cons_succ]
        refine any_done (by kernel_rfl) ?_
        replace hG := hide hG
        go_wp2_with fail
        go_roundw
        case rel => exact ⟨j + 1, by omega, by go_num, hG⟩
        case measure => simp [intOf]; omega
      have hxb : x2 = x1 := by have h9 := unhide hcj; rw [if_neg hji] at h9; exact h9
      have hjI : ¬ (j : Int) = (ix : Int) := by omega
      subst hxb
      clear hji hcj
      refine wp_region_lit ?_
      refine list_val (.int .i64 (j : Int)) (by kernel_rfl) (by kernel_rfl) ?_
      simp only [Act.put, List.setIfInBounds_toArray, List.set_cons_zero, List.set_cons_succ, List.getElem_toArray, List.getElem_cons_zero, List.getElem_cons_succ]
      refine list_val (.int .i64 (za : Int)) (by kernel_rfl) (by kernel_rfl) ?_
      simp only [Act.put, List.setIfInBounds_toArray, List.set_cons_zero, List.set_cons_succ, List.getElem_toArray, List.getElem_cons_zero, List.getElem_cons_succ]
      refine list_val (.pointer (some ⟨g, 0, none⟩)) (by kernel_rfl) (by kernel_rfl) ?_
      simp only [Act.put, List.setIfInBounds_toArray, List.set_cons_zero, List.set_cons_succ, List.getElem_toArray, List.getElem_cons_zero, List.getElem_cons_succ]
      refine list_call 23 #[.pointer (some ⟨g, 0, none⟩)] (by kernel_rfl) (by kernel_rfl) ((eslots_ok F3 G g gd _ D2 S0 (unhide ok2) _ ((unhide hX).ls.gr hB.gr) ((unhide hX).st.gr hB.gr)).mono ?_)
      rintro r y1 ⟨rfl, hg⟩
      refine ⟨_, rfl, ?_⟩
      rw [unhide hslv2]
      replace hB := hB.more hg
      clear hg
      simp only [Act.put, List.setIfInBounds_toArray, List.set_cons_zero, List.set_cons_succ, List.getElem_toArray, List.getElem_cons_zero, List.getElem_cons_succ]
      refine list_val (.int .i64 (lg : Int)) (by kernel_rfl) (by go_simp) ?_
      simp only [Act.put, List.setIfInBounds_toArray, List.set_cons_zero, List.set_cons_succ, List.getElem_toArray, List.getElem_cons_zero, List.getElem_cons_succ]
      refine list_val (.int .i64 at0) (by kernel_rfl) (by kernel_rfl) ?_
      simp only [Act.put, List.setIfInBounds_toArray, List.set_cons_zero, List.set_cons_succ, List.getElem_toArray, List.getElem_cons_zero, List.getElem_cons_succ]
      refine list_val (.int .i64 (ix : Int)) (by kernel_rfl) (by go_simp) ?_
      simp only [Act.put, List.setIfInBounds_toArray, List.set_cons_zero, List.set_cons_succ, List.getElem_toArray, List.getElem_cons_zero, List.getElem_cons_succ]
      refine list_val (.bool false) (by kernel_rfl) (by go_simp) ?_
      simp only [Act.put, List.setIfInBounds_toArray, List.set_cons_zero, List.set_cons_succ, List.getElem_toArray, List.getElem_cons_zero, List.getElem_cons_succ]
      refine wpList_nil ?_
      have hG := hB.gr
      clear hB
      replace hG := hide hG
      go_upto_region 22 with fail
      replace hG := unhide hG
      refine any_start (S := fun (v : World) => Gr v12 v) (by kernel_rfl) ?_
      replace hG := hG.drew
      generalize World.drew _ = y2 at *
      simp only [List.size_toArray, List.length_cons, List.length_nil, Array.replicate, List.replicate]
      refine any_take (i := 0) (v := (.pointer (some ⟨gy, 0, none⟩))) #[false, false, false, false, false, false, false, false, false, false, false] rfl (by kernel_rfl) (by kernel_rfl) (by kernel_rfl) (by kernel_rfl) (fun _ _ _ h => h) (.inl ⟨by kernel_rfl, fun x_ hu => by kernel_rfl⟩) hG ?_
      simp only [Act.put, List.setIfInBounds_toArray, List.set_cons_zero, List.set_cons_succ, List.getElem_toArray, List.getElem_cons_zero, List.getElem_cons_succ]
      refine any_take (i := 1) (v := (.slice (some ⟨p2, o2, none⟩) za c2)) #[true, false, false, false, false, false, false, false, false, false, false] rfl (by kernel_rfl) (by kernel_rfl) (by kernel_rfl) (by kernel_rfl) (fun _ _ _ h => h) (.inl ⟨by kernel_rfl, fun x_ hu => exec_sb _ (.tmp 103) rfl gy 0 (by kernel_rfl) (some ⟨p2, o2, none⟩) za c2 (cell_of (hu.blk (unhide hgy)) (i := 0) rfl)⟩) hG ?_
      simp only [Act.put, List.setIfInBounds_toArray, List.set_cons_zero, List.set_cons_succ, List.getElem_toArray, List.getElem_cons_zero, List.getElem_cons_succ]
      refine any_take (i := 2) (v := (.int .i64 (j : Int))) #[true, true, false, false, false, false, false, false, false, false, false] rfl (by kernel_rfl) (by kernel_rfl) (by kernel_rfl) (by kernel_rfl) (fun _ _ _ h => h) (.inl ⟨by kernel_rfl, fun x_ hu => by kernel_rfl⟩) hG ?_
      simp only [Act.put, List.setIfInBounds_toArray, List.set_cons_zero, List.set_cons_succ, List.getElem_toArray, List.getElem_cons_zero, List.getElem_cons_succ]
      refine any_take (i := 3) (v := (.pointer (some ⟨p2, o2 + 64 * j, none⟩))) #[true, true, true, false, false, false, false, false, false, false, false] rfl (by kernel_rfl) (by kernel_rfl) (by kernel_rfl) (by kernel_rfl) (fun _ _ _ h => h) (.inl ⟨by kernel_rfl, fun x_ hu => exec_ib _ (.tmp 104) (.tmp 105) rfl p2 o2 za c2 j rfl rfl hjz⟩) hG ?_
      simp only [Act.put, List.setIfInBounds_toArray, List.set_cons_zero, List.set_cons_succ, List.getElem_toArray, List.getElem_cons_zero, List.getElem_cons_succ]
      refine any_take (i := 4) (v := (.agg (kc x2))) #[true, true, true, true, false, false, false, false, false, false, false] rfl (by kernel_rfl) (by kernel_rfl) (by kernel_rfl) (by kernel_rfl) (fun _ _ _ h => h) (.inl ⟨by kernel_rfl, fun x_ hu => exec_row _ 50 (.tmp 106) rfl p2 (o2 + 64 * j) (by kernel_rfl) (bv x2) _ (range_gr (unhide hr2) hu) Tryd.underlying50 rfl (by rw [Tryd.infoB, bv_len, hl2])⟩) hG ?_
      simp only [Act.put, List.setIfInBounds_toArray, List.set_cons_zero, List.set_cons_succ, List.getElem_toArray, List.getElem_cons_zero, List.getElem_cons_succ]
      refine any_take (i := 5) (v := (.pointer (some ⟨gw, 0, none⟩))) #[true, true, true, true, true, false, false, false, false, false, false] rfl (by kernel_rfl) (by kernel_rfl) (by kernel_rfl) (by kernel_rfl) (fun _ _ _ h => h) (.inl ⟨by kernel_rfl, fun x_ hu => by kernel_rfl⟩) hG ?_
      simp only [Act.put, List.setIfInBounds_toArray, List.set_cons_zero, List.set_cons_succ, List.getElem_toArray, List.getElem_cons_zero, List.getElem_cons_succ]
      refine any_take (i := 6) (v := (.slice (some ⟨p1, o1, none⟩) za c1)) #[true, true, true, true, true, true, false, false, false, false, false] rfl (by kernel_rfl) (by kernel_rfl) (by kernel_rfl) (by kernel_rfl) (fun _ _ _ h => h) (.inl ⟨by kernel_rfl, fun x_ hu => exec_sb _ (.tmp 108) rfl gw 0 (by kernel_rfl) (some ⟨p1, o1, none⟩) za c1 (cell_of (hu.blk (unhide hgw)) (i := 0) rfl)⟩) hG ?_
      simp only [Act.put, List.setIfInBounds_toArray, List.set_cons_zero, List.set_cons_succ, List.getElem_toArray, List.getElem_cons_zero, List.getElem_cons_succ]
      refine any_take (i := 7) (v := (.int .i64 (j : Int))) #[true, true, true, true, true, true, true, false, false, false, false] rfl (by kernel_rfl) (by kernel_rfl) (by kernel_rfl) (by kernel_rfl) (fun _ _ _ h => h) (.inl ⟨by kernel_rfl, fun x_ hu => by kernel_rfl⟩) hG ?_
      simp only [Act.put, List.setIfInBounds_toArray, List.set_cons_zero, List.set_cons_succ, List.getElem_toArray, List.getElem_cons_zero, List.getElem_cons_succ]
      refine any_take (i := 8) (v := (.pointer (some ⟨p1, o1 + 64 * j, none⟩))) #[true, true, true, true, true, true, true, true, false, false, false] rfl (by kernel_rfl) (by kernel_rfl) (by kernel_rfl) (by kernel_rfl) (fun _ _ _ h => h) (.inl ⟨by kernel_rfl, fun x_ hu => exec_ib _ (.tmp 109) (.tmp 110) rfl p1 o1 za c1 j rfl rfl hjz⟩) hG ?_
      simp only [Act.put, List.setIfInBounds_toArray, List.set_cons_zero, List.set_cons_succ, List.getElem_toArray, List.getElem_cons_zero, List.getElem_cons_succ]
      refine any_take (i := 9) (v := (.agg (kc x2))) #[true, true, true, true, true, true, true, true, true, false, false] rfl (by kernel_rfl) (by kernel_rfl) (by kernel_rfl) (by kernel_rfl) (fun _ _ _ h => h) (.inl ⟨by kernel_rfl, fun x_ hu => exec_row _ 50 (.tmp 111) rfl p1 (o1 + 64 * j) (by kernel_rfl) (bv x2) _ (range_gr (unhide hr1) hu) Tryd.underlying50 rfl (by rw [Tryd.infoB, bv_len, hl2])⟩) hG ?_
      simp only [Act.put, List.setIfInBounds_toArray, List.set_cons_zero, List.set_cons_succ, List.getElem_toArray, List.getElem_cons_zero, List.getElem_cons_succ]
      refine any_take (i := 10) (v := (.bool false)) #[true, true, true, true, true, true, true, true, true, true, false] rfl (by kernel_rfl) (by kernel_rfl) (by kernel_rfl) (by kernel_rfl) (fun _ _ _ h => h) (.inl ⟨by kernel_rfl, fun x_ hu => exec_neB _ (.tmp 107) (.tmp 112) rfl x2 hl2 (by kernel_rfl) (by kernel_rfl)⟩) hG ?_
      simp only [Act.put, List.setIfInBounds_toArray, List.set_cons_zero, List.set_cons_succ, List.getElem_toArray, List.getElem_cons_zero, List.getElem_cons_succ]
      refine any_done (by kernel_rfl) ?_
      replace hG := hide hG
      go_wp2_with fail
      go_roundw
      case rel => exact ⟨j + 1, by omega, by go_num, hG⟩
      case measure => simp [intOf]; omega
    have jI : ¬ (j : Int) < (za : Int) := by omega
    have hB : Bl v12 [] wr := (Bl.nil v12).more (unhide hG)
    clear hG i8 i9
    replace hB := hide hB
    go_upto_region 25 with fail
    replace hB := unhide hB
    refine wp_region_lit ?_
    refine list_val (.int .i64 0) (by kernel_rfl) (by kernel_rfl) ?_
    simp only [Act.put, List.setIfInBounds_toArray, List.set_cons_zero, List.set_cons_succ, List.getElem_toArray, List.getElem_cons_zero, List.getElem_cons_succ]
    refine list_val (.bool true) (by kernel_rfl) (by go_simp) ?_
    simp only [Act.put, List.setIfInBounds_toArray, List.set_cons_zero, List.set_cons_succ, List.getElem_toArray, List.getElem_cons_zero, List.getElem_cons_succ]
    refine list_val (.bool true) (by kernel_rfl) (by kernel_rfl) ?_
    simp only [Act.put, List.setIfInBounds_toArray, List.set_cons_zero, List.set_cons_succ, List.getElem_toArray, List.getElem_cons_zero, List.getElem_cons_succ]
    refine list_val (.int .i64 0) (by kernel_rfl) (by kernel_rfl) ?_
    simp only [Act.put, List.setIfInBounds_toArray, List.set_cons_zero, List.set_cons_succ, List.getElem_toArray, List.getElem_cons_zero, List.getElem_cons_succ]
    refine list_val (.bool true) (by kernel_rfl) (by go_simp) ?_
    simp only [Act.put, List.setIfInBounds_toArray, List.set_cons_zero, List.set_cons_succ, List.getElem_toArray, List.getElem_cons_zero, List.getElem_cons_succ]
    refine list_val (.bool true) (by kernel_rfl) (by kernel_rfl) ?_
    simp only [Act.put, List.setIfInBounds_toArray, List.set_cons_zero, List.set_cons_succ, List.getElem_toArray, List.getElem_cons_zero, List.getElem_cons_succ]
    refine list_val (.bool true) (by kernel_rfl) (by kernel_rfl) ?_
    simp only [Act.put, List.setIfInBounds_toArray, List.set_cons_zero, List.set_cons_succ, List.getElem_toArray, List.getElem_cons_zero, List.getElem_cons_succ]
    refine list_val (.agg (kc b)) (by kernel_rfl) (exec_arr _ 50 (.tmp 12) rfl gk (by kernel_rfl) (kc b) 50 _ (hB.gr.blk (unhide hgk)) Tryd.underlying50 rfl (by rw [Tryd.infoB, kc_size, hbl])) ?_
    simp only [Act.put, List.setIfInBounds_toArray, List.set_cons_zero, List.set_cons_succ, List.getElem_toArray, List.getElem_cons_zero, List.getElem_cons_succ]
    refine list_val (.agg (kc b)) (by kernel_rfl) (exec_arr _ 50 (.tmp 5) rfl (w.heap.size) (by kernel_rfl) (kc b) 50 _ (hB.gr.blk (unhide h5)) Tryd.underlying50 rfl (by rw [Tryd.infoB, kc_size, hbl])) ?_
    simp only [Act.put, List.setIfInBounds_toArray, List.set_cons_zero, List.set_cons_succ, List.getElem_toArray, List.getElem_cons_zero, List.getElem_cons_succ]
    refine list_val (.bool true) (by kernel_rfl) (exec_eqB _ (.tmp 122) (.tmp 123) rfl b b hbl hbl (by kernel_rfl) (by kernel_rfl) true (decide_eq_true rfl).symm) ?_
    simp only [Act.put, List.setIfInBounds_toArray, List.set_cons_zero, List.set_cons_succ, List.getElem_toArray, List.getElem_cons_zero, List.getElem_cons_succ]
    refine list_val (.bool true) (by kernel_rfl) (by kernel_rfl) ?_
    simp only [Act.put, List.setIfInBounds_toArray, List.set_cons_zero, List.set_cons_succ, List.getElem_toArray, List.getElem_cons_zero, List.getElem_cons_succ]
    refine list_val (.bool true) (by kernel_rfl) (by kernel_rfl) ?_
    simp only [Act.put, List.setIfInBounds_toArray, List.set_cons_zero, List.set_cons_succ, List.getElem_toArray, List.getElem_cons_zero, List.getElem_cons_succ]
    refine list_val (.pointer (some ⟨gd, 0, none⟩)) (by kernel_rfl) (by kernel_rfl) ?_
    simp only [Act.put, List.setIfInBounds_toArray, List.set_cons_zero, List.set_cons_succ, List.getElem_toArray, List.getElem_cons_zero, List.getElem_cons_succ]
    refine list_call 21 #[P0 gd] (by kernel_rfl) (by kernel_rfl) ((dpending_ok F3 gd _ D2 (unhide ok2) (by omega) _ ((unhide hX).ls.gr hB.gr)).mono ?_)
    intro r v15 hp
    obtain ⟨pa1, pc1, rfl, hg⟩ := pnd_len hp
    rw [List.length_map, unhide hpl2]
    replace hB := hB.more hg
    clear hg hp
    refine ⟨_, rfl, ?_⟩
    simp only [Act.put, List.setIfInBounds_toArray, List.set_cons_zero, List.set_cons_succ, List.getElem_toArray, List.getElem_cons_zero, List.getElem_cons_succ]
    refine list_val (.int .i64 1) (by kernel_rfl) (by kernel_rfl) ?_
    simp only [Act.put, List.setIfInBounds_toArray, List.set_cons_zero, List.set_cons_succ, List.getElem_toArray, List.getElem_cons_zero, List.getElem_cons_succ]
    refine list_val (.bool true) (by kernel_rfl) (by go_simp) ?_
    simp only [Act.put, List.setIfInBounds_toArray, List.set_cons_zero, List.set_cons_succ, List.getElem_toArray, List.getElem_cons_zero, List.getElem_cons_succ]
    refine list_val (.bool true) (by kernel_rfl) (by kernel_rfl) ?_
    simp only [Act.put, List.setIfInBounds_toArray, List.set_cons_zero, List.set_cons_succ, List.getElem_toArray, List.getElem_cons_zero, List.getElem_cons_succ]
    refine list_val (.bool true) (by kernel_rfl) (by kernel_rfl) ?_
    simp only [Act.put, List.setIfInBounds_toArray, List.set_cons_zero, List.set_cons_succ, List.getElem_toArray, List.getElem_cons_zero, List.getElem_cons_succ]
    refine list_val (.pointer (some ⟨g, 0, none⟩)) (by kernel_rfl) (by kernel_rfl) ?_
    simp only [Act.put, List.setIfInBounds_toArray, List.set_cons_zero, List.set_cons_succ, List.getElem_toArray, List.getElem_cons_zero, List.getElem_cons_succ]
    refine list_call 29 #[P0 g] (by kernel_rfl) (by kernel_rfl) ((esync_ok F3 G g gd 4 D2 S0 (unhide ok2) (by omega) _ ((unhide hX).ls.gr hB.gr) ((unhide hX).st.gr hB.gr)).mono ?_)
    rintro r v16 ⟨F4, rfl, hL4, hc4⟩
    obtain ⟨k1, k2, k3, k4, k5, k6⟩ := step_sync (unhide hd2) (unhide hlf2)
    replace k1 : D2.syncE = 0 := k1
    replace k3 : D2.syncD.safe.length = D2.safe.length := k3
    replace k4 : D2.syncD.pend = [] := k4
    have ok3 := hide (unhide ok2).sync
    rw [k1]
    have hX9 := ((unhide hX).more hB.gr).dsk k3 hL4 hc4
    generalize D2.syncD = D3 at *
    have hpl3 : Hid (D3.pend.length = 0) := by show D3.pend.length = 0; rw [k4]; rfl
    clear hX
    have hX := hide hX9
    clear hX9 hB hL4 hc4 k1 k2 k3 k4 k5 k6
    have hB := Bl.nil v16
    refine ⟨_, rfl, ?_⟩
    simp only [Act.put, List.setIfInBounds_toArray, List.set_cons_zero, List.set_cons_succ, List.getElem_toArray, List.getElem_cons_zero, List.getElem_cons_succ]
    refine list_val (.bool true) (by kernel_rfl) (by go_simp) ?_
    simp only [Act.put, List.setIfInBounds_toArray, List.set_cons_zero, List.set_cons_succ, List.getElem_toArray, List.getElem_cons_zero, List.getElem_cons_succ]
    refine list_val (.bool true) (by kernel_rfl) (by kernel_rfl) ?_
    simp only [Act.put, List.setIfInBounds_toArray, List.set_cons_zero, List.set_cons_succ, List.getElem_toArray, List.getElem_cons_zero, List.getElem_cons_succ]
    refine list_val (.bool true) (by kernel_rfl) (by kernel_rfl) ?_
    simp only [Act.put, List.setIfInBounds_toArray, List.set_cons_zero, List.set_cons_succ, List.getElem_toArray, List.getElem_cons_zero, List.getElem_cons_succ]
    refine list_val (.pointer (some ⟨gd, 0, none⟩)) (by kernel_rfl) (by kernel_rfl) ?_
    simp only [Act.put, List.setIfInBounds_toArray, List.set_cons_zero, List.set_cons_succ, List.getElem_toArray, List.getElem_cons_zero, List.getElem_cons_succ]
    refine list_call 21 #[P0 gd] (by kernel_rfl) (by kernel_rfl) ((dpending_ok F4 gd _ D3 (unhide ok3) (by omega) _ ((unhide hX).ls.gr hB.gr)).mono ?_)
    intro r v17 hp
    obtain ⟨pa2, pc2, rfl, hg⟩ := pnd_len hp
    rw [List.length_map, unhide hpl3]
    replace hB := hB.more hg
    clear hg hp
    refine ⟨_, rfl, ?_⟩
    simp only [Act.put, List.setIfInBounds_toArray, List.set_cons_zero, List.set_cons_succ, List.getElem_toArray, List.getElem_cons_zero, List.getElem_cons_succ]
    refine list_val (.int .i64 0) (by kernel_rfl) (by kernel_rfl) ?_
    simp only [Act.put, List.setIfInBounds_toArray, List.set_cons_zero, List.set_cons_succ, List.getElem_toArray, List.getElem_cons_zero, List.getElem_cons_succ]
    refine list_val (.bool true) (by kernel_rfl) (by go_simp) ?_
    simp only [Act.put, List.setIfInBounds_toArray, List.set_cons_zero, List.set_cons_succ, List.getElem_toArray, List.getElem_cons_zero, List.getElem_cons_succ]
    refine list_val (.bool true) (by kernel_rfl) (by kernel_rfl) ?_
    simp only [Act.put, List.setIfInBounds_toArray, List.set_cons_zero, List.set_cons_succ, List.getElem_toArray, List.getElem_cons_zero, List.getElem_cons_succ]
    (refine wpList_step fun K hK => ?_; replace hK := hide hK; go_simp; refine unhide hK _ _ ?_; clear hK K)
    refine wpList_nil ?_
    have hZ : Hid (Vl (.bool true) w (.returned (.bool true)) v17) := ⟨rfl, (unhide hBw).gr.trans ((unhide hX).gr.trans hB.gr)⟩
    replace hB := hide hB
    go_wp2_with fail
    rw [unhide hT]
    exact unhide hZ
  have hin : Hid (at0 < 0 ∨ ((D1.safe.length - 2 - 2 * ((D1.safe.length - 2) / 4) : Nat) : Int) ≤ at0) := by show _ ∨ _; rw [unhide hslv]; omega
  have hpl : Hid (D1.pend.length = 0) := by show D1.pend.length = 0; rw [unhide q4]; rfl
  replace hB := hide hB
  go_upto_region 11 with fail
  replace hB := unhide hB
  refine wp_region_lit ?_
  refine list_val (.pointer (some ⟨g, 0, none⟩)) (by kernel_rfl) (by kernel_rfl) ?_
  simp only [Act.put, List.setIfInBounds_toArray, List.set_cons_zero, List.set_cons_succ, List.getElem_toArray, List.getElem_cons_zero, List.getElem_cons_succ]
  refine list_val (.int .i64 at0) (by kernel_rfl) (by kernel_rfl) ?_
  simp only [Act.put, List.setIfInBounds_toArray, List.set_cons_zero, List.set_cons_succ, List.getElem_toArray, List.getElem_cons_zero, List.getElem_cons_succ]
  refine list_val (.agg (kc b)) (by kernel_rfl) (exec_arr _ 50 (.tmp 5) rfl (w.heap.size) (by kernel_rfl) (kc b) 50 _ (((unhide hX).gr).blk ((unhide hBw).get 0 (x := ⟨w.heap.size, kc b, 50⟩) rfl)) Tryd.underlying50 rfl (by rw [Tryd.infoB, kc_size, hbl])) ?_
  simp only [Act.put, List.setIfInBounds_toArray, List.set_cons_zero, List.set_cons_succ, List.getElem_toArray, List.getElem_cons_zero, List.getElem_cons_succ]
  refine list_call 27 #[P0 g, .int .i64 at0, .agg (kc b)] (by kernel_rfl) (by kernel_rfl) ((eput_no F2 G g gd 3 D1 S0 (unhide q2).ok (by omega) at0 (unhide hin) b (unhide hbb) v5 (unhide hX).ls (unhide hX).st).mono ?_)
  rintro r v6 ⟨rfl, hg⟩
  replace hX := hide ((unhide hX).more hg)
  replace hlsa1 := hide ((unhide hlsa1).gr hg)
  replace hgw := hide (hg.blk (unhide hgw))
  replace hf1 := hide ((unhide hf1).gr hg)
  clear hB hg
  have hB := Bl.nil v6
  refine ⟨_, rfl, ?_⟩
  simp only [Act.put, List.setIfInBounds_toArray, List.set_cons_zero, List.set_cons_succ, List.getElem_toArray, List.getElem_cons_zero, List.getElem_cons_succ]
  (refine wpList_step fun K hK => ?_; replace hK := hide hK; go_simp; refine unhide hK _ _ ?_; clear hK K)
  refine wpList_nil ?_
  replace hB := hide hB
  go_upto_region 12 with fail
  replace hB := unhide hB
  refine wp_region_lit ?_
  refine list_val (.pointer (some ⟨g, 0, none⟩)) (by kernel_rfl) (by kernel_rfl) ?_
  simp only [Act.put, List.setIfInBounds_toArray, List.set_cons_zero, List.set_cons_succ, List.getElem_toArray, List.getElem_cons_zero, List.getElem_cons_succ]
  refine list_val (.int .i64 at0) (by kernel_rfl) (by kernel_rfl) ?_
  simp only [Act.put, List.setIfInBounds_toArray, List.set_cons_zero, List.set_cons_succ, List.getElem_toArray, List.getElem_cons_zero, List.getElem_cons_succ]
  refine list_call 28 #[P0 g, .int .i64 at0] (by kernel_rfl) (by kernel_rfl) ((eslot_no F2 G g gd 3 D1 S0 (unhide q2).ok (by omega) at0 (unhide hin) v6 (unhide hX).ls (unhide hX).st).mono ?_)
  rintro r v7 ⟨rfl, hg⟩
  skip
  replace hB := hB.more hg
  clear hg
  refine ⟨_, rfl, ?_⟩
  simp only [Act.put, List.setIfInBounds_toArray, List.set_cons_zero, List.set_cons_succ, List.getElem_toArray, List.getElem_cons_zero, List.getElem_cons_succ]
  refine list_val (.tuple #[.agg (kc ZB), .int .i64 2]) (by kernel_rfl) (by kernel_rfl) ?_
  simp only [Act.put, List.setIfInBounds_toArray, List.set_cons_zero, List.set_cons_succ, List.getElem_toArray, List.getElem_cons_zero, List.getElem_cons_succ]
  refine list_val (.agg (kc ZB)) (by kernel_rfl) (by kernel_rfl) ?_
  simp only [Act.put, List.setIfInBounds_toArray, List.set_cons_zero, List.set_cons_succ, List.getElem_toArray, List.getElem_cons_zero, List.getElem_cons_succ]
  refine list_val (.int .i64 2) (by kernel_rfl) (by kernel_rfl) ?_
  simp only [Act.put, List.setIfInBounds_toArray, List.set_cons_zero, List.set_cons_succ, List.getElem_toArray, List.getElem_cons_zero, List.getElem_cons_succ]
  refine list_valw (.pointer (some ⟨v7.heap.size, 0, none⟩)) (v7.alloc (.cells (kc ZB) 50 (0, 0))) (by kernel_rfl) (by kernel_rfl) ?_
  replace hB := hB.new (kc ZB) 50
  simp only [List.nil_append, List.cons_append] at hB
  generalize World.alloc _ _ = v8 at *
  generalize v7.heap.size = gk at *
  replace hB : Bl v6 [⟨gk, kc ZB, 50⟩] v8 := hB
  simp only [Act.put, List.setIfInBounds_toArray, List.set_cons_zero, List.set_cons_succ, List.getElem_toArray, List.getElem_cons_zero, List.getElem_cons_succ]
  refine list_store 50 (.tmp 12) (.tmp 50) (gk) (kc ZB) 50 (kc ZB) (by kernel_rfl) rfl (by kernel_rfl) (by kernel_rfl) (hB.get 0 (x := ⟨gk, kc ZB, 50⟩) rfl) (by rw [Tryd.infoB, kc_size, ZB_len]) ((show (kc ZB).size = 64 from rfl).trans ((kc_size _).trans ZB_len).symm) (kc_one _) ?_
  replace hB := hB.set 0 (x := ⟨gk, kc ZB, 50⟩) rfl (kc ZB)
  simp only [List.set_cons_zero, List.set_cons_succ] at hB
  generalize World.setRow _ _ _ = v9 at *
  replace hB : Bl v6 [⟨gk, kc ZB, 50⟩] v9 := hB
  simp only [Act.put, List.setIfInBounds_toArray, List.set_cons_zero, List.set_cons_succ, List.getElem_toArray, List.getElem_cons_zero, List.getElem_cons_succ]
  (refine wpList_step fun K hK => ?_; replace hK := hide hK; go_simp; refine unhide hK _ _ ?_; clear hK K)
  refine wpList_nil ?_
  have hgk : Hid (v9.heap[gk]? = some (.cells (kc ZB) 50 (0, 0))) := (hB.get 0 (x := ⟨gk, kc ZB, 50⟩) rfl)
  replace hlsa1 := hide ((unhide hlsa1).gr hB.gr)
  replace hgw := hide (hB.gr.blk (unhide hgw))
  replace hf1 := hide ((unhide hf1).gr hB.gr)
  replace hX := hide ((unhide hX).more hB.gr)
  clear hB
  have hB := Bl.nil v9
  replace hB := hide hB
  go_upto_region 13 with fail
  replace hB := unhide hB
  refine wp_region_lit ?_
  refine list_val (.pointer (some ⟨gd, 0, none⟩)) (by kernel_rfl) (by kernel_rfl) ?_
  simp only [Act.put, List.setIfInBounds_toArray, List.set_cons_zero, List.set_cons_succ, List.getElem_toArray, List.getElem_cons_zero, List.getElem_cons_succ]
  refine list_call 15 #[P0 gd] (by kernel_rfl) (by kernel_rfl) ((sectors_ok F2 gd 3 D1 (unhide q2).ok (by omega) (unhide q2).dead v9 ((unhide hX).ls.gr hB.gr)).mono ?_)
  rintro r v10 ⟨a2, c2, rfl, hlsa2, hfra2, hg⟩
  rw [kn1] at hlsa2 ⊢
  have hfara2 : Hid (∀ i ∈ F2, blkOf a2 ≠ some i) := fun i hi e => by
    rcases hfra2 i e with e | e
    · cases e
    · have h1 := ((unhide hX).ls.gr hB.gr).lt i hi
      omega
  replace hg := hB.gr.trans hg
  replace hlsa1 := hide ((unhide hlsa1).gr hg)
  replace hgw := hide (hg.blk (unhide hgw))
  replace hgk := hide (hg.blk (unhide hgk))
  replace hf1 := hide ((unhide hf1).gr hg)
  replace hX := hide ((unhide hX).more hg)
  clear hB hfra2 hg
  have hB := Bl.nil v10
  replace hlsa2 := hide hlsa2
  refine ⟨_, rfl, ?_⟩
  simp only [Act.put, List.setIfInBounds_toArray, List.set_cons_zero, List.set_cons_succ, List.getElem_toArray, List.getElem_cons_zero, List.getElem_cons_succ]
  refine list_val (.tuple #[.agg #[.slice a2 za c2], .bool true]) (by kernel_rfl) (by kernel_rfl) ?_
  simp only [Act.put, List.setIfInBounds_toArray, List.set_cons_zero, List.set_cons_succ, List.getElem_toArray, List.getElem_cons_zero, List.getElem_cons_succ]
  refine list_val (.agg #[.slice a2 za c2]) (by kernel_rfl) (by kernel_rfl) ?_
  simp only [Act.put, List.setIfInBounds_toArray, List.set_cons_zero, List.set_cons_succ, List.getElem_toArray, List.getElem_cons_zero, List.getElem_cons_succ]
  refine list_val (.bool true) (by kernel_rfl) (by kernel_rfl) ?_
  simp only [Act.put, List.setIfInBounds_toArray, List.set_cons_zero, List.set_cons_succ, List.getElem_toArray, List.getElem_cons_zero, List.getElem_cons_succ]
  refine list_valw (.pointer (some ⟨v10.heap.size, 0, none⟩)) (v10.alloc (.cells (#[.slice none 0 0]) 38 (0, 0))) (by kernel_rfl) (by kernel_rfl) ?_
  replace hB := hB.new (#[.slice none 0 0]) 38
  simp only [List.nil_append, List.cons_append] at hB
  generalize World.alloc _ _ = v11 at *
  generalize v10.heap.size = gy at *
  replace hB : Bl v10 [⟨gy, #[.slice none 0 0], 38⟩] v11 := hB
  simp only [Act.put, List.setIfInBounds_toArray, List.set_cons_zero, List.set_cons_succ, List.getElem_toArray, List.getElem_cons_zero, List.getElem_cons_succ]
  refine list_store 38 (.tmp 14) (.tmp 55) (gy) (#[.slice a2 za c2]) 38 (#[.slice none 0 0]) (by kernel_rfl) rfl (by kernel_rfl) (by kernel_rfl) (hB.get 0 (x := ⟨gy, #[.slice none 0 0], 38⟩) rfl) (by rw [Tryd.infoRd11]; rfl) rfl (by simp [Value.oneCell']) ?_
  replace hB := hB.set 0 (x := ⟨gy, #[.slice none 0 0], 38⟩) rfl (#[.slice a2 za c2])
  simp only [List.set_cons_zero, List.set_cons_succ] at hB
  generalize World.setRow _ _ _ = v12 at *
  replace hB : Bl v10 [⟨gy, #[.slice a2 za c2], 38⟩] v12 := hB
  simp only [Act.put, List.setIfInBounds_toArray, List.set_cons_zero, List.set_cons_succ, List.getElem_toArray, List.getElem_cons_zero, List.getElem_cons_succ]
  (refine wpList_step fun K hK => ?_; replace hK := hide hK; go_simp; refine unhide hK _ _ ?_; clear hK K)
  refine wpList_nil ?_
  have hgy : Hid (v12.heap[gy]? = some (.cells (#[.slice a2 za c2]) 38 (0, 0))) := (hB.get 0 (x := ⟨gy, #[.slice a2 za c2], 38⟩) rfl)
  replace hlsa1 := hide ((unhide hlsa1).gr hB.gr)
  replace hlsa2 := hide ((unhide hlsa2).gr hB.gr)
  replace hgw := hide (hB.gr.blk (unhide hgw))
  replace hgk := hide (hB.gr.blk (unhide hgk))
  replace hf1 := hide ((unhide hf1).gr hB.gr)
  replace hX := hide ((unhide hX).more hB.gr)
  clear hB
  have hB := Bl.nil v12
  rcases hat with hat | ⟨hat1, hat⟩
  · skip
    replace hB := hide hB
    go_upto_region 14 with fail
    replace hB := unhide hB
    refine wp_region_lit ?_
    refine list_val (.int .i64 at0) (by kernel_rfl) (by kernel_rfl) ?_
    simp only [Act.put, List.setIfInBounds_toArray, List.set_cons_zero, List.set_cons_succ, List.getElem_toArray, List.getElem_cons_zero, List.getElem_cons_succ]
    refine list_val (.bool true) (by kernel_rfl) (by go_simp) ?_
    simp only [Act.put, List.setIfInBounds_toArray, List.set_cons_zero, List.set_cons_succ, List.getElem_toArray, List.getElem_cons_zero, List.getElem_cons_succ]
    refine list_val (.bool true) (by kernel_rfl) (by kernel_rfl) ?_
    simp only [Act.put, List.setIfInBounds_toArray, List.set_cons_zero, List.set_cons_succ, List.getElem_toArray, List.getElem_cons_zero, List.getElem_cons_succ]
    refine wpList_step fun K hK => ?_
    rw [if_neg (ne_true_of_eq_false (by kernel_rfl))]
    refine hK _ _ ?_
    clear hK K
    simp only [Act.put, List.setIfInBounds_toArray, List.set_cons_zero, List.set_cons_succ, List.getElem_toArray, List.getElem_cons_zero, List.getElem_cons_succ]
    refine wpList_step fun K hK => ?_
    rw [if_neg (ne_true_of_eq_false (by kernel_rfl))]
    refine hK _ _ ?_
    clear hK K
    simp only [Act.put, List.setIfInBounds_toArray, List.set_cons_zero, List.set_cons_succ, List.getElem_toArray, List.getElem_cons_zero, List.getElem_cons_succ]
    refine wpList_step fun K hK => ?_
    rw [if_neg (ne_true_of_eq_false (by kernel_rfl))]
    refine hK _ _ ?_
    clear hK K
    simp only [Act.put, List.setIfInBounds_toArray, List.set_cons_zero, List.set_cons_succ, List.getElem_toArray, List.getElem_cons_zero, List.getElem_cons_succ]
    refine wpList_step fun K hK => ?_
    rw [if_neg (ne_true_of_eq_false (by kernel_rfl))]
    refine hK _ _ ?_
    clear hK K
    simp only [Act.put, List.setIfInBounds_toArray, List.set_cons_zero, List.set_cons_succ, List.getElem_toArray, List.getElem_cons_zero, List.getElem_cons_succ]
    refine list_val (.bool true) (by kernel_rfl) (by kernel_rfl) ?_
    simp only [Act.put, List.setIfInBounds_toArray, List.set_cons_zero, List.set_cons_succ, List.getElem_toArray, List.getElem_cons_zero, List.getElem_cons_succ]
    refine wpList_nil ?_
    replace hB := hide hB
    go_upto_region 15 with fail
    replace hB := unhide hB
    refine wp_region_lit ?_
    refine list_val (.int .i64 2) (by kernel_rfl) (by kernel_rfl) ?_
    simp only [Act.put, List.setIfInBounds_toArray, List.set_cons_zero, List.set_cons_succ, List.getElem_toArray, List.getElem_cons_zero, List.getElem_cons_succ]
    refine list_val (.bool true) (by kernel_rfl) (by go_simp) ?_
    simp only [Act.put, List.setIfInBounds_toArray, List.set_cons_zero, List.set_cons_succ, List.getElem_toArray, List.getElem_cons_zero, List.getElem_cons_succ]
    refine list_val (.bool true) (by kernel_rfl) (by kernel_rfl) ?_
    simp only [Act.put, List.setIfInBounds_toArray, List.set_cons_zero, List.set_cons_succ, List.getElem_toArray, List.getElem_cons_zero, List.getElem_cons_succ]
    refine list_val (.int .i64 2) (by kernel_rfl) (by kernel_rfl) ?_
    simp only [Act.put, List.setIfInBounds_toArray, List.set_cons_zero, List.set_cons_succ, List.getElem_toArray, List.getElem_cons_zero, List.getElem_cons_succ]
    refine list_val (.bool true) (by kernel_rfl) (by go_simp) ?_
    simp only [Act.put, List.setIfInBounds_toArray, List.set_cons_zero, List.set_cons_succ, List.getElem_toArray, List.getElem_cons_zero, List.getElem_cons_succ]
    refine list_val (.bool true) (by kernel_rfl) (by kernel_rfl) ?_
    simp only [Act.put, List.setIfInBounds_toArray, List.set_cons_zero, List.set_cons_succ, List.getElem_toArray, List.getElem_cons_zero, List.getElem_cons_succ]
    refine list_val (.bool true) (by kernel_rfl) (by kernel_rfl) ?_
    simp only [Act.put, List.setIfInBounds_toArray, List.set_cons_zero, List.set_cons_succ, List.getElem_toArray, List.getElem_cons_zero, List.getElem_cons_succ]
    refine list_val (.agg (kc ZB)) (by kernel_rfl) (exec_arr _ 50 (.tmp 12) rfl gk (by kernel_rfl) (kc ZB) 50 _ (hB.gr.blk (unhide hgk)) Tryd.underlying50 rfl (by rw [Tryd.infoB]; rfl)) ?_
    simp only [Act.put, List.setIfInBounds_toArray, List.set_cons_zero, List.set_cons_succ, List.getElem_toArray, List.getElem_cons_zero, List.getElem_cons_succ]
    refine list_val (.agg (kc ZB)) (by kernel_rfl) (by kernel_rfl) ?_
    simp only [Act.put, List.setIfInBounds_toArray, List.set_cons_zero, List.set_cons_succ, List.getElem_toArray, List.getElem_cons_zero, List.getElem_cons_succ]
    refine list_val (.bool true) (by kernel_rfl) (exec_eqB _ (.tmp 72) (.tmp 73) rfl ZB ZB rfl rfl (by kernel_rfl) (by kernel_rfl) true (decide_eq_true rfl).symm) ?_
    simp only [Act.put, List.setIfInBounds_toArray, List.set_cons_zero, List.set_cons_succ, List.getElem_toArray, List.getElem_cons_zero, List.getElem_cons_succ]
    refine list_val (.bool true) (by kernel_rfl) (by kernel_rfl) ?_
    simp only [Act.put, List.setIfInBounds_toArray, List.set_cons_zero, List.set_cons_succ, List.getElem_toArray, List.getElem_cons_zero, List.getElem_cons_succ]
    refine list_val (.bool true) (by kernel_rfl) (by kernel_rfl) ?_
    simp only [Act.put, List.setIfInBounds_toArray, List.set_cons_zero, List.set_cons_succ, List.getElem_toArray, List.getElem_cons_zero, List.getElem_cons_succ]
    refine list_val (.pointer (some ⟨gd, 0, none⟩)) (by kernel_rfl) (by kernel_rfl) ?_
    simp only [Act.put, List.setIfInBounds_toArray, List.set_cons_zero, List.set_cons_succ, List.getElem_toArray, List.getElem_cons_zero, List.getElem_cons_succ]
    refine list_call 21 #[P0 gd] (by kernel_rfl) (by kernel_rfl) ((dpending_ok F2 gd _ D1 (unhide q2).ok (by omega) _ ((unhide hX).ls.gr hB.gr)).mono ?_)
    intro r v14 hp
    obtain ⟨pa1, pc1, rfl, hg⟩ := pnd_len hp
    rw [List.length_map, unhide hpl]
    replace hB := hB.more hg
    clear hg hp
    refine ⟨_, rfl, ?_⟩
    simp only [Act.put, List.setIfInBounds_toArray, List.set_cons_zero, List.set_cons_succ, List.getElem_toArray, List.getElem_cons_zero, List.getElem_cons_succ]
    refine list_val (.int .i64 0) (by kernel_rfl) (by kernel_rfl) ?_
    simp only [Act.put, List.setIfInBounds_toArray, List.set_cons_zero, List.set_cons_succ, List.getElem_toArray, List.getElem_cons_zero, List.getElem_cons_succ]
    refine list_val (.bool true) (by kernel_rfl) (by go_simp) ?_
    simp only [Act.put, List.setIfInBounds_toArray, List.set_cons_zero, List.set_cons_succ, List.getElem_toArray, List.getElem_cons_zero, List.getElem_cons_succ]
    refine list_val (.bool true) (by kernel_rfl) (by kernel_rfl) ?_
    simp only [Act.put, List.setIfInBounds_toArray, List.set_cons_zero, List.set_cons_succ, List.getElem_toArray, List.getElem_cons_zero, List.getElem_cons_succ]
    (refine wpList_step fun K hK => ?_; replace hK := hide hK; go_simp; refine unhide hK _ _ ?_; clear hK K)
    refine wpList_nil ?_
    have hZ : Hid (Vl (.bool true) w (.returned (.bool true)) v14) := ⟨rfl, (unhide hBw).gr.trans ((unhide hX).gr.trans hB.gr)⟩
    replace hB := hide hB
    go_wp2_with fail
    rw [unhide hT]
    exact unhide hZ
  have hat2 : ¬ at0 < 0 := by omega
  clear hat1
  replace hB := hide hB
  go_upto_region 14 with fail
  replace hB := unhide hB
  refine wp_region_lit ?_
  refine list_val (.int .i64 at0) (by kernel_rfl) (by kernel_rfl) ?_
  simp only [Act.put, List.setIfInBounds_toArray, List.set_cons_zero, List.set_cons_succ, List.getElem_toArray, List.getElem_cons_zero, List.getElem_cons_succ]
  refine list_val (.bool false) (by kernel_rfl) (by go_simp) ?_
  simp only [Act.put, List.setIfInBounds_toArray, List.set_cons_zero, List.set_cons_succ, List.getElem_toArray, List.getElem_cons_zero, List.getElem_cons_succ]
  refine list_val (.bool false) (by kernel_rfl) (by kernel_rfl) ?_
  simp only [Act.put, List.setIfInBounds_toArray, List.set_cons_zero, List.set_cons_succ, List.getElem_toArray, List.getElem_cons_zero, List.getElem_cons_succ]
  refine list_val (.int .i64 at0) (by kernel_rfl) (by kernel_rfl) ?_
  simp only [Act.put, List.setIfInBounds_toArray, List.set_cons_zero, List.set_cons_succ, List.getElem_toArray, List.getElem_cons_zero, List.getElem_cons_succ]
  refine list_val (.pointer (some ⟨g, 0, none⟩)) (by kernel_rfl) (by kernel_rfl) ?_
  simp only [Act.put, List.setIfInBounds_toArray, List.set_cons_zero, List.set_cons_succ, List.getElem_toArray, List.getElem_cons_zero, List.getElem_cons_succ]
  refine list_call 23 #[.pointer (some ⟨g, 0, none⟩)] (by kernel_rfl) (by kernel_rfl) ((eslots_ok F2 G g gd _ D1 S0 (unhide q2).ok _ ((unhide hX).ls.gr hB.gr) ((unhide hX).st.gr hB.gr)).mono ?_)
  rintro r v13 ⟨rfl, hg⟩
  refine ⟨_, rfl, ?_⟩
  rw [unhide hslv]
  replace hB := hB.more hg
  clear hg
  simp only [Act.put, List.setIfInBounds_toArray, List.set_cons_zero, List.set_cons_succ, List.getElem_toArray, List.getElem_cons_zero, List.getElem_cons_succ]
  refine list_val (.bool true) (by kernel_rfl) (by go_simp) ?_
  simp only [Act.put, List.setIfInBounds_toArray, List.set_cons_zero, List.set_cons_succ, List.getElem_toArray, List.getElem_cons_zero, List.getElem_cons_succ]
  refine list_val (.bool true) (by kernel_rfl) (by kernel_rfl) ?_
  simp only [Act.put, List.setIfInBounds_toArray, List.set_cons_zero, List.set_cons_succ, List.getElem_toArray, List.getElem_cons_zero, List.getElem_cons_succ]
  refine wpList_nil ?_
  replace hB := hide hB
  go_upto_region 15 with fail
  replace hB := unhide hB
  refine wp_region_lit ?_
  refine list_val (.int .i64 2) (by kernel_rfl) (by kernel_rfl) ?_
  simp only [Act.put, List.setIfInBounds_toArray, List.set_cons_zero, List.set_cons_succ, List.getElem_toArray, List.getElem_cons_zero, List.getElem_cons_succ]
  refine list_val (.bool true) (by kernel_rfl) (by go_simp) ?_
  simp only [Act.put, List.setIfInBounds_toArray, List.set_cons_zero, List.set_cons_succ, List.getElem_toArray, List.getElem_cons_zero, List.getElem_cons_succ]
  refine list_val (.bool true) (by kernel_rfl) (by kernel_rfl) ?_
  simp only [Act.put, List.setIfInBounds_toArray, List.set_cons_zero, List.set_cons_succ, List.getElem_toArray, List.getElem_cons_zero, List.getElem_cons_succ]
  refine list_val (.int .i64 2) (by kernel_rfl) (by kernel_rfl) ?_
  simp only [Act.put, List.setIfInBounds_toArray, List.set_cons_zero, List.set_cons_succ, List.getElem_toArray, List.getElem_cons_zero, List.getElem_cons_succ]
  refine list_val (.bool true) (by kernel_rfl) (by go_simp) ?_
  simp only [Act.put, List.setIfInBounds_toArray, List.set_cons_zero, List.set_cons_succ, List.getElem_toArray, List.getElem_cons_zero, List.getElem_cons_succ]
  refine list_val (.bool true) (by kernel_rfl) (by kernel_rfl) ?_
  simp only [Act.put, List.setIfInBounds_toArray, List.set_cons_zero, List.set_cons_succ, List.getElem_toArray, List.getElem_cons_zero, List.getElem_cons_succ]
  refine list_val (.bool true) (by kernel_rfl) (by kernel_rfl) ?_
  simp only [Act.put, List.setIfInBounds_toArray, List.set_cons_zero, List.set_cons_succ, List.getElem_toArray, List.getElem_cons_zero, List.getElem_cons_succ]
  refine list_val (.agg (kc ZB)) (by kernel_rfl) (exec_arr _ 50 (.tmp 12) rfl gk (by kernel_rfl) (kc ZB) 50 _ (hB.gr.blk (unhide hgk)) Tryd.underlying50 rfl (by rw [Tryd.infoB]; rfl)) ?_
  simp only [Act.put, List.setIfInBounds_toArray, List.set_cons_zero, List.set_cons_succ, List.getElem_toArray, List.getElem_cons_zero, List.getElem_cons_succ]
  refine list_val (.agg (kc ZB)) (by kernel_rfl) (by kernel_rfl) ?_
  simp only [Act.put, List.setIfInBounds_toArray, List.set_cons_zero, List.set_cons_succ, List.getElem_toArray, List.getElem_cons_zero, List.getElem_cons_succ]
  refine list_val (.bool true) (by kernel_rfl) (exec_eqB _ (.tmp 72) (.tmp 73) rfl ZB ZB rfl rfl (by kernel_rfl) (by kernel_rfl) true (decide_eq_true rfl).symm) ?_
  simp only [Act.put, List.setIfInBounds_toArray, List.set_cons_zero, List.set_cons_succ, List.getElem_toArray, List.getElem_cons_zero, List.getElem_cons_succ]
  refine list_val (.bool true) (by kernel_rfl) (by kernel_rfl) ?_
  simp only [Act.put, List.setIfInBounds_toArray, List.set_cons_zero, List.set_cons_succ, List.getElem_toArray, List.getElem_cons_zero, List.getElem_cons_succ]
  refine list_val (.bool true) (by kernel_rfl) (by kernel_rfl) ?_
  simp only [Act.put, List.setIfInBounds_toArray, List.set_cons_zero, List.set_cons_succ, List.getElem_toArray, List.getElem_cons_zero, List.getElem_cons_succ]
  refine list_val (.pointer (some ⟨gd, 0, none⟩)) (by kernel_rfl) (by kernel_rfl) ?_
  simp only [Act.put, List.setIfInBounds_toArray, List.set_cons_zero, List.set_cons_succ, List.getElem_toArray, List.getElem_cons_zero, List.getElem_cons_succ]
  refine list_call 21 #[P0 gd] (by kernel_rfl) (by kernel_rfl) ((dpending_ok F2 gd _ D1 (unhide q2).ok (by omega) _ ((unhide hX).ls.gr hB.gr)).mono ?_)
  intro r v14 hp
  obtain ⟨pa1, pc1, rfl, hg⟩ := pnd_len hp
  rw [List.length_map, unhide hpl]
  replace hB := hB.more hg
  clear hg hp
  refine ⟨_, rfl, ?_⟩
  simp only [Act.put, List.setIfInBounds_toArray, List.set_cons_zero, List.set_cons_succ, List.getElem_toArray, List.getElem_cons_zero, List.getElem_cons_succ]
  refine list_val (.int .i64 0) (by kernel_rfl) (by kernel_rfl) ?_
  simp only [Act.put, List.setIfInBounds_toArray, List.set_cons_zero, List.set_cons_succ, List.getElem_toArray, List.getElem_cons_zero, List.getElem_cons_succ]
  refine list_val (.bool true) (by kernel_rfl) (by go_simp) ?_
  simp only [Act.put, List.setIfInBounds_toArray, List.set_cons_zero, List.set_cons_succ, List.getElem_toArray, List.getElem_cons_zero, List.getElem_cons_succ]
  refine list_val (.bool true) (by kernel_rfl) (by kernel_rfl) ?_
  simp only [Act.put, List.setIfInBounds_toArray, List.set_cons_zero, List.set_cons_succ, List.getElem_toArray, List.getElem_cons_zero, List.getElem_cons_succ]
  (refine wpList_step fun K hK => ?_; replace hK := hide hK; go_simp; refine unhide hK _ _ ?_; clear hK K)
  refine wpList_nil ?_
  have hZ : Hid (Vl (.bool true) w (.returned (.bool true)) v14) := ⟨rfl, (unhide hBw).gr.trans ((unhide hX).gr.trans hB.gr)⟩
  replace hB := hide hB
  go_wp2_with fail
  rw [unhide hT]
  exact unhide hZ
end Go.Proofs.YtomihjeiaignnaaDoor
