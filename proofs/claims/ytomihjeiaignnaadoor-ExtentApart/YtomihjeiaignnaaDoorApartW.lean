/-
  Of layer 11: what the proofs lean on.
-/
import Derived.Test.YtomihjeiaignnaaDoorApartE1
namespace Go.Proofs.YtomihjeiaignnaaDoor
open Go.RowKit
set_option maxRecDepth 100000
set_option linter.unusedSimpArgs false
set_option linter.unusedVariables false
theorem fd_put {D : Dk} {m : Nat} {s : Sup} {L : List Int} (k : Fd D m s L) (i : Nat) (b : List Int) (hb : BB b) (h1 : 2 + 2 * ((D.safe.length - 2) / 4) ≤ i) (h2 : i < D.safe.length) : D.writeE (i : Int) = 0 ∧ Fd (D.writeD (i : Int) b) (m + 1) s L ∧ (D.writeD (i : Int) b).safe.length = D.safe.length ∧ ∀ j, (D.writeD (i : Int) b).cur j = if i = j then b else D.cur j := by
  obtain ⟨i1, i2, i3, i4, i5, i6⟩ := step_write k.dead (i, b) h2 (by rw [k.left]; decide)
  have hc := Dk.write_cur k.dead (by rw [k.left]; decide) (i : Int) ⟨by omega, by omega⟩ b
  have ok := k.ok.write (i : Int) b hb
  replace i1 : D.writeE (i : Int) = 0 := i1
  replace i2 : (D.writeD (i : Int) b).dead = false := i2
  replace i3 : (D.writeD (i : Int) b).safe = D.safe := i3
  replace i4 : (D.writeD (i : Int) b).pend = D.pend ++ [(i, b)] := i4
  replace i5 : (D.writeD (i : Int) b).left = (if 0 < D.left then D.left - 1 else D.left) := i5
  have hc2 : ∀ j, (D.writeD (i : Int) b).cur j = if i = j then b else D.cur j := fun j => by
    have h9 := hc j
    rw [Int.toNat_natCast] at h9
    exact h9
  generalize D.writeD (i : Int) b = E at *
  have hn := k.len
  have hp := k.hs.ok.p
  have hf := k.hs.fit
  refine ⟨i1, ⟨ok, i2, by rw [i5, k.left]; decide, by rw [i3]; exact hn, ?_, ?_⟩, by rw [i3], hc2⟩
  · intro x hx
    rw [i3]
    rw [i4] at hx
    rcases List.mem_append.1 hx with hx | hx
    · exact k.pend x hx
    · rw [List.mem_singleton] at hx
      rw [hx]
      exact ⟨h1, h2⟩
  · rw [i3]
    refine k.hs.keep ?_ ?_ (fun q hq => ?_)
    · rw [hc2, if_neg (by omega)]
    · rw [hc2, if_neg (by omega)]
    · rw [hc2, if_neg]
      have hpl : s.place = 0 ∨ s.place = 1 := by omega
      rcases hpl with e | e <;> rw [e] <;> simp only [Nat.zero_mul, Nat.one_mul, Nat.add_zero] <;> omega
theorem fd_slot {D : Dk} {m : Nat} {s : Sup} {L : List Int} (k : Fd D m s L) (i : Nat) (h : i < D.safe.length) : D.readB (i : Int) = D.cur i ∧ D.readE (i : Int) = 0 := ⟨read_cur k.dead i h, by unfold Dk.readE; rw [k.dead, if_neg (by decide), if_pos ⟨by omega, by omega⟩]⟩
set_option maxHeartbeats 2000000 in
theorem apart_law (B : List Int) (a : Option Addr) (n c : Nat) (S : List (List Int)) (sa : Option Addr) (sn sc : Nat) (hSb : ∀ b ∈ S, BB b) (w : World) (hf : Fst w) (hA : Lb w a n c B) (hS : Lr 64 w sa sn sc (S.map bv)) : Calls Tryd.prog 8 #[.slice a n c, .slice sa sn sc] w (Vl (.bool true) w) := by
  obtain ⟨T, hT⟩ : ∃ T, T = Vl (.bool true) w := ⟨_, rfl⟩
  rw [← hT]
  have hcA := hA.cap
  have hcm := hA.max
  have hsc := hS.cap
  have hsm := hS.max
  have hsl := hS.len
  rw [List.length_map] at hsl
  replace hT := hide hT; replace hf := hide hf; replace hA := hide hA; replace hS := hide hS; replace hSb := hide hSb; replace hsl := hide hsl
  go_enter Tryd.func8, Tryd.ntmps8
  go_upto_region 1 with fail
  have hB := Bl.nil w
  refine wp_region_lit ?_
  refine list_call 9 #[] (by kernel_rfl) (by kernel_rfl) ((wakes_ok _ ((unhide hf).gr hB.gr)).mono ?_)
  rintro r v0 ⟨rfl, hg⟩
  refine ⟨_, rfl, ?_⟩
  replace hB := hB.more hg
  clear hg
  simp only [Act.put, List.setIfInBounds_toArray, List.set_cons_zero, List.set_cons_succ, List.getElem_toArray, List.getElem_cons_zero, List.getElem_cons_succ]
  refine list_val (.bool false) (by kernel_rfl) (by kernel_rfl) ?_
  simp only [Act.put, List.setIfInBounds_toArray, List.set_cons_zero, List.set_cons_succ, List.getElem_toArray, List.getElem_cons_zero, List.getElem_cons_succ]
  refine wpList_nil ?_
  have hf0 := hide ((unhide hf).gr hB.gr)
  have hA0 := hide ((unhide hA).gr hB.gr)
  have hS0 := hide ((unhide hS).gr hB.gr)
  clear hf hA hS
  obtain ⟨za, hza⟩ : ∃ z : Nat, z = 64 := ⟨_, rfl⟩
  have hzI : (64 : Int) = (za : Int) := by omega
  replace hzI := hide hzI
  replace hB := hide hB
  go_upto_region 3 with fail
  replace hB := unhide hB
  refine wp_region_lit ?_
  refine list_call 10 #[.int .i64 64] (by kernel_rfl) (by kernel_rfl) ((show Calls Tryd.prog 10 #[.int .i64 64] _ (Dne (za : Int) v0) from by rw [unhide hzI]; exact dnew_ok (za : Int) v0).mono ?_)
  intro r v1 h6
  unfold Dne at h6
  rw [if_pos ⟨by omega, by omega⟩] at h6
  obtain ⟨gd, F, rfl, hL, hF, hg1⟩ := h6
  rw [Int.toNat_natCast] at hL
  have kD := dk0_ok za (by omega) (by omega)
  have kl : (dk0 za).safe.length = za := by unfold dk0; simp
  have kd : (dk0 za).dead = false := rfl
  have kf : (dk0 za).left = -1 := rfl
  have kcur : ∀ j, j < za → (dk0 za).cur j = ZB := fun j hj => dk0_cur za j hj
  generalize dk0 za = D0 at *
  refine ⟨_, rfl, ?_⟩
  replace hL := hide hL; replace hF := hide hF; replace kD := hide kD; replace hg1 := hide hg1; replace kf := hide kf; replace kcur := hide kcur
  simp only [Act.put, List.setIfInBounds_toArray, List.set_cons_zero, List.set_cons_succ, List.getElem_toArray, List.getElem_cons_zero, List.getElem_cons_succ]
  refine list_val (.tuple #[.pointer (some ⟨gd, 0, none⟩), .int .i64 0]) (by kernel_rfl) (by kernel_rfl) ?_
  simp only [Act.put, List.setIfInBounds_toArray, List.set_cons_zero, List.set_cons_succ, List.getElem_toArray, List.getElem_cons_zero, List.getElem_cons_succ]
  refine list_val (.pointer (some ⟨gd, 0, none⟩)) (by kernel_rfl) (by kernel_rfl) ?_
  simp only [Act.put, List.setIfInBounds_toArray, List.set_cons_zero, List.set_cons_succ, List.getElem_toArray, List.getElem_cons_zero, List.getElem_cons_succ]
  refine list_val (.int .i64 0) (by kernel_rfl) (by kernel_rfl) ?_
  simp only [Act.put, List.setIfInBounds_toArray, List.set_cons_zero, List.set_cons_succ, List.getElem_toArray, List.getElem_cons_zero, List.getElem_cons_succ]
  (refine wpList_step fun K hK => ?_; replace hK := hide hK; go_simp; refine unhide hK _ _ ?_; clear hK K)
  (refine wpList_step fun K hK => ?_; replace hK := hide hK; go_simp; refine unhide hK _ _ ?_; clear hK K)
  refine wpList_nil ?_
  replace hB := hide hB
  go_upto_region 6 with fail
  replace hB := unhide hB
  refine wp_region_lit ?_
  refine list_val (.pointer (some ⟨gd, 0, none⟩)) (by kernel_rfl) (by kernel_rfl) ?_
  simp only [Act.put, List.setIfInBounds_toArray, List.set_cons_zero, List.set_cons_succ, List.getElem_toArray, List.getElem_cons_zero, List.getElem_cons_succ]
  refine list_call 11 #[P0 gd] (by kernel_rfl) (by kernel_rfl) ((eformat_ok F gd 0 D0 (unhide kD) (by omega) kd (unhide kf) (by omega) _ (unhide hL) ((unhide hf0).gr (unhide hg1)) (fun e => by have := unhide hF 0 e; have := fst_size (unhide hf0); omega)).mono ?_)
  rintro r v2 ⟨g, F2, G, rfl, hL2, hS, hG, hap, hc⟩
  obtain ⟨q1, q2, q3, q4, q5⟩ := fmt_all (unhide kD) kd (unhide kf) (by omega)
  generalize (Dk.runD fmtOps D0).1 = D1 at *
  have hX : Xs v0 F2 G g gd D1 sup0 v2 := by
    have hown : ∀ i ∈ F2, v0.heap.size ≤ i := fun i hi => (hc.new i hi).elim (unhide hF i) (fun e => Nat.le_trans (unhide hg1).size e)
    exact ⟨Chg.own (unhide hg1) hc (unhide hF), hL2, by rw [q3]; exact hS, hown, fun i hi => Nat.le_trans (unhide hg1).size (hG i hi), hap⟩
  have kn1 : D1.safe.length = za := q3.trans kl
  obtain ⟨s1, s2, s3, s4⟩ := sup0_is
  refine ⟨_, rfl, ?_⟩
  clear hL2 hS hG hap hc q1 hL hF kD hg1 kl kd kf q3 s1 s3 s4
  generalize sup0 = S0 at *
  replace hX := hide hX; replace q2 := hide q2; replace q4 := hide q4; replace q5 := hide q5
  simp only [Act.put, List.setIfInBounds_toArray, List.set_cons_zero, List.set_cons_succ, List.getElem_toArray, List.getElem_cons_zero, List.getElem_cons_succ]
  refine list_val (.tuple #[.pointer (some ⟨g, 0, none⟩), .int .i64 0]) (by kernel_rfl) (by kernel_rfl) ?_
  simp only [Act.put, List.setIfInBounds_toArray, List.set_cons_zero, List.set_cons_succ, List.getElem_toArray, List.getElem_cons_zero, List.getElem_cons_succ]
  refine list_val (.pointer (some ⟨g, 0, none⟩)) (by kernel_rfl) (by kernel_rfl) ?_
  simp only [Act.put, List.setIfInBounds_toArray, List.set_cons_zero, List.set_cons_succ, List.getElem_toArray, List.getElem_cons_zero, List.getElem_cons_succ]
  refine list_val (.int .i64 0) (by kernel_rfl) (by kernel_rfl) ?_
  simp only [Act.put, List.setIfInBounds_toArray, List.set_cons_zero, List.set_cons_succ, List.getElem_toArray, List.getElem_cons_zero, List.getElem_cons_succ]
  (refine wpList_step fun K hK => ?_; replace hK := hide hK; go_simp; refine unhide hK _ _ ?_; clear hK K)
  (refine wpList_step fun K hK => ?_; replace hK := hide hK; go_simp; refine unhide hK _ _ ?_; clear hK K)
  refine wpList_nil ?_
  replace hB := hide hB
  go_upto_region 9 with fail
  replace hB := unhide hB
  refine wp_region_lit ?_
  refine list_val (.slice sa sn sc) (by kernel_rfl) (by kernel_rfl) ?_
  simp only [Act.put, List.setIfInBounds_toArray, List.set_cons_zero, List.set_cons_succ, List.getElem_toArray, List.getElem_cons_zero, List.getElem_cons_succ]
  refine list_val (.int .i64 sn) (by kernel_rfl) (by kernel_rfl) ?_
  simp only [Act.put, List.setIfInBounds_toArray, List.set_cons_zero, List.set_cons_succ, List.getElem_toArray, List.getElem_cons_zero, List.getElem_cons_succ]
  refine list_val (.int .i64 0) (by kernel_rfl) (by kernel_rfl) ?_
  simp only [Act.put, List.setIfInBounds_toArray, List.set_cons_zero, List.set_cons_succ, List.getElem_toArray, List.getElem_cons_zero, List.getElem_cons_succ]
  refine wpList_nil ?_
  have hBw := hide hB
  clear hB
  rw [hza] at kn1
  have hJ0 : Hid (∃ F D, Xs v0 F G g gd D S0 v2 ∧ Fd D (3 + min 0 32) S0 [] ∧ D.safe.length = 64 ∧ ∀ i, i < min 0 32 → D.cur (32 + i) = S.getD i []) := ⟨F2, D1, unhide hX, unhide q2, kn1, fun i hi => by omega⟩
  clear hX q2
  go_wp2_with fail
  go_loopw [36] (fun i wr => ∃ j : Nat, j ≤ sn ∧ i = .int .i64 (j : Int) ∧ Hid (∃ F D, Xs v0 F G g gd D S0 wr ∧ Fd D (3 + min j 32) S0 [] ∧ D.safe.length = 64 ∧ ∀ i, i < min j 32 → D.cur (32 + i) = S.getD i [])) (fun i _ => sn - (intOf i).toNat)
  case atStart => exact ⟨0, by omega, rfl, hJ0⟩
  case round =>
  clear hJ0
  obtain ⟨j, hj, rfl, hJ⟩ := hrel
  obtain ⟨F3, D3, hX, hFd, kn3, hcu⟩ := unhide hJ
  clear hJ
  replace hX := hide hX; replace hFd := hide hFd; replace hcu := hide hcu
  by_cases hjz : j < sn
  · skip
    have jI : (j : Int) < (sn : Int) := by omega
    obtain ⟨p, o, rfl, hrw⟩ := (unhide hS0).at_ j hjz
    rw [getD_map bv S j [] [] (by rw [unhide hsl]; exact hjz)] at hrw
    obtain ⟨x, hx⟩ : ∃ x, x = S.getD j [] := ⟨_, rfl⟩
    have hxb : BB x := by rw [hx]; exact unhide hSb _ (mem_of_getD (by rw [unhide hsl]; exact hjz))
    rw [← hx] at hrw
    have hxl := hxb.1
    replace hrw := hide hrw; replace hx := hide hx; replace hxb := hide hxb
    go_upto_region 11 with fail
    have hB := Bl.nil wr
    refine wp_region_lit ?_
    refine list_val (.int .i64 (j : Int)) (by kernel_rfl) (by kernel_rfl) ?_
    simp only [Act.put, List.setIfInBounds_toArray, List.set_cons_zero, List.set_cons_succ, List.getElem_toArray, List.getElem_cons_zero, List.getElem_cons_succ]
    refine list_val (.pointer (some ⟨p, o + 64 * j, none⟩)) (by kernel_rfl) (exec_ib _ (.tmp 34) (.tmp 36) rfl p o sn sc j rfl rfl hjz) ?_
    simp only [Act.put, List.setIfInBounds_toArray, List.set_cons_zero, List.set_cons_succ, List.getElem_toArray, List.getElem_cons_zero, List.getElem_cons_succ]
    refine list_val (.agg (kc x)) (by kernel_rfl) (exec_row _ 50 (.tmp 39) rfl p (o + 64 * j) (by kernel_rfl) (bv x) _ (range_gr (unhide hrw) (unhide hX).gr) Tryd.underlying50 rfl (by rw [Tryd.infoB, bv_len, hxl])) ?_
    simp only [Act.put, List.setIfInBounds_toArray, List.set_cons_zero, List.set_cons_succ, List.getElem_toArray, List.getElem_cons_zero, List.getElem_cons_succ]
    refine list_valw (.pointer (some ⟨wr.heap.size, 0, none⟩)) (wr.alloc (.cells (kc ZB) 50 (0, 0))) (by kernel_rfl) (by kernel_rfl) ?_
    replace hB := hB.new (kc ZB) 50
    simp only [List.nil_append, List.cons_append] at hB
    generalize World.alloc _ _ = y1 at *
    generalize wr.heap.size = gk at *
    replace hB : Bl wr [⟨gk, kc ZB, 50⟩] y1 := hB
    simp only [Act.put, List.setIfInBounds_toArray, List.set_cons_zero, List.set_cons_succ, List.getElem_toArray, List.getElem_cons_zero, List.getElem_cons_succ]
    (refine wpList_step fun K hK => ?_; replace hK := hide hK; go_simp; refine unhide hK _ _ ?_; clear hK K)
    refine list_store 50 (.tmp 9) (.tmp 40) (gk) (kc x) 50 (kc ZB) (by kernel_rfl) rfl (by kernel_rfl) (by kernel_rfl) (hB.get 0 (x := ⟨gk, kc ZB, 50⟩) rfl) (by rw [Tryd.infoB, kc_size, hxl]) ((show (kc ZB).size = 64 from rfl).trans ((kc_size _).trans hxl).symm) (kc_one _) ?_
    replace hB := hB.set 0 (x := ⟨gk, kc ZB, 50⟩) rfl (kc x)
    simp only [List.set_cons_zero, List.set_cons_succ] at hB
    generalize World.setRow _ _ _ = y2 at *
    replace hB : Bl wr [⟨gk, kc x, 50⟩] y2 := hB
    simp only [Act.put, List.setIfInBounds_toArray, List.set_cons_zero, List.set_cons_succ, List.getElem_toArray, List.getElem_cons_zero, List.getElem_cons_succ]
    refine wpList_nil ?_
    replace hB := hide hB
    go_upto_region 12 with fail
    replace hB := unhide hB
    by_cases hj32 : j < 32
    · skip
      have jI2 : (j : Int) < 32 := by omega
      refine wp_region_lit ?_
      refine list_val (.int .i64 (j : Int)) (by kernel_rfl) (by kernel_rfl) ?_
      simp only [Act.put, List.setIfInBounds_toArray, List.set_cons_zero, List.set_cons_succ, List.getElem_toArray, List.getElem_cons_zero, List.getElem_cons_succ]
      refine list_val (.pointer (some ⟨g, 0, none⟩)) (by kernel_rfl) (by kernel_rfl) ?_
      simp only [Act.put, List.setIfInBounds_toArray, List.set_cons_zero, List.set_cons_succ, List.getElem_toArray, List.getElem_cons_zero, List.getElem_cons_succ]
      refine list_call 23 #[.pointer (some ⟨g, 0, none⟩)] (by kernel_rfl) (by kernel_rfl) ((eslots_ok F3 G g gd _ D3 S0 (unhide hFd).ok _ ((unhide hX).ls.gr hB.gr) ((unhide hX).st.gr hB.gr)).mono ?_)
      rintro r y3 ⟨rfl, hg⟩
      refine ⟨_, rfl, ?_⟩
      rw [kn3]
      replace hB := hB.more hg
      clear hg
      simp only [Act.put, List.setIfInBounds_toArray, List.set_cons_zero, List.set_cons_succ, List.getElem_toArray, List.getElem_cons_zero, List.getElem_cons_succ]
      refine list_val (.bool true) (by kernel_rfl) (by go_simp) ?_
      simp only [Act.put, List.setIfInBounds_toArray, List.set_cons_zero, List.set_cons_succ, List.getElem_toArray, List.getElem_cons_zero, List.getElem_cons_succ]
      refine list_val (.bool true) (by kernel_rfl) (by kernel_rfl) ?_
      simp only [Act.put, List.setIfInBounds_toArray, List.set_cons_zero, List.set_cons_succ, List.getElem_toArray, List.getElem_cons_zero, List.getElem_cons_succ]
      refine list_val (.pointer (some ⟨g, 0, none⟩)) (by kernel_rfl) (by kernel_rfl) ?_
      simp only [Act.put, List.setIfInBounds_toArray, List.set_cons_zero, List.set_cons_succ, List.getElem_toArray, List.getElem_cons_zero, List.getElem_cons_succ]
      refine list_val (.int .i64 (j : Int)) (by kernel_rfl) (by kernel_rfl) ?_
      simp only [Act.put, List.setIfInBounds_toArray, List.set_cons_zero, List.set_cons_succ, List.getElem_toArray, List.getElem_cons_zero, List.getElem_cons_succ]
      refine list_val (.agg (kc x)) (by kernel_rfl) (exec_arr _ 50 (.tmp 9) rfl gk (by kernel_rfl) (kc x) 50 _ (hB.get 0 (x := ⟨gk, kc x, 50⟩) rfl) Tryd.underlying50 rfl (by rw [Tryd.infoB, kc_size, hxl])) ?_
      simp only [Act.put, List.setIfInBounds_toArray, List.set_cons_zero, List.set_cons_succ, List.getElem_toArray, List.getElem_cons_zero, List.getElem_cons_succ]
      refine list_call 27 #[P0 g, .int .i64 (j : Int), .agg (kc x)] (by kernel_rfl) (by kernel_rfl) ((eput_ok F3 G g gd _ D3 S0 (unhide hFd).ok (by omega) (j : Int) ⟨by omega, by rw [kn3]; omega⟩ x (unhide hxb) (unhide hX).ap y3 ((unhide hX).ls.gr hB.gr) ((unhide hX).st.gr hB.gr)).mono ?_)
      rintro r y4 ⟨F4, rfl, hL4, hc4⟩
      have hidx : ((2 + 2 * ((D3.safe.length - 2) / 4) : Nat) : Int) + (j : Int) = ((32 + j : Nat) : Int) := by rw [kn3]; omega
      rw [hidx] at hL4 ⊢
      obtain ⟨e1, e2, e3, e4⟩ := fd_put (unhide hFd) (32 + j) x (unhide hxb) (by rw [kn3]; omega) (by rw [kn3]; omega)
      rw [e1]
      have hX4 := ((unhide hX).more hB.gr).dsk e3 hL4 hc4
      generalize D3.writeD ((32 + j : Nat) : Int) x = D4 at *
      have hJ2 : Hid (∃ F D, Xs v0 F G g gd D S0 y4 ∧ Fd D (3 + min (j + 1) 32) S0 [] ∧ D.safe.length = 64 ∧ ∀ i, i < min (j + 1) 32 → D.cur (32 + i) = S.getD i []) := by
        refine ⟨F4, D4, hX4, ?_, e3.trans kn3, fun i hi => ?_⟩
        · rw [show 3 + min (j + 1) 32 = 3 + min j 32 + 1 from by omega]
          exact e2
        · rw [e4]
          by_cases hij : i = j
          · rw [if_pos (by omega), hij]
            exact unhide hx
          · rw [if_neg (by omega)]
            exact unhide hcu i (by omega)
      clear hB hL4 hc4 e1 e2 e3 e4 hX4 hidx hX hFd hcu
      refine ⟨_, rfl, ?_⟩
      simp only [Act.put, List.setIfInBounds_toArray, List.set_cons_zero, List.set_cons_succ, List.getElem_toArray, List.getElem_cons_zero, List.getElem_cons_succ]
      refine list_val (.bool false) (by kernel_rfl) (by go_simp) ?_
      simp only [Act.put, List.setIfInBounds_toArray, List.set_cons_zero, List.set_cons_succ, List.getElem_toArray, List.getElem_cons_zero, List.getElem_cons_succ]
      refine list_val (.bool false) (by kernel_rfl) (by kernel_rfl) ?_
      simp only [Act.put, List.setIfInBounds_toArray, List.set_cons_zero, List.set_cons_succ, List.getElem_toArray, List.getElem_cons_zero, List.getElem_cons_succ]
      refine wpList_nil ?_
      go_wp2_with fail
      go_roundw
      case rel => exact ⟨j + 1, by omega, by go_num, hJ2⟩
      case measure => simp [intOf]; omega
    have jI2 : ¬ (j : Int) < 32 := by omega
    refine wp_region_lit ?_
    refine list_val (.int .i64 (j : Int)) (by kernel_rfl) (by kernel_rfl) ?_
    simp only [Act.put, List.setIfInBounds_toArray, List.set_cons_zero, List.set_cons_succ, List.getElem_toArray, List.getElem_cons_zero, List.getElem_cons_succ]
    refine list_val (.pointer (some ⟨g, 0, none⟩)) (by kernel_rfl) (by kernel_rfl) ?_
    simp only [Act.put, List.setIfInBounds_toArray, List.set_cons_zero, List.set_cons_succ, List.getElem_toArray, List.getElem_cons_zero, List.getElem_cons_succ]
    refine list_call 23 #[.pointer (some ⟨g, 0, none⟩)] (by kernel_rfl) (by kernel_rfl) ((eslots_ok F3 G g gd _ D3 S0 (unhide hFd).ok _ ((unhide hX).ls.gr hB.gr) ((unhide hX).st.gr hB.gr)).mono ?_)
    rintro r y3 ⟨rfl, hg⟩
    refine ⟨_, rfl, ?_⟩
    rw [kn3]
    replace hB := hB.more hg
    clear hg
    simp only [Act.put, List.setIfInBounds_toArray, List.set_cons_zero, List.set_cons_succ, List.getElem_toArray, List.getElem_cons_zero, List.getElem_cons_succ]
    refine list_val (.bool false) (by kernel_rfl) (by go_simp) ?_
    simp only [Act.put, List.setIfInBounds_toArray, List.set_cons_zero, List.set_cons_succ, List.getElem_toArray, List.getElem_cons_zero, List.getElem_cons_succ]
    refine list_val (.bool false) (by kernel_rfl) (by kernel_rfl) ?_
    simp only [Act.put, List.setIfInBounds_toArray, List.set_cons_zero, List.set_cons_succ, List.getElem_toArray, List.getElem_cons_zero, List.getElem_cons_succ]
    refine wpList_step fun K hK => ?_
    rw [if_neg (ne_true_of_eq_false (by kernel_rfl))]
    refine hK _ _ ?_
    clear hK K
    simp only [Act.put, List.setIfInBounds_toArray, List.set_cons_zero, List.set_cons_succ, List.getElem_toArray, List.getElem_cons_zero, List.getElem_cons_succ]
    refine wpList_step fun K hK => ?_
    rw [if_neg (ne_true_of_eq_false (by kernel_rfl))]
    refine hK _ _ ?_
    clear hK K
    simp only [Act.put, List.setIfInBounds_toArray, List.set_cons_zero, List.set_cons_succ, List.getElem_toArray, List.getElem_cons_zero, List.getElem_cons_succ]
    refine wpList_step fun K hK => ?_
    rw [if_neg (ne_true_of_eq_false (by kernel_rfl))]
    refine hK _ _ ?_
    clear hK K
    simp only [Act.put, List.setIfInBounds_toArray, List.set_cons_zero, List.set_cons_succ, List.getElem_toArray, List.getElem_cons_zero, List.getElem_cons_succ]
    refine wpList_step fun K hK => ?_
    rw [if_neg (ne_true_of_eq_false (by kernel_rfl))]
    refine hK _ _ ?_
    clear hK K
    simp only [Act.put, List.setIfInBounds_toArray, List.set_cons_zero, List.set_cons_succ, List.getElem_toArray, List.getElem_cons_zero, List.getElem_cons_succ]
    refine wpList_step fun K hK => ?_
    rw [if_neg (ne_true_of_eq_false (by kernel_rfl))]
    refine hK _ _ ?_
    clear hK K
    simp only [Act.put, List.setIfInBounds_toArray, List.set_cons_zero, List.set_cons_succ, List.getElem_toArray, List.getElem_cons_zero, List.getElem_cons_succ]
    refine list_val (.bool false) (by kernel_rfl) (by kernel_rfl) ?_
    simp only [Act.put, List.setIfInBounds_toArray, List.set_cons_zero, List.set_cons_succ, List.getElem_toArray, List.getElem_cons_zero, List.getElem_cons_succ]
    refine wpList_nil ?_
    have hJ2 : Hid (∃ F D, Xs v0 F G g gd D S0 y3 ∧ Fd D (3 + min (j + 1) 32) S0 [] ∧ D.safe.length = 64 ∧ ∀ i, i < min (j + 1) 32 → D.cur (32 + i) = S.getD i []) := by
      refine ⟨F3, D3, (unhide hX).more hB.gr, ?_, kn3, fun i hi => unhide hcu i (by omega)⟩
      rw [show min (j + 1) 32 = min j 32 from by omega]
      exact unhide hFd
    clear hB hX hFd hcu
    go_wp2_with fail
    go_roundw
    case rel => exact ⟨j + 1, by omega, by go_num, hJ2⟩
    case measure => simp [intOf]; omega
  have jI : ¬ (j : Int) < (sn : Int) := by omega
  have hjs : j = sn := by omega
  rw [hjs] at hcu
  replace hjs := hide hjs
  obtain ⟨Rm, hRm⟩ : ∃ x, x = 64 * ((za - 2) / 4) := ⟨_, rfl⟩
  have hR2 : Rm = 960 := by omega
  obtain ⟨na, hna⟩ : ∃ x, x = min n Rm := ⟨_, rfl⟩
  have ha1 : na ≤ n ∧ na ≤ 960 := by omega
  have ia : 0 ≤ (na : Int) ∧ (na : Int) ≤ (c : Int) := by omega
  have hni : Hid ((na : Int) = if (Rm : Int) < (n : Int) then (Rm : Int) else (n : Int)) := by show _ = _; split <;> omega
  have hRv : Hid (64 * ((D3.safe.length - 2) / 4) = Rm) := by show _ = _; rw [kn3, hR2]
  replace hR2 := hide hR2; replace hRm := hide hRm; replace hna := hide hna
  obtain ⟨md, hmd⟩ : ∃ x, x = 3 + min j 32 := ⟨_, rfl⟩
  rw [← hmd] at hFd
  have hmd2 : md ≤ 35 := by omega
  clear hmd jI hj
  have hB := Bl.nil wr
  replace hB := hide hB
  go_upto_region 15 with fail
  replace hB := unhide hB
  refine wp_region_lit ?_
  refine list_val (.slice a n c) (by kernel_rfl) (by kernel_rfl) ?_
  simp only [Act.put, List.setIfInBounds_toArray, List.set_cons_zero, List.set_cons_succ, List.getElem_toArray, List.getElem_cons_zero, List.getElem_cons_succ]
  refine list_val (.slice a n c) (by kernel_rfl) (by kernel_rfl) ?_
  simp only [Act.put, List.setIfInBounds_toArray, List.set_cons_zero, List.set_cons_succ, List.getElem_toArray, List.getElem_cons_zero, List.getElem_cons_succ]
  refine list_val (.int .i64 n) (by kernel_rfl) (by kernel_rfl) ?_
  simp only [Act.put, List.setIfInBounds_toArray, List.set_cons_zero, List.set_cons_succ, List.getElem_toArray, List.getElem_cons_zero, List.getElem_cons_succ]
  refine list_val (.pointer (some ⟨g, 0, none⟩)) (by kernel_rfl) (by kernel_rfl) ?_
  simp only [Act.put, List.setIfInBounds_toArray, List.set_cons_zero, List.set_cons_succ, List.getElem_toArray, List.getElem_cons_zero, List.getElem_cons_succ]
  refine list_call 14 #[.pointer (some ⟨g, 0, none⟩)] (by kernel_rfl) (by kernel_rfl) ((eroom_ok F3 G g gd _ D3 _ (unhide hFd).ok _ ((unhide hX).ls.gr hB.gr) ((unhide hX).st.gr hB.gr)).mono ?_)
  rintro r y5 ⟨rfl, hg⟩
  refine ⟨_, rfl, ?_⟩
  rw [unhide hRv]
  replace hB := hB.more hg
  clear hg
  simp only [Act.put, List.setIfInBounds_toArray, List.set_cons_zero, List.set_cons_succ, List.getElem_toArray, List.getElem_cons_zero, List.getElem_cons_succ]
  refine list_val (.int .i64 (na : Int)) (by kernel_rfl) (by have hmx := unhide hni; go_simp) ?_
  simp only [Act.put, List.setIfInBounds_toArray, List.set_cons_zero, List.set_cons_succ, List.getElem_toArray, List.getElem_cons_zero, List.getElem_cons_succ]
  refine list_val (.slice a na c) (by kernel_rfl) (by go_simp) ?_
  simp only [Act.put, List.setIfInBounds_toArray, List.set_cons_zero, List.set_cons_succ, List.getElem_toArray, List.getElem_cons_zero, List.getElem_cons_succ]
  (refine wpList_step fun K hK => ?_; replace hK := hide hK; go_simp; refine unhide hK _ _ ?_; clear hK K)
  refine wpList_nil ?_
  obtain ⟨B2, hB2⟩ : ∃ x, x = B.take na := ⟨_, rfl⟩
  have lB := (unhide hA0).pre na ha1.1
  rw [← hB2] at lB
  have nB : B2.length = na := lB.len
  replace lB := hide lB; replace hB2 := hide hB2
  clear hA0
  replace hB := hide hB
  go_upto_region 16 with fail
  replace hB := unhide hB
  refine wp_region_lit ?_
  refine list_val (.pointer (some ⟨g, 0, none⟩)) (by kernel_rfl) (by kernel_rfl) ?_
  simp only [Act.put, List.setIfInBounds_toArray, List.set_cons_zero, List.set_cons_succ, List.getElem_toArray, List.getElem_cons_zero, List.getElem_cons_succ]
  refine list_val (.slice a na c) (by kernel_rfl) (by kernel_rfl) ?_
  simp only [Act.put, List.setIfInBounds_toArray, List.set_cons_zero, List.set_cons_succ, List.getElem_toArray, List.getElem_cons_zero, List.getElem_cons_succ]
  have hfit : na ≤ 64 * ((D3.safe.length - 2) / 4) := by rw [kn3]; omega
  refine list_call 13 #[P0 g, .slice a na c] (by kernel_rfl) (by kernel_rfl) ((etake_ok F3 G g gd _ D3 S0 _ (unhide hFd).ok (by omega) (unhide hFd).dead _ ((unhide hX).ls.gr hB.gr) ((unhide hX).st.gr hB.gr) (unhide hFd).len (unhide hFd).hs.os (unhide hX).ap ((unhide hf0).gr ((unhide hX).gr.trans hB.gr)) ((unhide hX).none_ (unhide hf0)) B2 a na c ((unhide lB).gr ((unhide hX).gr.trans hB.gr)) ((unhide hX).far (unhide lB)) hfit (by omega)).mono ?_)
  rintro r y6 ⟨F4, G4, rfl, hL4, hS4, hap4, hc4⟩
  obtain ⟨t1, t2, t3, -, t5⟩ := take_all (M := B2) (unhide hFd) (unhide lB).isB (by rw [nB]; exact hfit) (by omega)
  rw [t1] at hS4 ⊢
  rw [if_pos rfl] at hS4
  generalize (Dk.runD (takeOps S0 ((D3.safe.length - 2) / 4) B2) D3).1 = D4 at *
  have hX4 := ((unhide hX).more hB.gr).turn t3 hL4 hS4 hap4 hc4
  generalize S0.next B2 = S1 at *
  have kn4 : D4.safe.length = 64 := t3.trans kn3
  have hc4 : Hid (∀ i, i < min sn 32 → D4.cur (32 + i) = S.getD i []) := by
    intro i hi
    rw [t5 _ (by rw [kn3]; omega)]
    exact unhide hcu i hi
  have hRv4 : Hid (64 * ((D4.safe.length - 2) / 4) = Rm) := by show _ = _; rw [t3]; exact unhide hRv
  replace t2 := hide t2
  clear hB hX hL4 hS4 hap4 t1 t3 t5 hFd hcu hfit hRv
  have hX := hide hX4
  clear hX4
  have hB := Bl.nil y6
  refine ⟨_, rfl, ?_⟩
  simp only [Act.put, List.setIfInBounds_toArray, List.set_cons_zero, List.set_cons_succ, List.getElem_toArray, List.getElem_cons_zero, List.getElem_cons_succ]
  refine list_val (.bool false) (by kernel_rfl) (by go_simp) ?_
  simp only [Act.put, List.setIfInBounds_toArray, List.set_cons_zero, List.set_cons_succ, List.getElem_toArray, List.getElem_cons_zero, List.getElem_cons_succ]
  refine wpList_nil ?_
  obtain ⟨mt, hmt⟩ : ∃ x, x = md + ((B2.length + 63) / 64 + 3) := ⟨_, rfl⟩
  rw [← hmt] at t2
  have hmt2 : mt ≤ 100 := by omega
  clear hmt
  replace hB := hide hB
  go_upto_region 18 with fail
  replace hB := unhide hB
  refine wp_region_lit ?_
  refine list_val (.pointer (some ⟨gd, 0, none⟩)) (by kernel_rfl) (by kernel_rfl) ?_
  simp only [Act.put, List.setIfInBounds_toArray, List.set_cons_zero, List.set_cons_succ, List.getElem_toArray, List.getElem_cons_zero, List.getElem_cons_succ]
  refine list_call 18 #[P0 gd] (by kernel_rfl) (by kernel_rfl) ((eopen_ok F4 gd _ D4 S1 B2 (unhide t2).ok (by omega) (unhide t2).dead (by omega) _ ((unhide hX).ls.gr hB.gr) (unhide t2).hs.os ((unhide hf0).gr ((unhide hX).gr.trans hB.gr))).mono ?_)
  rintro r y7 ⟨gt, GT, rfl, hSt, hGt, hg⟩
  replace hg := hB.gr.trans hg
  replace hX := hide ((unhide hX).more hg)
  replace hSt := hide hSt
  clear hg hGt hB
  have hB := Bl.nil y7
  refine ⟨_, rfl, ?_⟩
  simp only [Act.put, List.setIfInBounds_toArray, List.set_cons_zero, List.set_cons_succ, List.getElem_toArray, List.getElem_cons_zero, List.getElem_cons_succ]
  refine list_val (.tuple #[.pointer (some ⟨gt, 0, none⟩), .int .i64 0]) (by kernel_rfl) (by kernel_rfl) ?_
  simp only [Act.put, List.setIfInBounds_toArray, List.set_cons_zero, List.set_cons_succ, List.getElem_toArray, List.getElem_cons_zero, List.getElem_cons_succ]
  refine list_val (.pointer (some ⟨gt, 0, none⟩)) (by kernel_rfl) (by kernel_rfl) ?_
  simp only [Act.put, List.setIfInBounds_toArray, List.set_cons_zero, List.set_cons_succ, List.getElem_toArray, List.getElem_cons_zero, List.getElem_cons_succ]
  refine list_val (.int .i64 0) (by kernel_rfl) (by kernel_rfl) ?_
  simp only [Act.put, List.setIfInBounds_toArray, List.set_cons_zero, List.set_cons_succ, List.getElem_toArray, List.getElem_cons_zero, List.getElem_cons_succ]
  (refine wpList_step fun K hK => ?_; replace hK := hide hK; go_simp; refine unhide hK _ _ ?_; clear hK K)
  (refine wpList_step fun K hK => ?_; replace hK := hide hK; go_simp; refine unhide hK _ _ ?_; clear hK K)
  refine wpList_nil ?_
  replace hB := hide hB
  go_upto_region 21 with fail
  replace hB := unhide hB
  refine wp_region_lit ?_
  refine list_val (.slice sa sn sc) (by kernel_rfl) (by kernel_rfl) ?_
  simp only [Act.put, List.setIfInBounds_toArray, List.set_cons_zero, List.set_cons_succ, List.getElem_toArray, List.getElem_cons_zero, List.getElem_cons_succ]
  refine list_val (.int .i64 sn) (by kernel_rfl) (by kernel_rfl) ?_
  simp only [Act.put, List.setIfInBounds_toArray, List.set_cons_zero, List.set_cons_succ, List.getElem_toArray, List.getElem_cons_zero, List.getElem_cons_succ]
  refine list_val (.int .i64 0) (by kernel_rfl) (by kernel_rfl) ?_
  simp only [Act.put, List.setIfInBounds_toArray, List.set_cons_zero, List.set_cons_succ, List.getElem_toArray, List.getElem_cons_zero, List.getElem_cons_succ]
  refine wpList_nil ?_
  have hG0 : Hid (Gr y7 y7) := Gr.refl y7
  clear hB
  go_wp2_with fail
  go_loopw [73] (fun i wr => ∃ j : Nat, j ≤ sn ∧ i = .int .i64 (j : Int) ∧ Hid (Gr y7 wr)) (fun i _ => sn - (intOf i).toNat)
  case atStart => exact ⟨0, by omega, rfl, hG0⟩
  case round =>
  clear hG0
  obtain ⟨j, hj, rfl, hG⟩ := hrel
  by_cases hjz : j < sn
  · skip
    have jI : (j : Int) < (sn : Int) := by omega
    obtain ⟨p, o, rfl, hrw⟩ := (unhide hS0).at_ j hjz
    rw [getD_map bv S j [] [] (by rw [unhide hsl]; exact hjz)] at hrw
    obtain ⟨x, hx⟩ : ∃ x, x = S.getD j [] := ⟨_, rfl⟩
    have hxb : BB x := by rw [hx]; exact unhide hSb _ (mem_of_getD (by rw [unhide hsl]; exact hjz))
    rw [← hx] at hrw
    have hxl := hxb.1
    replace hrw := hide hrw; replace hx := hide hx; replace hxb := hide hxb
    go_upto_region 23 with fail
    have hB := Bl.nil wr
    refine wp_region_lit ?_
    refine list_val (.int .i64 (j : Int)) (by kernel_rfl) (by kernel_rfl) ?_
    simp only [Act.put, List.setIfInBounds_toArray, List.set_cons_zero, List.set_cons_succ, List.getElem_toArray, List.getElem_cons_zero, List.getElem_cons_succ]
    refine list_val (.pointer (some ⟨p, o + 64 * j, none⟩)) (by kernel_rfl) (exec_ib _ (.tmp 71) (.tmp 73) rfl p o sn sc j rfl rfl hjz) ?_
    simp only [Act.put, List.setIfInBounds_toArray, List.set_cons_zero, List.set_cons_succ, List.getElem_toArray, List.getElem_cons_zero, List.getElem_cons_succ]
    refine list_val (.agg (kc x)) (by kernel_rfl) (exec_row _ 50 (.tmp 76) rfl p (o + 64 * j) (by kernel_rfl) (bv x) _ (range_gr (unhide hrw) ((unhide hX).gr.trans (unhide hG))) Tryd.underlying50 rfl (by rw [Tryd.infoB, bv_len, hxl])) ?_
    simp only [Act.put, List.setIfInBounds_toArray, List.set_cons_zero, List.set_cons_succ, List.getElem_toArray, List.getElem_cons_zero, List.getElem_cons_succ]
    refine list_valw (.pointer (some ⟨wr.heap.size, 0, none⟩)) (wr.alloc (.cells (kc ZB) 50 (0, 0))) (by kernel_rfl) (by kernel_rfl) ?_
    replace hB := hB.new (kc ZB) 50
    simp only [List.nil_append, List.cons_append] at hB
    generalize World.alloc _ _ = y1 at *
    generalize wr.heap.size = gk at *
    replace hB : Bl wr [⟨gk, kc ZB, 50⟩] y1 := hB
    simp only [Act.put, List.setIfInBounds_toArray, List.set_cons_zero, List.set_cons_succ, List.getElem_toArray, List.getElem_cons_zero, List.getElem_cons_succ]
    (refine wpList_step fun K hK => ?_; replace hK := hide hK; go_simp; refine unhide hK _ _ ?_; clear hK K)
    refine list_store 50 (.tmp 12) (.tmp 77) (gk) (kc x) 50 (kc ZB) (by kernel_rfl) rfl (by kernel_rfl) (by kernel_rfl) (hB.get 0 (x := ⟨gk, kc ZB, 50⟩) rfl) (by rw [Tryd.infoB, kc_size, hxl]) ((show (kc ZB).size = 64 from rfl).trans ((kc_size _).trans hxl).symm) (kc_one _) ?_
    replace hB := hB.set 0 (x := ⟨gk, kc ZB, 50⟩) rfl (kc x)
    simp only [List.set_cons_zero, List.set_cons_succ] at hB
    generalize World.setRow _ _ _ = y2 at *
    replace hB : Bl wr [⟨gk, kc x, 50⟩] y2 := hB
    simp only [Act.put, List.setIfInBounds_toArray, List.set_cons_zero, List.set_cons_succ, List.getElem_toArray, List.getElem_cons_zero, List.getElem_cons_succ]
    refine wpList_nil ?_
    replace hB := hide hB
    go_upto_region 24 with fail
    replace hB := unhide hB
    by_cases hj32 : j < 32
    · skip
      have jI2 : ¬ (32 : Int) ≤ (j : Int) := by omega
      refine wp_region_lit ?_
      refine list_val (.int .i64 (j : Int)) (by kernel_rfl) (by kernel_rfl) ?_
      simp only [Act.put, List.setIfInBounds_toArray, List.set_cons_zero, List.set_cons_succ, List.getElem_toArray, List.getElem_cons_zero, List.getElem_cons_succ]
      refine list_val (.pointer (some ⟨g, 0, none⟩)) (by kernel_rfl) (by kernel_rfl) ?_
      simp only [Act.put, List.setIfInBounds_toArray, List.set_cons_zero, List.set_cons_succ, List.getElem_toArray, List.getElem_cons_zero, List.getElem_cons_succ]
      refine list_call 23 #[.pointer (some ⟨g, 0, none⟩)] (by kernel_rfl) (by kernel_rfl) ((eslots_ok F4 G4 g gd _ D4 S1 (unhide t2).ok _ ((unhide hX).ls.gr ((unhide hG).trans hB.gr)) ((unhide hX).st.gr ((unhide hG).trans hB.gr))).mono ?_)
      rintro r y3 ⟨rfl, hg⟩
      refine ⟨_, rfl, ?_⟩
      rw [kn4]
      replace hB := hB.more hg
      clear hg
      simp only [Act.put, List.setIfInBounds_toArray, List.set_cons_zero, List.set_cons_succ, List.getElem_toArray, List.getElem_cons_zero, List.getElem_cons_succ]
      refine list_val (.bool false) (by kernel_rfl) (by go_simp) ?_
      simp only [Act.put, List.setIfInBounds_toArray, List.set_cons_zero, List.set_cons_succ, List.getElem_toArray, List.getElem_cons_zero, List.getElem_cons_succ]
      refine wpList_nil ?_
      obtain ⟨r1_, r2_⟩ := fd_slot (unhide t2) (32 + j) (by rw [kn4]; omega)
      rw [unhide hc4 j (by omega), ← unhide hx] at r1_
      have hidx : ((2 + 2 * ((D4.safe.length - 2) / 4) : Nat) : Int) + (j : Int) = ((32 + j : Nat) : Int) := by rw [kn4]; omega
      replace r1_ := hide r1_; replace r2_ := hide r2_; replace hidx := hide hidx
      replace hB := hide hB
      go_upto_region 25 with fail
      replace hB := unhide hB
      refine wp_region_lit ?_
      refine list_val (.pointer (some ⟨g, 0, none⟩)) (by kernel_rfl) (by kernel_rfl) ?_
      simp only [Act.put, List.setIfInBounds_toArray, List.set_cons_zero, List.set_cons_succ, List.getElem_toArray, List.getElem_cons_zero, List.getElem_cons_succ]
      refine list_val (.int .i64 (j : Int)) (by kernel_rfl) (by kernel_rfl) ?_
      simp only [Act.put, List.setIfInBounds_toArray, List.set_cons_zero, List.set_cons_succ, List.getElem_toArray, List.getElem_cons_zero, List.getElem_cons_succ]
      refine list_call 28 #[P0 g, .int .i64 (j : Int)] (by kernel_rfl) (by kernel_rfl) ((eslot_ok F4 G4 g gd _ D4 S1 (unhide t2).ok (by omega) (j : Int) ⟨by omega, by rw [kn4]; omega⟩ _ ((unhide hX).ls.gr ((unhide hG).trans hB.gr)) ((unhide hX).st.gr ((unhide hG).trans hB.gr))).mono ?_)
      rintro r y4 ⟨rfl, hg⟩
      rw [unhide hidx, unhide r1_, unhide r2_]
      replace hB := hB.more hg
      clear hg
      refine ⟨_, rfl, ?_⟩
      simp only [Act.put, List.setIfInBounds_toArray, List.set_cons_zero, List.set_cons_succ, List.getElem_toArray, List.getElem_cons_zero, List.getElem_cons_succ]
      refine list_val (.tuple #[.agg (kc x), .int .i64 0]) (by kernel_rfl) (by kernel_rfl) ?_
      simp only [Act.put, List.setIfInBounds_toArray, List.set_cons_zero, List.set_cons_succ, List.getElem_toArray, List.getElem_cons_zero, List.getElem_cons_succ]
      refine list_val (.agg (kc x)) (by kernel_rfl) (by kernel_rfl) ?_
      simp only [Act.put, List.setIfInBounds_toArray, List.set_cons_zero, List.set_cons_succ, List.getElem_toArray, List.getElem_cons_zero, List.getElem_cons_succ]
      refine list_val (.int .i64 0) (by kernel_rfl) (by kernel_rfl) ?_
      simp only [Act.put, List.setIfInBounds_toArray, List.set_cons_zero, List.set_cons_succ, List.getElem_toArray, List.getElem_cons_zero, List.getElem_cons_succ]
      refine list_valw (.pointer (some ⟨y4.heap.size, 0, none⟩)) (y4.alloc (.cells (kc ZB) 50 (0, 0))) (by kernel_rfl) (by kernel_rfl) ?_
      replace hB := hB.new (kc ZB) 50
      simp only [List.nil_append, List.cons_append] at hB
      generalize World.alloc _ _ = y5 at *
      generalize y4.heap.size = gm at *
      replace hB : Bl wr [⟨gk, kc x, 50⟩, ⟨gm, kc ZB, 50⟩] y5 := hB
      simp only [Act.put, List.setIfInBounds_toArray, List.set_cons_zero, List.set_cons_succ, List.getElem_toArray, List.getElem_cons_zero, List.getElem_cons_succ]
      refine list_store 50 (.tmp 13) (.tmp 86) (gm) (kc x) 50 (kc ZB) (by kernel_rfl) rfl (by kernel_rfl) (by kernel_rfl) (hB.get 1 (x := ⟨gm, kc ZB, 50⟩) rfl) (by rw [Tryd.infoB, kc_size, hxl]) ((show (kc ZB).size = 64 from rfl).trans ((kc_size _).trans hxl).symm) (kc_one _) ?_
      replace hB := hB.set 1 (x := ⟨gm, kc ZB, 50⟩) rfl (kc x)
      simp only [List.set_cons_zero, List.set_cons_succ] at hB
      generalize World.setRow _ _ _ = y6z at *
      replace hB : Bl wr [⟨gk, kc x, 50⟩, ⟨gm, kc x, 50⟩] y6z := hB
      simp only [Act.put, List.setIfInBounds_toArray, List.set_cons_zero, List.set_cons_succ, List.getElem_toArray, List.getElem_cons_zero, List.getElem_cons_succ]
      (refine wpList_step fun K hK => ?_; replace hK := hide hK; go_simp; refine unhide hK _ _ ?_; clear hK K)
      refine wpList_nil ?_
      replace hB := hide hB
      go_upto_region 26 with fail
      replace hB := unhide hB
      refine wp_region_lit ?_
      refine list_val (.pointer (some ⟨gt, 0, none⟩)) (by kernel_rfl) (by kernel_rfl) ?_
      simp only [Act.put, List.setIfInBounds_toArray, List.set_cons_zero, List.set_cons_succ, List.getElem_toArray, List.getElem_cons_zero, List.getElem_cons_succ]
      refine list_val (.int .i64 (j : Int)) (by kernel_rfl) (by kernel_rfl) ?_
      simp only [Act.put, List.setIfInBounds_toArray, List.set_cons_zero, List.set_cons_succ, List.getElem_toArray, List.getElem_cons_zero, List.getElem_cons_succ]
      refine list_call 28 #[P0 gt, .int .i64 (j : Int)] (by kernel_rfl) (by kernel_rfl) ((eslot_ok F4 GT gt gd _ D4 S1 (unhide t2).ok (by omega) (j : Int) ⟨by omega, by rw [kn4]; omega⟩ _ ((unhide hX).ls.gr ((unhide hG).trans hB.gr)) ((unhide hSt).gr ((unhide hG).trans hB.gr))).mono ?_)
      rintro r y7z ⟨rfl, hg⟩
      rw [unhide hidx, unhide r1_, unhide r2_]
      replace hB := hB.more hg
      clear hg
      refine ⟨_, rfl, ?_⟩
      simp only [Act.put, List.setIfInBounds_toArray, List.set_cons_zero, List.set_cons_succ, List.getElem_toArray, List.getElem_cons_zero, List.getElem_cons_succ]
      refine list_val (.tuple #[.agg (kc x), .int .i64 0]) (by kernel_rfl) (by kernel_rfl) ?_
      simp only [Act.put, List.setIfInBounds_toArray, List.set_cons_zero, List.set_cons_succ, List.getElem_toArray, List.getElem_cons_zero, List.getElem_cons_succ]
      refine list_val (.agg (kc x)) (by kernel_rfl) (by kernel_rfl) ?_
      simp only [Act.put, List.setIfInBounds_toArray, List.set_cons_zero, List.set_cons_succ, List.getElem_toArray, List.getElem_cons_zero, List.getElem_cons_succ]
      refine list_val (.int .i64 0) (by kernel_rfl) (by kernel_rfl) ?_
      simp only [Act.put, List.setIfInBounds_toArray, List.set_cons_zero, List.set_cons_succ, List.getElem_toArray, List.getElem_cons_zero, List.getElem_cons_succ]
      refine list_valw (.pointer (some ⟨y7z.heap.size, 0, none⟩)) (y7z.alloc (.cells (kc ZB) 50 (0, 0))) (by kernel_rfl) (by kernel_rfl) ?_
      replace hB := hB.new (kc ZB) 50
      simp only [List.nil_append, List.cons_append] at hB
      generalize World.alloc _ _ = y8 at *
      generalize y7z.heap.size = gq at *
      replace hB : Bl wr [⟨gk, kc x, 50⟩, ⟨gm, kc x, 50⟩, ⟨gq, kc ZB, 50⟩] y8 := hB
      simp only [Act.put, List.setIfInBounds_toArray, List.set_cons_zero, List.set_cons_succ, List.getElem_toArray, List.getElem_cons_zero, List.getElem_cons_succ]
      refine list_store 50 (.tmp 15) (.tmp 92) (gq) (kc x) 50 (kc ZB) (by kernel_rfl) rfl (by kernel_rfl) (by kernel_rfl) (hB.get 2 (x := ⟨gq, kc ZB, 50⟩) rfl) (by rw [Tryd.infoB, kc_size, hxl]) ((show (kc ZB).size = 64 from rfl).trans ((kc_size _).trans hxl).symm) (kc_one _) ?_
      replace hB := hB.set 2 (x := ⟨gq, kc ZB, 50⟩) rfl (kc x)
      simp only [List.set_cons_zero, List.set_cons_succ] at hB
      generalize World.setRow _ _ _ = y9 at *
      replace hB : Bl wr [⟨gk, kc x, 50⟩, ⟨gm, kc x, 50⟩, ⟨gq, kc x, 50⟩] y9 := hB
      simp only [Act.put, List.setIfInBounds_toArray, List.set_cons_zero, List.set_cons_succ, List.getElem_toArray, List.getElem_cons_zero, List.getElem_cons_succ]
      (refine wpList_step fun K hK => ?_; replace hK := hide hK; go_simp; refine unhide hK _ _ ?_; clear hK K)
      refine wpList_nil ?_
      replace hB := hide hB
      go_upto_region 27 with fail
      replace hB := unhide hB
      refine wp_region_lit ?_
      refine list_val (.int .i64 0) (by kernel_rfl) (by kernel_rfl) ?_
      simp only [Act.put, List.setIfInBounds_toArray, List.set_cons_zero, List.set_cons_succ, List.getElem_toArray, List.getElem_cons_zero, List.getElem_cons_succ]
      refine list_val (.bool false) (by kernel_rfl) (by go_simp) ?_
      simp only [Act.put, List.setIfInBounds_toArray, List.set_cons_zero, List.set_cons_succ, List.getElem_toArray, List.getElem_cons_zero, List.getElem_cons_succ]
      refine list_val (.bool false) (by kernel_rfl) (by kernel_rfl) ?_
      simp only [Act.put, List.setIfInBounds_toArray, List.set_cons_zero, List.set_cons_succ, List.getElem_toArray, List.getElem_cons_zero, List.getElem_cons_succ]
      refine list_val (.int .i64 0) (by kernel_rfl) (by kernel_rfl) ?_
      simp only [Act.put, List.setIfInBounds_toArray, List.set_cons_zero, List.set_cons_succ, List.getElem_toArray, List.getElem_cons_zero, List.getElem_cons_succ]
      refine list_val (.bool false) (by kernel_rfl) (by go_simp) ?_
      simp only [Act.put, List.setIfInBounds_toArray, List.set_cons_zero, List.set_cons_succ, List.getElem_toArray, List.getElem_cons_zero, List.getElem_cons_succ]
      refine list_val (.bool false) (by kernel_rfl) (by kernel_rfl) ?_
      simp only [Act.put, List.setIfInBounds_toArray, List.set_cons_zero, List.set_cons_succ, List.getElem_toArray, List.getElem_cons_zero, List.getElem_cons_succ]
      refine list_val (.bool false) (by kernel_rfl) (by kernel_rfl) ?_
      simp only [Act.put, List.setIfInBounds_toArray, List.set_cons_zero, List.set_cons_succ, List.getElem_toArray, List.getElem_cons_zero, List.getElem_cons_succ]
      refine list_val (.agg (kc x)) (by kernel_rfl) (exec_arr _ 50 (.tmp 12) rfl gk (by kernel_rfl) (kc x) 50 _ (hB.get 0 (x := ⟨gk, kc x, 50⟩) rfl) Tryd.underlying50 rfl (by rw [Tryd.infoB, kc_size, hxl])) ?_
      simp only [Act.put, List.setIfInBounds_toArray, List.set_cons_zero, List.set_cons_succ, List.getElem_toArray, List.getElem_cons_zero, List.getElem_cons_succ]
      refine list_val (.agg (kc x)) (by kernel_rfl) (exec_arr _ 50 (.tmp 13) rfl gm (by kernel_rfl) (kc x) 50 _ (hB.get 1 (x := ⟨gm, kc x, 50⟩) rfl) Tryd.underlying50 rfl (by rw [Tryd.infoB, kc_size, hxl])) ?_
      simp only [Act.put, List.setIfInBounds_toArray, List.set_cons_zero, List.set_cons_succ, List.getElem_toArray, List.getElem_cons_zero, List.getElem_cons_succ]
      refine list_val (.bool false) (by kernel_rfl) (exec_neB _ (.tmp 101) (.tmp 102) rfl x hxl (by kernel_rfl) (by kernel_rfl)) ?_
      simp only [Act.put, List.setIfInBounds_toArray, List.set_cons_zero, List.set_cons_succ, List.getElem_toArray, List.getElem_cons_zero, List.getElem_cons_succ]
      refine list_val (.bool false) (by kernel_rfl) (by kernel_rfl) ?_
      simp only [Act.put, List.setIfInBounds_toArray, List.set_cons_zero, List.set_cons_succ, List.getElem_toArray, List.getElem_cons_zero, List.getElem_cons_succ]
      refine list_val (.bool false) (by kernel_rfl) (by kernel_rfl) ?_
      simp only [Act.put, List.setIfInBounds_toArray, List.set_cons_zero, List.set_cons_succ, List.getElem_toArray, List.getElem_cons_zero, List.getElem_cons_succ]
      refine list_val (.agg (kc x)) (by kernel_rfl) (exec_arr _ 50 (.tmp 12) rfl gk (by kernel_rfl) (kc x) 50 _ (hB.get 0 (x := ⟨gk, kc x, 50⟩) rfl) Tryd.underlying50 rfl (by rw [Tryd.infoB, kc_size, hxl])) ?_
      simp only [Act.put, List.setIfInBounds_toArray, List.set_cons_zero, List.set_cons_succ, List.getElem_toArray, List.getElem_cons_zero, List.getElem_cons_succ]
      refine list_val (.agg (kc x)) (by kernel_rfl) (exec_arr _ 50 (.tmp 15) rfl gq (by kernel_rfl) (kc x) 50 _ (hB.get 2 (x := ⟨gq, kc x, 50⟩) rfl) Tryd.underlying50 rfl (by rw [Tryd.infoB, kc_size, hxl])) ?_
      simp only [Act.put, List.setIfInBounds_toArray, List.set_cons_zero, List.set_cons_succ, List.getElem_toArray, List.getElem_cons_zero, List.getElem_cons_succ]
      refine list_val (.bool false) (by kernel_rfl) (exec_neB _ (.tmp 106) (.tmp 107) rfl x hxl (by kernel_rfl) (by kernel_rfl)) ?_
      simp only [Act.put, List.setIfInBounds_toArray, List.set_cons_zero, List.set_cons_succ, List.getElem_toArray, List.getElem_cons_zero, List.getElem_cons_succ]
      refine list_val (.bool false) (by kernel_rfl) (by kernel_rfl) ?_
      simp only [Act.put, List.setIfInBounds_toArray, List.set_cons_zero, List.set_cons_succ, List.getElem_toArray, List.getElem_cons_zero, List.getElem_cons_succ]
      refine wpList_nil ?_
      have hG2 : Hid (Gr y7 y9) := ((unhide hG).trans hB.gr)
      clear hB hG
      go_wp2_with fail
      go_roundw
      case rel => exact ⟨j + 1, by omega, by go_num, hG2⟩
      case measure => simp [intOf]; omega
    have jI2 : (32 : Int) ≤ (j : Int) := by omega
    refine wp_region_lit ?_
    refine list_val (.int .i64 (j : Int)) (by kernel_rfl) (by kernel_rfl) ?_
    simp only [Act.put, List.setIfInBounds_toArray, List.set_cons_zero, List.set_cons_succ, List.getElem_toArray, List.getElem_cons_zero, List.getElem_cons_succ]
    refine list_val (.pointer (some ⟨g, 0, none⟩)) (by kernel_rfl) (by kernel_rfl) ?_
    simp only [Act.put, List.setIfInBounds_toArray, List.set_cons_zero, List.set_cons_succ, List.getElem_toArray, List.getElem_cons_zero, List.getElem_cons_succ]
    refine list_call 23 #[.pointer (some ⟨g, 0, none⟩)] (by kernel_rfl) (by kernel_rfl) ((eslots_ok F4 G4 g gd _ D4 S1 (unhide t2).ok _ ((unhide hX).ls.gr ((unhide hG).trans hB.gr)) ((unhide hX).st.gr ((unhide hG).trans hB.gr))).mono ?_)
    rintro r y3 ⟨rfl, hg⟩
    refine ⟨_, rfl, ?_⟩
    rw [kn4]
    replace hB := hB.more hg
    clear hg
    simp only [Act.put, List.setIfInBounds_toArray, List.set_cons_zero, List.set_cons_succ, List.getElem_toArray, List.getElem_cons_zero, List.getElem_cons_succ]
    refine list_val (.bool true) (by kernel_rfl) (by go_simp) ?_
    simp only [Act.put, List.setIfInBounds_toArray, List.set_cons_zero, List.set_cons_succ, List.getElem_toArray, List.getElem_cons_zero, List.getElem_cons_succ]
    refine wpList_nil ?_
    have hgL : Gr y7 y3 := ((unhide hG).trans hB.gr)
    clear hB hG
    have hB : Bl y7 [] y3 := (Bl.nil y7).more hgL
    clear hgL
    replace hB := hide hB
    go_upto_region 30 with fail
    replace hB := unhide hB
    refine wp_region_lit ?_
    refine list_val (.pointer (some ⟨gt, 0, none⟩)) (by kernel_rfl) (by kernel_rfl) ?_
    simp only [Act.put, List.setIfInBounds_toArray, List.set_cons_zero, List.set_cons_succ, List.getElem_toArray, List.getElem_cons_zero, List.getElem_cons_succ]
    refine list_call 17 #[P0 gt] (by kernel_rfl) (by kernel_rfl) ((esnap_ok F4 GT gt gd _ D4 S1 B2 (unhide t2).ok (by omega) (unhide t2).dead (unhide t2).len _ ((unhide hX).ls.gr hB.gr) ((unhide hSt).gr hB.gr) (unhide t2).hs.os ((unhide hf0).gr ((unhide hX).gr.trans hB.gr))).mono ?_)
    rintro r z1 ⟨v5, rfl, hO, hg⟩
    obtain ⟨a5, c5, rfl, l5⟩ := ob_lb hO (unhide lB).isB (n := na) nB
    refine ⟨_, rfl, ?_⟩
    replace hB := hB.more hg
    replace l5 := hide l5
    clear hO hg
    simp only [Act.put, List.setIfInBounds_toArray, List.set_cons_zero, List.set_cons_succ, List.getElem_toArray, List.getElem_cons_zero, List.getElem_cons_succ]
    refine list_val (.tuple #[.slice a5 na c5, .int .i64 0]) (by kernel_rfl) (by kernel_rfl) ?_
    simp only [Act.put, List.setIfInBounds_toArray, List.set_cons_zero, List.set_cons_succ, List.getElem_toArray, List.getElem_cons_zero, List.getElem_cons_succ]
    refine list_val (.slice a5 na c5) (by kernel_rfl) (by kernel_rfl) ?_
    simp only [Act.put, List.setIfInBounds_toArray, List.set_cons_zero, List.set_cons_succ, List.getElem_toArray, List.getElem_cons_zero, List.getElem_cons_succ]
    refine list_val (.int .i64 0) (by kernel_rfl) (by kernel_rfl) ?_
    simp only [Act.put, List.setIfInBounds_toArray, List.set_cons_zero, List.set_cons_succ, List.getElem_toArray, List.getElem_cons_zero, List.getElem_cons_succ]
    (refine wpList_step fun K hK => ?_; replace hK := hide hK; go_simp; refine unhide hK _ _ ?_; clear hK K)
    (refine wpList_step fun K hK => ?_; replace hK := hide hK; go_simp; refine unhide hK _ _ ?_; clear hK K)
    refine wpList_nil ?_
    replace hB := hide hB
    go_upto_region 31 with fail
    replace hB := unhide hB
    refine wp_region_lit ?_
    refine list_val (.int .i64 0) (by kernel_rfl) (by kernel_rfl) ?_
    simp only [Act.put, List.setIfInBounds_toArray, List.set_cons_zero, List.set_cons_succ, List.getElem_toArray, List.getElem_cons_zero, List.getElem_cons_succ]
    refine list_val (.bool true) (by kernel_rfl) (by go_simp) ?_
    simp only [Act.put, List.setIfInBounds_toArray, List.set_cons_zero, List.set_cons_succ, List.getElem_toArray, List.getElem_cons_zero, List.getElem_cons_succ]
    refine list_val (.bool true) (by kernel_rfl) (by kernel_rfl) ?_
    simp only [Act.put, List.setIfInBounds_toArray, List.set_cons_zero, List.set_cons_succ, List.getElem_toArray, List.getElem_cons_zero, List.getElem_cons_succ]
    refine list_val (.slice a5 na c5) (by kernel_rfl) (by kernel_rfl) ?_
    simp only [Act.put, List.setIfInBounds_toArray, List.set_cons_zero, List.set_cons_succ, List.getElem_toArray, List.getElem_cons_zero, List.getElem_cons_succ]
    refine list_val (.slice a na c) (by kernel_rfl) (by kernel_rfl) ?_
    simp only [Act.put, List.setIfInBounds_toArray, List.set_cons_zero, List.set_cons_succ, List.getElem_toArray, List.getElem_cons_zero, List.getElem_cons_succ]
    refine list_call 34 #[.slice a5 na c5, .slice a na c] (by kernel_rfl) (by kernel_rfl) ((eequal_ok B2 B2 _ _ na _ na _ _ (unhide l5) ((unhide lB).gr ((unhide hX).gr.trans hB.gr)) (by omega)).mono ?_)
    rintro r z2 ⟨rfl, hg⟩
    refine ⟨_, rfl, ?_⟩
    rw [decide_eq_true rfl]
    replace hB := hB.more hg
    clear hg
    simp only [Act.put, List.setIfInBounds_toArray, List.set_cons_zero, List.set_cons_succ, List.getElem_toArray, List.getElem_cons_zero, List.getElem_cons_succ]
    refine list_val (.bool true) (by kernel_rfl) (by kernel_rfl) ?_
    simp only [Act.put, List.setIfInBounds_toArray, List.set_cons_zero, List.set_cons_succ, List.getElem_toArray, List.getElem_cons_zero, List.getElem_cons_succ]
    refine list_val (.bool true) (by kernel_rfl) (by kernel_rfl) ?_
    simp only [Act.put, List.setIfInBounds_toArray, List.set_cons_zero, List.set_cons_succ, List.getElem_toArray, List.getElem_cons_zero, List.getElem_cons_succ]
    refine list_val (.pointer (some ⟨gt, 0, none⟩)) (by kernel_rfl) (by kernel_rfl) ?_
    simp only [Act.put, List.setIfInBounds_toArray, List.set_cons_zero, List.set_cons_succ, List.getElem_toArray, List.getElem_cons_zero, List.getElem_cons_succ]
    refine list_call 20 #[.pointer (some ⟨gt, 0, none⟩)] (by kernel_rfl) (by kernel_rfl) ((eturn_ok F4 GT gt gd _ D4 S1 B2 (unhide t2).ok (by omega) (unhide t2).dead (unhide t2).len _ ((unhide hX).ls.gr hB.gr) ((unhide hSt).gr hB.gr) (unhide t2).hs.os ((unhide hf0).gr ((unhide hX).gr.trans hB.gr))).mono ?_)
    rintro r z3 ⟨rfl, hg⟩
    refine ⟨_, rfl, ?_⟩
    replace hB := hB.more hg
    clear hg
    simp only [Act.put, List.setIfInBounds_toArray, List.set_cons_zero, List.set_cons_succ, List.getElem_toArray, List.getElem_cons_zero, List.getElem_cons_succ]
    refine list_val (.pointer (some ⟨g, 0, none⟩)) (by kernel_rfl) (by kernel_rfl) ?_
    simp only [Act.put, List.setIfInBounds_toArray, List.set_cons_zero, List.set_cons_succ, List.getElem_toArray, List.getElem_cons_zero, List.getElem_cons_succ]
    refine list_call 20 #[.pointer (some ⟨g, 0, none⟩)] (by kernel_rfl) (by kernel_rfl) ((eturn_ok F4 G4 g gd _ D4 S1 B2 (unhide t2).ok (by omega) (unhide t2).dead (unhide t2).len _ ((unhide hX).ls.gr hB.gr) ((unhide hX).st.gr hB.gr) (unhide t2).hs.os ((unhide hf0).gr ((unhide hX).gr.trans hB.gr))).mono ?_)
    rintro r z4 ⟨rfl, hg⟩
    refine ⟨_, rfl, ?_⟩
    replace hB := hB.more hg
    clear hg
    simp only [Act.put, List.setIfInBounds_toArray, List.set_cons_zero, List.set_cons_succ, List.getElem_toArray, List.getElem_cons_zero, List.getElem_cons_succ]
    refine list_val (.bool true) (by kernel_rfl) (by go_simp) ?_
    simp only [Act.put, List.setIfInBounds_toArray, List.set_cons_zero, List.set_cons_succ, List.getElem_toArray, List.getElem_cons_zero, List.getElem_cons_succ]
    refine list_val (.bool true) (by kernel_rfl) (by kernel_rfl) ?_
    simp only [Act.put, List.setIfInBounds_toArray, List.set_cons_zero, List.set_cons_succ, List.getElem_toArray, List.getElem_cons_zero, List.getElem_cons_succ]
    refine list_val (.bool true) (by kernel_rfl) (by kernel_rfl) ?_
    simp only [Act.put, List.setIfInBounds_toArray, List.set_cons_zero, List.set_cons_succ, List.getElem_toArray, List.getElem_cons_zero, List.getElem_cons_succ]
    refine list_val (.pointer (some ⟨gt, 0, none⟩)) (by kernel_rfl) (by kernel_rfl) ?_
    simp only [Act.put, List.setIfInBounds_toArray, List.set_cons_zero, List.set_cons_succ, List.getElem_toArray, List.getElem_cons_zero, List.getElem_cons_succ]
    refine list_call 14 #[.pointer (some ⟨gt, 0, none⟩)] (by kernel_rfl) (by kernel_rfl) ((eroom_ok F4 GT gt gd _ D4 _ (unhide t2).ok _ ((unhide hX).ls.gr hB.gr) ((unhide hSt).gr hB.gr)).mono ?_)
    rintro r z5 ⟨rfl, hg⟩
    refine ⟨_, rfl, ?_⟩
    rw [unhide hRv4]
    replace hB := hB.more hg
    clear hg
    simp only [Act.put, List.setIfInBounds_toArray, List.set_cons_zero, List.set_cons_succ, List.getElem_toArray, List.getElem_cons_zero, List.getElem_cons_succ]
    refine list_val (.pointer (some ⟨g, 0, none⟩)) (by kernel_rfl) (by kernel_rfl) ?_
    simp only [Act.put, List.setIfInBounds_toArray, List.set_cons_zero, List.set_cons_succ, List.getElem_toArray, List.getElem_cons_zero, List.getElem_cons_succ]
    refine list_call 14 #[.pointer (some ⟨g, 0, none⟩)] (by kernel_rfl) (by kernel_rfl) ((eroom_ok F4 G4 g gd _ D4 _ (unhide t2).ok _ ((unhide hX).ls.gr hB.gr) ((unhide hX).st.gr hB.gr)).mono ?_)
    rintro r z6 ⟨rfl, hg⟩
    refine ⟨_, rfl, ?_⟩
    rw [unhide hRv4]
    replace hB := hB.more hg
    clear hg
    simp only [Act.put, List.setIfInBounds_toArray, List.set_cons_zero, List.set_cons_succ, List.getElem_toArray, List.getElem_cons_zero, List.getElem_cons_succ]
    refine list_val (.bool true) (by kernel_rfl) (by go_simp) ?_
    simp only [Act.put, List.setIfInBounds_toArray, List.set_cons_zero, List.set_cons_succ, List.getElem_toArray, List.getElem_cons_zero, List.getElem_cons_succ]
    refine list_val (.bool true) (by kernel_rfl) (by kernel_rfl) ?_
    simp only [Act.put, List.setIfInBounds_toArray, List.set_cons_zero, List.set_cons_succ, List.getElem_toArray, List.getElem_cons_zero, List.getElem_cons_succ]
    (refine wpList_step fun K hK => ?_; replace hK := hide hK; go_simp; refine unhide hK _ _ ?_; clear hK K)
    refine wpList_nil ?_
    have hZ : Hid (Vl (.bool true) w (.returned (.bool true)) z6) := ⟨rfl, (unhide hBw).gr.trans ((unhide hX).gr.trans hB.gr)⟩
    replace hB := hide hB
    go_wp2_with fail
    rw [unhide hT]
    exact unhide hZ
  have jI : ¬ (j : Int) < (sn : Int) := by omega
  have hgL : Gr y7 wr := unhide hG
  clear hG
  have hB : Bl y7 [] wr := (Bl.nil y7).more hgL
  clear hgL
  replace hB := hide hB
  go_upto_region 30 with fail
  replace hB := unhide hB
  refine wp_region_lit ?_
  refine list_val (.pointer (some ⟨gt, 0, none⟩)) (by kernel_rfl) (by kernel_rfl) ?_
  simp only [Act.put, List.setIfInBounds_toArray, List.set_cons_zero, List.set_cons_succ, List.getElem_toArray, List.getElem_cons_zero, List.getElem_cons_succ]
  refine list_call 17 #[P0 gt] (by kernel_rfl) (by kernel_rfl) ((esnap_ok F4 GT gt gd _ D4 S1 B2 (unhide t2).ok (by omega) (unhide t2).dead (unhide t2).len _ ((unhide hX).ls.gr hB.gr) ((unhide hSt).gr hB.gr) (unhide t2).hs.os ((unhide hf0).gr ((unhide hX).gr.trans hB.gr))).mono ?_)
  rintro r z1 ⟨v5, rfl, hO, hg⟩
  obtain ⟨a5, c5, rfl, l5⟩ := ob_lb hO (unhide lB).isB (n := na) nB
  refine ⟨_, rfl, ?_⟩
  replace hB := hB.more hg
  replace l5 := hide l5
  clear hO hg
  simp only [Act.put, List.setIfInBounds_toArray, List.set_cons_zero, List.set_cons_succ, List.getElem_toArray, List.getElem_cons_zero, List.getElem_cons_succ]
  refine list_val (.tuple #[.slice a5 na c5, .int .i64 0]) (by kernel_rfl) (by kernel_rfl) ?_
  simp only [Act.put, List.setIfInBounds_toArray, List.set_cons_zero, List.set_cons_succ, List.getElem_toArray, List.getElem_cons_zero, List.getElem_cons_succ]
  refine list_val (.slice a5 na c5) (by kernel_rfl) (by kernel_rfl) ?_
  simp only [Act.put, List.setIfInBounds_toArray, List.set_cons_zero, List.set_cons_succ, List.getElem_toArray, List.getElem_cons_zero, List.getElem_cons_succ]
  refine list_val (.int .i64 0) (by kernel_rfl) (by kernel_rfl) ?_
  simp only [Act.put, List.setIfInBounds_toArray, List.set_cons_zero, List.set_cons_succ, List.getElem_toArray, List.getElem_cons_zero, List.getElem_cons_succ]
  (refine wpList_step fun K hK => ?_; replace hK := hide hK; go_simp; refine unhide hK _ _ ?_; clear hK K)
  (refine wpList_step fun K hK => ?_; replace hK := hide hK; go_simp; refine unhide hK _ _ ?_; clear hK K)
  refine wpList_nil ?_
  replace hB := hide hB
  go_upto_region 31 with fail
  replace hB := unhide hB
  refine wp_region_lit ?_
  refine list_val (.int .i64 0) (by kernel_rfl) (by kernel_rfl) ?_
  simp only [Act.put, List.setIfInBounds_toArray, List.set_cons_zero, List.set_cons_succ, List.getElem_toArray, List.getElem_cons_zero, List.getElem_cons_succ]
  refine list_val (.bool true) (by kernel_rfl) (by go_simp) ?_
  simp only [Act.put, List.setIfInBounds_toArray, List.set_cons_zero, List.set_cons_succ, List.getElem_toArray, List.getElem_cons_zero, List.getElem_cons_succ]
  refine list_val (.bool true) (by kernel_rfl) (by kernel_rfl) ?_
  simp only [Act.put, List.setIfInBounds_toArray, List.set_cons_zero, List.set_cons_succ, List.getElem_toArray, List.getElem_cons_zero, List.getElem_cons_succ]
  refine list_val (.slice a5 na c5) (by kernel_rfl) (by kernel_rfl) ?_
  simp only [Act.put, List.setIfInBounds_toArray, List.set_cons_zero, List.set_cons_succ, List.getElem_toArray, List.getElem_cons_zero, List.getElem_cons_succ]
  refine list_val (.slice a na c) (by kernel_rfl) (by kernel_rfl) ?_
  simp only [Act.put, List.setIfInBounds_toArray, List.set_cons_zero, List.set_cons_succ, List.getElem_toArray, List.getElem_cons_zero, List.getElem_cons_succ]
  refine list_call 34 #[.slice a5 na c5, .slice a na c] (by kernel_rfl) (by kernel_rfl) ((eequal_ok B2 B2 _ _ na _ na _ _ (unhide l5) ((unhide lB).gr ((unhide hX).gr.trans hB.gr)) (by omega)).mono ?_)
  rintro r z2 ⟨rfl, hg⟩
  refine ⟨_, rfl, ?_⟩
  rw [decide_eq_true rfl]
  replace hB := hB.more hg
  clear hg
  simp only [Act.put, List.setIfInBounds_toArray, List.set_cons_zero, List.set_cons_succ, List.getElem_toArray, List.getElem_cons_zero, List.getElem_cons_succ]
  refine list_val (.bool true) (by kernel_rfl) (by kernel_rfl) ?_
  simp only [Act.put, List.setIfInBounds_toArray, List.set_cons_zero, List.set_cons_succ, List.getElem_toArray, List.getElem_cons_zero, List.getElem_cons_succ]
  refine list_val (.bool true) (by kernel_rfl) (by kernel_rfl) ?_
  simp only [Act.put, List.setIfInBounds_toArray, List.set_cons_zero, List.set_cons_succ, List.getElem_toArray, List.getElem_cons_zero, List.getElem_cons_succ]
  refine list_val (.pointer (some ⟨gt, 0, none⟩)) (by kernel_rfl) (by kernel_rfl) ?_
  simp only [Act.put, List.setIfInBounds_toArray, List.set_cons_zero, List.set_cons_succ, List.getElem_toArray, List.getElem_cons_zero, List.getElem_cons_succ]
  refine list_call 20 #[.pointer (some ⟨gt, 0, none⟩)] (by kernel_rfl) (by kernel_rfl) ((eturn_ok F4 GT gt gd _ D4 S1 B2 (unhide t2).ok (by omega) (unhide t2).dead (unhide t2).len _ ((unhide hX).ls.gr hB.gr) ((unhide hSt).gr hB.gr) (unhide t2).hs.os ((unhide hf0).gr ((unhide hX).gr.trans hB.gr))).mono ?_)
  rintro r z3 ⟨rfl, hg⟩
  refine ⟨_, rfl, ?_⟩
  replace hB := hB.more hg
  clear hg
  simp only [Act.put, List.setIfInBounds_toArray, List.set_cons_zero, List.set_cons_succ, List.getElem_toArray, List.getElem_cons_zero, List.getElem_cons_succ]
  refine list_val (.pointer (some ⟨g, 0, none⟩)) (by kernel_rfl) (by kernel_rfl) ?_
  simp only [Act.put, List.setIfInBounds_toArray, List.set_cons_zero, List.set_cons_succ, List.getElem_toArray, List.getElem_cons_zero, List.getElem_cons_succ]
  refine list_call 20 #[.pointer (some ⟨g, 0, none⟩)] (by kernel_rfl) (by kernel_rfl) ((eturn_ok F4 G4 g gd _ D4 S1 B2 (unhide t2).ok (by omega) (unhide t2).dead (unhide t2).len _ ((unhide hX).ls.gr hB.gr) ((unhide hX).st.gr hB.gr) (unhide t2).hs.os ((unhide hf0).gr ((unhide hX).gr.trans hB.gr))).mono ?_)
  rintro r z4 ⟨rfl, hg⟩
  refine ⟨_, rfl, ?_⟩
  replace hB := hB.more hg
  clear hg
  simp only [Act.put, List.setIfInBounds_toArray, List.set_cons_zero, List.set_cons_succ, List.getElem_toArray, List.getElem_cons_zero, List.getElem_cons_succ]
  refine list_val (.bool true) (by kernel_rfl) (by go_simp) ?_
  simp only [Act.put, List.setIfInBounds_toArray, List.set_cons_zero, List.set_cons_succ, List.getElem_toArray, List.getElem_cons_zero, List.getElem_cons_succ]
  refine list_val (.bool true) (by kernel_rfl) (by kernel_rfl) ?_
  simp only [Act.put, List.setIfInBounds_toArray, List.set_cons_zero, List.set_cons_succ, List.getElem_toArray, List.getElem_cons_zero, List.getElem_cons_succ]
  refine list_val (.bool true) (by kernel_rfl) (by kernel_rfl) ?_
  simp only [Act.put, List.setIfInBounds_toArray, List.set_cons_zero, List.set_cons_succ, List.getElem_toArray, List.getElem_cons_zero, List.getElem_cons_succ]
  refine list_val (.pointer (some ⟨gt, 0, none⟩)) (by kernel_rfl) (by kernel_rfl) ?_
  simp only [Act.put, List.setIfInBounds_toArray, List.set_cons_zero, List.set_cons_succ, List.getElem_toArray, List.getElem_cons_zero, List.getElem_cons_succ]
  refine list_call 14 #[.pointer (some ⟨gt, 0, none⟩)] (by kernel_rfl) (by kernel_rfl) ((eroom_ok F4 GT gt gd _ D4 _ (unhide t2).ok _ ((unhide hX).ls.gr hB.gr) ((unhide hSt).gr hB.gr)).mono ?_)
  rintro r z5 ⟨rfl, hg⟩
  refine ⟨_, rfl, ?_⟩
  rw [unhide hRv4]
  replace hB := hB.more hg
  clear hg
  simp only [Act.put, List.setIfInBounds_toArray, List.set_cons_zero, List.set_cons_succ, List.getElem_toArray, List.getElem_cons_zero, List.getElem_cons_succ]
  refine list_val (.pointer (some ⟨g, 0, none⟩)) (by kernel_rfl) (by kernel_rfl) ?_
  simp only [Act.put, List.setIfInBounds_toArray, List.set_cons_zero, List.set_cons_succ, List.getElem_toArray, List.getElem_cons_zero, List.getElem_cons_succ]
  refine list_call 14 #[.pointer (some ⟨g, 0, none⟩)] (by kernel_rfl) (by kernel_rfl) ((eroom_ok F4 G4 g gd _ D4 _ (unhide t2).ok _ ((unhide hX).ls.gr hB.gr) ((unhide hX).st.gr hB.gr)).mono ?_)
  rintro r z6 ⟨rfl, hg⟩
  refine ⟨_, rfl, ?_⟩
  rw [unhide hRv4]
  replace hB := hB.more hg
  clear hg
  simp only [Act.put, List.setIfInBounds_toArray, List.set_cons_zero, List.set_cons_succ, List.getElem_toArray, List.getElem_cons_zero, List.getElem_cons_succ]
  refine list_val (.bool true) (by kernel_rfl) (by go_simp) ?_
  simp only [Act.put, List.setIfInBounds_toArray, List.set_cons_zero, List.set_cons_succ, List.getElem_toArray, List.getElem_cons_zero, List.getElem_cons_succ]
  refine list_val (.bool true) (by kernel_rfl) (by kernel_rfl) ?_
  simp only [Act.put, List.setIfInBounds_toArray, List.set_cons_zero, List.set_cons_succ, List.getElem_toArray, List.getElem_cons_zero, List.getElem_cons_succ]
  (refine wpList_step fun K hK => ?_; replace hK := hide hK; go_simp; refine unhide hK _ _ ?_; clear hK K)
  refine wpList_nil ?_
  have hZ : Hid (Vl (.bool true) w (.returned (.bool true)) z6) := ⟨rfl, (unhide hBw).gr.trans ((unhide hX).gr.trans hB.gr)⟩
  replace hB := hide hB
  go_wp2_with fail
  rw [unhide hT]
  exact unhide hZ
end Go.Proofs.YtomihjeiaignnaaDoor
