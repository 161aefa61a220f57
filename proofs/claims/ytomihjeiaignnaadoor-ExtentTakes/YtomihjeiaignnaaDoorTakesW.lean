/-
  Of layer 11: what the proofs lean on.
-/
import Derived.Test.YtomihjeiaignnaaDoorTakesE1
namespace Go.Proofs.YtomihjeiaignnaaDoor
open Go.RowKit
set_option maxRecDepth 100000
set_option linter.unusedSimpArgs false
set_option linter.unusedVariables false
theorem eq_ptr {P : Program} (w : World) (d : Nat) (t e : TypeId) (k g : Nat) (hu : P.underlying t = some (.pointer e)) (hs : (sizeOf e).run P w = .ok (k + 1) w) : (Op.equalIn (d + 1) t (.pointer (some ⟨g, 0, none⟩)) (.pointer (some ⟨g, 0, none⟩))).run P w = .ok true w := by
  simp [Op.equalIn, run_underlying hu, hs, sameAddr]
theorem exec_nep {a : Act} {o : Oper} (w : World) (x y : Operand) (ho : o.op = .binOp .neq 24 x y 24) (g : Nat) (hx : a.eval x = .pointer (some ⟨g, 0, none⟩)) (hy : a.eval y = .pointer (some ⟨g, 0, none⟩)) : (execOp a.eval o).run Tryd.prog w = .ok (.value (.bool false)) w := by
  have h := eq_ptr (P := Tryd.prog) w 9999 24 77 4 g (by kernel_rfl) (by kernel_rfl)
  have h2 : (Op.equal 24 (.pointer (some ⟨g, 0, none⟩)) (.pointer (some ⟨g, 0, none⟩))).run Tryd.prog w = .ok true w := h
  unfold execOp
  simp only [ho, hx, hy]
  simp only [binOp]
  simp [eqGuard_at_pointer, h2]
theorem exec_ibu {a : Act} {o : Oper} (w : World) (x y : Operand) (ho : o.op = .indexAddr 36 x y) (g q len cap i : Nat) (hx : a.eval x = .slice (some ⟨g, q, none⟩) len cap) (hy : a.eval y = .int .u64 i) (hi : i < len) :
    (execOp a.eval o).run Tryd.prog w = .ok (.value (.pointer (some ⟨g, q + 64 * i, none⟩))) w := by
  have h1 : (i : Int) < (len : Int) := by omega
  unfold execOp
  simp only [ho, hx, hy]
  go_simp
theorem exec_ils {a : Act} {o : Oper} (w : World) (x y : Operand) (ho : o.op = .indexAddr 22 x y) (g q len cap i : Nat) (hx : a.eval x = .slice (some ⟨g, q, none⟩) len cap) (hy : a.eval y = .int .i64 i) (hi : i < len) :
    (execOp a.eval o).run Tryd.prog w = .ok (.value (.pointer (some ⟨g, q + i, none⟩))) w := by
  have h1 : (i : Int) < (len : Int) := by omega
  unfold execOp
  simp only [ho, hx, hy]
  go_simp
theorem sup_eta {s : Sup} {L : List Int} {n : Nat} (h1 : n = s.size) (h2 : s.hash = sh16 L) : (⟨s.place, s.turn, n, sh16 L⟩ : Sup) = s := by rw [h1, ← h2]
structure TkI (v0 : World) (g gd za j : Nat) (F G : List Nat) (D : Dk) (s : Sup) (L : List Int) (la : Option Addr) (ln lc : Nat) (v : World) : Prop where
  xs : Xs v0 F G g gd D s v
  fd : Fd D (3 + 50 * j) s L
  pd : D.pend = []
  kn : D.safe.length = za
  lb : Lb v0 la ln lc L
  tn : s.turn ≤ j
set_option maxHeartbeats 4000000 in
theorem takes_law (n0 : Int) (b0 : -9223372036854775808 ≤ n0 ∧ n0 < 9223372036854775808) (P : List (List Int)) (sa : Option Addr) (sn sc : Nat) (w : World) (hf : Fst w) (hP : Lp w sa sn sc P) : Calls Tryd.prog 3 #[.int .i64 n0, .slice sa sn sc] w (Vl (.bool true) w) := by
  obtain ⟨T, hT⟩ : ∃ T, T = Vl (.bool true) w := ⟨_, rfl⟩
  rw [← hT]
  have hsc := hP.cap
  have hsm := hP.max
  replace hT := hide hT; replace hf := hide hf; replace hP := hide hP
  go_enter Tryd.func3, Tryd.ntmps3
  go_upto_region 1 with fail
  have hB := Bl.nil w
  refine wp_region_lit ?_
  refine list_call 9 #[] (by kernel_rfl) (by kernel_rfl) ((wakes_ok _ ((unhide hf).gr hB.gr)).mono ?_)
  rintro r v0 ⟨rfl, hg⟩
  refine ⟨_, rfl, ?_⟩
  replace hB := hB.more hg
  clear hg
  simp only [Act.put, List.setIfInBounds_toArray, List.set_cons_zero, List.set_cons_succ, List.getElem_toArray, List.getElem_cons_zero, List.getElem_cons_succ]
  refine list_val (.bool false) (by kernel_rfl) (by kernel_rfl) ?_
  simp only [Act.put, List.setIfInBounds_toArray, List.set_cons_zero, List.set_cons_succ, List.getElem_toArray, List.getElem_cons_zero, List.getElem_cons_succ]
  refine wpList_nil ?_
  have hf0 := hide ((unhide hf).gr hB.gr)
  have hP0 := hide ((unhide hP).gr hB.gr)
  clear hf hP
  obtain ⟨qa, hqa⟩ : ∃ q : Int, q = (if n0 < 0 then 0 else n0) := ⟨_, rfl⟩
  have pa : 0 ≤ qa := by rw [hqa]; split <;> omega
  obtain ⟨ta, hta⟩ : ∃ t : Int, t = qa % 100 := ⟨_, rfl⟩
  have ra : 0 ≤ ta ∧ ta < 100 := by omega
  have eta : qa.tmod 100 = ta := by rw [Int.tmod_eq_emod_of_nonneg pa, hta]
  have ewa : IntKind.i64.wrap ta = ta := by rw [IntKind.wrap_i64]; omega
  obtain ⟨za, hza⟩ : ∃ z : Nat, (z : Int) = 64 + ta := ⟨(64 + ta).toNat, by omega⟩
  have exa : IntKind.i64.wrap (64 + ta) = (za : Int) := by rw [IntKind.wrap_i64]; omega
  have bza : 64 ≤ za ∧ za < 64 + 100 := by omega
  replace hqa := hide hqa; replace hta := hide hta; replace hza := hide hza
  replace hB := hide hB
  go_upto_region 3 with fail
  replace hB := unhide hB
  refine wp_region_lit ?_
  refine list_val (.int .i64 n0) (by kernel_rfl) (by kernel_rfl) ?_
  simp only [Act.put, List.setIfInBounds_toArray, List.set_cons_zero, List.set_cons_succ, List.getElem_toArray, List.getElem_cons_zero, List.getElem_cons_succ]
  refine list_val (.int .i64 qa) (by kernel_rfl) (by have hmx := unhide hqa; go_simp) ?_
  simp only [Act.put, List.setIfInBounds_toArray, List.set_cons_zero, List.set_cons_succ, List.getElem_toArray, List.getElem_cons_zero, List.getElem_cons_succ]
  refine list_val (.int .i64 ta) (by kernel_rfl) (by go_simp) ?_
  simp only [Act.put, List.setIfInBounds_toArray, List.set_cons_zero, List.set_cons_succ, List.getElem_toArray, List.getElem_cons_zero, List.getElem_cons_succ]
  refine list_val (.int .i64 (za : Int)) (by kernel_rfl) (by go_simp) ?_
  simp only [Act.put, List.setIfInBounds_toArray, List.set_cons_zero, List.set_cons_succ, List.getElem_toArray, List.getElem_cons_zero, List.getElem_cons_succ]
  (refine wpList_step fun K hK => ?_; replace hK := hide hK; go_simp; refine unhide hK _ _ ?_; clear hK K)
  refine wpList_nil ?_
  replace hB := hide hB
  go_upto_region 4 with fail
  replace hB := unhide hB
  refine wp_region_lit ?_
  refine list_val (.int .i64 (za : Int)) (by kernel_rfl) (by kernel_rfl) ?_
  simp only [Act.put, List.setIfInBounds_toArray, List.set_cons_zero, List.set_cons_succ, List.getElem_toArray, List.getElem_cons_zero, List.getElem_cons_succ]
  refine list_call 10 #[.int .i64 (za : Int)] (by kernel_rfl) (by kernel_rfl) ((dnew_ok (za : Int) _).mono ?_)
  intro r v1 h6
  unfold Dne at h6
  rw [if_pos ⟨by omega, by omega⟩] at h6
  obtain ⟨gd, F, rfl, hL, hF, hg1⟩ := h6
  rw [Int.toNat_natCast] at hL
  have kD := dk0_ok za (by omega) (by omega)
  have kl : (dk0 za).safe.length = za := by unfold dk0; simp
  have kd : (dk0 za).dead = false := rfl
  have kf : (dk0 za).left = -1 := rfl
  have kcur : ∀ j, j < za → (dk0 za).cur j = ZB := fun j hj => dk0_cur za j hj
  generalize dk0 za = D0 at *
  refine ⟨_, rfl, ?_⟩
  replace hL := hide hL; replace hF := hide hF; replace kD := hide kD; replace hg1 := hide hg1; replace kf := hide kf; replace kcur := hide kcur
  simp only [Act.put, List.setIfInBounds_toArray, List.set_cons_zero, List.set_cons_succ, List.getElem_toArray, List.getElem_cons_zero, List.getElem_cons_succ]
  refine list_val (.tuple #[.pointer (some ⟨gd, 0, none⟩), .int .i64 0]) (by kernel_rfl) (by kernel_rfl) ?_
  simp only [Act.put, List.setIfInBounds_toArray, List.set_cons_zero, List.set_cons_succ, List.getElem_toArray, List.getElem_cons_zero, List.getElem_cons_succ]
  refine list_val (.pointer (some ⟨gd, 0, none⟩)) (by kernel_rfl) (by kernel_rfl) ?_
  simp only [Act.put, List.setIfInBounds_toArray, List.set_cons_zero, List.set_cons_succ, List.getElem_toArray, List.getElem_cons_zero, List.getElem_cons_succ]
  refine list_val (.int .i64 0) (by kernel_rfl) (by kernel_rfl) ?_
  simp only [Act.put, List.setIfInBounds_toArray, List.set_cons_zero, List.set_cons_succ, List.getElem_toArray, List.getElem_cons_zero, List.getElem_cons_succ]
  (refine wpList_step fun K hK => ?_; replace hK := hide hK; go_simp; refine unhide hK _ _ ?_; clear hK K)
  (refine wpList_step fun K hK => ?_; replace hK := hide hK; go_simp; refine unhide hK _ _ ?_; clear hK K)
  refine wpList_nil ?_
  replace hB := hide hB
  go_upto_region 7 with fail
  replace hB := unhide hB
  refine wp_region_lit ?_
  refine list_val (.pointer (some ⟨gd, 0, none⟩)) (by kernel_rfl) (by kernel_rfl) ?_
  simp only [Act.put, List.setIfInBounds_toArray, List.set_cons_zero, List.set_cons_succ, List.getElem_toArray, List.getElem_cons_zero, List.getElem_cons_succ]
  refine list_call 11 #[P0 gd] (by kernel_rfl) (by kernel_rfl) ((eformat_ok F gd 0 D0 (unhide kD) (by omega) kd (unhide kf) (by omega) _ (unhide hL) ((unhide hf0).gr (unhide hg1)) (fun e => by have := unhide hF 0 e; have := fst_size (unhide hf0); omega)).mono ?_)
  rintro r v2 ⟨g, F2, G, rfl, hL2, hS, hG, hap, hc⟩
  obtain ⟨q1, q2, q3, q4, q5⟩ := fmt_all (unhide kD) kd (unhide kf) (by omega)
  generalize (Dk.runD fmtOps D0).1 = D1 at *
  have hX : Xs v0 F2 G g gd D1 sup0 v2 := by
    have hown : ∀ i ∈ F2, v0.heap.size ≤ i := fun i hi => (hc.new i hi).elim (unhide hF i) (fun e => Nat.le_trans (unhide hg1).size e)
    exact ⟨Chg.own (unhide hg1) hc (unhide hF), hL2, by rw [q3]; exact hS, hown, fun i hi => Nat.le_trans (unhide hg1).size (hG i hi), hap⟩
  have kn1 : D1.safe.length = za := q3.trans kl
  obtain ⟨s1, s2, s3, s4⟩ := sup0_is
  refine ⟨_, rfl, ?_⟩
  clear hL2 hS hG hap hc q1 hL hF kD hg1 kl kd kf q3 s3 s4
  generalize sup0 = S0 at *
  replace hX := hide hX; replace q2 := hide q2; replace q4 := hide q4; replace q5 := hide q5
  simp only [Act.put, List.setIfInBounds_toArray, List.set_cons_zero, List.set_cons_succ, List.getElem_toArray, List.getElem_cons_zero, List.getElem_cons_succ]
  refine list_val (.tuple #[.pointer (some ⟨g, 0, none⟩), .int .i64 0]) (by kernel_rfl) (by kernel_rfl) ?_
  simp only [Act.put, List.setIfInBounds_toArray, List.set_cons_zero, List.set_cons_succ, List.getElem_toArray, List.getElem_cons_zero, List.getElem_cons_succ]
  refine list_val (.pointer (some ⟨g, 0, none⟩)) (by kernel_rfl) (by kernel_rfl) ?_
  simp only [Act.put, List.setIfInBounds_toArray, List.set_cons_zero, List.set_cons_succ, List.getElem_toArray, List.getElem_cons_zero, List.getElem_cons_succ]
  refine list_val (.int .i64 0) (by kernel_rfl) (by kernel_rfl) ?_
  simp only [Act.put, List.setIfInBounds_toArray, List.set_cons_zero, List.set_cons_succ, List.getElem_toArray, List.getElem_cons_zero, List.getElem_cons_succ]
  (refine wpList_step fun K hK => ?_; replace hK := hide hK; go_simp; refine unhide hK _ _ ?_; clear hK K)
  (refine wpList_step fun K hK => ?_; replace hK := hide hK; go_simp; refine unhide hK _ _ ?_; clear hK K)
  refine wpList_nil ?_
  have hBw := hide hB
  clear hB
  have hB := Bl.nil v2
  replace hB := hide hB
  go_upto_region 8 with fail
  replace hB := unhide hB
  refine wp_region_lit ?_
  refine list_val (.int .i64 0) (by kernel_rfl) (by kernel_rfl) ?_
  simp only [Act.put, List.setIfInBounds_toArray, List.set_cons_zero, List.set_cons_succ, List.getElem_toArray, List.getElem_cons_zero, List.getElem_cons_succ]
  refine list_val (.bool false) (by kernel_rfl) (by go_simp) ?_
  simp only [Act.put, List.setIfInBounds_toArray, List.set_cons_zero, List.set_cons_succ, List.getElem_toArray, List.getElem_cons_zero, List.getElem_cons_succ]
  refine list_val (.bool false) (by kernel_rfl) (by kernel_rfl) ?_
  simp only [Act.put, List.setIfInBounds_toArray, List.set_cons_zero, List.set_cons_succ, List.getElem_toArray, List.getElem_cons_zero, List.getElem_cons_succ]
  refine list_val (.pointer (some ⟨g, 0, none⟩)) (by kernel_rfl) (by kernel_rfl) ?_
  simp only [Act.put, List.setIfInBounds_toArray, List.set_cons_zero, List.set_cons_succ, List.getElem_toArray, List.getElem_cons_zero, List.getElem_cons_succ]
  refine list_call 12 #[.pointer (some ⟨g, 0, none⟩)] (by kernel_rfl) (by kernel_rfl) ((disk_ok G g gd D1.safe.length S0 _ (unhide hX).st).mono ?_)
  rintro r v3 ⟨rfl, hg⟩
  refine ⟨_, rfl, ?_⟩
  rw [show P0 gd = .pointer (some ⟨gd, 0, none⟩) from rfl]
  replace hX := hide ((unhide hX).more hg)
  clear hg hB
  have hB := Bl.nil v3
  simp only [Act.put, List.setIfInBounds_toArray, List.set_cons_zero, List.set_cons_succ, List.getElem_toArray, List.getElem_cons_zero, List.getElem_cons_succ]
  refine list_val (.pointer (some ⟨gd, 0, none⟩)) (by kernel_rfl) (by kernel_rfl) ?_
  simp only [Act.put, List.setIfInBounds_toArray, List.set_cons_zero, List.set_cons_succ, List.getElem_toArray, List.getElem_cons_zero, List.getElem_cons_succ]
  refine list_val (.bool false) (by kernel_rfl) (exec_nep _ (.tmp 44) (.tmp 45) rfl gd (by kernel_rfl) (by kernel_rfl)) ?_
  simp only [Act.put, List.setIfInBounds_toArray, List.set_cons_zero, List.set_cons_succ, List.getElem_toArray, List.getElem_cons_zero, List.getElem_cons_succ]
  refine list_val (.bool false) (by kernel_rfl) (by kernel_rfl) ?_
  simp only [Act.put, List.setIfInBounds_toArray, List.set_cons_zero, List.set_cons_succ, List.getElem_toArray, List.getElem_cons_zero, List.getElem_cons_succ]
  refine wpList_nil ?_
  obtain ⟨h, hh⟩ : ∃ x, x = (za - 2) / 4 := ⟨_, rfl⟩
  obtain ⟨Rm, hRm⟩ : ∃ x, x = 64 * h := ⟨_, rfl⟩
  have hR2 : Rm ≤ 2560 := by omega
  replace hh := hide hh; replace hRm := hide hRm
  clear hB
  have hJ0 : Hid (TkI v0 g gd za 0 F2 G D1 S0 [] none 0 0 v3) := ⟨unhide hX, unhide q2, unhide q4, kn1, Lb.nil _, by omega⟩
  clear hX q2 q4 q5 kcur
  have hs0 : Value.int .u64 0 = .int .u64 (S0.turn : Int) := by rw [s2]; rfl
  have hs9 : Value.int .i64 0 = .int .i64 (S0.place : Int) := by rw [s1]; rfl
  replace hs0 := hide hs0; replace hs9 := hide hs9
  clear s1 s2
  go_wp2_with fail
  go_loopw [8, 9, 10, 50] (fun l8 l9 l10 i wr => ∃ j : Nat, j ≤ sn ∧ j ≤ 6 ∧ i = .int .i64 (j : Int) ∧ ∃ F G D s L la ln lc, l8 = .slice la ln lc ∧ l9 = .int .u64 (s.turn : Int) ∧ l10 = .int .i64 (s.place : Int) ∧ Hid (TkI v0 g gd za j F G D s L la ln lc wr)) (fun _ _ _ i _ => sn - (intOf i).toNat)
  case atStart => exact ⟨0, by omega, by omega, rfl, F2, G, D1, S0, [], none, 0, 0, rfl, unhide hs0, unhide hs9, hJ0⟩
  case round =>
  clear hJ0 hs0 hs9
  obtain ⟨j, hj, hj6, rfl, F3, G3, D3, s3, L3, la, ln, lc, rfl, rfl, rfl, hJ⟩ := hrel
  by_cases hjz : j < sn
  · skip
    have jI : (j : Int) < (sn : Int) := by omega
    obtain ⟨p, o, ai, ni, ci, rfl, hcell, hlb, hci⟩ := (unhide hP0).at_ j hjz
    obtain ⟨M, hM⟩ : ∃ x, x = P.getD j [] := ⟨_, rfl⟩
    rw [← hM] at hlb
    have hnc := hlb.cap
    replace hcell := hide hcell; replace hlb := hide hlb
    clear hM
    go_upto_region 14 with fail
    refine wp_region_lit ?_
    refine list_val (.int .i64 (j : Int)) (by kernel_rfl) (by kernel_rfl) ?_
    simp only [Act.put, List.setIfInBounds_toArray, List.set_cons_zero, List.set_cons_succ, List.getElem_toArray, List.getElem_cons_zero, List.getElem_cons_succ]
    refine list_val (.pointer (some ⟨p, o + j, none⟩)) (by kernel_rfl) (exec_ils _ (.tmp 48) (.tmp 50) rfl p o sn sc j rfl rfl hjz) ?_
    simp only [Act.put, List.setIfInBounds_toArray, List.set_cons_zero, List.set_cons_succ, List.getElem_toArray, List.getElem_cons_zero, List.getElem_cons_succ]
    refine list_val (.slice ai ni ci) (by kernel_rfl) (exec_sby _ (.tmp 53) rfl p (o + j) (by kernel_rfl) ai ni ci ((unhide hJ).xs.gr.cell (unhide hcell))) ?_
    simp only [Act.put, List.setIfInBounds_toArray, List.set_cons_zero, List.set_cons_succ, List.getElem_toArray, List.getElem_cons_zero, List.getElem_cons_succ]
    (refine wpList_step fun K hK => ?_; replace hK := hide hK; go_simp; refine unhide hK _ _ ?_; clear hK K)
    (refine wpList_step fun K hK => ?_; replace hK := hide hK; go_simp; refine unhide hK _ _ ?_; clear hK K)
    refine wpList_nil ?_
    by_cases hj5 : j = 6
    · skip
      have hjI : (j : Int) = 6 := by omega
      replace hj5 := hide hj5
      go_upto_region 15 with fail
      refine wp_region_lit ?_
      refine list_val (.int .i64 (j : Int)) (by kernel_rfl) (by kernel_rfl) ?_
      simp only [Act.put, List.setIfInBounds_toArray, List.set_cons_zero, List.set_cons_succ, List.getElem_toArray, List.getElem_cons_zero, List.getElem_cons_succ]
      refine list_val (.bool true) (by kernel_rfl) (by go_simp) ?_
      simp only [Act.put, List.setIfInBounds_toArray, List.set_cons_zero, List.set_cons_succ, List.getElem_toArray, List.getElem_cons_zero, List.getElem_cons_succ]
      refine wpList_nil ?_
      have hX := hide (unhide hJ).xs
      have hOk := hide (unhide hJ).fd.ok
      have kn := (unhide hJ).kn
      have hB : Bl wr [] wr := Bl.nil wr
      obtain ⟨m2, hm2⟩ : ∃ x, x = za - 2 := ⟨_, rfl⟩
      obtain ⟨sl, hsl⟩ : ∃ x, x = za - 2 - 2 * h := ⟨_, rfl⟩
      obtain ⟨h2, hh2⟩ : ∃ x, x = 2 * h := ⟨_, rfl⟩
      have hhv := unhide hh
      have hRv := unhide hRm
      have e1 : IntKind.i64.wrap ((za : Int) - 2) = (m2 : Int) := by rw [IntKind.wrap_i64]; omega
      have e3 : (m2 : Int).tdiv 4 = (h : Int) := by rw [Int.tdiv_eq_ediv_of_nonneg (by omega)]; omega
      have e4 : IntKind.i64.wrap (h : Int) = (h : Int) := by rw [IntKind.wrap_i64]; omega
      have e5 : IntKind.i64.wrap (64 * (h : Int)) = (Rm : Int) := by rw [IntKind.wrap_i64]; omega
      have e6 : IntKind.i64.wrap (2 * (h : Int)) = (h2 : Int) := by rw [IntKind.wrap_i64]; omega
      have e7 : IntKind.i64.wrap ((m2 : Int) - (h2 : Int)) = (sl : Int) := by rw [IntKind.wrap_i64]; omega
      have hrv : Hid (64 * ((D3.safe.length - 2) / 4) = Rm) := by show _ = _; rw [kn, hRv, hhv]
      have hsv : Hid (D3.safe.length - 2 - 2 * ((D3.safe.length - 2) / 4) = sl) := by show _ = _; rw [kn, hsl, hhv]
      replace hm2 := hide hm2; replace hsl := hide hsl; replace hh2 := hide hh2
      clear hhv hRv
      replace hB := hide hB
      go_upto_region 32 with fail
      replace hB := unhide hB
      refine wp_region_lit ?_
      refine list_val (.pointer (some ⟨g, 0, none⟩)) (by kernel_rfl) (by kernel_rfl) ?_
      simp only [Act.put, List.setIfInBounds_toArray, List.set_cons_zero, List.set_cons_succ, List.getElem_toArray, List.getElem_cons_zero, List.getElem_cons_succ]
      refine list_call 14 #[.pointer (some ⟨g, 0, none⟩)] (by kernel_rfl) (by kernel_rfl) ((eroom_ok F3 G3 g gd _ D3 _ (unhide hOk) _ ((unhide hX).ls.gr hB.gr) ((unhide hX).st.gr hB.gr)).mono ?_)
      rintro r z1 ⟨rfl, hg⟩
      refine ⟨_, rfl, ?_⟩
      rw [unhide hrv]
      replace hB := hB.more hg
      clear hg
      simp only [Act.put, List.setIfInBounds_toArray, List.set_cons_zero, List.set_cons_succ, List.getElem_toArray, List.getElem_cons_zero, List.getElem_cons_succ]
      refine list_val (.int .i64 (za : Int)) (by kernel_rfl) (by kernel_rfl) ?_
      simp only [Act.put, List.setIfInBounds_toArray, List.set_cons_zero, List.set_cons_succ, List.getElem_toArray, List.getElem_cons_zero, List.getElem_cons_succ]
      refine list_val (.int .i64 (m2 : Int)) (by kernel_rfl) (by go_simp) ?_
      simp only [Act.put, List.setIfInBounds_toArray, List.set_cons_zero, List.set_cons_succ, List.getElem_toArray, List.getElem_cons_zero, List.getElem_cons_succ]
      refine list_val (.int .i64 (h : Int)) (by kernel_rfl) (by go_simp) ?_
      simp only [Act.put, List.setIfInBounds_toArray, List.set_cons_zero, List.set_cons_succ, List.getElem_toArray, List.getElem_cons_zero, List.getElem_cons_succ]
      refine list_val (.int .i64 (Rm : Int)) (by kernel_rfl) (by go_simp) ?_
      simp only [Act.put, List.setIfInBounds_toArray, List.set_cons_zero, List.set_cons_succ, List.getElem_toArray, List.getElem_cons_zero, List.getElem_cons_succ]
      refine list_val (.bool true) (by kernel_rfl) (by go_simp) ?_
      simp only [Act.put, List.setIfInBounds_toArray, List.set_cons_zero, List.set_cons_succ, List.getElem_toArray, List.getElem_cons_zero, List.getElem_cons_succ]
      refine list_val (.bool true) (by kernel_rfl) (by kernel_rfl) ?_
      simp only [Act.put, List.setIfInBounds_toArray, List.set_cons_zero, List.set_cons_succ, List.getElem_toArray, List.getElem_cons_zero, List.getElem_cons_succ]
      refine list_val (.pointer (some ⟨g, 0, none⟩)) (by kernel_rfl) (by kernel_rfl) ?_
      simp only [Act.put, List.setIfInBounds_toArray, List.set_cons_zero, List.set_cons_succ, List.getElem_toArray, List.getElem_cons_zero, List.getElem_cons_succ]
      refine list_call 23 #[.pointer (some ⟨g, 0, none⟩)] (by kernel_rfl) (by kernel_rfl) ((eslots_ok F3 G3 g gd _ D3 _ (unhide hOk) _ ((unhide hX).ls.gr hB.gr) ((unhide hX).st.gr hB.gr)).mono ?_)
      rintro r z2 ⟨rfl, hg⟩
      refine ⟨_, rfl, ?_⟩
      rw [unhide hsv]
      replace hB := hB.more hg
      clear hg
      simp only [Act.put, List.setIfInBounds_toArray, List.set_cons_zero, List.set_cons_succ, List.getElem_toArray, List.getElem_cons_zero, List.getElem_cons_succ]
      refine list_val (.int .i64 (za : Int)) (by kernel_rfl) (by kernel_rfl) ?_
      simp only [Act.put, List.setIfInBounds_toArray, List.set_cons_zero, List.set_cons_succ, List.getElem_toArray, List.getElem_cons_zero, List.getElem_cons_succ]
      refine list_val (.int .i64 (m2 : Int)) (by kernel_rfl) (by go_simp) ?_
      simp only [Act.put, List.setIfInBounds_toArray, List.set_cons_zero, List.set_cons_succ, List.getElem_toArray, List.getElem_cons_zero, List.getElem_cons_succ]
      refine list_val (.int .i64 (za : Int)) (by kernel_rfl) (by kernel_rfl) ?_
      simp only [Act.put, List.setIfInBounds_toArray, List.set_cons_zero, List.set_cons_succ, List.getElem_toArray, List.getElem_cons_zero, List.getElem_cons_succ]
      refine list_val (.int .i64 (m2 : Int)) (by kernel_rfl) (by go_simp) ?_
      simp only [Act.put, List.setIfInBounds_toArray, List.set_cons_zero, List.set_cons_succ, List.getElem_toArray, List.getElem_cons_zero, List.getElem_cons_succ]
      refine list_val (.int .i64 (h : Int)) (by kernel_rfl) (by go_simp) ?_
      simp only [Act.put, List.setIfInBounds_toArray, List.set_cons_zero, List.set_cons_succ, List.getElem_toArray, List.getElem_cons_zero, List.getElem_cons_succ]
      refine list_val (.int .i64 (h2 : Int)) (by kernel_rfl) (by go_simp) ?_
      simp only [Act.put, List.setIfInBounds_toArray, List.set_cons_zero, List.set_cons_succ, List.getElem_toArray, List.getElem_cons_zero, List.getElem_cons_succ]
      refine list_val (.int .i64 (sl : Int)) (by kernel_rfl) (by go_simp) ?_
      simp only [Act.put, List.setIfInBounds_toArray, List.set_cons_zero, List.set_cons_succ, List.getElem_toArray, List.getElem_cons_zero, List.getElem_cons_succ]
      refine list_val (.bool true) (by kernel_rfl) (by go_simp) ?_
      simp only [Act.put, List.setIfInBounds_toArray, List.set_cons_zero, List.set_cons_succ, List.getElem_toArray, List.getElem_cons_zero, List.getElem_cons_succ]
      refine list_val (.bool true) (by kernel_rfl) (by kernel_rfl) ?_
      simp only [Act.put, List.setIfInBounds_toArray, List.set_cons_zero, List.set_cons_succ, List.getElem_toArray, List.getElem_cons_zero, List.getElem_cons_succ]
      (refine wpList_step fun K hK => ?_; replace hK := hide hK; go_simp; refine unhide hK _ _ ?_; clear hK K)
      refine wpList_nil ?_
      have hZ : Hid (Vl (.bool true) w (.returned (.bool true)) z2) := ⟨rfl, (unhide hBw).gr.trans ((unhide hX).gr.trans hB.gr)⟩
      replace hB := hide hB
      clear e1 e3 e4 e5 e6 e7
      go_wp2_with fail
      rw [unhide hT]
      exact unhide hZ
    have hjI : ¬ (j : Int) = 6 := by omega
    have hj7 : j + 1 ≤ 6 := by omega
    go_upto_region 15 with fail
    refine wp_region_lit ?_
    refine list_val (.int .i64 (j : Int)) (by kernel_rfl) (by kernel_rfl) ?_
    simp only [Act.put, List.setIfInBounds_toArray, List.set_cons_zero, List.set_cons_succ, List.getElem_toArray, List.getElem_cons_zero, List.getElem_cons_succ]
    refine list_val (.bool false) (by kernel_rfl) (by go_simp) ?_
    simp only [Act.put, List.setIfInBounds_toArray, List.set_cons_zero, List.set_cons_succ, List.getElem_toArray, List.getElem_cons_zero, List.getElem_cons_succ]
    refine wpList_nil ?_
    clear hj5 hjI
    have hB := Bl.nil wr
    have hX := hide (unhide hJ).xs
    have hFd := hide (unhide hJ).fd
    have kn3 := (unhide hJ).kn
    replace hB := hide hB
    go_upto_region 16 with fail
    replace hB := unhide hB
    by_cases hbig : Rm < ni
    · skip
      refine wp_region_lit ?_
      refine list_val (.pointer (some ⟨g, 0, none⟩)) (by kernel_rfl) (by kernel_rfl) ?_
      simp only [Act.put, List.setIfInBounds_toArray, List.set_cons_zero, List.set_cons_succ, List.getElem_toArray, List.getElem_cons_zero, List.getElem_cons_succ]
      refine list_valw (.slice (some ⟨wr.heap.size, 0, none⟩) 0 0) (wr.alloc (.cells #[] 5 (0, 0))) (by kernel_rfl) (by kernel_rfl) ?_
      have hO : Ob wr.heap.size (wr.alloc (.cells #[] 5 (0, 0))) (.slice (some ⟨wr.heap.size, 0, none⟩) 0 0) [] := blk_bytes [] (Nat.le_refl _) (Nat.zero_le _)
      have hG := (Gr.refl wr).alloc (.cells #[] 5 (0, 0))
      generalize World.alloc _ _ = y1 at *
      simp only [Act.put, List.setIfInBounds_toArray, List.set_cons_zero, List.set_cons_succ, List.getElem_toArray, List.getElem_cons_zero, List.getElem_cons_succ]
      refine list_val (.slice ai ni ci) (by kernel_rfl) (by kernel_rfl) ?_
      simp only [Act.put, List.setIfInBounds_toArray, List.set_cons_zero, List.set_cons_succ, List.getElem_toArray, List.getElem_cons_zero, List.getElem_cons_succ]
      refine app_bs (by kernel_rfl) (.tmp 58) (.tmp 59) rfl wr.heap.size _ [] rfl hO ai ni ci M rfl (unhide hlb).len (((unhide hlb).gr (unhide hX).gr).gr hG).sl (by simp only [List.length_nil, Nat.zero_add]; omega) hG.size ?_
      intro v9 y2 hO9 hgr
      rw [List.nil_append] at hO9
      have hG9 := hO.grown (Nat.le_refl _) hG hgr
      have hfr := hO9
      obtain ⟨a2, c2, rfl, l2⟩ := ob_lb hO9 (unhide hlb).isB (n := ni) (unhide hlb).len
      have hfr2 := ob_fr hfr (Nat.le_refl wr.heap.size)
      have hfar : M = [] ∨ ∀ i, i ∈ F3 ∨ i ∈ G3 → blkOf a2 ≠ some i := by
        right
        intro i hi e
        rcases hfr2 i e with e9 | e9
        · cases e9
        · rcases hi with hi | hi
          · have := (unhide hX).ls.lt i hi; omega
          · have := (unhide hX).st.lt i hi; omega
      replace l2 := hide l2; replace hfar := hide hfar
      clear hB
      have hB : Bl wr [] y2 := (Bl.nil wr).more hG9
      clear hO9 hgr hO hG hG9 hfr hfr2
      simp only [Act.put, List.setIfInBounds_toArray, List.set_cons_zero, List.set_cons_succ, List.getElem_toArray, List.getElem_cons_zero, List.getElem_cons_succ]
      refine list_call 13 #[P0 g, .slice a2 ni c2] (by kernel_rfl) (by kernel_rfl) ((etake_long F3 G3 g gd _ D3 s3 (unhide hFd).ok (by omega) y2 ((unhide hX).ls.gr hB.gr) ((unhide hX).st.gr hB.gr) a2 ni c2 (by rw [kn3, ← unhide hh, ← unhide hRm]; exact hbig) (by omega)).mono ?_)
      rintro r y3 ⟨rfl, hg⟩
      have hK4 : Hid (TkI v0 g gd za (j + 1) F3 G3 D3 s3 L3 la ln lc y3) := ⟨(unhide hX).more (hB.gr.trans hg), (unhide hFd).up (by omega), (unhide hJ).pd, kn3, (unhide hJ).lb, by have := (unhide hJ).tn; omega⟩
      clear hB hg hX hFd hJ
      refine ⟨_, rfl, ?_⟩
      simp only [Act.put, List.setIfInBounds_toArray, List.set_cons_zero, List.set_cons_succ, List.getElem_toArray, List.getElem_cons_zero, List.getElem_cons_succ]
      (refine wpList_step fun K hK => ?_; replace hK := hide hK; go_simp; refine unhide hK _ _ ?_; clear hK K)
      refine wpList_nil ?_
      have hB := Bl.nil y3
      replace hB := hide hB
      go_upto_region 17 with fail
      replace hB := unhide hB
      have hbI : (Rm : Int) < (ni : Int) := by omega
      refine wp_region_lit ?_
      refine list_val (.slice ai ni ci) (by kernel_rfl) (by kernel_rfl) ?_
      simp only [Act.put, List.setIfInBounds_toArray, List.set_cons_zero, List.set_cons_succ, List.getElem_toArray, List.getElem_cons_zero, List.getElem_cons_succ]
      refine list_val (.int .i64 ni) (by kernel_rfl) (by kernel_rfl) ?_
      simp only [Act.put, List.setIfInBounds_toArray, List.set_cons_zero, List.set_cons_succ, List.getElem_toArray, List.getElem_cons_zero, List.getElem_cons_succ]
      refine list_val (.pointer (some ⟨g, 0, none⟩)) (by kernel_rfl) (by kernel_rfl) ?_
      simp only [Act.put, List.setIfInBounds_toArray, List.set_cons_zero, List.set_cons_succ, List.getElem_toArray, List.getElem_cons_zero, List.getElem_cons_succ]
      refine list_call 14 #[.pointer (some ⟨g, 0, none⟩)] (by kernel_rfl) (by kernel_rfl) ((eroom_ok F3 G3 g gd _ D3 s3 (unhide hK4).fd.ok _ ((unhide hK4).xs.ls.gr hB.gr) ((unhide hK4).xs.st.gr hB.gr)).mono ?_)
      rintro r y4 ⟨rfl, hg⟩
      refine ⟨_, rfl, ?_⟩
      rw [(unhide hK4).kn, ← unhide hh, ← unhide hRm]
      replace hB := hB.more hg
      clear hg
      simp only [Act.put, List.setIfInBounds_toArray, List.set_cons_zero, List.set_cons_succ, List.getElem_toArray, List.getElem_cons_zero, List.getElem_cons_succ]
      refine list_val (.bool true) (by kernel_rfl) (by go_simp) ?_
      simp only [Act.put, List.setIfInBounds_toArray, List.set_cons_zero, List.set_cons_succ, List.getElem_toArray, List.getElem_cons_zero, List.getElem_cons_succ]
      refine wpList_nil ?_
      replace hB := hide hB
      go_upto_region 18 with fail
      replace hB := unhide hB
      refine wp_region_lit ?_
      refine list_val (.int .i64 3) (by kernel_rfl) (by kernel_rfl) ?_
      simp only [Act.put, List.setIfInBounds_toArray, List.set_cons_zero, List.set_cons_succ, List.getElem_toArray, List.getElem_cons_zero, List.getElem_cons_succ]
      refine list_val (.bool false) (by kernel_rfl) (by go_simp) ?_
      simp only [Act.put, List.setIfInBounds_toArray, List.set_cons_zero, List.set_cons_succ, List.getElem_toArray, List.getElem_cons_zero, List.getElem_cons_succ]
      refine wpList_nil ?_
      obtain ⟨F5, G5, D5, s5, L5, la5, ln5, lc5, e1_, e2_, e3_, hK5⟩ : ∃ F5 G5 D5 s5 L5 la5 ln5 lc5, (Value.slice la ln lc = .slice la5 ln5 lc5) ∧ (s3 = s5) ∧ True ∧ Hid (TkI v0 g gd za (j + 1) F5 G5 D5 s5 L5 la5 ln5 lc5 y4) := ⟨F3, G3, D3, s3, L3, la, ln, lc, rfl, rfl, trivial, ⟨(unhide hK4).xs.more hB.gr, (unhide hK4).fd, (unhide hK4).pd, (unhide hK4).kn, (unhide hK4).lb, (unhide hK4).tn⟩⟩
      injection e1_ with e4_ e5_ e6_
      subst e4_ e5_ e6_ e2_
      clear e3_ hK4 hB hbI
      skip
      have hX := hide (unhide hK5).xs
      have kn5 := (unhide hK5).kn
      have hq2 := hide (unhide hK5).fd
      have hB := Bl.nil y4
      have nL : L5.length = ln := (unhide hK5).lb.len
      have hln : ln ≤ 2560 := by
        have h1 := (unhide hK5).fd.hs.fit
        have h2 := (unhide hK5).fd.hs.len
        rw [kn5, ← unhide hh, ← unhide hRm] at h1
        omega
      replace hB := hide hB
      go_upto_region 23 with fail
      replace hB := unhide hB
      refine wp_region_lit ?_
      refine list_val (.pointer (some ⟨gd, 0, none⟩)) (by kernel_rfl) (by kernel_rfl) ?_
      simp only [Act.put, List.setIfInBounds_toArray, List.set_cons_zero, List.set_cons_succ, List.getElem_toArray, List.getElem_cons_zero, List.getElem_cons_succ]
      refine list_call 15 #[P0 gd] (by kernel_rfl) (by kernel_rfl) ((sectors_ok F5 gd (3 + 50 * (j + 1)) D5 (unhide hq2).ok (by omega) (unhide hq2).dead y4 ((unhide hX).ls.gr hB.gr)).mono ?_)
      rintro r y6 ⟨a1, c1, rfl, hlsa1, hfra1, hg⟩
      rw [kn5] at hlsa1 ⊢
      have hfara1 : Hid (∀ i ∈ F5, blkOf a1 ≠ some i) := fun i hi e => by
        rcases hfra1 i e with e | e
        · cases e
        · have h1 := ((unhide hX).ls.gr hB.gr).lt i hi
          omega
      replace hg := hB.gr.trans hg
      skip
      replace hX := hide ((unhide hX).more hg)
      clear hB hfra1 hg
      have hB := Bl.nil y6
      replace hlsa1 := hide hlsa1
      refine ⟨_, rfl, ?_⟩
      simp only [Act.put, List.setIfInBounds_toArray, List.set_cons_zero, List.set_cons_succ, List.getElem_toArray, List.getElem_cons_zero, List.getElem_cons_succ]
      refine list_val (.tuple #[.agg #[.slice a1 za c1], .bool true]) (by kernel_rfl) (by kernel_rfl) ?_
      simp only [Act.put, List.setIfInBounds_toArray, List.set_cons_zero, List.set_cons_succ, List.getElem_toArray, List.getElem_cons_zero, List.getElem_cons_succ]
      refine list_val (.agg #[.slice a1 za c1]) (by kernel_rfl) (by kernel_rfl) ?_
      simp only [Act.put, List.setIfInBounds_toArray, List.set_cons_zero, List.set_cons_succ, List.getElem_toArray, List.getElem_cons_zero, List.getElem_cons_succ]
      refine list_val (.bool true) (by kernel_rfl) (by kernel_rfl) ?_
      simp only [Act.put, List.setIfInBounds_toArray, List.set_cons_zero, List.set_cons_succ, List.getElem_toArray, List.getElem_cons_zero, List.getElem_cons_succ]
      refine list_valw (.pointer (some ⟨y6.heap.size, 0, none⟩)) (y6.alloc (.cells (#[.slice none 0 0]) 38 (0, 0))) (by kernel_rfl) (by kernel_rfl) ?_
      replace hB := hB.new (#[.slice none 0 0]) 38
      simp only [List.nil_append, List.cons_append] at hB
      generalize World.alloc _ _ = y7 at *
      generalize y6.heap.size = gx at *
      replace hB : Bl y6 [⟨gx, #[.slice none 0 0], 38⟩] y7 := hB
      simp only [Act.put, List.setIfInBounds_toArray, List.set_cons_zero, List.set_cons_succ, List.getElem_toArray, List.getElem_cons_zero, List.getElem_cons_succ]
      refine list_store 38 (.tmp 14) (.tmp 79) (gx) (#[.slice a1 za c1]) 38 (#[.slice none 0 0]) (by kernel_rfl) rfl (by kernel_rfl) (by kernel_rfl) (hB.get 0 (x := ⟨gx, #[.slice none 0 0], 38⟩) rfl) (by rw [Tryd.infoRd11]; rfl) rfl (by simp [Value.oneCell']) ?_
      replace hB := hB.set 0 (x := ⟨gx, #[.slice none 0 0], 38⟩) rfl (#[.slice a1 za c1])
      simp only [List.set_cons_zero, List.set_cons_succ] at hB
      generalize World.setRow _ _ _ = y8 at *
      replace hB : Bl y6 [⟨gx, #[.slice a1 za c1], 38⟩] y8 := hB
      simp only [Act.put, List.setIfInBounds_toArray, List.set_cons_zero, List.set_cons_succ, List.getElem_toArray, List.getElem_cons_zero, List.getElem_cons_succ]
      (refine wpList_step fun K hK => ?_; replace hK := hide hK; go_simp; refine unhide hK _ _ ?_; clear hK K)
      refine wpList_nil ?_
      have hgx : Hid (y8.heap[gx]? = some (.cells (#[.slice a1 za c1]) 38 (0, 0))) := (hB.get 0 (x := ⟨gx, #[.slice a1 za c1], 38⟩) rfl)
      replace hlsa1 := hide ((unhide hlsa1).gr hB.gr)
      replace hX := hide ((unhide hX).more hB.gr)
      clear hB
      have hB := Bl.nil y8
      replace hB := hide hB
      go_upto_region 24 with fail
      replace hB := unhide hB
      refine wp_region_lit ?_
      refine list_val (.agg #[.slice a1 za c1]) (by kernel_rfl) (exec_arr _ 38 (.tmp 14) rfl gx (by kernel_rfl) #[.slice a1 za c1] 38 _ (hB.gr.blk (unhide hgx)) Tryd.underlying38 rfl (by rw [Tryd.infoRd11]; rfl)) ?_
      simp only [Act.put, List.setIfInBounds_toArray, List.set_cons_zero, List.set_cons_succ, List.getElem_toArray, List.getElem_cons_zero, List.getElem_cons_succ]
      refine list_call 16 #[.agg #[.slice a1 za c1]] (by kernel_rfl) (by kernel_rfl) ((rsnap_ok (heldL D5) (held_all (unhide hq2).ok) a1 za c1 (by omega) (by omega) _ (unhide hlsa1)).mono ?_)
      intro r y9 hrs
      obtain ⟨vw, rfl, hO, hg⟩ := hrs.hs (s := s3) (L := L5) (by have h9 := hs_held (unhide hq2).dead (by omega) (unhide hq2).hs; rw [kn5] at h9; exact h9)
      obtain ⟨aw, cw, rfl, lw⟩ := ob_lb hO (unhide hq2).hs.isB (n := ln) nL
      replace lw := hide lw
      replace hB := hB.more hg
      clear hO hg hrs
      refine ⟨_, rfl, ?_⟩
      simp only [Act.put, List.setIfInBounds_toArray, List.set_cons_zero, List.set_cons_succ, List.getElem_toArray, List.getElem_cons_zero, List.getElem_cons_succ]
      refine list_val (.tuple #[.slice aw ln cw, .bool true]) (by kernel_rfl) (by kernel_rfl) ?_
      simp only [Act.put, List.setIfInBounds_toArray, List.set_cons_zero, List.set_cons_succ, List.getElem_toArray, List.getElem_cons_zero, List.getElem_cons_succ]
      refine list_val (.slice aw ln cw) (by kernel_rfl) (by kernel_rfl) ?_
      simp only [Act.put, List.setIfInBounds_toArray, List.set_cons_zero, List.set_cons_succ, List.getElem_toArray, List.getElem_cons_zero, List.getElem_cons_succ]
      refine list_val (.bool true) (by kernel_rfl) (by kernel_rfl) ?_
      simp only [Act.put, List.setIfInBounds_toArray, List.set_cons_zero, List.set_cons_succ, List.getElem_toArray, List.getElem_cons_zero, List.getElem_cons_succ]
      (refine wpList_step fun K hK => ?_; replace hK := hide hK; go_simp; refine unhide hK _ _ ?_; clear hK K)
      (refine wpList_step fun K hK => ?_; replace hK := hide hK; go_simp; refine unhide hK _ _ ?_; clear hK K)
      refine wpList_nil ?_
      replace hB := hide hB
      go_upto_region 25 with fail
      replace hB := unhide hB
      refine wp_region_lit ?_
      refine list_val (.pointer (some ⟨g, 0, none⟩)) (by kernel_rfl) (by kernel_rfl) ?_
      simp only [Act.put, List.setIfInBounds_toArray, List.set_cons_zero, List.set_cons_succ, List.getElem_toArray, List.getElem_cons_zero, List.getElem_cons_succ]
      refine list_call 17 #[P0 g] (by kernel_rfl) (by kernel_rfl) ((esnap_ok F5 G5 g gd _ D5 s3 L5 (unhide hq2).ok (by omega) (unhide hq2).dead (unhide hq2).len _ ((unhide hX).ls.gr hB.gr) ((unhide hX).st.gr hB.gr) (unhide hq2).hs.os ((unhide hf0).gr ((unhide hX).gr.trans hB.gr))).mono ?_)
      rintro r y10 ⟨vg, rfl, hO, hg⟩
      obtain ⟨ag, cg, rfl, lg⟩ := ob_lb hO (unhide hq2).hs.isB (n := ln) nL
      replace lg := hide lg
      replace lw := hide ((unhide lw).gr hg)
      replace hB := hB.more hg
      clear hO hg
      refine ⟨_, rfl, ?_⟩
      simp only [Act.put, List.setIfInBounds_toArray, List.set_cons_zero, List.set_cons_succ, List.getElem_toArray, List.getElem_cons_zero, List.getElem_cons_succ]
      refine list_val (.tuple #[.slice ag ln cg, .int .i64 0]) (by kernel_rfl) (by kernel_rfl) ?_
      simp only [Act.put, List.setIfInBounds_toArray, List.set_cons_zero, List.set_cons_succ, List.getElem_toArray, List.getElem_cons_zero, List.getElem_cons_succ]
      refine list_val (.slice ag ln cg) (by kernel_rfl) (by kernel_rfl) ?_
      simp only [Act.put, List.setIfInBounds_toArray, List.set_cons_zero, List.set_cons_succ, List.getElem_toArray, List.getElem_cons_zero, List.getElem_cons_succ]
      refine list_val (.int .i64 0) (by kernel_rfl) (by kernel_rfl) ?_
      simp only [Act.put, List.setIfInBounds_toArray, List.set_cons_zero, List.set_cons_succ, List.getElem_toArray, List.getElem_cons_zero, List.getElem_cons_succ]
      (refine wpList_step fun K hK => ?_; replace hK := hide hK; go_simp; refine unhide hK _ _ ?_; clear hK K)
      (refine wpList_step fun K hK => ?_; replace hK := hide hK; go_simp; refine unhide hK _ _ ?_; clear hK K)
      refine wpList_nil ?_
      replace hB := hide hB
      go_upto_region 26 with fail
      replace hB := unhide hB
      refine wp_region_lit ?_
      refine list_val (.pointer (some ⟨gd, 0, none⟩)) (by kernel_rfl) (by kernel_rfl) ?_
      simp only [Act.put, List.setIfInBounds_toArray, List.set_cons_zero, List.set_cons_succ, List.getElem_toArray, List.getElem_cons_zero, List.getElem_cons_succ]
      refine list_call 18 #[P0 gd] (by kernel_rfl) (by kernel_rfl) ((eopen_ok F5 gd _ D5 s3 L5 (unhide hq2).ok (by omega) (unhide hq2).dead (by omega) _ ((unhide hX).ls.gr hB.gr) (unhide hq2).hs.os ((unhide hf0).gr ((unhide hX).gr.trans hB.gr))).mono ?_)
      rintro r y11 ⟨gt, GT, rfl, hSt, hGt, hg⟩
      replace hSt := hide hSt
      replace lw := hide ((unhide lw).gr hg); replace lg := hide ((unhide lg).gr hg)
      replace hB := hB.more hg
      clear hg hGt
      refine ⟨_, rfl, ?_⟩
      simp only [Act.put, List.setIfInBounds_toArray, List.set_cons_zero, List.set_cons_succ, List.getElem_toArray, List.getElem_cons_zero, List.getElem_cons_succ]
      refine list_val (.tuple #[.pointer (some ⟨gt, 0, none⟩), .int .i64 0]) (by kernel_rfl) (by kernel_rfl) ?_
      simp only [Act.put, List.setIfInBounds_toArray, List.set_cons_zero, List.set_cons_succ, List.getElem_toArray, List.getElem_cons_zero, List.getElem_cons_succ]
      refine list_val (.pointer (some ⟨gt, 0, none⟩)) (by kernel_rfl) (by kernel_rfl) ?_
      simp only [Act.put, List.setIfInBounds_toArray, List.set_cons_zero, List.set_cons_succ, List.getElem_toArray, List.getElem_cons_zero, List.getElem_cons_succ]
      refine list_val (.int .i64 0) (by kernel_rfl) (by kernel_rfl) ?_
      simp only [Act.put, List.setIfInBounds_toArray, List.set_cons_zero, List.set_cons_succ, List.getElem_toArray, List.getElem_cons_zero, List.getElem_cons_succ]
      (refine wpList_step fun K hK => ?_; replace hK := hide hK; go_simp; refine unhide hK _ _ ?_; clear hK K)
      (refine wpList_step fun K hK => ?_; replace hK := hide hK; go_simp; refine unhide hK _ _ ?_; clear hK K)
      refine wpList_nil ?_
      replace hB := hide hB
      go_upto_region 27 with fail
      replace hB := unhide hB
      refine wp_region_lit ?_
      refine list_val (.bool true) (by kernel_rfl) (by kernel_rfl) ?_
      simp only [Act.put, List.setIfInBounds_toArray, List.set_cons_zero, List.set_cons_succ, List.getElem_toArray, List.getElem_cons_zero, List.getElem_cons_succ]
      refine list_val (.bool false) (by kernel_rfl) (by kernel_rfl) ?_
      simp only [Act.put, List.setIfInBounds_toArray, List.set_cons_zero, List.set_cons_succ, List.getElem_toArray, List.getElem_cons_zero, List.getElem_cons_succ]
      refine list_val (.bool false) (by kernel_rfl) (by kernel_rfl) ?_
      simp only [Act.put, List.setIfInBounds_toArray, List.set_cons_zero, List.set_cons_succ, List.getElem_toArray, List.getElem_cons_zero, List.getElem_cons_succ]
      refine list_val (.bool true) (by kernel_rfl) (by kernel_rfl) ?_
      simp only [Act.put, List.setIfInBounds_toArray, List.set_cons_zero, List.set_cons_succ, List.getElem_toArray, List.getElem_cons_zero, List.getElem_cons_succ]
      refine list_val (.bool false) (by kernel_rfl) (by kernel_rfl) ?_
      simp only [Act.put, List.setIfInBounds_toArray, List.set_cons_zero, List.set_cons_succ, List.getElem_toArray, List.getElem_cons_zero, List.getElem_cons_succ]
      refine list_val (.bool false) (by kernel_rfl) (by kernel_rfl) ?_
      simp only [Act.put, List.setIfInBounds_toArray, List.set_cons_zero, List.set_cons_succ, List.getElem_toArray, List.getElem_cons_zero, List.getElem_cons_succ]
      refine list_val (.bool false) (by kernel_rfl) (by kernel_rfl) ?_
      simp only [Act.put, List.setIfInBounds_toArray, List.set_cons_zero, List.set_cons_succ, List.getElem_toArray, List.getElem_cons_zero, List.getElem_cons_succ]
      refine list_val (.int .i64 0) (by kernel_rfl) (by kernel_rfl) ?_
      simp only [Act.put, List.setIfInBounds_toArray, List.set_cons_zero, List.set_cons_succ, List.getElem_toArray, List.getElem_cons_zero, List.getElem_cons_succ]
      refine list_val (.bool false) (by kernel_rfl) (by go_simp) ?_
      simp only [Act.put, List.setIfInBounds_toArray, List.set_cons_zero, List.set_cons_succ, List.getElem_toArray, List.getElem_cons_zero, List.getElem_cons_succ]
      refine list_val (.bool false) (by kernel_rfl) (by kernel_rfl) ?_
      simp only [Act.put, List.setIfInBounds_toArray, List.set_cons_zero, List.set_cons_succ, List.getElem_toArray, List.getElem_cons_zero, List.getElem_cons_succ]
      refine list_val (.bool false) (by kernel_rfl) (by kernel_rfl) ?_
      simp only [Act.put, List.setIfInBounds_toArray, List.set_cons_zero, List.set_cons_succ, List.getElem_toArray, List.getElem_cons_zero, List.getElem_cons_succ]
      refine list_val (.int .i64 0) (by kernel_rfl) (by kernel_rfl) ?_
      simp only [Act.put, List.setIfInBounds_toArray, List.set_cons_zero, List.set_cons_succ, List.getElem_toArray, List.getElem_cons_zero, List.getElem_cons_succ]
      refine list_val (.bool false) (by kernel_rfl) (by go_simp) ?_
      simp only [Act.put, List.setIfInBounds_toArray, List.set_cons_zero, List.set_cons_succ, List.getElem_toArray, List.getElem_cons_zero, List.getElem_cons_succ]
      refine list_val (.bool false) (by kernel_rfl) (by kernel_rfl) ?_
      simp only [Act.put, List.setIfInBounds_toArray, List.set_cons_zero, List.set_cons_succ, List.getElem_toArray, List.getElem_cons_zero, List.getElem_cons_succ]
      refine list_val (.bool false) (by kernel_rfl) (by kernel_rfl) ?_
      simp only [Act.put, List.setIfInBounds_toArray, List.set_cons_zero, List.set_cons_succ, List.getElem_toArray, List.getElem_cons_zero, List.getElem_cons_succ]
      refine list_val (.slice ag ln cg) (by kernel_rfl) (by kernel_rfl) ?_
      simp only [Act.put, List.setIfInBounds_toArray, List.set_cons_zero, List.set_cons_succ, List.getElem_toArray, List.getElem_cons_zero, List.getElem_cons_succ]
      refine list_val (.slice la ln lc) (by kernel_rfl) (by kernel_rfl) ?_
      simp only [Act.put, List.setIfInBounds_toArray, List.set_cons_zero, List.set_cons_succ, List.getElem_toArray, List.getElem_cons_zero, List.getElem_cons_succ]
      refine list_call 19 #[.slice ag ln cg, .slice la ln lc] (by kernel_rfl) (by kernel_rfl) ((rsame_ok L5 L5 _ _ ln ln _ _ _ (unhide lg) ((unhide hK5).lb.gr ((unhide hX).gr.trans hB.gr)) (by omega)).mono ?_)
      rintro r y12 ⟨rfl, hg⟩
      refine ⟨_, rfl, ?_⟩
      rw [decide_eq_true rfl]
      replace lw := hide ((unhide lw).gr hg); replace lg := hide ((unhide lg).gr hg); replace hSt := hide ((unhide hSt).gr hg)
      replace hB := hB.more hg
      clear hg
      simp only [Act.put, List.setIfInBounds_toArray, List.set_cons_zero, List.set_cons_succ, List.getElem_toArray, List.getElem_cons_zero, List.getElem_cons_succ]
      refine list_val (.bool false) (by kernel_rfl) (by kernel_rfl) ?_
      simp only [Act.put, List.setIfInBounds_toArray, List.set_cons_zero, List.set_cons_succ, List.getElem_toArray, List.getElem_cons_zero, List.getElem_cons_succ]
      refine list_val (.bool false) (by kernel_rfl) (by kernel_rfl) ?_
      simp only [Act.put, List.setIfInBounds_toArray, List.set_cons_zero, List.set_cons_succ, List.getElem_toArray, List.getElem_cons_zero, List.getElem_cons_succ]
      refine list_val (.bool false) (by kernel_rfl) (by kernel_rfl) ?_
      simp only [Act.put, List.setIfInBounds_toArray, List.set_cons_zero, List.set_cons_succ, List.getElem_toArray, List.getElem_cons_zero, List.getElem_cons_succ]
      refine list_val (.slice aw ln cw) (by kernel_rfl) (by kernel_rfl) ?_
      simp only [Act.put, List.setIfInBounds_toArray, List.set_cons_zero, List.set_cons_succ, List.getElem_toArray, List.getElem_cons_zero, List.getElem_cons_succ]
      refine list_val (.slice la ln lc) (by kernel_rfl) (by kernel_rfl) ?_
      simp only [Act.put, List.setIfInBounds_toArray, List.set_cons_zero, List.set_cons_succ, List.getElem_toArray, List.getElem_cons_zero, List.getElem_cons_succ]
      refine list_call 19 #[.slice aw ln cw, .slice la ln lc] (by kernel_rfl) (by kernel_rfl) ((rsame_ok L5 L5 _ _ ln ln _ _ _ (unhide lw) ((unhide hK5).lb.gr ((unhide hX).gr.trans hB.gr)) (by omega)).mono ?_)
      rintro r y13 ⟨rfl, hg⟩
      refine ⟨_, rfl, ?_⟩
      rw [decide_eq_true rfl]
      replace lw := hide ((unhide lw).gr hg); replace lg := hide ((unhide lg).gr hg); replace hSt := hide ((unhide hSt).gr hg)
      replace hB := hB.more hg
      clear hg
      simp only [Act.put, List.setIfInBounds_toArray, List.set_cons_zero, List.set_cons_succ, List.getElem_toArray, List.getElem_cons_zero, List.getElem_cons_succ]
      refine list_val (.bool false) (by kernel_rfl) (by kernel_rfl) ?_
      simp only [Act.put, List.setIfInBounds_toArray, List.set_cons_zero, List.set_cons_succ, List.getElem_toArray, List.getElem_cons_zero, List.getElem_cons_succ]
      refine list_val (.bool false) (by kernel_rfl) (by kernel_rfl) ?_
      simp only [Act.put, List.setIfInBounds_toArray, List.set_cons_zero, List.set_cons_succ, List.getElem_toArray, List.getElem_cons_zero, List.getElem_cons_succ]
      refine list_val (.bool false) (by kernel_rfl) (by kernel_rfl) ?_
      simp only [Act.put, List.setIfInBounds_toArray, List.set_cons_zero, List.set_cons_succ, List.getElem_toArray, List.getElem_cons_zero, List.getElem_cons_succ]
      refine list_val (.pointer (some ⟨g, 0, none⟩)) (by kernel_rfl) (by kernel_rfl) ?_
      simp only [Act.put, List.setIfInBounds_toArray, List.set_cons_zero, List.set_cons_succ, List.getElem_toArray, List.getElem_cons_zero, List.getElem_cons_succ]
      refine list_call 20 #[.pointer (some ⟨g, 0, none⟩)] (by kernel_rfl) (by kernel_rfl) ((eturn_ok F5 G5 g gd _ D5 s3 L5 (unhide hq2).ok (by omega) (unhide hq2).dead (unhide hq2).len _ ((unhide hX).ls.gr hB.gr) ((unhide hX).st.gr hB.gr) (unhide hq2).hs.os ((unhide hf0).gr ((unhide hX).gr.trans hB.gr))).mono ?_)
      rintro r y14 ⟨rfl, hg⟩
      refine ⟨_, rfl, ?_⟩
      replace lw := hide ((unhide lw).gr hg); replace lg := hide ((unhide lg).gr hg); replace hSt := hide ((unhide hSt).gr hg)
      replace hB := hB.more hg
      clear hg
      simp only [Act.put, List.setIfInBounds_toArray, List.set_cons_zero, List.set_cons_succ, List.getElem_toArray, List.getElem_cons_zero, List.getElem_cons_succ]
      refine list_val (.int .u64 (s3.turn : Int)) (by kernel_rfl) (by kernel_rfl) ?_
      simp only [Act.put, List.setIfInBounds_toArray, List.set_cons_zero, List.set_cons_succ, List.getElem_toArray, List.getElem_cons_zero, List.getElem_cons_succ]
      refine list_val (.bool false) (by kernel_rfl) (by go_simp) ?_
      simp only [Act.put, List.setIfInBounds_toArray, List.set_cons_zero, List.set_cons_succ, List.getElem_toArray, List.getElem_cons_zero, List.getElem_cons_succ]
      refine list_val (.bool false) (by kernel_rfl) (by kernel_rfl) ?_
      simp only [Act.put, List.setIfInBounds_toArray, List.set_cons_zero, List.set_cons_succ, List.getElem_toArray, List.getElem_cons_zero, List.getElem_cons_succ]
      refine list_val (.bool false) (by kernel_rfl) (by kernel_rfl) ?_
      simp only [Act.put, List.setIfInBounds_toArray, List.set_cons_zero, List.set_cons_succ, List.getElem_toArray, List.getElem_cons_zero, List.getElem_cons_succ]
      refine list_val (.pointer (some ⟨gt, 0, none⟩)) (by kernel_rfl) (by kernel_rfl) ?_
      simp only [Act.put, List.setIfInBounds_toArray, List.set_cons_zero, List.set_cons_succ, List.getElem_toArray, List.getElem_cons_zero, List.getElem_cons_succ]
      refine list_call 20 #[.pointer (some ⟨gt, 0, none⟩)] (by kernel_rfl) (by kernel_rfl) ((eturn_ok F5 GT gt gd _ D5 s3 L5 (unhide hq2).ok (by omega) (unhide hq2).dead (unhide hq2).len _ ((unhide hX).ls.gr hB.gr) (unhide hSt) (unhide hq2).hs.os ((unhide hf0).gr ((unhide hX).gr.trans hB.gr))).mono ?_)
      rintro r y15 ⟨rfl, hg⟩
      refine ⟨_, rfl, ?_⟩
      replace lw := hide ((unhide lw).gr hg); replace lg := hide ((unhide lg).gr hg); replace hSt := hide ((unhide hSt).gr hg)
      replace hB := hB.more hg
      clear hg
      simp only [Act.put, List.setIfInBounds_toArray, List.set_cons_zero, List.set_cons_succ, List.getElem_toArray, List.getElem_cons_zero, List.getElem_cons_succ]
      refine list_val (.int .u64 (s3.turn : Int)) (by kernel_rfl) (by kernel_rfl) ?_
      simp only [Act.put, List.setIfInBounds_toArray, List.set_cons_zero, List.set_cons_succ, List.getElem_toArray, List.getElem_cons_zero, List.getElem_cons_succ]
      refine list_val (.bool false) (by kernel_rfl) (by go_simp) ?_
      simp only [Act.put, List.setIfInBounds_toArray, List.set_cons_zero, List.set_cons_succ, List.getElem_toArray, List.getElem_cons_zero, List.getElem_cons_succ]
      refine list_val (.bool false) (by kernel_rfl) (by kernel_rfl) ?_
      simp only [Act.put, List.setIfInBounds_toArray, List.set_cons_zero, List.set_cons_succ, List.getElem_toArray, List.getElem_cons_zero, List.getElem_cons_succ]
      refine list_val (.bool false) (by kernel_rfl) (by kernel_rfl) ?_
      simp only [Act.put, List.setIfInBounds_toArray, List.set_cons_zero, List.set_cons_succ, List.getElem_toArray, List.getElem_cons_zero, List.getElem_cons_succ]
      refine list_val (.pointer (some ⟨gd, 0, none⟩)) (by kernel_rfl) (by kernel_rfl) ?_
      simp only [Act.put, List.setIfInBounds_toArray, List.set_cons_zero, List.set_cons_succ, List.getElem_toArray, List.getElem_cons_zero, List.getElem_cons_succ]
      refine list_call 21 #[P0 gd] (by kernel_rfl) (by kernel_rfl) ((dpending_ok F5 gd _ D5 (unhide hq2).ok (by omega) _ ((unhide hX).ls.gr hB.gr)).mono ?_)
      intro r y16 hp
      obtain ⟨pa_, pc_, rfl, hg⟩ := pnd_len hp
      rw [(unhide hK5).pd, List.map_nil, List.length_nil]
      replace hB := hB.more hg
      clear hg hp
      refine ⟨_, rfl, ?_⟩
      simp only [Act.put, List.setIfInBounds_toArray, List.set_cons_zero, List.set_cons_succ, List.getElem_toArray, List.getElem_cons_zero, List.getElem_cons_succ]
      refine list_val (.int .i64 0) (by kernel_rfl) (by kernel_rfl) ?_
      simp only [Act.put, List.setIfInBounds_toArray, List.set_cons_zero, List.set_cons_succ, List.getElem_toArray, List.getElem_cons_zero, List.getElem_cons_succ]
      refine list_val (.bool false) (by kernel_rfl) (by go_simp) ?_
      simp only [Act.put, List.setIfInBounds_toArray, List.set_cons_zero, List.set_cons_succ, List.getElem_toArray, List.getElem_cons_zero, List.getElem_cons_succ]
      refine list_val (.bool false) (by kernel_rfl) (by kernel_rfl) ?_
      simp only [Act.put, List.setIfInBounds_toArray, List.set_cons_zero, List.set_cons_succ, List.getElem_toArray, List.getElem_cons_zero, List.getElem_cons_succ]
      refine wpList_nil ?_
      have hK6 : Hid (TkI v0 g gd za (j + 1) F5 G5 D5 s3 L5 la ln lc y16) := ⟨(unhide hX).more hB.gr, (unhide hK5).fd, (unhide hK5).pd, (unhide hK5).kn, (unhide hK5).lb, (unhide hK5).tn⟩
      have hgx2 := hide (hB.gr.blk (unhide hgx))
      have hls2 := hide ((unhide hlsa1).gr hB.gr)
      clear hK5 hB hX hgx hlsa1 lw lg hSt
      have hB := Bl.nil y16
      replace hB := hide hB
      go_upto_region 29 with fail
      replace hB := unhide hB
      by_cases ht0 : s3.turn = 0
      · skip
        have htI : ¬ 0 < (s3.turn : Int) := by omega
        replace ht0 := hide ht0
        refine any_start (S := fun _ => True) (by kernel_rfl) ?_
        replace hB := hB.drew
        generalize World.drew _ = x9 at *
        simp only [List.size_toArray, List.length_cons, List.length_nil, Array.replicate, List.replicate]
        refine any_take (i := 0) (v := (.int .u64 (s3.turn : Int))) #[false, false, false, false, false, false, false, false, false, false, false, false, false, false, false] rfl (by kernel_rfl) (by kernel_rfl) (by kernel_rfl) (by kernel_rfl) (fun _ _ _ h => h) (.inl ⟨by kernel_rfl, fun x_ hu => by kernel_rfl⟩) trivial ?_
        simp only [Act.put, List.setIfInBounds_toArray, List.set_cons_zero, List.set_cons_succ, List.getElem_toArray, List.getElem_cons_zero, List.getElem_cons_succ]
        refine any_take (i := 1) (v := (.bool false)) #[true, false, false, false, false, false, false, false, false, false, false, false, false, false, false] rfl (by kernel_rfl) (by kernel_rfl) (by kernel_rfl) (by kernel_rfl) (fun _ _ _ h => h) (.inl ⟨by kernel_rfl, fun x_ hu => by have h9 := unhide ht0; go_simp⟩) trivial ?_
        simp only [Act.put, List.setIfInBounds_toArray, List.set_cons_zero, List.set_cons_succ, List.getElem_toArray, List.getElem_cons_zero, List.getElem_cons_succ]
        refine any_take (i := 2) (v := (.bool false)) #[true, true, false, false, false, false, false, false, false, false, false, false, false, false, false] rfl (by kernel_rfl) (by kernel_rfl) (by kernel_rfl) (by kernel_rfl) (fun _ _ _ h => h) (.inl ⟨by kernel_rfl, fun x_ hu => by kernel_rfl⟩) trivial ?_
        simp only [Act.put, List.setIfInBounds_toArray, List.set_cons_zero, List.set_cons_succ, List.getElem_toArray, List.getElem_cons_zero, List.getElem_cons_succ]
        refine any_take (i := 3) (v := undef) #[true, true, true, false, false, false, false, false, false, false, false, false, false, false, false] rfl (by kernel_rfl) (by kernel_rfl) (by kernel_rfl) (by kernel_rfl) (fun _ _ _ h => h) (.inr ⟨by kernel_rfl, rfl⟩) trivial ?_
        simp only [Act.put, List.setIfInBounds_toArray, List.set_cons_zero, List.set_cons_succ, List.getElem_toArray, List.getElem_cons_zero, List.getElem_cons_succ]
        refine any_take (i := 4) (v := undef) #[true, true, true, true, false, false, false, false, false, false, false, false, false, false, false] rfl (by kernel_rfl) (by kernel_rfl) (by kernel_rfl) (by kernel_rfl) (fun _ _ _ h => h) (.inr ⟨by kernel_rfl, rfl⟩) trivial ?_
        simp only [Act.put, List.setIfInBounds_toArray, List.set_cons_zero, List.set_cons_succ, List.getElem_toArray, List.getElem_cons_zero, List.getElem_cons_succ]
        refine any_take (i := 5) (v := undef) #[true, true, true, true, true, false, false, false, false, false, false, false, false, false, false] rfl (by kernel_rfl) (by kernel_rfl) (by kernel_rfl) (by kernel_rfl) (fun _ _ _ h => h) (.inr ⟨by kernel_rfl, rfl⟩) trivial ?_
        simp only [Act.put, List.setIfInBounds_toArray, List.set_cons_zero, List.set_cons_succ, List.getElem_toArray, List.getElem_cons_zero, List.getElem_cons_succ]
        refine any_take (i := 6) (v := undef) #[true, true, true, true, true, true, false, false, false, false, false, false, false, false, false] rfl (by kernel_rfl) (by kernel_rfl) (by kernel_rfl) (by kernel_rfl) (fun _ _ _ h => h) (.inr ⟨by kernel_rfl, rfl⟩) trivial ?_
        simp only [Act.put, List.setIfInBounds_toArray, List.set_cons_zero, List.set_cons_succ, List.getElem_toArray, List.getElem_cons_zero, List.getElem_cons_succ]
        refine any_take (i := 7) (v := undef) #[true, true, true, true, true, true, true, false, false, false, false, false, false, false, false] rfl (by kernel_rfl) (by kernel_rfl) (by kernel_rfl) (by kernel_rfl) (fun _ _ _ h => h) (.inr ⟨by kernel_rfl, rfl⟩) trivial ?_
        simp only [Act.put, List.setIfInBounds_toArray, List.set_cons_zero, List.set_cons_succ, List.getElem_toArray, List.getElem_cons_zero, List.getElem_cons_succ]
        refine any_take (i := 8) (v := undef) #[true, true, true, true, true, true, true, true, false, false, false, false, false, false, false] rfl (by kernel_rfl) (by kernel_rfl) (by kernel_rfl) (by kernel_rfl) (fun _ _ _ h => h) (.inr ⟨by kernel_rfl, rfl⟩) trivial ?_
        simp only [Act.put, List.setIfInBounds_toArray, List.set_cons_zero, List.set_cons_succ, List.getElem_toArray, List.getElem_cons_zero, List.getElem_cons_succ]
        refine any_take (i := 9) (v := undef) #[true, true, true, true, true, true, true, true, true, false, false, false, false, false, false] rfl (by kernel_rfl) (by kernel_rfl) (by kernel_rfl) (by kernel_rfl) (fun _ _ _ h => h) (.inr ⟨by kernel_rfl, rfl⟩) trivial ?_
        simp only [Act.put, List.setIfInBounds_toArray, List.set_cons_zero, List.set_cons_succ, List.getElem_toArray, List.getElem_cons_zero, List.getElem_cons_succ]
        refine any_take (i := 10) (v := undef) #[true, true, true, true, true, true, true, true, true, true, false, false, false, false, false] rfl (by kernel_rfl) (by kernel_rfl) (by kernel_rfl) (by kernel_rfl) (fun _ _ _ h => h) (.inr ⟨by kernel_rfl, rfl⟩) trivial ?_
        simp only [Act.put, List.setIfInBounds_toArray, List.set_cons_zero, List.set_cons_succ, List.getElem_toArray, List.getElem_cons_zero, List.getElem_cons_succ]
        refine any_take (i := 11) (v := undef) #[true, true, true, true, true, true, true, true, true, true, true, false, false, false, false] rfl (by kernel_rfl) (by kernel_rfl) (by kernel_rfl) (by kernel_rfl) (fun _ _ _ h => h) (.inr ⟨by kernel_rfl, rfl⟩) trivial ?_
        simp only [Act.put, List.setIfInBounds_toArray, List.set_cons_zero, List.set_cons_succ, List.getElem_toArray, List.getElem_cons_zero, List.getElem_cons_succ]
        refine any_take (i := 12) (v := undef) #[true, true, true, true, true, true, true, true, true, true, true, true, false, false, false] rfl (by kernel_rfl) (by kernel_rfl) (by kernel_rfl) (by kernel_rfl) (fun _ _ _ h => h) (.inr ⟨by kernel_rfl, rfl⟩) trivial ?_
        simp only [Act.put, List.setIfInBounds_toArray, List.set_cons_zero, List.set_cons_succ, List.getElem_toArray, List.getElem_cons_zero, List.getElem_cons_succ]
        refine any_take (i := 13) (v := undef) #[true, true, true, true, true, true, true, true, true, true, true, true, true, false, false] rfl (by kernel_rfl) (by kernel_rfl) (by kernel_rfl) (by kernel_rfl) (fun _ _ _ h => h) (.inr ⟨by kernel_rfl, rfl⟩) trivial ?_
        simp only [Act.put, List.setIfInBounds_toArray, List.set_cons_zero, List.set_cons_succ, List.getElem_toArray, List.getElem_cons_zero, List.getElem_cons_succ]
        refine any_take (i := 14) (v := (.bool false)) #[true, true, true, true, true, true, true, true, true, true, true, true, true, true, false] rfl (by kernel_rfl) (by kernel_rfl) (by kernel_rfl) (by kernel_rfl) (fun _ _ _ h => h) (.inl ⟨by kernel_rfl, fun x_ hu => by kernel_rfl⟩) trivial ?_
        simp only [Act.put, List.setIfInBounds_toArray, List.set_cons_zero, List.set_cons_succ, List.getElem_toArray, List.getElem_cons_zero, List.getElem_cons_succ]
        refine any_done (by kernel_rfl) ?_
        have hK7 : Hid (TkI v0 g gd za (j + 1) F5 G5 D5 s3 L5 la ln lc x9) := ⟨(unhide hK6).xs.more hB.gr, (unhide hK6).fd, (unhide hK6).pd, (unhide hK6).kn, (unhide hK6).lb, (unhide hK6).tn⟩
        clear hK6 hB
        go_wp2_with fail
        go_roundw
        case rel => exact ⟨j + 1, by omega, by omega, by go_num, F5, G5, D5, s3, L5, la, ln, lc, rfl, rfl, rfl, hK7⟩
        case measure => simp [intOf]; omega
      have htI : 0 < (s3.turn : Int) := by omega
      have htN : 0 < s3.turn := by omega
      obtain ⟨q, hq⟩ : ∃ x, x = s3.turn % 2 := ⟨_, rfl⟩
      have htj := (unhide hK6).tn
      have i1 : (s3.turn : Int).tmod 2 = (q : Int) := by rw [Int.tmod_eq_emod_of_nonneg (by omega)]; omega
      have i2 : IntKind.u64.wrap (q : Int) = (q : Int) := by rw [IntKind.wrap_u64]; omega
      have hqz : q < za := by omega
      obtain ⟨p1, o1, rfl, hr1⟩ := ls_sec (unhide hls2) kn5 (unhide hq2).dead q hqz
      have hsu := (unhide hq2).hs.sup
      have hkb := blk_bb (unhide hq2).hs.ok
      have hse : (⟨s3.place, s3.turn, ln, sh16 L5⟩ : Sup) = s3 := sup_eta (by rw [← nL]; exact (unhide hq2).hs.len) (unhide hq2).hs.hash
      have hp5 := (unhide hq2).hs.ok.p
      rw [← hq] at hsu
      rw [hsu] at hr1
      obtain ⟨bk, hbk⟩ : ∃ x, x = s3.blk := ⟨_, rfl⟩
      rw [← hbk] at hr1 hkb
      have hkl := hkb.1
      replace hr1 := hide hr1; replace hbk := hide hbk; replace hse := hide hse; replace hq := hide hq
      clear hsu hkb ht0
      refine any_start (S := fun (v : World) => Gr y16 v) (by kernel_rfl) ?_
      replace hB := hB.drew
      generalize World.drew _ = x9 at *
      simp only [List.size_toArray, List.length_cons, List.length_nil, Array.replicate, List.replicate]
      refine any_take (i := 0) (v := (.int .u64 (s3.turn : Int))) #[false, false, false, false, false, false, false, false, false, false, false, false, false, false, false] rfl (by kernel_rfl) (by kernel_rfl) (by kernel_rfl) (by kernel_rfl) (fun _ _ _ h => h) (.inl ⟨by kernel_rfl, fun x_ hu => by kernel_rfl⟩) hB.gr ?_
      simp only [Act.put, List.setIfInBounds_toArray, List.set_cons_zero, List.set_cons_succ, List.getElem_toArray, List.getElem_cons_zero, List.getElem_cons_succ]
      refine any_take (i := 1) (v := (.bool true)) #[true, false, false, false, false, false, false, false, false, false, false, false, false, false, false] rfl (by kernel_rfl) (by kernel_rfl) (by kernel_rfl) (by kernel_rfl) (fun _ _ _ h => h) (.inl ⟨by kernel_rfl, fun x_ hu => by go_simp⟩) hB.gr ?_
      simp only [Act.put, List.setIfInBounds_toArray, List.set_cons_zero, List.set_cons_succ, List.getElem_toArray, List.getElem_cons_zero, List.getElem_cons_succ]
      refine any_take (i := 2) (v := (.bool true)) #[true, true, false, false, false, false, false, false, false, false, false, false, false, false, false] rfl (by kernel_rfl) (by kernel_rfl) (by kernel_rfl) (by kernel_rfl) (fun _ _ _ h => h) (.inl ⟨by kernel_rfl, fun x_ hu => by kernel_rfl⟩) hB.gr ?_
      simp only [Act.put, List.setIfInBounds_toArray, List.set_cons_zero, List.set_cons_succ, List.getElem_toArray, List.getElem_cons_zero, List.getElem_cons_succ]
      refine any_take (i := 3) (v := (.pointer (some ⟨gx, 0, none⟩))) #[true, true, true, false, false, false, false, false, false, false, false, false, false, false, false] rfl (by kernel_rfl) (by kernel_rfl) (by kernel_rfl) (by kernel_rfl) (fun _ _ _ h => h) (.inl ⟨by kernel_rfl, fun x_ hu => by kernel_rfl⟩) hB.gr ?_
      simp only [Act.put, List.setIfInBounds_toArray, List.set_cons_zero, List.set_cons_succ, List.getElem_toArray, List.getElem_cons_zero, List.getElem_cons_succ]
      refine any_take (i := 4) (v := (.slice (some ⟨p1, o1, none⟩) za c1)) #[true, true, true, true, false, false, false, false, false, false, false, false, false, false, false] rfl (by kernel_rfl) (by kernel_rfl) (by kernel_rfl) (by kernel_rfl) (fun _ _ _ h => h) (.inl ⟨by kernel_rfl, fun x_ hu => exec_sb _ (.tmp 143) rfl gx 0 (by kernel_rfl) (some ⟨p1, o1, none⟩) za c1 (cell_of (hu.blk (unhide hgx2)) (i := 0) rfl)⟩) hB.gr ?_
      simp only [Act.put, List.setIfInBounds_toArray, List.set_cons_zero, List.set_cons_succ, List.getElem_toArray, List.getElem_cons_zero, List.getElem_cons_succ]
      refine any_take (i := 5) (v := (.int .u64 (s3.turn : Int))) #[true, true, true, true, true, false, false, false, false, false, false, false, false, false, false] rfl (by kernel_rfl) (by kernel_rfl) (by kernel_rfl) (by kernel_rfl) (fun _ _ _ h => h) (.inl ⟨by kernel_rfl, fun x_ hu => by kernel_rfl⟩) hB.gr ?_
      simp only [Act.put, List.setIfInBounds_toArray, List.set_cons_zero, List.set_cons_succ, List.getElem_toArray, List.getElem_cons_zero, List.getElem_cons_succ]
      refine any_take (i := 6) (v := (.int .u64 (q : Int))) #[true, true, true, true, true, true, false, false, false, false, false, false, false, false, false] rfl (by kernel_rfl) (by kernel_rfl) (by kernel_rfl) (by kernel_rfl) (fun _ _ _ h => h) (.inl ⟨by kernel_rfl, fun x_ hu => by go_simp⟩) hB.gr ?_
      simp only [Act.put, List.setIfInBounds_toArray, List.set_cons_zero, List.set_cons_succ, List.getElem_toArray, List.getElem_cons_zero, List.getElem_cons_succ]
      refine any_take (i := 7) (v := (.pointer (some ⟨p1, o1 + 64 * q, none⟩))) #[true, true, true, true, true, true, true, false, false, false, false, false, false, false, false] rfl (by kernel_rfl) (by kernel_rfl) (by kernel_rfl) (by kernel_rfl) (fun _ _ _ h => h) (.inl ⟨by kernel_rfl, fun x_ hu => exec_ibu _ (.tmp 144) (.tmp 146) rfl p1 o1 za c1 q rfl rfl hqz⟩) hB.gr ?_
      simp only [Act.put, List.setIfInBounds_toArray, List.set_cons_zero, List.set_cons_succ, List.getElem_toArray, List.getElem_cons_zero, List.getElem_cons_succ]
      refine any_take (i := 8) (v := (.agg (kc bk))) #[true, true, true, true, true, true, true, true, false, false, false, false, false, false, false] rfl (by kernel_rfl) (by kernel_rfl) (by kernel_rfl) (by kernel_rfl) (fun _ _ _ h => h) (.inl ⟨by kernel_rfl, fun x_ hu => exec_row _ 50 (.tmp 147) rfl p1 (o1 + 64 * q) (by kernel_rfl) (bv bk) _ (range_gr (unhide hr1) hu) Tryd.underlying50 rfl (by rw [Tryd.infoB, bv_len, hkl])⟩) hB.gr ?_
      simp only [Act.put, List.setIfInBounds_toArray, List.set_cons_zero, List.set_cons_succ, List.getElem_toArray, List.getElem_cons_zero, List.getElem_cons_succ]
      refine any_take (i := 9) (v := (.int .i64 (s3.place : Int))) #[true, true, true, true, true, true, true, true, true, false, false, false, false, false, false] rfl (by kernel_rfl) (by kernel_rfl) (by kernel_rfl) (by kernel_rfl) (fun _ _ _ h => h) (.inl ⟨by kernel_rfl, fun x_ hu => by kernel_rfl⟩) hB.gr ?_
      simp only [Act.put, List.setIfInBounds_toArray, List.set_cons_zero, List.set_cons_succ, List.getElem_toArray, List.getElem_cons_zero, List.getElem_cons_succ]
      refine any_take (i := 10) (v := (.int .u64 (s3.turn : Int))) #[true, true, true, true, true, true, true, true, true, true, false, false, false, false, false] rfl (by kernel_rfl) (by kernel_rfl) (by kernel_rfl) (by kernel_rfl) (fun _ _ _ h => h) (.inl ⟨by kernel_rfl, fun x_ hu => by kernel_rfl⟩) hB.gr ?_
      simp only [Act.put, List.setIfInBounds_toArray, List.set_cons_zero, List.set_cons_succ, List.getElem_toArray, List.getElem_cons_zero, List.getElem_cons_succ]
      refine any_take (i := 11) (v := (.slice la ln lc)) #[true, true, true, true, true, true, true, true, true, true, true, false, false, false, false] rfl (by kernel_rfl) (by kernel_rfl) (by kernel_rfl) (by kernel_rfl) (fun _ _ _ h => h) (.inl ⟨by kernel_rfl, fun x_ hu => by kernel_rfl⟩) hB.gr ?_
      simp only [Act.put, List.setIfInBounds_toArray, List.set_cons_zero, List.set_cons_succ, List.getElem_toArray, List.getElem_cons_zero, List.getElem_cons_succ]
      refine any_one (i := 12) (by kernel_rfl) rfl (fun K_ hQ => ?_)
      refine step_callw (by kernel_rfl) 22 #[.int .i64 (s3.place : Int), .int .u64 (s3.turn : Int), .slice la ln lc] (by kernel_rfl) ((rblock_ok s3.place s3.turn hp5 (by omega) L5 la ln lc _ ((unhide hK6).lb.gr ((unhide hK6).xs.gr.trans hB.gr)) (by omega)).mono ?_)
      rintro r x10 ⟨rfl, hg⟩
      refine ⟨_, rfl, ?_⟩
      rw [unhide hse, ← unhide hbk]
      replace hB := hB.more hg
      clear hg
      refine hQ.out _ _ hB.gr (fun _ => ?_)
      clear hQ K_
      simp only [Act.put, List.setIfInBounds_toArray, List.set_cons_zero, List.set_cons_succ, List.getElem_toArray, List.getElem_cons_zero, List.getElem_cons_succ]
      refine any_take (i := 13) (v := (.bool false)) #[true, true, true, true, true, true, true, true, true, true, true, true, true, false, false] rfl (by kernel_rfl) (by kernel_rfl) (by kernel_rfl) (by kernel_rfl) (fun _ _ _ h => h) (.inl ⟨by kernel_rfl, fun x_ hu => exec_neB _ (.tmp 148) (.tmp 152) rfl bk hkl (by kernel_rfl) (by kernel_rfl)⟩) hB.gr ?_
      simp only [Act.put, List.setIfInBounds_toArray, List.set_cons_zero, List.set_cons_succ, List.getElem_toArray, List.getElem_cons_zero, List.getElem_cons_succ]
      refine any_take (i := 14) (v := (.bool false)) #[true, true, true, true, true, true, true, true, true, true, true, true, true, true, false] rfl (by kernel_rfl) (by kernel_rfl) (by kernel_rfl) (by kernel_rfl) (fun _ _ _ h => h) (.inl ⟨by kernel_rfl, fun x_ hu => by kernel_rfl⟩) hB.gr ?_
      simp only [Act.put, List.setIfInBounds_toArray, List.set_cons_zero, List.set_cons_succ, List.getElem_toArray, List.getElem_cons_zero, List.getElem_cons_succ]
      refine any_done (by kernel_rfl) ?_
      clear i1 i2
      have hK7 : Hid (TkI v0 g gd za (j + 1) F5 G5 D5 s3 L5 la ln lc x10) := ⟨(unhide hK6).xs.more hB.gr, (unhide hK6).fd, (unhide hK6).pd, (unhide hK6).kn, (unhide hK6).lb, (unhide hK6).tn⟩
      clear hK6 hB
      go_wp2_with fail
      go_roundw
      case rel => exact ⟨j + 1, by omega, by omega, by go_num, F5, G5, D5, s3, L5, la, ln, lc, rfl, rfl, rfl, hK7⟩
      case measure => simp [intOf]; omega
    refine wp_region_lit ?_
    refine list_val (.pointer (some ⟨g, 0, none⟩)) (by kernel_rfl) (by kernel_rfl) ?_
    simp only [Act.put, List.setIfInBounds_toArray, List.set_cons_zero, List.set_cons_succ, List.getElem_toArray, List.getElem_cons_zero, List.getElem_cons_succ]
    refine list_valw (.slice (some ⟨wr.heap.size, 0, none⟩) 0 0) (wr.alloc (.cells #[] 5 (0, 0))) (by kernel_rfl) (by kernel_rfl) ?_
    have hO : Ob wr.heap.size (wr.alloc (.cells #[] 5 (0, 0))) (.slice (some ⟨wr.heap.size, 0, none⟩) 0 0) [] := blk_bytes [] (Nat.le_refl _) (Nat.zero_le _)
    have hG := (Gr.refl wr).alloc (.cells #[] 5 (0, 0))
    generalize World.alloc _ _ = y1 at *
    simp only [Act.put, List.setIfInBounds_toArray, List.set_cons_zero, List.set_cons_succ, List.getElem_toArray, List.getElem_cons_zero, List.getElem_cons_succ]
    refine list_val (.slice ai ni ci) (by kernel_rfl) (by kernel_rfl) ?_
    simp only [Act.put, List.setIfInBounds_toArray, List.set_cons_zero, List.set_cons_succ, List.getElem_toArray, List.getElem_cons_zero, List.getElem_cons_succ]
    refine app_bs (by kernel_rfl) (.tmp 58) (.tmp 59) rfl wr.heap.size _ [] rfl hO ai ni ci M rfl (unhide hlb).len (((unhide hlb).gr (unhide hX).gr).gr hG).sl (by simp only [List.length_nil, Nat.zero_add]; omega) hG.size ?_
    intro v9 y2 hO9 hgr
    rw [List.nil_append] at hO9
    have hG9 := hO.grown (Nat.le_refl _) hG hgr
    have hfr := hO9
    obtain ⟨a2, c2, rfl, l2⟩ := ob_lb hO9 (unhide hlb).isB (n := ni) (unhide hlb).len
    have hfr2 := ob_fr hfr (Nat.le_refl wr.heap.size)
    have hfar : M = [] ∨ ∀ i, i ∈ F3 ∨ i ∈ G3 → blkOf a2 ≠ some i := by
      right
      intro i hi e
      rcases hfr2 i e with e9 | e9
      · cases e9
      · rcases hi with hi | hi
        · have := (unhide hX).ls.lt i hi; omega
        · have := (unhide hX).st.lt i hi; omega
    replace l2 := hide l2; replace hfar := hide hfar
    clear hB
    have hB : Bl wr [] y2 := (Bl.nil wr).more hG9
    clear hO9 hgr hO hG hG9 hfr hfr2
    simp only [Act.put, List.setIfInBounds_toArray, List.set_cons_zero, List.set_cons_succ, List.getElem_toArray, List.getElem_cons_zero, List.getElem_cons_succ]
    have hfit : ni ≤ 64 * ((D3.safe.length - 2) / 4) := by rw [kn3, ← unhide hh, ← unhide hRm]; omega
    have htn := (unhide hJ).tn
    refine list_call 13 #[P0 g, .slice a2 ni c2] (by kernel_rfl) (by kernel_rfl) ((etake_ok F3 G3 g gd _ D3 s3 _ (unhide hFd).ok (by omega) (unhide hFd).dead y2 ((unhide hX).ls.gr hB.gr) ((unhide hX).st.gr hB.gr) (unhide hFd).len (unhide hFd).hs.os (unhide hX).ap ((unhide hf0).gr ((unhide hX).gr.trans hB.gr)) ((unhide hX).none_ (unhide hf0)) M a2 ni c2 (unhide l2) (unhide hfar) hfit (by omega)).mono ?_)
    rintro r y3 ⟨F4, G4, rfl, hL4, hS4, hap4, hc4⟩
    obtain ⟨t1, t2, t3, t4, -⟩ := take_all (M := M) (unhide hFd) (unhide hlb).isB (by rw [(unhide hlb).len]; exact hfit) (by omega)
    rw [t1] at hS4 ⊢
    rw [if_pos rfl] at hS4
    obtain ⟨n1_, -, n3_, -⟩ := s3.next_is M
    generalize (Dk.runD (takeOps s3 ((D3.safe.length - 2) / 4) M) D3).1 = D4 at *
    have hX4 := ((unhide hX).more hB.gr).turn t3 hL4 hS4 hap4 hc4
    generalize s3.next M = s4 at *
    have hp3 := (unhide hFd).hs.ok.p
    have hK4 : Hid (TkI v0 g gd za (j + 1) F4 G4 D4 s4 M ai ni ci y3) := ⟨hX4, t2.up (by rw [(unhide hlb).len]; omega), t4, t3.trans kn3, unhide hlb, by omega⟩
    clear hB hL4 hS4 hap4 hc4 t1 t2 t3 t4 hX4 hX hFd hJ hfit
    refine ⟨_, rfl, ?_⟩
    simp only [Act.put, List.setIfInBounds_toArray, List.set_cons_zero, List.set_cons_succ, List.getElem_toArray, List.getElem_cons_zero, List.getElem_cons_succ]
    (refine wpList_step fun K hK => ?_; replace hK := hide hK; go_simp; refine unhide hK _ _ ?_; clear hK K)
    refine wpList_nil ?_
    have hB := Bl.nil y3
    replace hB := hide hB
    go_upto_region 17 with fail
    replace hB := unhide hB
    have hbI : ¬ (Rm : Int) < (ni : Int) := by omega
    refine wp_region_lit ?_
    refine list_val (.slice ai ni ci) (by kernel_rfl) (by kernel_rfl) ?_
    simp only [Act.put, List.setIfInBounds_toArray, List.set_cons_zero, List.set_cons_succ, List.getElem_toArray, List.getElem_cons_zero, List.getElem_cons_succ]
    refine list_val (.int .i64 ni) (by kernel_rfl) (by kernel_rfl) ?_
    simp only [Act.put, List.setIfInBounds_toArray, List.set_cons_zero, List.set_cons_succ, List.getElem_toArray, List.getElem_cons_zero, List.getElem_cons_succ]
    refine list_val (.pointer (some ⟨g, 0, none⟩)) (by kernel_rfl) (by kernel_rfl) ?_
    simp only [Act.put, List.setIfInBounds_toArray, List.set_cons_zero, List.set_cons_succ, List.getElem_toArray, List.getElem_cons_zero, List.getElem_cons_succ]
    refine list_call 14 #[.pointer (some ⟨g, 0, none⟩)] (by kernel_rfl) (by kernel_rfl) ((eroom_ok F4 G4 g gd _ D4 s4 (unhide hK4).fd.ok _ ((unhide hK4).xs.ls.gr hB.gr) ((unhide hK4).xs.st.gr hB.gr)).mono ?_)
    rintro r y4 ⟨rfl, hg⟩
    refine ⟨_, rfl, ?_⟩
    rw [(unhide hK4).kn, ← unhide hh, ← unhide hRm]
    replace hB := hB.more hg
    clear hg
    simp only [Act.put, List.setIfInBounds_toArray, List.set_cons_zero, List.set_cons_succ, List.getElem_toArray, List.getElem_cons_zero, List.getElem_cons_succ]
    refine list_val (.bool false) (by kernel_rfl) (by go_simp) ?_
    simp only [Act.put, List.setIfInBounds_toArray, List.set_cons_zero, List.set_cons_succ, List.getElem_toArray, List.getElem_cons_zero, List.getElem_cons_succ]
    refine wpList_nil ?_
    replace hB := hide hB
    go_upto_region 20 with fail
    replace hB := unhide hB
    refine wp_region_lit ?_
    refine list_val (.int .i64 0) (by kernel_rfl) (by kernel_rfl) ?_
    simp only [Act.put, List.setIfInBounds_toArray, List.set_cons_zero, List.set_cons_succ, List.getElem_toArray, List.getElem_cons_zero, List.getElem_cons_succ]
    refine list_val (.bool false) (by kernel_rfl) (by go_simp) ?_
    simp only [Act.put, List.setIfInBounds_toArray, List.set_cons_zero, List.set_cons_succ, List.getElem_toArray, List.getElem_cons_zero, List.getElem_cons_succ]
    refine wpList_nil ?_
    have i1 : IntKind.u64.wrap ((s3.turn : Int) + 1) = (s4.turn : Int) := by rw [n1_, IntKind.wrap_u64]; omega
    have i2 : IntKind.i64.wrap (1 - (s3.place : Int)) = (s4.place : Int) := by rw [n3_, IntKind.wrap_i64]; omega
    replace n1_ := hide n1_; replace n3_ := hide n3_
    replace hB := hide hB
    go_upto_region 22 with fail
    replace hB := unhide hB
    refine wp_region_lit ?_
    refine list_val (.slice ai ni ci) (by kernel_rfl) (by kernel_rfl) ?_
    simp only [Act.put, List.setIfInBounds_toArray, List.set_cons_zero, List.set_cons_succ, List.getElem_toArray, List.getElem_cons_zero, List.getElem_cons_succ]
    refine list_val (.int .u64 (s3.turn : Int)) (by kernel_rfl) (by kernel_rfl) ?_
    simp only [Act.put, List.setIfInBounds_toArray, List.set_cons_zero, List.set_cons_succ, List.getElem_toArray, List.getElem_cons_zero, List.getElem_cons_succ]
    refine list_val (.int .u64 (s4.turn : Int)) (by kernel_rfl) (by go_simp) ?_
    simp only [Act.put, List.setIfInBounds_toArray, List.set_cons_zero, List.set_cons_succ, List.getElem_toArray, List.getElem_cons_zero, List.getElem_cons_succ]
    refine list_val (.int .i64 (s3.place : Int)) (by kernel_rfl) (by kernel_rfl) ?_
    simp only [Act.put, List.setIfInBounds_toArray, List.set_cons_zero, List.set_cons_succ, List.getElem_toArray, List.getElem_cons_zero, List.getElem_cons_succ]
    refine list_val (.int .i64 (s4.place : Int)) (by kernel_rfl) (by go_simp) ?_
    simp only [Act.put, List.setIfInBounds_toArray, List.set_cons_zero, List.set_cons_succ, List.getElem_toArray, List.getElem_cons_zero, List.getElem_cons_succ]
    (refine wpList_step fun K hK => ?_; replace hK := hide hK; go_simp; refine unhide hK _ _ ?_; clear hK K)
    (refine wpList_step fun K hK => ?_; replace hK := hide hK; go_simp; refine unhide hK _ _ ?_; clear hK K)
    (refine wpList_step fun K hK => ?_; replace hK := hide hK; go_simp; refine unhide hK _ _ ?_; clear hK K)
    refine wpList_nil ?_
    clear i1 i2
    obtain ⟨F5, G5, D5, s5, L5, la5, ln5, lc5, e1_, e2_, e3_, hK5⟩ : ∃ F5 G5 D5 s5 L5 la5 ln5 lc5, (Value.slice ai ni ci = .slice la5 ln5 lc5) ∧ (s4 = s5) ∧ True ∧ Hid (TkI v0 g gd za (j + 1) F5 G5 D5 s5 L5 la5 ln5 lc5 y4) := ⟨F4, G4, D4, s4, M, ai, ni, ci, rfl, rfl, trivial, ⟨(unhide hK4).xs.more hB.gr, (unhide hK4).fd, (unhide hK4).pd, (unhide hK4).kn, (unhide hK4).lb, (unhide hK4).tn⟩⟩
    injection e1_ with e4_ e5_ e6_
    subst e4_ e5_ e6_ e2_
    clear e3_ hK4 hB hbI
    skip
    have hX := hide (unhide hK5).xs
    have kn5 := (unhide hK5).kn
    have hq2 := hide (unhide hK5).fd
    have hB := Bl.nil y4
    have nL : L5.length = ni := (unhide hK5).lb.len
    have hln : ni ≤ 2560 := by
      have h1 := (unhide hK5).fd.hs.fit
      have h2 := (unhide hK5).fd.hs.len
      rw [kn5, ← unhide hh, ← unhide hRm] at h1
      omega
    replace hB := hide hB
    go_upto_region 23 with fail
    replace hB := unhide hB
    refine wp_region_lit ?_
    refine list_val (.pointer (some ⟨gd, 0, none⟩)) (by kernel_rfl) (by kernel_rfl) ?_
    simp only [Act.put, List.setIfInBounds_toArray, List.set_cons_zero, List.set_cons_succ, List.getElem_toArray, List.getElem_cons_zero, List.getElem_cons_succ]
    refine list_call 15 #[P0 gd] (by kernel_rfl) (by kernel_rfl) ((sectors_ok F5 gd (3 + 50 * (j + 1)) D5 (unhide hq2).ok (by omega) (unhide hq2).dead y4 ((unhide hX).ls.gr hB.gr)).mono ?_)
    rintro r y6 ⟨a1, c1, rfl, hlsa1, hfra1, hg⟩
    rw [kn5] at hlsa1 ⊢
    have hfara1 : Hid (∀ i ∈ F5, blkOf a1 ≠ some i) := fun i hi e => by
      rcases hfra1 i e with e | e
      · cases e
      · have h1 := ((unhide hX).ls.gr hB.gr).lt i hi
        omega
    replace hg := hB.gr.trans hg
    skip
    replace hX := hide ((unhide hX).more hg)
    clear hB hfra1 hg
    have hB := Bl.nil y6
    replace hlsa1 := hide hlsa1
    refine ⟨_, rfl, ?_⟩
    simp only [Act.put, List.setIfInBounds_toArray, List.set_cons_zero, List.set_cons_succ, List.getElem_toArray, List.getElem_cons_zero, List.getElem_cons_succ]
    refine list_val (.tuple #[.agg #[.slice a1 za c1], .bool true]) (by kernel_rfl) (by kernel_rfl) ?_
    simp only [Act.put, List.setIfInBounds_toArray, List.set_cons_zero, List.set_cons_succ, List.getElem_toArray, List.getElem_cons_zero, List.getElem_cons_succ]
    refine list_val (.agg #[.slice a1 za c1]) (by kernel_rfl) (by kernel_rfl) ?_
    simp only [Act.put, List.setIfInBounds_toArray, List.set_cons_zero, List.set_cons_succ, List.getElem_toArray, List.getElem_cons_zero, List.getElem_cons_succ]
    refine list_val (.bool true) (by kernel_rfl) (by kernel_rfl) ?_
    simp only [Act.put, List.setIfInBounds_toArray, List.set_cons_zero, List.set_cons_succ, List.getElem_toArray, List.getElem_cons_zero, List.getElem_cons_succ]
    refine list_valw (.pointer (some ⟨y6.heap.size, 0, none⟩)) (y6.alloc (.cells (#[.slice none 0 0]) 38 (0, 0))) (by kernel_rfl) (by kernel_rfl) ?_
    replace hB := hB.new (#[.slice none 0 0]) 38
    simp only [List.nil_append, List.cons_append] at hB
    generalize World.alloc _ _ = y7 at *
    generalize y6.heap.size = gx at *
    replace hB : Bl y6 [⟨gx, #[.slice none 0 0], 38⟩] y7 := hB
    simp only [Act.put, List.setIfInBounds_toArray, List.set_cons_zero, List.set_cons_succ, List.getElem_toArray, List.getElem_cons_zero, List.getElem_cons_succ]
    refine list_store 38 (.tmp 14) (.tmp 79) (gx) (#[.slice a1 za c1]) 38 (#[.slice none 0 0]) (by kernel_rfl) rfl (by kernel_rfl) (by kernel_rfl) (hB.get 0 (x := ⟨gx, #[.slice none 0 0], 38⟩) rfl) (by rw [Tryd.infoRd11]; rfl) rfl (by simp [Value.oneCell']) ?_
    replace hB := hB.set 0 (x := ⟨gx, #[.slice none 0 0], 38⟩) rfl (#[.slice a1 za c1])
    simp only [List.set_cons_zero, List.set_cons_succ] at hB
    generalize World.setRow _ _ _ = y8 at *
    replace hB : Bl y6 [⟨gx, #[.slice a1 za c1], 38⟩] y8 := hB
    simp only [Act.put, List.setIfInBounds_toArray, List.set_cons_zero, List.set_cons_succ, List.getElem_toArray, List.getElem_cons_zero, List.getElem_cons_succ]
    (refine wpList_step fun K hK => ?_; replace hK := hide hK; go_simp; refine unhide hK _ _ ?_; clear hK K)
    refine wpList_nil ?_
    have hgx : Hid (y8.heap[gx]? = some (.cells (#[.slice a1 za c1]) 38 (0, 0))) := (hB.get 0 (x := ⟨gx, #[.slice a1 za c1], 38⟩) rfl)
    replace hlsa1 := hide ((unhide hlsa1).gr hB.gr)
    replace hX := hide ((unhide hX).more hB.gr)
    clear hB
    have hB := Bl.nil y8
    replace hB := hide hB
    go_upto_region 24 with fail
    replace hB := unhide hB
    refine wp_region_lit ?_
    refine list_val (.agg #[.slice a1 za c1]) (by kernel_rfl) (exec_arr _ 38 (.tmp 14) rfl gx (by kernel_rfl) #[.slice a1 za c1] 38 _ (hB.gr.blk (unhide hgx)) Tryd.underlying38 rfl (by rw [Tryd.infoRd11]; rfl)) ?_
    simp only [Act.put, List.setIfInBounds_toArray, List.set_cons_zero, List.set_cons_succ, List.getElem_toArray, List.getElem_cons_zero, List.getElem_cons_succ]
    refine list_call 16 #[.agg #[.slice a1 za c1]] (by kernel_rfl) (by kernel_rfl) ((rsnap_ok (heldL D5) (held_all (unhide hq2).ok) a1 za c1 (by omega) (by omega) _ (unhide hlsa1)).mono ?_)
    intro r y9 hrs
    obtain ⟨vw, rfl, hO, hg⟩ := hrs.hs (s := s4) (L := L5) (by have h9 := hs_held (unhide hq2).dead (by omega) (unhide hq2).hs; rw [kn5] at h9; exact h9)
    obtain ⟨aw, cw, rfl, lw⟩ := ob_lb hO (unhide hq2).hs.isB (n := ni) nL
    replace lw := hide lw
    replace hB := hB.more hg
    clear hO hg hrs
    refine ⟨_, rfl, ?_⟩
    simp only [Act.put, List.setIfInBounds_toArray, List.set_cons_zero, List.set_cons_succ, List.getElem_toArray, List.getElem_cons_zero, List.getElem_cons_succ]
    refine list_val (.tuple #[.slice aw ni cw, .bool true]) (by kernel_rfl) (by kernel_rfl) ?_
    simp only [Act.put, List.setIfInBounds_toArray, List.set_cons_zero, List.set_cons_succ, List.getElem_toArray, List.getElem_cons_zero, List.getElem_cons_succ]
    refine list_val (.slice aw ni cw) (by kernel_rfl) (by kernel_rfl) ?_
    simp only [Act.put, List.setIfInBounds_toArray, List.set_cons_zero, List.set_cons_succ, List.getElem_toArray, List.getElem_cons_zero, List.getElem_cons_succ]
    refine list_val (.bool true) (by kernel_rfl) (by kernel_rfl) ?_
    simp only [Act.put, List.setIfInBounds_toArray, List.set_cons_zero, List.set_cons_succ, List.getElem_toArray, List.getElem_cons_zero, List.getElem_cons_succ]
    (refine wpList_step fun K hK => ?_; replace hK := hide hK; go_simp; refine unhide hK _ _ ?_; clear hK K)
    (refine wpList_step fun K hK => ?_; replace hK := hide hK; go_simp; refine unhide hK _ _ ?_; clear hK K)
    refine wpList_nil ?_
    replace hB := hide hB
    go_upto_region 25 with fail
    replace hB := unhide hB
    refine wp_region_lit ?_
    refine list_val (.pointer (some ⟨g, 0, none⟩)) (by kernel_rfl) (by kernel_rfl) ?_
    simp only [Act.put, List.setIfInBounds_toArray, List.set_cons_zero, List.set_cons_succ, List.getElem_toArray, List.getElem_cons_zero, List.getElem_cons_succ]
    refine list_call 17 #[P0 g] (by kernel_rfl) (by kernel_rfl) ((esnap_ok F5 G5 g gd _ D5 s4 L5 (unhide hq2).ok (by omega) (unhide hq2).dead (unhide hq2).len _ ((unhide hX).ls.gr hB.gr) ((unhide hX).st.gr hB.gr) (unhide hq2).hs.os ((unhide hf0).gr ((unhide hX).gr.trans hB.gr))).mono ?_)
    rintro r y10 ⟨vg, rfl, hO, hg⟩
    obtain ⟨ag, cg, rfl, lg⟩ := ob_lb hO (unhide hq2).hs.isB (n := ni) nL
    replace lg := hide lg
    replace lw := hide ((unhide lw).gr hg)
    replace hB := hB.more hg
    clear hO hg
    refine ⟨_, rfl, ?_⟩
    simp only [Act.put, List.setIfInBounds_toArray, List.set_cons_zero, List.set_cons_succ, List.getElem_toArray, List.getElem_cons_zero, List.getElem_cons_succ]
    refine list_val (.tuple #[.slice ag ni cg, .int .i64 0]) (by kernel_rfl) (by kernel_rfl) ?_
    simp only [Act.put, List.setIfInBounds_toArray, List.set_cons_zero, List.set_cons_succ, List.getElem_toArray, List.getElem_cons_zero, List.getElem_cons_succ]
    refine list_val (.slice ag ni cg) (by kernel_rfl) (by kernel_rfl) ?_
    simp only [Act.put, List.setIfInBounds_toArray, List.set_cons_zero, List.set_cons_succ, List.getElem_toArray, List.getElem_cons_zero, List.getElem_cons_succ]
    refine list_val (.int .i64 0) (by kernel_rfl) (by kernel_rfl) ?_
    simp only [Act.put, List.setIfInBounds_toArray, List.set_cons_zero, List.set_cons_succ, List.getElem_toArray, List.getElem_cons_zero, List.getElem_cons_succ]
    (refine wpList_step fun K hK => ?_; replace hK := hide hK; go_simp; refine unhide hK _ _ ?_; clear hK K)
    (refine wpList_step fun K hK => ?_; replace hK := hide hK; go_simp; refine unhide hK _ _ ?_; clear hK K)
    refine wpList_nil ?_
    replace hB := hide hB
    go_upto_region 26 with fail
    replace hB := unhide hB
    refine wp_region_lit ?_
    refine list_val (.pointer (some ⟨gd, 0, none⟩)) (by kernel_rfl) (by kernel_rfl) ?_
    simp only [Act.put, List.setIfInBounds_toArray, List.set_cons_zero, List.set_cons_succ, List.getElem_toArray, List.getElem_cons_zero, List.getElem_cons_succ]
    refine list_call 18 #[P0 gd] (by kernel_rfl) (by kernel_rfl) ((eopen_ok F5 gd _ D5 s4 L5 (unhide hq2).ok (by omega) (unhide hq2).dead (by omega) _ ((unhide hX).ls.gr hB.gr) (unhide hq2).hs.os ((unhide hf0).gr ((unhide hX).gr.trans hB.gr))).mono ?_)
    rintro r y11 ⟨gt, GT, rfl, hSt, hGt, hg⟩
    replace hSt := hide hSt
    replace lw := hide ((unhide lw).gr hg); replace lg := hide ((unhide lg).gr hg)
    replace hB := hB.more hg
    clear hg hGt
    refine ⟨_, rfl, ?_⟩
    simp only [Act.put, List.setIfInBounds_toArray, List.set_cons_zero, List.set_cons_succ, List.getElem_toArray, List.getElem_cons_zero, List.getElem_cons_succ]
    refine list_val (.tuple #[.pointer (some ⟨gt, 0, none⟩), .int .i64 0]) (by kernel_rfl) (by kernel_rfl) ?_
    simp only [Act.put, List.setIfInBounds_toArray, List.set_cons_zero, List.set_cons_succ, List.getElem_toArray, List.getElem_cons_zero, List.getElem_cons_succ]
    refine list_val (.pointer (some ⟨gt, 0, none⟩)) (by kernel_rfl) (by kernel_rfl) ?_
    simp only [Act.put, List.setIfInBounds_toArray, List.set_cons_zero, List.set_cons_succ, List.getElem_toArray, List.getElem_cons_zero, List.getElem_cons_succ]
    refine list_val (.int .i64 0) (by kernel_rfl) (by kernel_rfl) ?_
    simp only [Act.put, List.setIfInBounds_toArray, List.set_cons_zero, List.set_cons_succ, List.getElem_toArray, List.getElem_cons_zero, List.getElem_cons_succ]
    (refine wpList_step fun K hK => ?_; replace hK := hide hK; go_simp; refine unhide hK _ _ ?_; clear hK K)
    (refine wpList_step fun K hK => ?_; replace hK := hide hK; go_simp; refine unhide hK _ _ ?_; clear hK K)
    refine wpList_nil ?_
    replace hB := hide hB
    go_upto_region 27 with fail
    replace hB := unhide hB
    refine wp_region_lit ?_
    refine list_val (.bool true) (by kernel_rfl) (by kernel_rfl) ?_
    simp only [Act.put, List.setIfInBounds_toArray, List.set_cons_zero, List.set_cons_succ, List.getElem_toArray, List.getElem_cons_zero, List.getElem_cons_succ]
    refine list_val (.bool false) (by kernel_rfl) (by kernel_rfl) ?_
    simp only [Act.put, List.setIfInBounds_toArray, List.set_cons_zero, List.set_cons_succ, List.getElem_toArray, List.getElem_cons_zero, List.getElem_cons_succ]
    refine list_val (.bool false) (by kernel_rfl) (by kernel_rfl) ?_
    simp only [Act.put, List.setIfInBounds_toArray, List.set_cons_zero, List.set_cons_succ, List.getElem_toArray, List.getElem_cons_zero, List.getElem_cons_succ]
    refine list_val (.bool true) (by kernel_rfl) (by kernel_rfl) ?_
    simp only [Act.put, List.setIfInBounds_toArray, List.set_cons_zero, List.set_cons_succ, List.getElem_toArray, List.getElem_cons_zero, List.getElem_cons_succ]
    refine list_val (.bool false) (by kernel_rfl) (by kernel_rfl) ?_
    simp only [Act.put, List.setIfInBounds_toArray, List.set_cons_zero, List.set_cons_succ, List.getElem_toArray, List.getElem_cons_zero, List.getElem_cons_succ]
    refine list_val (.bool false) (by kernel_rfl) (by kernel_rfl) ?_
    simp only [Act.put, List.setIfInBounds_toArray, List.set_cons_zero, List.set_cons_succ, List.getElem_toArray, List.getElem_cons_zero, List.getElem_cons_succ]
    refine list_val (.bool false) (by kernel_rfl) (by kernel_rfl) ?_
    simp only [Act.put, List.setIfInBounds_toArray, List.set_cons_zero, List.set_cons_succ, List.getElem_toArray, List.getElem_cons_zero, List.getElem_cons_succ]
    refine list_val (.int .i64 0) (by kernel_rfl) (by kernel_rfl) ?_
    simp only [Act.put, List.setIfInBounds_toArray, List.set_cons_zero, List.set_cons_succ, List.getElem_toArray, List.getElem_cons_zero, List.getElem_cons_succ]
    refine list_val (.bool false) (by kernel_rfl) (by go_simp) ?_
    simp only [Act.put, List.setIfInBounds_toArray, List.set_cons_zero, List.set_cons_succ, List.getElem_toArray, List.getElem_cons_zero, List.getElem_cons_succ]
    refine list_val (.bool false) (by kernel_rfl) (by kernel_rfl) ?_
    simp only [Act.put, List.setIfInBounds_toArray, List.set_cons_zero, List.set_cons_succ, List.getElem_toArray, List.getElem_cons_zero, List.getElem_cons_succ]
    refine list_val (.bool false) (by kernel_rfl) (by kernel_rfl) ?_
    simp only [Act.put, List.setIfInBounds_toArray, List.set_cons_zero, List.set_cons_succ, List.getElem_toArray, List.getElem_cons_zero, List.getElem_cons_succ]
    refine list_val (.int .i64 0) (by kernel_rfl) (by kernel_rfl) ?_
    simp only [Act.put, List.setIfInBounds_toArray, List.set_cons_zero, List.set_cons_succ, List.getElem_toArray, List.getElem_cons_zero, List.getElem_cons_succ]
    refine list_val (.bool false) (by kernel_rfl) (by go_simp) ?_
    simp only [Act.put, List.setIfInBounds_toArray, List.set_cons_zero, List.set_cons_succ, List.getElem_toArray, List.getElem_cons_zero, List.getElem_cons_succ]
    refine list_val (.bool false) (by kernel_rfl) (by kernel_rfl) ?_
    simp only [Act.put, List.setIfInBounds_toArray, List.set_cons_zero, List.set_cons_succ, List.getElem_toArray, List.getElem_cons_zero, List.getElem_cons_succ]
    refine list_val (.bool false) (by kernel_rfl) (by kernel_rfl) ?_
    simp only [Act.put, List.setIfInBounds_toArray, List.set_cons_zero, List.set_cons_succ, List.getElem_toArray, List.getElem_cons_zero, List.getElem_cons_succ]
    refine list_val (.slice ag ni cg) (by kernel_rfl) (by kernel_rfl) ?_
    simp only [Act.put, List.setIfInBounds_toArray, List.set_cons_zero, List.set_cons_succ, List.getElem_toArray, List.getElem_cons_zero, List.getElem_cons_succ]
    refine list_val (.slice ai ni ci) (by kernel_rfl) (by kernel_rfl) ?_
    simp only [Act.put, List.setIfInBounds_toArray, List.set_cons_zero, List.set_cons_succ, List.getElem_toArray, List.getElem_cons_zero, List.getElem_cons_succ]
    refine list_call 19 #[.slice ag ni cg, .slice ai ni ci] (by kernel_rfl) (by kernel_rfl) ((rsame_ok L5 L5 _ _ ni ni _ _ _ (unhide lg) ((unhide hK5).lb.gr ((unhide hX).gr.trans hB.gr)) (by omega)).mono ?_)
    rintro r y12 ⟨rfl, hg⟩
    refine ⟨_, rfl, ?_⟩
    rw [decide_eq_true rfl]
    replace lw := hide ((unhide lw).gr hg); replace lg := hide ((unhide lg).gr hg); replace hSt := hide ((unhide hSt).gr hg)
    replace hB := hB.more hg
    clear hg
    simp only [Act.put, List.setIfInBounds_toArray, List.set_cons_zero, List.set_cons_succ, List.getElem_toArray, List.getElem_cons_zero, List.getElem_cons_succ]
    refine list_val (.bool false) (by kernel_rfl) (by kernel_rfl) ?_
    simp only [Act.put, List.setIfInBounds_toArray, List.set_cons_zero, List.set_cons_succ, List.getElem_toArray, List.getElem_cons_zero, List.getElem_cons_succ]
    refine list_val (.bool false) (by kernel_rfl) (by kernel_rfl) ?_
    simp only [Act.put, List.setIfInBounds_toArray, List.set_cons_zero, List.set_cons_succ, List.getElem_toArray, List.getElem_cons_zero, List.getElem_cons_succ]
    refine list_val (.bool false) (by kernel_rfl) (by kernel_rfl) ?_
    simp only [Act.put, List.setIfInBounds_toArray, List.set_cons_zero, List.set_cons_succ, List.getElem_toArray, List.getElem_cons_zero, List.getElem_cons_succ]
    refine list_val (.slice aw ni cw) (by kernel_rfl) (by kernel_rfl) ?_
    simp only [Act.put, List.setIfInBounds_toArray, List.set_cons_zero, List.set_cons_succ, List.getElem_toArray, List.getElem_cons_zero, List.getElem_cons_succ]
    refine list_val (.slice ai ni ci) (by kernel_rfl) (by kernel_rfl) ?_
    simp only [Act.put, List.setIfInBounds_toArray, List.set_cons_zero, List.set_cons_succ, List.getElem_toArray, List.getElem_cons_zero, List.getElem_cons_succ]
    refine list_call 19 #[.slice aw ni cw, .slice ai ni ci] (by kernel_rfl) (by kernel_rfl) ((rsame_ok L5 L5 _ _ ni ni _ _ _ (unhide lw) ((unhide hK5).lb.gr ((unhide hX).gr.trans hB.gr)) (by omega)).mono ?_)
    rintro r y13 ⟨rfl, hg⟩
    refine ⟨_, rfl, ?_⟩
    rw [decide_eq_true rfl]
    replace lw := hide ((unhide lw).gr hg); replace lg := hide ((unhide lg).gr hg); replace hSt := hide ((unhide hSt).gr hg)
    replace hB := hB.more hg
    clear hg
    simp only [Act.put, List.setIfInBounds_toArray, List.set_cons_zero, List.set_cons_succ, List.getElem_toArray, List.getElem_cons_zero, List.getElem_cons_succ]
    refine list_val (.bool false) (by kernel_rfl) (by kernel_rfl) ?_
    simp only [Act.put, List.setIfInBounds_toArray, List.set_cons_zero, List.set_cons_succ, List.getElem_toArray, List.getElem_cons_zero, List.getElem_cons_succ]
    refine list_val (.bool false) (by kernel_rfl) (by kernel_rfl) ?_
    simp only [Act.put, List.setIfInBounds_toArray, List.set_cons_zero, List.set_cons_succ, List.getElem_toArray, List.getElem_cons_zero, List.getElem_cons_succ]
    refine list_val (.bool false) (by kernel_rfl) (by kernel_rfl) ?_
    simp only [Act.put, List.setIfInBounds_toArray, List.set_cons_zero, List.set_cons_succ, List.getElem_toArray, List.getElem_cons_zero, List.getElem_cons_succ]
    refine list_val (.pointer (some ⟨g, 0, none⟩)) (by kernel_rfl) (by kernel_rfl) ?_
    simp only [Act.put, List.setIfInBounds_toArray, List.set_cons_zero, List.set_cons_succ, List.getElem_toArray, List.getElem_cons_zero, List.getElem_cons_succ]
    refine list_call 20 #[.pointer (some ⟨g, 0, none⟩)] (by kernel_rfl) (by kernel_rfl) ((eturn_ok F5 G5 g gd _ D5 s4 L5 (unhide hq2).ok (by omega) (unhide hq2).dead (unhide hq2).len _ ((unhide hX).ls.gr hB.gr) ((unhide hX).st.gr hB.gr) (unhide hq2).hs.os ((unhide hf0).gr ((unhide hX).gr.trans hB.gr))).mono ?_)
    rintro r y14 ⟨rfl, hg⟩
    refine ⟨_, rfl, ?_⟩
    replace lw := hide ((unhide lw).gr hg); replace lg := hide ((unhide lg).gr hg); replace hSt := hide ((unhide hSt).gr hg)
    replace hB := hB.more hg
    clear hg
    simp only [Act.put, List.setIfInBounds_toArray, List.set_cons_zero, List.set_cons_succ, List.getElem_toArray, List.getElem_cons_zero, List.getElem_cons_succ]
    refine list_val (.int .u64 (s4.turn : Int)) (by kernel_rfl) (by kernel_rfl) ?_
    simp only [Act.put, List.setIfInBounds_toArray, List.set_cons_zero, List.set_cons_succ, List.getElem_toArray, List.getElem_cons_zero, List.getElem_cons_succ]
    refine list_val (.bool false) (by kernel_rfl) (by go_simp) ?_
    simp only [Act.put, List.setIfInBounds_toArray, List.set_cons_zero, List.set_cons_succ, List.getElem_toArray, List.getElem_cons_zero, List.getElem_cons_succ]
    refine list_val (.bool false) (by kernel_rfl) (by kernel_rfl) ?_
    simp only [Act.put, List.setIfInBounds_toArray, List.set_cons_zero, List.set_cons_succ, List.getElem_toArray, List.getElem_cons_zero, List.getElem_cons_succ]
    refine list_val (.bool false) (by kernel_rfl) (by kernel_rfl) ?_
    simp only [Act.put, List.setIfInBounds_toArray, List.set_cons_zero, List.set_cons_succ, List.getElem_toArray, List.getElem_cons_zero, List.getElem_cons_succ]
    refine list_val (.pointer (some ⟨gt, 0, none⟩)) (by kernel_rfl) (by kernel_rfl) ?_
    simp only [Act.put, List.setIfInBounds_toArray, List.set_cons_zero, List.set_cons_succ, List.getElem_toArray, List.getElem_cons_zero, List.getElem_cons_succ]
    refine list_call 20 #[.pointer (some ⟨gt, 0, none⟩)] (by kernel_rfl) (by kernel_rfl) ((eturn_ok F5 GT gt gd _ D5 s4 L5 (unhide hq2).ok (by omega) (unhide hq2).dead (unhide hq2).len _ ((unhide hX).ls.gr hB.gr) (unhide hSt) (unhide hq2).hs.os ((unhide hf0).gr ((unhide hX).gr.trans hB.gr))).mono ?_)
    rintro r y15 ⟨rfl, hg⟩
    refine ⟨_, rfl, ?_⟩
    replace lw := hide ((unhide lw).gr hg); replace lg := hide ((unhide lg).gr hg); replace hSt := hide ((unhide hSt).gr hg)
    replace hB := hB.more hg
    clear hg
    simp only [Act.put, List.setIfInBounds_toArray, List.set_cons_zero, List.set_cons_succ, List.getElem_toArray, List.getElem_cons_zero, List.getElem_cons_succ]
    refine list_val (.int .u64 (s4.turn : Int)) (by kernel_rfl) (by kernel_rfl) ?_
    simp only [Act.put, List.setIfInBounds_toArray, List.set_cons_zero, List.set_cons_succ, List.getElem_toArray, List.getElem_cons_zero, List.getElem_cons_succ]
    refine list_val (.bool false) (by kernel_rfl) (by go_simp) ?_
    simp only [Act.put, List.setIfInBounds_toArray, List.set_cons_zero, List.set_cons_succ, List.getElem_toArray, List.getElem_cons_zero, List.getElem_cons_succ]
    refine list_val (.bool false) (by kernel_rfl) (by kernel_rfl) ?_
    simp only [Act.put, List.setIfInBounds_toArray, List.set_cons_zero, List.set_cons_succ, List.getElem_toArray, List.getElem_cons_zero, List.getElem_cons_succ]
    refine list_val (.bool false) (by kernel_rfl) (by kernel_rfl) ?_
    simp only [Act.put, List.setIfInBounds_toArray, List.set_cons_zero, List.set_cons_succ, List.getElem_toArray, List.getElem_cons_zero, List.getElem_cons_succ]
    refine list_val (.pointer (some ⟨gd, 0, none⟩)) (by kernel_rfl) (by kernel_rfl) ?_
    simp only [Act.put, List.setIfInBounds_toArray, List.set_cons_zero, List.set_cons_succ, List.getElem_toArray, List.getElem_cons_zero, List.getElem_cons_succ]
    refine list_call 21 #[P0 gd] (by kernel_rfl) (by kernel_rfl) ((dpending_ok F5 gd _ D5 (unhide hq2).ok (by omega) _ ((unhide hX).ls.gr hB.gr)).mono ?_)
    intro r y16 hp
    obtain ⟨pa_, pc_, rfl, hg⟩ := pnd_len hp
    rw [(unhide hK5).pd, List.map_nil, List.length_nil]
    replace hB := hB.more hg
    clear hg hp
    refine ⟨_, rfl, ?_⟩
    simp only [Act.put, List.setIfInBounds_toArray, List.set_cons_zero, List.set_cons_succ, List.getElem_toArray, List.getElem_cons_zero, List.getElem_cons_succ]
    refine list_val (.int .i64 0) (by kernel_rfl) (by kernel_rfl) ?_
    simp only [Act.put, List.setIfInBounds_toArray, List.set_cons_zero, List.set_cons_succ, List.getElem_toArray, List.getElem_cons_zero, List.getElem_cons_succ]
    refine list_val (.bool false) (by kernel_rfl) (by go_simp) ?_
    simp only [Act.put, List.setIfInBounds_toArray, List.set_cons_zero, List.set_cons_succ, List.getElem_toArray, List.getElem_cons_zero, List.getElem_cons_succ]
    refine list_val (.bool false) (by kernel_rfl) (by kernel_rfl) ?_
    simp only [Act.put, List.setIfInBounds_toArray, List.set_cons_zero, List.set_cons_succ, List.getElem_toArray, List.getElem_cons_zero, List.getElem_cons_succ]
    refine wpList_nil ?_
    have hK6 : Hid (TkI v0 g gd za (j + 1) F5 G5 D5 s4 L5 ai ni ci y16) := ⟨(unhide hX).more hB.gr, (unhide hK5).fd, (unhide hK5).pd, (unhide hK5).kn, (unhide hK5).lb, (unhide hK5).tn⟩
    have hgx2 := hide (hB.gr.blk (unhide hgx))
    have hls2 := hide ((unhide hlsa1).gr hB.gr)
    clear hK5 hB hX hgx hlsa1 lw lg hSt
    have hB := Bl.nil y16
    replace hB := hide hB
    go_upto_region 29 with fail
    replace hB := unhide hB
    by_cases ht0 : s4.turn = 0
    · skip
      have htI : ¬ 0 < (s4.turn : Int) := by omega
      replace ht0 := hide ht0
      refine any_start (S := fun _ => True) (by kernel_rfl) ?_
      replace hB := hB.drew
      generalize World.drew _ = x9 at *
      simp only [List.size_toArray, List.length_cons, List.length_nil, Array.replicate, List.replicate]
      refine any_take (i := 0) (v := (.int .u64 (s4.turn : Int))) #[false, false, false, false, false, false, false, false, false, false, false, false, false, false, false] rfl (by kernel_rfl) (by kernel_rfl) (by kernel_rfl) (by kernel_rfl) (fun _ _ _ h => h) (.inl ⟨by kernel_rfl, fun x_ hu => by kernel_rfl⟩) trivial ?_
      simp only [Act.put, List.setIfInBounds_toArray, List.set_cons_zero, List.set_cons_succ, List.getElem_toArray, List.getElem_cons_zero, List.getElem_cons_succ]
      refine any_take (i := 1) (v := (.bool false)) #[true, false, false, false, false, false, false, false, false, false, false, false, false, false, false] rfl (by kernel_rfl) (by kernel_rfl) (by kernel_rfl) (by kernel_rfl) (fun _ _ _ h => h) (.inl ⟨by kernel_rfl, fun x_ hu => by have h9 := unhide ht0; go_simp⟩) trivial ?_
      simp only [Act.put, List.setIfInBounds_toArray, List.set_cons_zero, List.set_cons_succ, List.getElem_toArray, List.getElem_cons_zero, List.getElem_cons_succ]
      refine any_take (i := 2) (v := (.bool false)) #[true, true, false, false, false, false, false, false, false, false, false, false, false, false, false] rfl (by kernel_rfl) (by kernel_rfl) (by kernel_rfl) (by kernel_rfl) (fun _ _ _ h => h) (.inl ⟨by kernel_rfl, fun x_ hu => by kernel_rfl⟩) trivial ?_
      simp only [Act.put, List.setIfInBounds_toArray, List.set_cons_zero, List.set_cons_succ, List.getElem_toArray, List.getElem_cons_zero, List.getElem_cons_succ]
      refine any_take (i := 3) (v := undef) #[true, true, true, false, false, false, false, false, false, false, false, false, false, false, false] rfl (by kernel_rfl) (by kernel_rfl) (by kernel_rfl) (by kernel_rfl) (fun _ _ _ h => h) (.inr ⟨by kernel_rfl, rfl⟩) trivial ?_
      simp only [Act.put, List.setIfInBounds_toArray, List.set_cons_zero, List.set_cons_succ, List.getElem_toArray, List.getElem_cons_zero, List.getElem_cons_succ]
      refine any_take (i := 4) (v := undef) #[true, true, true, true, false, false, false, false, false, false, false, false, false, false, false] rfl (by kernel_rfl) (by kernel_rfl) (by kernel_rfl) (by kernel_rfl) (fun _ _ _ h => h) (.inr ⟨by kernel_rfl, rfl⟩) trivial ?_
      simp only [Act.put, List.setIfInBounds_toArray, List.set_cons_zero, List.set_cons_succ, List.getElem_toArray, List.getElem_cons_zero, List.getElem_cons_succ]
      refine any_take (i := 5) (v := undef) #[true, true, true, true, true, false, false, false, false, false, false, false, false, false, false] rfl (by kernel_rfl) (by kernel_rfl) (by kernel_rfl) (by kernel_rfl) (fun _ _ _ h => h) (.inr ⟨by kernel_rfl, rfl⟩) trivial ?_
      simp only [Act.put, List.setIfInBounds_toArray, List.set_cons_zero, List.set_cons_succ, List.getElem_toArray, List.getElem_cons_zero, List.getElem_cons_succ]
      refine any_take (i := 6) (v := undef) #[true, true, true, true, true, true, false, false, false, false, false, false, false, false, false] rfl (by kernel_rfl) (by kernel_rfl) (by kernel_rfl) (by kernel_rfl) (fun _ _ _ h => h) (.inr ⟨by kernel_rfl, rfl⟩) trivial ?_
      simp only [Act.put, List.setIfInBounds_toArray, List.set_cons_zero, List.set_cons_succ, List.getElem_toArray, List.getElem_cons_zero, List.getElem_cons_succ]
      refine any_take (i := 7) (v := undef) #[true, true, true, true, true, true, true, false, false, false, false, false, false, false, false] rfl (by kernel_rfl) (by kernel_rfl) (by kernel_rfl) (by kernel_rfl) (fun _ _ _ h => h) (.inr ⟨by kernel_rfl, rfl⟩) trivial ?_
      simp only [Act.put, List.setIfInBounds_toArray, List.set_cons_zero, List.set_cons_succ, List.getElem_toArray, List.getElem_cons_zero, List.getElem_cons_succ]
      refine any_take (i := 8) (v := undef) #[true, true, true, true, true, true, true, true, false, false, false, false, false, false, false] rfl (by kernel_rfl) (by kernel_rfl) (by kernel_rfl) (by kernel_rfl) (fun _ _ _ h => h) (.inr ⟨by kernel_rfl, rfl⟩) trivial ?_
      simp only [Act.put, List.setIfInBounds_toArray, List.set_cons_zero, List.set_cons_succ, List.getElem_toArray, List.getElem_cons_zero, List.getElem_cons_succ]
      refine any_take (i := 9) (v := undef) #[true, true, true, true, true, true, true, true, true, false, false, false, false, false, false] rfl (by kernel_rfl) (by kernel_rfl) (by kernel_rfl) (by kernel_rfl) (fun _ _ _ h => h) (.inr ⟨by kernel_rfl, rfl⟩) trivial ?_
      simp only [Act.put, List.setIfInBounds_toArray, List.set_cons_zero, List.set_cons_succ, List.getElem_toArray, List.getElem_cons_zero, List.getElem_cons_succ]
      refine any_take (i := 10) (v := undef) #[true, true, true, true, true, true, true, true, true, true, false, false, false, false, false] rfl (by kernel_rfl) (by kernel_rfl) (by kernel_rfl) (by kernel_rfl) (fun _ _ _ h => h) (.inr ⟨by kernel_rfl, rfl⟩) trivial ?_
      simp only [Act.put, List.setIfInBounds_toArray, List.set_cons_zero, List.set_cons_succ, List.getElem_toArray, List.getElem_cons_zero, List.getElem_cons_succ]
      refine any_take (i := 11) (v := undef) #[true, true, true, true, true, true, true, true, true, true, true, false, false, false, false] rfl (by kernel_rfl) (by kernel_rfl) (by kernel_rfl) (by kernel_rfl) (fun _ _ _ h => h) (.inr ⟨by kernel_rfl, rfl⟩) trivial ?_
      simp only [Act.put, List.setIfInBounds_toArray, List.set_cons_zero, List.set_cons_succ, List.getElem_toArray, List.getElem_cons_zero, List.getElem_cons_succ]
      refine any_take (i := 12) (v := undef) #[true, true, true, true, true, true, true, true, true, true, true, true, false, false, false] rfl (by kernel_rfl) (by kernel_rfl) (by kernel_rfl) (by kernel_rfl) (fun _ _ _ h => h) (.inr ⟨by kernel_rfl, rfl⟩) trivial ?_
      simp only [Act.put, List.setIfInBounds_toArray, List.set_cons_zero, List.set_cons_succ, List.getElem_toArray, List.getElem_cons_zero, List.getElem_cons_succ]
      refine any_take (i := 13) (v := undef) #[true, true, true, true, true, true, true, true, true, true, true, true, true, false, false] rfl (by kernel_rfl) (by kernel_rfl) (by kernel_rfl) (by kernel_rfl) (fun _ _ _ h => h) (.inr ⟨by kernel_rfl, rfl⟩) trivial ?_
      simp only [Act.put, List.setIfInBounds_toArray, List.set_cons_zero, List.set_cons_succ, List.getElem_toArray, List.getElem_cons_zero, List.getElem_cons_succ]
      refine any_take (i := 14) (v := (.bool false)) #[true, true, true, true, true, true, true, true, true, true, true, true, true, true, false] rfl (by kernel_rfl) (by kernel_rfl) (by kernel_rfl) (by kernel_rfl) (fun _ _ _ h => h) (.inl ⟨by kernel_rfl, fun x_ hu => by kernel_rfl⟩) trivial ?_
      simp only [Act.put, List.setIfInBounds_toArray, List.set_cons_zero, List.set_cons_succ, List.getElem_toArray, List.getElem_cons_zero, List.getElem_cons_succ]
      refine any_done (by kernel_rfl) ?_
      have hK7 : Hid (TkI v0 g gd za (j + 1) F5 G5 D5 s4 L5 ai ni ci x9) := ⟨(unhide hK6).xs.more hB.gr, (unhide hK6).fd, (unhide hK6).pd, (unhide hK6).kn, (unhide hK6).lb, (unhide hK6).tn⟩
      clear hK6 hB
      go_wp2_with fail
      go_roundw
      case rel => exact ⟨j + 1, by omega, by omega, by go_num, F5, G5, D5, s4, L5, ai, ni, ci, rfl, rfl, rfl, hK7⟩
      case measure => simp [intOf]; omega
    have htI : 0 < (s4.turn : Int) := by omega
    have htN : 0 < s4.turn := by omega
    obtain ⟨q, hq⟩ : ∃ x, x = s4.turn % 2 := ⟨_, rfl⟩
    have htj := (unhide hK6).tn
    have i1 : (s4.turn : Int).tmod 2 = (q : Int) := by rw [Int.tmod_eq_emod_of_nonneg (by omega)]; omega
    have i2 : IntKind.u64.wrap (q : Int) = (q : Int) := by rw [IntKind.wrap_u64]; omega
    have hqz : q < za := by omega
    obtain ⟨p1, o1, rfl, hr1⟩ := ls_sec (unhide hls2) kn5 (unhide hq2).dead q hqz
    have hsu := (unhide hq2).hs.sup
    have hkb := blk_bb (unhide hq2).hs.ok
    have hse : (⟨s4.place, s4.turn, ni, sh16 L5⟩ : Sup) = s4 := sup_eta (by rw [← nL]; exact (unhide hq2).hs.len) (unhide hq2).hs.hash
    have hp5 := (unhide hq2).hs.ok.p
    rw [← hq] at hsu
    rw [hsu] at hr1
    obtain ⟨bk, hbk⟩ : ∃ x, x = s4.blk := ⟨_, rfl⟩
    rw [← hbk] at hr1 hkb
    have hkl := hkb.1
    replace hr1 := hide hr1; replace hbk := hide hbk; replace hse := hide hse; replace hq := hide hq
    clear hsu hkb ht0
    refine any_start (S := fun (v : World) => Gr y16 v) (by kernel_rfl) ?_
    replace hB := hB.drew
    generalize World.drew _ = x9 at *
    simp only [List.size_toArray, List.length_cons, List.length_nil, Array.replicate, List.replicate]
    refine any_take (i := 0) (v := (.int .u64 (s4.turn : Int))) #[false, false, false, false, false, false, false, false, false, false, false, false, false, false, false] rfl (by kernel_rfl) (by kernel_rfl) (by kernel_rfl) (by kernel_rfl) (fun _ _ _ h => h) (.inl ⟨by kernel_rfl, fun x_ hu => by kernel_rfl⟩) hB.gr ?_
    simp only [Act.put, List.setIfInBounds_toArray, List.set_cons_zero, List.set_cons_succ, List.getElem_toArray, List.getElem_cons_zero, List.getElem_cons_succ]
    refine any_take (i := 1) (v := (.bool true)) #[true, false, false, false, false, false, false, false, false, false, false, false, false, false, false] rfl (by kernel_rfl) (by kernel_rfl) (by kernel_rfl) (by kernel_rfl) (fun _ _ _ h => h) (.inl ⟨by kernel_rfl, fun x_ hu => by go_simp⟩) hB.gr ?_
    simp only [Act.put, List.setIfInBounds_toArray, List.set_cons_zero, List.set_cons_succ, List.getElem_toArray, List.getElem_cons_zero, List.getElem_cons_succ]
    refine any_take (i := 2) (v := (.bool true)) #[true, true, false, false, false, false, false, false, false, false, false, false, false, false, false] rfl (by kernel_rfl) (by kernel_rfl) (by kernel_rfl) (by kernel_rfl) (fun _ _ _ h => h) (.inl ⟨by kernel_rfl, fun x_ hu => by kernel_rfl⟩) hB.gr ?_
    simp only [Act.put, List.setIfInBounds_toArray, List.set_cons_zero, List.set_cons_succ, List.getElem_toArray, List.getElem_cons_zero, List.getElem_cons_succ]
    refine any_take (i := 3) (v := (.pointer (some ⟨gx, 0, none⟩))) #[true, true, true, false, false, false, false, false, false, false, false, false, false, false, false] rfl (by kernel_rfl) (by kernel_rfl) (by kernel_rfl) (by kernel_rfl) (fun _ _ _ h => h) (.inl ⟨by kernel_rfl, fun x_ hu => by kernel_rfl⟩) hB.gr ?_
    simp only [Act.put, List.setIfInBounds_toArray, List.set_cons_zero, List.set_cons_succ, List.getElem_toArray, List.getElem_cons_zero, List.getElem_cons_succ]
    refine any_take (i := 4) (v := (.slice (some ⟨p1, o1, none⟩) za c1)) #[true, true, true, true, false, false, false, false, false, false, false, false, false, false, false] rfl (by kernel_rfl) (by kernel_rfl) (by kernel_rfl) (by kernel_rfl) (fun _ _ _ h => h) (.inl ⟨by kernel_rfl, fun x_ hu => exec_sb _ (.tmp 143) rfl gx 0 (by kernel_rfl) (some ⟨p1, o1, none⟩) za c1 (cell_of (hu.blk (unhide hgx2)) (i := 0) rfl)⟩) hB.gr ?_
    simp only [Act.put, List.setIfInBounds_toArray, List.set_cons_zero, List.set_cons_succ, List.getElem_toArray, List.getElem_cons_zero, List.getElem_cons_succ]
    refine any_take (i := 5) (v := (.int .u64 (s4.turn : Int))) #[true, true, true, true, true, false, false, false, false, false, false, false, false, false, false] rfl (by kernel_rfl) (by kernel_rfl) (by kernel_rfl) (by kernel_rfl) (fun _ _ _ h => h) (.inl ⟨by kernel_rfl, fun x_ hu => by kernel_rfl⟩) hB.gr ?_
    simp only [Act.put, List.setIfInBounds_toArray, List.set_cons_zero, List.set_cons_succ, List.getElem_toArray, List.getElem_cons_zero, List.getElem_cons_succ]
    refine any_take (i := 6) (v := (.int .u64 (q : Int))) #[true, true, true, true, true, true, false, false, false, false, false, false, false, false, false] rfl (by kernel_rfl) (by kernel_rfl) (by kernel_rfl) (by kernel_rfl) (fun _ _ _ h => h) (.inl ⟨by kernel_rfl, fun x_ hu => by go_simp⟩) hB.gr ?_
    simp only [Act.put, List.setIfInBounds_toArray, List.set_cons_zero, List.set_cons_succ, List.getElem_toArray, List.getElem_cons_zero, List.getElem_cons_succ]
    refine any_take (i := 7) (v := (.pointer (some ⟨p1, o1 + 64 * q, none⟩))) #[true, true, true, true, true, true, true, false, false, false, false, false, false, false, false] rfl (by kernel_rfl) (by kernel_rfl) (by kernel_rfl) (by kernel_rfl) (fun _ _ _ h => h) (.inl ⟨by kernel_rfl, fun x_ hu => exec_ibu _ (.tmp 144) (.tmp 146) rfl p1 o1 za c1 q rfl rfl hqz⟩) hB.gr ?_
    simp only [Act.put, List.setIfInBounds_toArray, List.set_cons_zero, List.set_cons_succ, List.getElem_toArray, List.getElem_cons_zero, List.getElem_cons_succ]
    refine any_take (i := 8) (v := (.agg (kc bk))) #[true, true, true, true, true, true, true, true, false, false, false, false, false, false, false] rfl (by kernel_rfl) (by kernel_rfl) (by kernel_rfl) (by kernel_rfl) (fun _ _ _ h => h) (.inl ⟨by kernel_rfl, fun x_ hu => exec_row _ 50 (.tmp 147) rfl p1 (o1 + 64 * q) (by kernel_rfl) (bv bk) _ (range_gr (unhide hr1) hu) Tryd.underlying50 rfl (by rw [Tryd.infoB, bv_len, hkl])⟩) hB.gr ?_
    simp only [Act.put, List.setIfInBounds_toArray, List.set_cons_zero, List.set_cons_succ, List.getElem_toArray, List.getElem_cons_zero, List.getElem_cons_succ]
    refine any_take (i := 9) (v := (.int .i64 (s4.place : Int))) #[true, true, true, true, true, true, true, true, true, false, false, false, false, false, false] rfl (by kernel_rfl) (by kernel_rfl) (by kernel_rfl) (by kernel_rfl) (fun _ _ _ h => h) (.inl ⟨by kernel_rfl, fun x_ hu => by kernel_rfl⟩) hB.gr ?_
    simp only [Act.put, List.setIfInBounds_toArray, List.set_cons_zero, List.set_cons_succ, List.getElem_toArray, List.getElem_cons_zero, List.getElem_cons_succ]
    refine any_take (i := 10) (v := (.int .u64 (s4.turn : Int))) #[true, true, true, true, true, true, true, true, true, true, false, false, false, false, false] rfl (by kernel_rfl) (by kernel_rfl) (by kernel_rfl) (by kernel_rfl) (fun _ _ _ h => h) (.inl ⟨by kernel_rfl, fun x_ hu => by kernel_rfl⟩) hB.gr ?_
    simp only [Act.put, List.setIfInBounds_toArray, List.set_cons_zero, List.set_cons_succ, List.getElem_toArray, List.getElem_cons_zero, List.getElem_cons_succ]
    refine any_take (i := 11) (v := (.slice ai ni ci)) #[true, true, true, true, true, true, true, true, true, true, true, false, false, false, false] rfl (by kernel_rfl) (by kernel_rfl) (by kernel_rfl) (by kernel_rfl) (fun _ _ _ h => h) (.inl ⟨by kernel_rfl, fun x_ hu => by kernel_rfl⟩) hB.gr ?_
    simp only [Act.put, List.setIfInBounds_toArray, List.set_cons_zero, List.set_cons_succ, List.getElem_toArray, List.getElem_cons_zero, List.getElem_cons_succ]
    refine any_one (i := 12) (by kernel_rfl) rfl (fun K_ hQ => ?_)
    refine step_callw (by kernel_rfl) 22 #[.int .i64 (s4.place : Int), .int .u64 (s4.turn : Int), .slice ai ni ci] (by kernel_rfl) ((rblock_ok s4.place s4.turn hp5 (by omega) L5 ai ni ci _ ((unhide hK6).lb.gr ((unhide hK6).xs.gr.trans hB.gr)) (by omega)).mono ?_)
    rintro r x10 ⟨rfl, hg⟩
    refine ⟨_, rfl, ?_⟩
    rw [unhide hse, ← unhide hbk]
    replace hB := hB.more hg
    clear hg
    refine hQ.out _ _ hB.gr (fun _ => ?_)
    clear hQ K_
    simp only [Act.put, List.setIfInBounds_toArray, List.set_cons_zero, List.set_cons_succ, List.getElem_toArray, List.getElem_cons_zero, List.getElem_cons_succ]
    refine any_take (i := 13) (v := (.bool false)) #[true, true, true, true, true, true, true, true, true, true, true, true, true, false, false] rfl (by kernel_rfl) (by kernel_rfl) (by kernel_rfl) (by kernel_rfl) (fun _ _ _ h => h) (.inl ⟨by kernel_rfl, fun x_ hu => exec_neB _ (.tmp 148) (.tmp 152) rfl bk hkl (by kernel_rfl) (by kernel_rfl)⟩) hB.gr ?_
    simp only [Act.put, List.setIfInBounds_toArray, List.set_cons_zero, List.set_cons_succ, List.getElem_toArray, List.getElem_cons_zero, List.getElem_cons_succ]
    refine any_take (i := 14) (v := (.bool false)) #[true, true, true, true, true, true, true, true, true, true, true, true, true, true, false] rfl (by kernel_rfl) (by kernel_rfl) (by kernel_rfl) (by kernel_rfl) (fun _ _ _ h => h) (.inl ⟨by kernel_rfl, fun x_ hu => by kernel_rfl⟩) hB.gr ?_
    simp only [Act.put, List.setIfInBounds_toArray, List.set_cons_zero, List.set_cons_succ, List.getElem_toArray, List.getElem_cons_zero, List.getElem_cons_succ]
    refine any_done (by kernel_rfl) ?_
    clear i1 i2
    have hK7 : Hid (TkI v0 g gd za (j + 1) F5 G5 D5 s4 L5 ai ni ci x10) := ⟨(unhide hK6).xs.more hB.gr, (unhide hK6).fd, (unhide hK6).pd, (unhide hK6).kn, (unhide hK6).lb, (unhide hK6).tn⟩
    clear hK6 hB
    go_wp2_with fail
    go_roundw
    case rel => exact ⟨j + 1, by omega, by omega, by go_num, F5, G5, D5, s4, L5, ai, ni, ci, rfl, rfl, rfl, hK7⟩
    case measure => simp [intOf]; omega
  have jI : ¬ (j : Int) < (sn : Int) := by omega
  have hX := hide (unhide hJ).xs
  have hOk := hide (unhide hJ).fd.ok
  have kn := (unhide hJ).kn
  have hB : Bl wr [] wr := Bl.nil wr
  obtain ⟨m2, hm2⟩ : ∃ x, x = za - 2 := ⟨_, rfl⟩
  obtain ⟨sl, hsl⟩ : ∃ x, x = za - 2 - 2 * h := ⟨_, rfl⟩
  obtain ⟨h2, hh2⟩ : ∃ x, x = 2 * h := ⟨_, rfl⟩
  have hhv := unhide hh
  have hRv := unhide hRm
  have e1 : IntKind.i64.wrap ((za : Int) - 2) = (m2 : Int) := by rw [IntKind.wrap_i64]; omega
  have e3 : (m2 : Int).tdiv 4 = (h : Int) := by rw [Int.tdiv_eq_ediv_of_nonneg (by omega)]; omega
  have e4 : IntKind.i64.wrap (h : Int) = (h : Int) := by rw [IntKind.wrap_i64]; omega
  have e5 : IntKind.i64.wrap (64 * (h : Int)) = (Rm : Int) := by rw [IntKind.wrap_i64]; omega
  have e6 : IntKind.i64.wrap (2 * (h : Int)) = (h2 : Int) := by rw [IntKind.wrap_i64]; omega
  have e7 : IntKind.i64.wrap ((m2 : Int) - (h2 : Int)) = (sl : Int) := by rw [IntKind.wrap_i64]; omega
  have hrv : Hid (64 * ((D3.safe.length - 2) / 4) = Rm) := by show _ = _; rw [kn, hRv, hhv]
  have hsv : Hid (D3.safe.length - 2 - 2 * ((D3.safe.length - 2) / 4) = sl) := by show _ = _; rw [kn, hsl, hhv]
  replace hm2 := hide hm2; replace hsl := hide hsl; replace hh2 := hide hh2
  clear hhv hRv
  replace hB := hide hB
  go_upto_region 32 with fail
  replace hB := unhide hB
  refine wp_region_lit ?_
  refine list_val (.pointer (some ⟨g, 0, none⟩)) (by kernel_rfl) (by kernel_rfl) ?_
  simp only [Act.put, List.setIfInBounds_toArray, List.set_cons_zero, List.set_cons_succ, List.getElem_toArray, List.getElem_cons_zero, List.getElem_cons_succ]
  refine list_call 14 #[.pointer (some ⟨g, 0, none⟩)] (by kernel_rfl) (by kernel_rfl) ((eroom_ok F3 G3 g gd _ D3 _ (unhide hOk) _ ((unhide hX).ls.gr hB.gr) ((unhide hX).st.gr hB.gr)).mono ?_)
  rintro r z1 ⟨rfl, hg⟩
  refine ⟨_, rfl, ?_⟩
  rw [unhide hrv]
  replace hB := hB.more hg
  clear hg
  simp only [Act.put, List.setIfInBounds_toArray, List.set_cons_zero, List.set_cons_succ, List.getElem_toArray, List.getElem_cons_zero, List.getElem_cons_succ]
  refine list_val (.int .i64 (za : Int)) (by kernel_rfl) (by kernel_rfl) ?_
  simp only [Act.put, List.setIfInBounds_toArray, List.set_cons_zero, List.set_cons_succ, List.getElem_toArray, List.getElem_cons_zero, List.getElem_cons_succ]
  refine list_val (.int .i64 (m2 : Int)) (by kernel_rfl) (by go_simp) ?_
  simp only [Act.put, List.setIfInBounds_toArray, List.set_cons_zero, List.set_cons_succ, List.getElem_toArray, List.getElem_cons_zero, List.getElem_cons_succ]
  refine list_val (.int .i64 (h : Int)) (by kernel_rfl) (by go_simp) ?_
  simp only [Act.put, List.setIfInBounds_toArray, List.set_cons_zero, List.set_cons_succ, List.getElem_toArray, List.getElem_cons_zero, List.getElem_cons_succ]
  refine list_val (.int .i64 (Rm : Int)) (by kernel_rfl) (by go_simp) ?_
  simp only [Act.put, List.setIfInBounds_toArray, List.set_cons_zero, List.set_cons_succ, List.getElem_toArray, List.getElem_cons_zero, List.getElem_cons_succ]
  refine list_val (.bool true) (by kernel_rfl) (by go_simp) ?_
  simp only [Act.put, List.setIfInBounds_toArray, List.set_cons_zero, List.set_cons_succ, List.getElem_toArray, List.getElem_cons_zero, List.getElem_cons_succ]
  refine list_val (.bool true) (by kernel_rfl) (by kernel_rfl) ?_
  simp only [Act.put, List.setIfInBounds_toArray, List.set_cons_zero, List.set_cons_succ, List.getElem_toArray, List.getElem_cons_zero, List.getElem_cons_succ]
  refine list_val (.pointer (some ⟨g, 0, none⟩)) (by kernel_rfl) (by kernel_rfl) ?_
  simp only [Act.put, List.setIfInBounds_toArray, List.set_cons_zero, List.set_cons_succ, List.getElem_toArray, List.getElem_cons_zero, List.getElem_cons_succ]
  refine list_call 23 #[.pointer (some ⟨g, 0, none⟩)] (by kernel_rfl) (by kernel_rfl) ((eslots_ok F3 G3 g gd _ D3 _ (unhide hOk) _ ((unhide hX).ls.gr hB.gr) ((unhide hX).st.gr hB.gr)).mono ?_)
  rintro r z2 ⟨rfl, hg⟩
  refine ⟨_, rfl, ?_⟩
  rw [unhide hsv]
  replace hB := hB.more hg
  clear hg
  simp only [Act.put, List.setIfInBounds_toArray, List.set_cons_zero, List.set_cons_succ, List.getElem_toArray, List.getElem_cons_zero, List.getElem_cons_succ]
  refine list_val (.int .i64 (za : Int)) (by kernel_rfl) (by kernel_rfl) ?_
  simp only [Act.put, List.setIfInBounds_toArray, List.set_cons_zero, List.set_cons_succ, List.getElem_toArray, List.getElem_cons_zero, List.getElem_cons_succ]
  refine list_val (.int .i64 (m2 : Int)) (by kernel_rfl) (by go_simp) ?_
  simp only [Act.put, List.setIfInBounds_toArray, List.set_cons_zero, List.set_cons_succ, List.getElem_toArray, List.getElem_cons_zero, List.getElem_cons_succ]
  refine list_val (.int .i64 (za : Int)) (by kernel_rfl) (by kernel_rfl) ?_
  simp only [Act.put, List.setIfInBounds_toArray, List.set_cons_zero, List.set_cons_succ, List.getElem_toArray, List.getElem_cons_zero, List.getElem_cons_succ]
  refine list_val (.int .i64 (m2 : Int)) (by kernel_rfl) (by go_simp) ?_
  simp only [Act.put, List.setIfInBounds_toArray, List.set_cons_zero, List.set_cons_succ, List.getElem_toArray, List.getElem_cons_zero, List.getElem_cons_succ]
  refine list_val (.int .i64 (h : Int)) (by kernel_rfl) (by go_simp) ?_
  simp only [Act.put, List.setIfInBounds_toArray, List.set_cons_zero, List.set_cons_succ, List.getElem_toArray, List.getElem_cons_zero, List.getElem_cons_succ]
  refine list_val (.int .i64 (h2 : Int)) (by kernel_rfl) (by go_simp) ?_
  simp only [Act.put, List.setIfInBounds_toArray, List.set_cons_zero, List.set_cons_succ, List.getElem_toArray, List.getElem_cons_zero, List.getElem_cons_succ]
  refine list_val (.int .i64 (sl : Int)) (by kernel_rfl) (by go_simp) ?_
  simp only [Act.put, List.setIfInBounds_toArray, List.set_cons_zero, List.set_cons_succ, List.getElem_toArray, List.getElem_cons_zero, List.getElem_cons_succ]
  refine list_val (.bool true) (by kernel_rfl) (by go_simp) ?_
  simp only [Act.put, List.setIfInBounds_toArray, List.set_cons_zero, List.set_cons_succ, List.getElem_toArray, List.getElem_cons_zero, List.getElem_cons_succ]
  refine list_val (.bool true) (by kernel_rfl) (by kernel_rfl) ?_
  simp only [Act.put, List.setIfInBounds_toArray, List.set_cons_zero, List.set_cons_succ, List.getElem_toArray, List.getElem_cons_zero, List.getElem_cons_succ]
  (refine wpList_step fun K hK => ?_; replace hK := hide hK; go_simp; refine unhide hK _ _ ?_; clear hK K)
  refine wpList_nil ?_
  have hZ : Hid (Vl (.bool true) w (.returned (.bool true)) z2) := ⟨rfl, (unhide hBw).gr.trans ((unhide hX).gr.trans hB.gr)⟩
  replace hB := hide hB
  clear e1 e3 e4 e5 e6 e7
  go_wp2_with fail
  rw [unhide hT]
  exact unhide hZ
end Go.Proofs.YtomihjeiaignnaaDoor
