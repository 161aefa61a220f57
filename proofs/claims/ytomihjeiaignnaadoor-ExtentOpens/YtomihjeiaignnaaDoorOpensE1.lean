/-
  Of layer 11: what the proofs lean on.
-/
import Derived.WalkMore
import Derived.Deep.Cut
import Derived.StillTailTactics
import Derived.OwnWalk
import Derived.Deep.QuietTactic
import Derived.BigQuiet
import Derived.Deep.MidRow
import Derived.Laws.IdiomCopy
import Derived.Deep.DeepAppendWide
import Derived.Deep.Strs
import Derived.ProofKit
import Derived.OpenShut
import Derived.SizedLaws
import Derived.Deep.Grids
import Derived.Lib.SmallJoins
import Derived.Test.YtomihjeiaignnaaDoorG5
namespace Go.Proofs.YtomihjeiaignnaaDoor
open Go.RowKit
set_option maxRecDepth 100000
set_option linter.unusedSimpArgs false
set_option linter.unusedVariables false
def xb (a b : Int) : Int := bits .xor .u8 a b
theorem xb_rng (a b : Int) : 0 ≤ xb a b ∧ xb a b < 256 := by
  unfold xb bits
  simp only [IntKind.wrap_u8]
  omega
set_option maxHeartbeats 4000000 in
theorem settle_c (g : Nat) (D : Dk) (sg sc : Nat) (C : List Value) (pa : Option Addr) (pc : Nat) (l : Int) (keep : List Bool) (kb : Nat) (m : Nat) (hD : D.Ok m) (hm : m ≤ 1000001) (w : World) (hP : Pd g D w sg sc C pa pc l) (hC : ∀ (v : World), Chg [g, sg] [g, sg] w v → ∀ j : Nat, j < D.pend.length → Calls Tryd.prog 58 #[.int .i64 (j : Int), .pointer (some ⟨kb, 0, none⟩)] v (Vl (.bool (keep.getD j false)) v)) : Calls Tryd.prog 57 #[P0 g, .func (.func 58) #[] #[.pointer (some ⟨kb, 0, none⟩)]] w (Stl g (D.live keep) sg sc l w) := by
  obtain ⟨T, hT⟩ : ∃ T, T = Stl g (D.live keep) sg sc l w := ⟨_, rfl⟩
  rw [← hT]
  replace hT := hide hT
  obtain ⟨S, hS⟩ : ∃ x, x = D.safe := ⟨_, rfl⟩
  obtain ⟨P, hPp⟩ : ∃ x, x = D.pend := ⟨_, rfl⟩
  obtain ⟨dd, hdd⟩ : ∃ x, x = D.dead := ⟨_, rfl⟩
  obtain ⟨sn, hsn⟩ : ∃ n, n = D.safe.length := ⟨_, rfl⟩
  obtain ⟨pn, hpn⟩ : ∃ n, n = D.pend.length := ⟨_, rfl⟩
  obtain ⟨os, hos⟩ : ∃ n, n = D.ops := ⟨_, rfl⟩
  have hcl := hP.cel
  rw [← hdd, ← hsn, ← hpn, ← hos] at hcl
  replace hdd := hide hdd; replace hsn := hide hsn; replace hpn := hide hpn; replace hos := hide hos; replace hcl := hide hcl; replace hP := hide hP
  have hpm : pn ≤ 1000001 := by rw [unhide hpn]; exact Nat.le_trans hD.num hm
  have hs512 : sn ≤ 512 := by rw [unhide hsn]; exact hD.hi1
  have hB := (unhide hP).two (F := [g, sg]) (by simp) (by simp)
  rw [← unhide hdd, ← unhide hsn, ← unhide hpn, ← unhide hos] at hB
  have hCl := (unhide hP).len
  have hsc : sn ≤ sc := by rw [unhide hsn]; exact (unhide hP).cap
  have hCov : Cov C (S.map bv).flatten := by rw [hS]; exact (unhide hP).cov
  have hlsn : Hid (S.length = sn) := by show S.length = sn; rw [hS, unhide hsn]
  have hlpn : Hid (P.length = pn) := by show P.length = pn; rw [hPp, unhide hpn]
  have hDS : Hid (∀ b ∈ S, BB b) := by show ∀ b ∈ S, BB b; rw [hS]; exact hD.blk
  have hDP : Hid (∀ x ∈ P, x.1 < S.length ∧ BB x.2) := by show ∀ x ∈ P, x.1 < S.length ∧ BB x.2; rw [hS, hPp]; exact hD.pnd
  have hls : Hid (Ls 65 w pa pn pc (P.map wv)) := by show Ls 65 w pa pn pc (P.map wv); rw [hPp, unhide hpn]; exact (unhide hP).pls
  have hpf : Hid (∀ i, blkOf pa = some i → i ∉ [g, sg]) := fun i hi => by have := (unhide hP).pg_ne hi; simp [this.1, this.2]
  rw [← unhide hpn] at hC
  replace hD := hide hD; replace hB := hide hB; replace hC := hide hC; replace hS := hide hS; replace hPp := hide hPp
  go_enter Tryd.func57, Tryd.ntmps57
  go_upto_region 0 with fail
  replace hB := unhide hB
  refine wp_region_lit ?_
  refine list_val (.pointer (some ⟨g, 0, none⟩)) (by kernel_rfl) (by kernel_rfl) ?_
  simp only [Act.put, List.setIfInBounds_toArray, List.set_cons_zero, List.set_cons_succ, List.getElem_toArray, List.getElem_cons_zero, List.getElem_cons_succ]
  refine list_val (.pointer (some ⟨g, 0, none⟩)) (by kernel_rfl) (by kernel_rfl) ?_
  simp only [Act.put, List.setIfInBounds_toArray, List.set_cons_zero, List.set_cons_succ, List.getElem_toArray, List.getElem_cons_zero, List.getElem_cons_succ]
  refine list_val (.pointer (some ⟨g, 1, none⟩)) (by kernel_rfl) (by kernel_rfl) ?_
  simp only [Act.put, List.setIfInBounds_toArray, List.set_cons_zero, List.set_cons_succ, List.getElem_toArray, List.getElem_cons_zero, List.getElem_cons_succ]
  refine list_val (.slice pa pn pc) (by kernel_rfl) (exec_spw _ (.tmp 8) rfl g 1 (by kernel_rfl) pa pn pc (cell_of (hB.get 0 (x := ⟨g, pdv (some ⟨sg, 0, none⟩) sn sc pa pn pc l os dd, 77⟩) rfl) (i := 1) rfl)) ?_
  simp only [Act.put, List.setIfInBounds_toArray, List.set_cons_zero, List.set_cons_succ, List.getElem_toArray, List.getElem_cons_zero, List.getElem_cons_succ]
  refine list_val (.int .i64 pn) (by kernel_rfl) (by kernel_rfl) ?_
  simp only [Act.put, List.setIfInBounds_toArray, List.set_cons_zero, List.set_cons_succ, List.getElem_toArray, List.getElem_cons_zero, List.getElem_cons_succ]
  refine list_val (.int .i64 0) (by kernel_rfl) (by kernel_rfl) ?_
  simp only [Act.put, List.setIfInBounds_toArray, List.set_cons_zero, List.set_cons_succ, List.getElem_toArray, List.getElem_cons_zero, List.getElem_cons_succ]
  refine wpList_nil ?_
  have hscx : sn * 64 ≤ sc * 64 := Nat.mul_le_mul_right _ hsc
  obtain ⟨cz, hcz⟩ : ∃ z, z = sc * 64 := ⟨_, rfl⟩
  rw [← hcz] at hCl hscx
  replace hcz := hide hcz
  replace hCov : Hid (Cov C ((liv S P keep 0).map bv).flatten) := hCov
  replace hB := hide hB
  go_wp2_with fail
  go_loopw [11] (fun i wr => ∃ j : Nat, ∃ C : List Value, j ≤ pn ∧ i = .int .i64 j ∧ C.length = cz ∧ Hid (Cov C ((liv S P keep j).map bv).flatten) ∧ Hid (Bc [g, sg] w [⟨g, pdv (some ⟨sg, 0, none⟩) sn sc pa pn pc l os dd, 77⟩, ⟨sg, C.toArray, 50⟩] wr)) (fun i _ => pn - (intOf i).toNat)
  case atStart => exact ⟨0, C, by omega, rfl, hCl, hCov, hB⟩
  case round =>
  clear hB hCov hCl
  obtain ⟨j, C2, hj, rfl, hCl, hCov, hB⟩ := hrel
  by_cases hjl : j < pn
  · skip
    obtain ⟨p2, o2, rfl, hrw⟩ := (unhide hls).at_ j hjl
    rw [getD_map wv P j (0, []) [] (by rw [unhide hlpn]; exact hjl)] at hrw
    have hx := unhide hDP _ (mem_of_getD (d := (0, [])) (by rw [unhide hlpn]; exact hjl))
    have hnx : Hid (liv S P keep (j + 1) = if keep.getD j false then (liv S P keep j).set (P.getD j (0, [])).1 (P.getD j (0, [])).2 else liv S P keep j) := rfl
    obtain ⟨⟨ai, ab⟩, hab⟩ : ∃ x, x = P.getD j (0, []) := ⟨_, rfl⟩
    rw [← hab] at hrw hx hnx
    have hal : ab.length = 64 := hx.2.1
    have hai : ai < sn := by rw [← unhide hlsn]; exact hx.1
    have hwl : (wv (ai, ab)).length = 65 := by rw [wv_len, hal]
    have hlb : Hid (∀ b ∈ liv S P keep j, BB b) := liv_bb (unhide hDS) (fun x hx => (unhide hDP x hx).2) keep j (by rw [unhide hlpn]; exact hj)
    have hp2 : p2 ∉ [g, sg] := unhide hpf p2 rfl
    replace hab := hide hab; replace hx := hide hx; replace hrw := hide hrw; replace hp2 := hide hp2
    have jI : (j : Int) < (pn : Int) := by omega
    go_upto_region 2 with fail
    replace hB := unhide hB
    refine wp_region_lit ?_
    refine list_val (.int .i64 j) (by kernel_rfl) (by kernel_rfl) ?_
    simp only [Act.put, List.setIfInBounds_toArray, List.set_cons_zero, List.set_cons_succ, List.getElem_toArray, List.getElem_cons_zero, List.getElem_cons_succ]
    refine list_val (.pointer (some ⟨p2, o2 + 65 * j, none⟩)) (by kernel_rfl) (exec_ipw _ (.tmp 9) (.tmp 11) rfl p2 o2 pn pc j rfl rfl hjl) ?_
    simp only [Act.put, List.setIfInBounds_toArray, List.set_cons_zero, List.set_cons_succ, List.getElem_toArray, List.getElem_cons_zero, List.getElem_cons_succ]
    refine list_val (.agg ((wv (ai, ab)).toArray)) (by kernel_rfl) (exec_row _ 99 (.tmp 14) rfl p2 (o2 + 65 * j) (by kernel_rfl) (wv (ai, ab)) _ (range_chg (unhide hrw) hB.chg (unhide hp2)) Tryd.underlying99 rfl (by rw [Tryd.infoPW, hwl])) ?_
    simp only [Act.put, List.setIfInBounds_toArray, List.set_cons_zero, List.set_cons_succ, List.getElem_toArray, List.getElem_cons_zero, List.getElem_cons_succ]
    refine list_valw (.pointer (some ⟨wr.heap.size, 0, none⟩)) (wr.alloc (.cells ((wv (0, ZB)).toArray) 99 (0, 0))) (by kernel_rfl) (by kernel_rfl) ?_
    replace hB := hB.new ((wv (0, ZB)).toArray) 99
    simp only [List.nil_append, List.cons_append] at hB
    generalize World.alloc _ _ = v1 at *
    generalize wr.heap.size = g8 at *
    replace hB : Bc [g, sg] w [⟨g, pdv (some ⟨sg, 0, none⟩) sn sc (some ⟨p2, o2, none⟩) pn pc l os dd, 77⟩, ⟨sg, C2.toArray, 50⟩, ⟨g8, (wv (0, ZB)).toArray, 99⟩] v1 := hB
    simp only [Act.put, List.setIfInBounds_toArray, List.set_cons_zero, List.set_cons_succ, List.getElem_toArray, List.getElem_cons_zero, List.getElem_cons_succ]
    (refine wpList_step fun K hK => ?_; replace hK := hide hK; go_simp; refine unhide hK _ _ ?_; clear hK K)
    refine list_store 99 (.tmp 5) (.tmp 15) g8 ((wv (ai, ab)).toArray) 99 ((wv (0, ZB)).toArray) (by kernel_rfl) rfl (by kernel_rfl) (by kernel_rfl) (hB.get 2 (x := ⟨g8, (wv (0, ZB)).toArray, 99⟩) rfl) (by rw [Tryd.infoPW, List.size_toArray, hwl]) ((show ((wv (0, ZB)).toArray).size = 65 from rfl).trans (by rw [List.size_toArray, hwl])) (wv_one _) ?_
    replace hB := hB.set 2 (x := ⟨g8, (wv (0, ZB)).toArray, 99⟩) rfl ((wv (ai, ab)).toArray)
    simp only [List.set_cons_zero, List.set_cons_succ] at hB
    generalize World.setRow _ _ _ = v2 at *
    replace hB : Bc [g, sg] w [⟨g, pdv (some ⟨sg, 0, none⟩) sn sc (some ⟨p2, o2, none⟩) pn pc l os dd, 77⟩, ⟨sg, C2.toArray, 50⟩, ⟨g8, (wv (ai, ab)).toArray, 99⟩] v2 := hB
    simp only [Act.put, List.setIfInBounds_toArray, List.set_cons_zero, List.set_cons_succ, List.getElem_toArray, List.getElem_cons_zero, List.getElem_cons_succ]
    refine wpList_nil ?_
    replace hB := hide hB
    go_upto_region 3 with fail
    replace hB := unhide hB
    refine wp_region_lit ?_
    refine list_val (.func (.func 58) #[] #[.pointer (some ⟨kb, 0, none⟩)]) (by kernel_rfl) (by kernel_rfl) ?_
    simp only [Act.put, List.setIfInBounds_toArray, List.set_cons_zero, List.set_cons_succ, List.getElem_toArray, List.getElem_cons_zero, List.getElem_cons_succ]
    refine list_val (.int .i64 j) (by kernel_rfl) (by kernel_rfl) ?_
    simp only [Act.put, List.setIfInBounds_toArray, List.set_cons_zero, List.set_cons_succ, List.getElem_toArray, List.getElem_cons_zero, List.getElem_cons_succ]
    refine list_call 58 #[.int .i64 (j : Int), .pointer (some ⟨kb, 0, none⟩)] (by kernel_rfl) (by kernel_rfl) ((unhide hC _ hB.chg j hjl).mono ?_)
    rintro r v3 ⟨rfl, hG⟩
    refine ⟨_, rfl, ?_⟩
    replace hB := hB.more hG
    clear hG
    obtain ⟨kb_, hkb⟩ : ∃ x, x = keep.getD j false := ⟨_, rfl⟩
    rw [← hkb]
    replace hkb := hide hkb
    simp only [Act.put, List.setIfInBounds_toArray, List.set_cons_zero, List.set_cons_succ, List.getElem_toArray, List.getElem_cons_zero, List.getElem_cons_succ]
    refine wpList_nil ?_
    cases kb_
    case false =>
      have hB3 : Hid (Bc [g, sg] w [⟨g, pdv (some ⟨sg, 0, none⟩) sn sc (some ⟨p2, o2, none⟩) pn pc l os dd, 77⟩, ⟨sg, C2.toArray, 50⟩] _) := Bc.left (M := [⟨g8, (wv (ai, ab)).toArray, 99⟩]) hB
      clear hB
      go_wp2_with fail
      go_roundw
      case rel => exact ⟨j + 1, C2, by omega, by go_num, hCl, (by show Cov C2 ((liv S P keep (j + 1)).map bv).flatten; rw [unhide hnx, ← unhide hkb]; exact unhide hCov), hB3⟩
      case measure => simp [intOf]; omega
    case true =>
      go_upto_region 4 with fail
      replace hB := hB
      refine anyC_start 9 (fun v => Bc [g, sg] w [⟨g, pdv (some ⟨sg, 0, none⟩) sn sc (some ⟨p2, o2, none⟩) pn pc l os dd, 77⟩, ⟨sg, C2.toArray, 50⟩, ⟨g8, (wv (ai, ab)).toArray, 99⟩] v) (by kernel_rfl) ?_
      replace hB := hB.drew
      generalize World.drew _ = x0 at *
      simp only [List.size_toArray, List.length_cons, List.length_nil, Array.replicate, List.replicate]
      refine anyC_take (i := 0) (v := (.pointer (some ⟨g, 0, none⟩))) (fun v => Bc [g, sg] w [⟨g, pdv (some ⟨sg, 0, none⟩) sn sc (some ⟨p2, o2, none⟩) pn pc l os dd, 77⟩, ⟨sg, C2.toArray, 50⟩, ⟨g8, (wv (ai, ab)).toArray, 99⟩] v) (fun _ h_ => h_) (.inr (by kernel_rfl)) rfl (by kernel_rfl) (by kernel_rfl) (by kernel_rfl) (by decide) (by kernel_rfl) (by decide) (fun _ _ _ h => h) (.inl ⟨by kernel_rfl, fun x_ hu => by kernel_rfl⟩) hB ?_
      simp only [Act.put, List.setIfInBounds_toArray, List.set_cons_zero, List.set_cons_succ, List.getElem_toArray, List.getElem_cons_zero, List.getElem_cons_succ]
      refine anyC_take (i := 1) (v := (.pointer (some ⟨g, 0, none⟩))) (fun v => Bc [g, sg] w [⟨g, pdv (some ⟨sg, 0, none⟩) sn sc (some ⟨p2, o2, none⟩) pn pc l os dd, 77⟩, ⟨sg, C2.toArray, 50⟩, ⟨g8, (wv (ai, ab)).toArray, 99⟩] v) (fun _ h_ => h_) (.inr (by kernel_rfl)) rfl (by kernel_rfl) (by kernel_rfl) (by kernel_rfl) (by decide) (by kernel_rfl) (by decide) (fun _ _ _ h => h) (.inl ⟨by kernel_rfl, fun x_ hu => by kernel_rfl⟩) hB ?_
      simp only [Act.put, List.setIfInBounds_toArray, List.set_cons_zero, List.set_cons_succ, List.getElem_toArray, List.getElem_cons_zero, List.getElem_cons_succ]
      refine anyC_take (i := 2) (v := (.pointer (some ⟨g, 0, none⟩))) (fun v => Bc [g, sg] w [⟨g, pdv (some ⟨sg, 0, none⟩) sn sc (some ⟨p2, o2, none⟩) pn pc l os dd, 77⟩, ⟨sg, C2.toArray, 50⟩, ⟨g8, (wv (ai, ab)).toArray, 99⟩] v) (fun _ h_ => h_) (.inr (by kernel_rfl)) rfl (by kernel_rfl) (by kernel_rfl) (by kernel_rfl) (by decide) (by kernel_rfl) (by decide) (fun _ _ _ h => h) (.inl ⟨by kernel_rfl, fun x_ hu => by kernel_rfl⟩) hB ?_
      simp only [Act.put, List.setIfInBounds_toArray, List.set_cons_zero, List.set_cons_succ, List.getElem_toArray, List.getElem_cons_zero, List.getElem_cons_succ]
      refine anyC_take (i := 3) (v := (.slice (some ⟨sg, 0, none⟩) sn sc)) (fun v => Bc [g, sg] w [⟨g, pdv (some ⟨sg, 0, none⟩) sn sc (some ⟨p2, o2, none⟩) pn pc l os dd, 77⟩, ⟨sg, C2.toArray, 50⟩, ⟨g8, (wv (ai, ab)).toArray, 99⟩] v) (fun _ h_ => h_) (.inr (by kernel_rfl)) rfl (by kernel_rfl) (by kernel_rfl) (by kernel_rfl) (by decide) (by kernel_rfl) (by decide) (fun _ _ _ h => h) (.inl ⟨by kernel_rfl, fun x_ hu => exec_sb _ (.tmp 21) rfl g 0 (by kernel_rfl) (some ⟨sg, 0, none⟩) sn sc (cell_of (hu.get 0 (x := ⟨g, pdv (some ⟨sg, 0, none⟩) sn sc (some ⟨p2, o2, none⟩) pn pc l os dd, 77⟩) rfl) (i := 0) rfl)⟩) hB ?_
      simp only [Act.put, List.setIfInBounds_toArray, List.set_cons_zero, List.set_cons_succ, List.getElem_toArray, List.getElem_cons_zero, List.getElem_cons_succ]
      refine anyC_take (i := 4) (v := (.pointer (some ⟨g8, 0, none⟩))) (fun v => Bc [g, sg] w [⟨g, pdv (some ⟨sg, 0, none⟩) sn sc (some ⟨p2, o2, none⟩) pn pc l os dd, 77⟩, ⟨sg, C2.toArray, 50⟩, ⟨g8, (wv (ai, ab)).toArray, 99⟩] v) (fun _ h_ => h_) (.inr (by kernel_rfl)) rfl (by kernel_rfl) (by kernel_rfl) (by kernel_rfl) (by decide) (by kernel_rfl) (by decide) (fun _ _ _ h => h) (.inl ⟨by kernel_rfl, fun x_ hu => by kernel_rfl⟩) hB ?_
      simp only [Act.put, List.setIfInBounds_toArray, List.set_cons_zero, List.set_cons_succ, List.getElem_toArray, List.getElem_cons_zero, List.getElem_cons_succ]
      refine anyC_take (i := 5) (v := (.int .i64 (ai : Int))) (fun v => Bc [g, sg] w [⟨g, pdv (some ⟨sg, 0, none⟩) sn sc (some ⟨p2, o2, none⟩) pn pc l os dd, 77⟩, ⟨sg, C2.toArray, 50⟩, ⟨g8, (wv (ai, ab)).toArray, 99⟩] v) (fun _ h_ => h_) (.inr (by kernel_rfl)) rfl (by kernel_rfl) (by kernel_rfl) (by kernel_rfl) (by decide) (by kernel_rfl) (by decide) (fun _ _ _ h => h) (.inl ⟨by kernel_rfl, fun x_ hu => exec_i64 _ (.tmp 23) rfl g8 0 (by kernel_rfl) _ (cell_of (hu.get 2 (x := ⟨g8, (wv (ai, ab)).toArray, 99⟩) rfl) (i := 0) rfl)⟩) hB ?_
      simp only [Act.put, List.setIfInBounds_toArray, List.set_cons_zero, List.set_cons_succ, List.getElem_toArray, List.getElem_cons_zero, List.getElem_cons_succ]
      refine anyC_take (i := 6) (v := (.pointer (some ⟨g8, 1, none⟩))) (fun v => Bc [g, sg] w [⟨g, pdv (some ⟨sg, 0, none⟩) sn sc (some ⟨p2, o2, none⟩) pn pc l os dd, 77⟩, ⟨sg, C2.toArray, 50⟩, ⟨g8, (wv (ai, ab)).toArray, 99⟩] v) (fun _ h_ => h_) (.inr (by kernel_rfl)) rfl (by kernel_rfl) (by kernel_rfl) (by kernel_rfl) (by decide) (by kernel_rfl) (by decide) (fun _ _ _ h => h) (.inl ⟨by kernel_rfl, fun x_ hu => by kernel_rfl⟩) hB ?_
      simp only [Act.put, List.setIfInBounds_toArray, List.set_cons_zero, List.set_cons_succ, List.getElem_toArray, List.getElem_cons_zero, List.getElem_cons_succ]
      refine anyC_take (i := 7) (v := (.agg (kc ab))) (fun v => Bc [g, sg] w [⟨g, pdv (some ⟨sg, 0, none⟩) sn sc (some ⟨p2, o2, none⟩) pn pc l os dd, 77⟩, ⟨sg, C2.toArray, 50⟩, ⟨g8, (wv (ai, ab)).toArray, 99⟩] v) (fun _ h_ => h_) (.inr (by kernel_rfl)) rfl (by kernel_rfl) (by kernel_rfl) (by kernel_rfl) (by decide) (by kernel_rfl) (by decide) (fun _ _ _ h => h) (.inl ⟨by kernel_rfl, fun x_ hu => exec_row _ 50 (.tmp 25) rfl g8 1 (by kernel_rfl) (bv ab) _ (fun q_ v_ hq => cell_of (hu.get 2 (x := ⟨g8, (wv (ai, ab)).toArray, 99⟩) rfl) (by unfold wv; rw [List.getElem?_toArray, Nat.add_comm, List.getElem?_cons_succ]; exact hq)) Tryd.underlying50 rfl (by rw [Tryd.infoB, bv_len, hal])⟩) hB ?_
      simp only [Act.put, List.setIfInBounds_toArray, List.set_cons_zero, List.set_cons_succ, List.getElem_toArray, List.getElem_cons_zero, List.getElem_cons_succ]
      refine anyC_take (i := 8) (v := (.pointer (some ⟨sg, 0 + 64 * ai, none⟩))) (fun v => Bc [g, sg] w [⟨g, pdv (some ⟨sg, 0, none⟩) sn sc (some ⟨p2, o2, none⟩) pn pc l os dd, 77⟩, ⟨sg, C2.toArray, 50⟩, ⟨g8, (wv (ai, ab)).toArray, 99⟩] v) (fun _ h_ => h_) (.inr (by kernel_rfl)) rfl (by kernel_rfl) (by kernel_rfl) (by kernel_rfl) (by decide) (by kernel_rfl) (by decide) (fun _ _ _ h => h) (.inl ⟨by kernel_rfl, fun x_ hu => exec_ib _ (.tmp 22) (.tmp 24) rfl sg 0 sn sc ai rfl rfl hai⟩) hB ?_
      simp only [Act.put, List.setIfInBounds_toArray, List.set_cons_zero, List.set_cons_succ, List.getElem_toArray, List.getElem_cons_zero, List.getElem_cons_succ]
      refine anyC_last (by kernel_rfl) rfl (fun K_ hQ => ?_)
      have hli : ai < (liv S P keep j).length := by rw [liv_len, unhide hlsn]; exact hai
      have hC3 : Hid (Cov (sp C2 (64 * ai) (bv ab)) ((liv S P keep (j + 1)).map bv).flatten) := by
        show Cov _ ((liv S P keep (j + 1)).map bv).flatten
        rw [unhide hnx, ← unhide hkb]
        have h := cov_set 64 (by omega) C2 ((liv S P keep j).map bv) (bv_rows (unhide hlb)) ai (by rw [List.length_map]; exact hli) (bv ab) (by rw [bv_len, hal]) (by rw [List.length_map, liv_len, unhide hlsn, hCl]; exact hscx) (unhide hCov)
        rw [← List.map_set] at h
        exact h
      have hgC := (hB.get 1 (x := ⟨sg, C2.toArray, 50⟩) rfl)
      dsimp only at hgC
      refine list_store_mid 50 (.tmp 27) (.tmp 26) sg (0 + 64 * ai) (kc ab) (by kernel_rfl) rfl (by kernel_rfl) (by kernel_rfl) (there_of hgC (by rw [kc_size, hal, hCl, Nat.zero_add]; omega)) (by rw [Tryd.infoB, kc_size, hal]) (kc_one _) ?_
      refine hQ.out _ _ ?_
      clear hQ K_
      have hbs := setCells_bt ((kc ab).toList) x0 sg (0 + 64 * ai)
      have hcl2 := setCells_heap ((kc ab).toList) x0 sg (0 + 64 * ai) C2 50 hgC
      have e9 : (kc ab).toList = bv ab := by unfold kc bv; simp
      rw [e9, Nat.zero_add] at hcl2 hbs
      rw [e9, Nat.zero_add]
      have hB4 := hB.but hbs 1 (x := ⟨sg, C2.toArray, 50⟩) rfl rfl hcl2
      simp only [List.set_cons_zero, List.set_cons_succ] at hB4
      clear hB hcl2 hbs hgC e9
      generalize World.setCells _ _ _ _ = v9 at *
      have hB := hB4
      clear hB4
      simp only [Act.put, List.setIfInBounds_toArray, List.set_cons_zero, List.set_cons_succ, List.getElem_toArray, List.getElem_cons_zero, List.getElem_cons_succ]
      refine any_done (by kernel_rfl) ?_
      have hB3 : Hid (Bc [g, sg] w [⟨g, pdv (some ⟨sg, 0, none⟩) sn sc (some ⟨p2, o2, none⟩) pn pc l os dd, 77⟩, ⟨sg, (sp C2 (64 * ai) (bv ab)).toArray, 50⟩] _) := Bc.left (M := [⟨g8, (wv (ai, ab)).toArray, 99⟩]) hB
      clear hB
      go_wp2_with fail
      go_roundw
      case rel => exact ⟨j + 1, (sp C2 (64 * ai) (bv ab)), by omega, by go_num, by rw [sp_length]; exact hCl, hC3, hB3⟩
      case measure => simp [intOf]; omega
  have jI : ¬ (j : Int) < (pn : Int) := by omega
  have e : j = P.length := by rw [unhide hlpn]; omega
  go_upto_region 6 with fail
  replace hB := unhide hB
  refine wp_region_lit ?_
  refine list_val (.pointer (some ⟨g, 0, none⟩)) (by kernel_rfl) (by kernel_rfl) ?_
  simp only [Act.put, List.setIfInBounds_toArray, List.set_cons_zero, List.set_cons_succ, List.getElem_toArray, List.getElem_cons_zero, List.getElem_cons_succ]
  refine list_val (.pointer (some ⟨g, 0, none⟩)) (by kernel_rfl) (by kernel_rfl) ?_
  simp only [Act.put, List.setIfInBounds_toArray, List.set_cons_zero, List.set_cons_succ, List.getElem_toArray, List.getElem_cons_zero, List.getElem_cons_succ]
  refine list_val (.pointer (some ⟨g, 1, none⟩)) (by kernel_rfl) (by kernel_rfl) ?_
  simp only [Act.put, List.setIfInBounds_toArray, List.set_cons_zero, List.set_cons_succ, List.getElem_toArray, List.getElem_cons_zero, List.getElem_cons_succ]
  have c4 := cell_of (hB.get 0 (x := ⟨g, pdv (some ⟨sg, 0, none⟩) sn sc pa pn pc l os dd, 77⟩) rfl) (i := 1) rfl
  have fz := froz_of (i := 1) (hB.get 0 (x := ⟨g, pdv (some ⟨sg, 0, none⟩) sn sc pa pn pc l os dd, 77⟩) rfl)
  have hB2 := hB.cell 0 (x := ⟨g, pdv (some ⟨sg, 0, none⟩) sn sc pa pn pc l os dd, 77⟩) rfl 1 (.slice none 0 0)
  simp only [List.set_cons_zero, List.set_cons_succ] at hB2
  replace hB2 : Bc [g, sg] w [⟨g, pdv (some ⟨sg, 0, none⟩) sn sc none 0 0 l os dd, 77⟩, ⟨sg, C2.toArray, 50⟩] _ := hB2
  clear hB
  replace hB2 := hide hB2
  dsimp only at c4 fz
  (refine wpList_step fun K hK => ?_; replace hK := hide hK; go_simp; refine unhide hK _ _ ?_; clear hK K)
  clear c4 fz
  have hB := unhide hB2
  clear hB2
  generalize World.setCell _ _ _ = v4 at *
  refine wpList_nil ?_
  have hZ : Hid (Stl g (D.live keep) sg sc l w (.returned (.tuple #[])) v4) := by
    have hl : (liv S P keep P.length).length = sn := by rw [liv_len, unhide hlsn]
    have hd1 : (D.live keep).safe = liv S P keep P.length := by
      show liv D.safe D.pend keep D.pend.length = _
      rw [unhide hS, unhide hPp]
    refine ⟨rfl, C2, ⟨?_, ?_, ?_, ?_, ?_, (unhide hP).max, ?_, (unhide hP).lf⟩, hB.chg⟩
    · rw [hd1, hl]
      show v4.heap[g]? = some (.cells (pdv (some ⟨sg, 0, none⟩) sn sc none 0 0 l D.ops D.dead) _ (0, 0))
      rw [← unhide hos, ← unhide hdd]
      exact (hB.get 0 (x := ⟨g, pdv (some ⟨sg, 0, none⟩) sn sc none 0 0 l os dd, 77⟩) rfl)
    · exact (hB.get 1 (x := ⟨sg, C2.toArray, 50⟩) rfl)
    · rw [hd1, ← e]
      exact unhide hCov
    · rw [hCl]
      exact unhide hcz
    · rw [hd1, hl]
      exact hsc
    · exact ⟨(fun r hr => by cases hr), rfl, .inl ⟨rfl, rfl⟩⟩
  replace hB := hide hB
  go_wp2_with fail
  rw [unhide hT]
  exact bodyPost_end (results_none Tryd.results57 _ _ _) rfl (unhide hZ)
theorem exec_upto {a : Act} {o : Oper} (w : World) (x y : Operand) (ho : o.op = .slice 32 x none (some y) none) (s : Option Addr) (len cap n : Nat) (hx : a.eval x = .slice s len cap) (hy : a.eval y = .int .i64 n) (hc : len ≤ cap) (hn : n ≤ len) :
    (execOp a.eval o).run Tryd.prog w = .ok (.value (.slice (if cap = 0 then s else s.map (·.add 0)) n cap)) w := by
  have h1 : (0 : Int) ≤ n := by omega
  have h2 : (n : Int) ≤ cap := by omega
  have hu : Tryd.prog.underlying 32 = some (.slice (Tryd.prog.elem 32)) := by kernel_rfl
  have hz : (sizeOf (Tryd.prog.elem 32)).run Tryd.prog w = .ok 1 w := by kernel_rfl
  simp [execOp, ho, hx, hy, run_sliceAt_slice _ _ _ _ _ _ hu, run_slice_h _ _ _ _ _ hu _ _ h1 h2, hz, sliced]
set_option maxHeartbeats 4000000 in
theorem esnap_no1 (F G : List Nat) (g gd m : Nat) (D : Dk) (s : Sup) (hD : D.Ok m) (hm : m ≤ 900000) (hd : D.dead = false) (hn : 64 ≤ D.safe.length) (w : World) (hL : Lies F gd D w) (hs : Sto G g gd D.safe.length s w) (ho : (cntS (D.cur 0) (D.cur 1)).2 = false) (hf : Fst w) : Calls Tryd.prog 17 #[P0 g] w (Vl (.tuple #[.slice none 0 0, .int .i64 210]) w) := by
  obtain ⟨T, hT⟩ : ∃ T, T = Vl (.tuple #[.slice none 0 0, .int .i64 210]) w := ⟨_, rfl⟩
  rw [← hT]
  replace hT := hide hT
  have h512 := hD.hi1
  have c0 := Dk.cur_bb hD 0 (by omega)
  have c1 := Dk.cur_bb hD 1 (by omega)
  have hst := hide hs
  obtain ⟨h, lg, sl, hh, hlg, hsl, hq⟩ := stN_is D.safe.length gd
  obtain ⟨-, hS⟩ := hs
  rw [hq] at hS
  clear hq
  replace hL := hide hL; replace hD := hide hD; replace hf := hide hf; replace hS := hide hS; replace ho := hide ho
  replace hh := hide hh; replace hlg := hide hlg; replace hsl := hide hsl; replace c0 := hide c0; replace c1 := hide c1
  go_enter Tryd.func17, Tryd.ntmps17
  go_upto_region 1 with fail
  refine wp_region_lit ?_
  refine list_val (.pointer (some ⟨g, 0, none⟩)) (by kernel_rfl) (by kernel_rfl) ?_
  simp only [Act.put, List.setIfInBounds_toArray, List.set_cons_zero, List.set_cons_succ, List.getElem_toArray, List.getElem_cons_zero, List.getElem_cons_succ]
  refine list_val (.bool false) (by kernel_rfl) (by kernel_rfl) ?_
  simp only [Act.put, List.setIfInBounds_toArray, List.set_cons_zero, List.set_cons_succ, List.getElem_toArray, List.getElem_cons_zero, List.getElem_cons_succ]
  refine wpList_nil ?_
  have hB := Bl.nil w
  replace hB := hide hB
  go_upto_region 3 with fail
  replace hB := unhide hB
  refine wp_region_lit ?_
  refine list_val (.pointer (some ⟨g, 0, none⟩)) (by kernel_rfl) (by kernel_rfl) ?_
  simp only [Act.put, List.setIfInBounds_toArray, List.set_cons_zero, List.set_cons_succ, List.getElem_toArray, List.getElem_cons_zero, List.getElem_cons_succ]
  refine list_val (.pointer (some ⟨g, 0, none⟩)) (by kernel_rfl) (by kernel_rfl) ?_
  simp only [Act.put, List.setIfInBounds_toArray, List.set_cons_zero, List.set_cons_succ, List.getElem_toArray, List.getElem_cons_zero, List.getElem_cons_succ]
  refine list_val (.pointer (some ⟨g, 3, none⟩)) (by kernel_rfl) (by kernel_rfl) ?_
  simp only [Act.put, List.setIfInBounds_toArray, List.set_cons_zero, List.set_cons_succ, List.getElem_toArray, List.getElem_cons_zero, List.getElem_cons_succ]
  refine list_val (.pointer (some ⟨gd, 0, none⟩)) (by kernel_rfl) (exec_pd _ (.tmp 12) rfl g 3 (by kernel_rfl) (some ⟨gd, 0, none⟩) (cell_of (hB.gr.blk (unhide hS)) (i := 3) rfl)) ?_
  simp only [Act.put, List.setIfInBounds_toArray, List.set_cons_zero, List.set_cons_succ, List.getElem_toArray, List.getElem_cons_zero, List.getElem_cons_succ]
  refine list_call 39 #[P0 gd] (by kernel_rfl) (by kernel_rfl) ((current_ok F gd m D (unhide hD) hm hd (by omega) _ ((unhide hL).gr hB.gr) ((unhide hf).gr hB.gr)).mono ?_)
  rintro r u1 ⟨rfl, hg⟩
  rw [unhide ho]
  rw [show (if false = true then (cntS (D.cur 0) (D.cur 1)).1 else ZSp) = ZSp from rfl, show (if false = true then (0 : Int) else 210) = 210 from rfl]
  replace hB := hB.more hg
  clear hg
  refine ⟨_, rfl, ?_⟩
  simp only [Act.put, List.setIfInBounds_toArray, List.set_cons_zero, List.set_cons_succ, List.getElem_toArray, List.getElem_cons_zero, List.getElem_cons_succ]
  refine list_val (.tuple #[.agg (spv ZSp), .int .i64 210]) (by kernel_rfl) (by kernel_rfl) ?_
  simp only [Act.put, List.setIfInBounds_toArray, List.set_cons_zero, List.set_cons_succ, List.getElem_toArray, List.getElem_cons_zero, List.getElem_cons_succ]
  refine list_val (.agg (spv ZSp)) (by kernel_rfl) (by kernel_rfl) ?_
  simp only [Act.put, List.setIfInBounds_toArray, List.set_cons_zero, List.set_cons_succ, List.getElem_toArray, List.getElem_cons_zero, List.getElem_cons_succ]
  refine list_val (.int .i64 210) (by kernel_rfl) (by kernel_rfl) ?_
  simp only [Act.put, List.setIfInBounds_toArray, List.set_cons_zero, List.set_cons_succ, List.getElem_toArray, List.getElem_cons_zero, List.getElem_cons_succ]
  refine list_valw (.pointer (some ⟨u1.heap.size, 0, none⟩)) (u1.alloc (.cells (spv ZSp) 82 (0, 0))) (by kernel_rfl) (by kernel_rfl) ?_
  replace hB := hB.new (spv ZSp) 82
  simp only [List.nil_append, List.cons_append] at hB
  generalize World.alloc _ _ = u2 at *
  generalize u1.heap.size = gn at *
  replace hB : Bl w [⟨gn, spv ZSp, 82⟩] u2 := hB
  simp only [Act.put, List.setIfInBounds_toArray, List.set_cons_zero, List.set_cons_succ, List.getElem_toArray, List.getElem_cons_zero, List.getElem_cons_succ]
  refine list_store 82 (.tmp 4) (.tmp 15) (gn) (spv ZSp) 82 (spv ZSp) (by kernel_rfl) rfl (by kernel_rfl) (by kernel_rfl) (hB.get 0 (x := ⟨gn, spv ZSp, 82⟩) rfl) (by rw [Tryd.infoSp, spv_size (s := ZSp) ZSp_hl]) rfl (spv_one _) ?_
  replace hB := hB.set 0 (x := ⟨gn, spv ZSp, 82⟩) rfl (spv ZSp)
  simp only [List.set_cons_zero, List.set_cons_succ] at hB
  generalize World.setRow _ _ _ = u3 at *
  replace hB : Bl w [⟨gn, spv ZSp, 82⟩] u3 := hB
  simp only [Act.put, List.setIfInBounds_toArray, List.set_cons_zero, List.set_cons_succ, List.getElem_toArray, List.getElem_cons_zero, List.getElem_cons_succ]
  (refine wpList_step fun K hK => ?_; replace hK := hide hK; go_simp; refine unhide hK _ _ ?_; clear hK K)
  refine wpList_nil ?_
  have hZ : Hid (Vl (.tuple #[.slice none 0 0, .int .i64 210]) w (.returned (.tuple #[.slice none 0 0, .int .i64 210])) u3) := ⟨rfl, hB.gr⟩
  replace hB := hide hB
  go_wp2_with fail
  rw [unhide hT]
  exact unhide hZ
set_option maxHeartbeats 4000000 in
theorem esnap_no2 (F G : List Nat) (g gd m : Nat) (D : Dk) (s : Sup) (hD : D.Ok m) (hm : m ≤ 900000) (hd : D.dead = false) (hn : 64 ≤ D.safe.length) (w : World) (hL : Lies F gd D w) (hs : Sto G g gd D.safe.length s w) (ho : cntS (D.cur 0) (D.cur 1) = (s, true)) (hbig : 64 * ((D.safe.length - 2) / 4) < s.size) (hf : Fst w) : Calls Tryd.prog 17 #[P0 g] w (Vl (.tuple #[.slice none 0 0, .int .i64 210]) w) := by
  obtain ⟨T, hT⟩ : ∃ T, T = Vl (.tuple #[.slice none 0 0, .int .i64 210]) w := ⟨_, rfl⟩
  rw [← hT]
  replace hT := hide hT
  have h512 := hD.hi1
  have c0 := Dk.cur_bb hD 0 (by omega)
  have c1 := Dk.cur_bb hD 1 (by omega)
  have hst := hide hs
  obtain ⟨h, lg, sl, hh, hlg, hsl, hq⟩ := stN_is D.safe.length gd
  obtain ⟨-, hS⟩ := hs
  rw [hq] at hS
  clear hq
  have hcn := ho
  rw [← hh] at hbig
  have hok := cnt_right c0 c1 hcn
  have hpl := hok.p
  have hzz := hok.z
  have hhl := hok.hl
  have hhb : h ≤ 1000 := by omega
  obtain ⟨rm, hrm⟩ : ∃ x, x = 64 * h := ⟨_, rfl⟩
  have hrm2 : rm ≤ 10000 := by omega
  have w1 : IntKind.u64.wrap (s.size : Int) = (s.size : Int) := by rw [IntKind.wrap_u64]; omega
  have w2 : IntKind.u64.wrap (rm : Int) = (rm : Int) := by rw [IntKind.wrap_u64]; omega
  have w3 : IntKind.i64.wrap (s.size : Int) = (s.size : Int) := by rw [IntKind.wrap_i64]; omega
  have hgt : (rm : Int) < (s.size : Int) := by omega
  replace hL := hide hL; replace hD := hide hD; replace hf := hide hf; replace hS := hide hS; replace ho := hide ho
  replace hcn := hide hcn; replace hok := hide hok
  replace hh := hide hh; replace hlg := hide hlg; replace hsl := hide hsl; replace c0 := hide c0; replace c1 := hide c1
  replace hrm := hide hrm
  go_enter Tryd.func17, Tryd.ntmps17
  go_upto_region 1 with fail
  refine wp_region_lit ?_
  refine list_val (.pointer (some ⟨g, 0, none⟩)) (by kernel_rfl) (by kernel_rfl) ?_
  simp only [Act.put, List.setIfInBounds_toArray, List.set_cons_zero, List.set_cons_succ, List.getElem_toArray, List.getElem_cons_zero, List.getElem_cons_succ]
  refine list_val (.bool false) (by kernel_rfl) (by kernel_rfl) ?_
  simp only [Act.put, List.setIfInBounds_toArray, List.set_cons_zero, List.set_cons_succ, List.getElem_toArray, List.getElem_cons_zero, List.getElem_cons_succ]
  refine wpList_nil ?_
  have hB := Bl.nil w
  replace hB := hide hB
  go_upto_region 3 with fail
  replace hB := unhide hB
  refine wp_region_lit ?_
  refine list_val (.pointer (some ⟨g, 0, none⟩)) (by kernel_rfl) (by kernel_rfl) ?_
  simp only [Act.put, List.setIfInBounds_toArray, List.set_cons_zero, List.set_cons_succ, List.getElem_toArray, List.getElem_cons_zero, List.getElem_cons_succ]
  refine list_val (.pointer (some ⟨g, 0, none⟩)) (by kernel_rfl) (by kernel_rfl) ?_
  simp only [Act.put, List.setIfInBounds_toArray, List.set_cons_zero, List.set_cons_succ, List.getElem_toArray, List.getElem_cons_zero, List.getElem_cons_succ]
  refine list_val (.pointer (some ⟨g, 3, none⟩)) (by kernel_rfl) (by kernel_rfl) ?_
  simp only [Act.put, List.setIfInBounds_toArray, List.set_cons_zero, List.set_cons_succ, List.getElem_toArray, List.getElem_cons_zero, List.getElem_cons_succ]
  refine list_val (.pointer (some ⟨gd, 0, none⟩)) (by kernel_rfl) (exec_pd _ (.tmp 12) rfl g 3 (by kernel_rfl) (some ⟨gd, 0, none⟩) (cell_of (hB.gr.blk (unhide hS)) (i := 3) rfl)) ?_
  simp only [Act.put, List.setIfInBounds_toArray, List.set_cons_zero, List.set_cons_succ, List.getElem_toArray, List.getElem_cons_zero, List.getElem_cons_succ]
  refine list_call 39 #[P0 gd] (by kernel_rfl) (by kernel_rfl) ((current_ok F gd m D (unhide hD) hm hd (by omega) _ ((unhide hL).gr hB.gr) ((unhide hf).gr hB.gr)).mono ?_)
  rintro r u1 ⟨rfl, hg⟩
  rw [unhide hcn]
  dsimp only
  rw [if_pos rfl, if_pos rfl]
  replace hB := hB.more hg
  clear hg
  refine ⟨_, rfl, ?_⟩
  simp only [Act.put, List.setIfInBounds_toArray, List.set_cons_zero, List.set_cons_succ, List.getElem_toArray, List.getElem_cons_zero, List.getElem_cons_succ]
  refine list_val (.tuple #[.agg (spv s), .int .i64 0]) (by kernel_rfl) (by kernel_rfl) ?_
  simp only [Act.put, List.setIfInBounds_toArray, List.set_cons_zero, List.set_cons_succ, List.getElem_toArray, List.getElem_cons_zero, List.getElem_cons_succ]
  refine list_val (.agg (spv s)) (by kernel_rfl) (by kernel_rfl) ?_
  simp only [Act.put, List.setIfInBounds_toArray, List.set_cons_zero, List.set_cons_succ, List.getElem_toArray, List.getElem_cons_zero, List.getElem_cons_succ]
  refine list_val (.int .i64 0) (by kernel_rfl) (by kernel_rfl) ?_
  simp only [Act.put, List.setIfInBounds_toArray, List.set_cons_zero, List.set_cons_succ, List.getElem_toArray, List.getElem_cons_zero, List.getElem_cons_succ]
  refine list_valw (.pointer (some ⟨u1.heap.size, 0, none⟩)) (u1.alloc (.cells (spv ZSp) 82 (0, 0))) (by kernel_rfl) (by kernel_rfl) ?_
  replace hB := hB.new (spv ZSp) 82
  simp only [List.nil_append, List.cons_append] at hB
  generalize World.alloc _ _ = u2 at *
  generalize u1.heap.size = gn at *
  replace hB : Bl w [⟨gn, spv ZSp, 82⟩] u2 := hB
  simp only [Act.put, List.setIfInBounds_toArray, List.set_cons_zero, List.set_cons_succ, List.getElem_toArray, List.getElem_cons_zero, List.getElem_cons_succ]
  refine list_store 82 (.tmp 4) (.tmp 15) (gn) (spv s) 82 (spv ZSp) (by kernel_rfl) rfl (by kernel_rfl) (by kernel_rfl) (hB.get 0 (x := ⟨gn, spv ZSp, 82⟩) rfl) (by rw [Tryd.infoSp, spv_size (s := s) hhl]) (by rw [spv_size (s := s) hhl, spv_size (s := ZSp) ZSp_hl]) (spv_one _) ?_
  replace hB := hB.set 0 (x := ⟨gn, spv ZSp, 82⟩) rfl (spv s)
  simp only [List.set_cons_zero, List.set_cons_succ] at hB
  generalize World.setRow _ _ _ = u3 at *
  replace hB : Bl w [⟨gn, spv s, 82⟩] u3 := hB
  simp only [Act.put, List.setIfInBounds_toArray, List.set_cons_zero, List.set_cons_succ, List.getElem_toArray, List.getElem_cons_zero, List.getElem_cons_succ]
  (refine wpList_step fun K hK => ?_; replace hK := hide hK; go_simp; refine unhide hK _ _ ?_; clear hK K)
  refine wpList_nil ?_
  replace hB := hide hB
  go_upto_region 6 with fail
  replace hB := unhide hB
  refine any_start (S := fun (v : World) => v.heap[gn]? = some (.cells (spv s) 82 (0, 0))) (by kernel_rfl) ?_
  replace hB := hB.drew
  generalize World.drew _ = x0 at *
  have hS1 : (fun (v : World) => v.heap[gn]? = some (.cells (spv s) 82 (0, 0))) x0 := (hB.get 0 (x := ⟨gn, spv s, 82⟩) rfl)
  simp only [List.size_toArray, List.length_cons, List.length_nil, Array.replicate, List.replicate]
  refine any_take (i := 0) (v := (.pointer (some ⟨gn, 2, none⟩))) #[false, false, false, false, false, false, false] rfl (by kernel_rfl) (by kernel_rfl) (by kernel_rfl) (by kernel_rfl) (fun _ _ _ h => h) (.inl ⟨by kernel_rfl, fun x_ hu => by kernel_rfl⟩) hS1 ?_
  simp only [Act.put, List.setIfInBounds_toArray, List.set_cons_zero, List.set_cons_succ, List.getElem_toArray, List.getElem_cons_zero, List.getElem_cons_succ]
  refine any_take (i := 1) (v := (.int .u32 (s.size : Int))) #[true, false, false, false, false, false, false] rfl (by kernel_rfl) (by kernel_rfl) (by kernel_rfl) (by kernel_rfl) (fun _ _ _ h => h) (.inl ⟨by kernel_rfl, fun x_ hu => exec_w32 _ (.tmp 20) rfl gn 2 (by kernel_rfl) _ (spv_cells hu).2.2⟩) hS1 ?_
  simp only [Act.put, List.setIfInBounds_toArray, List.set_cons_zero, List.set_cons_succ, List.getElem_toArray, List.getElem_cons_zero, List.getElem_cons_succ]
  refine any_take (i := 2) (v := (.int .u64 (s.size : Int))) #[true, true, false, false, false, false, false] rfl (by kernel_rfl) (by kernel_rfl) (by kernel_rfl) (by kernel_rfl) (fun _ _ _ h => h) (.inl ⟨by kernel_rfl, fun x_ hu => by go_simp⟩) hS1 ?_
  simp only [Act.put, List.setIfInBounds_toArray, List.set_cons_zero, List.set_cons_succ, List.getElem_toArray, List.getElem_cons_zero, List.getElem_cons_succ]
  refine any_take (i := 3) (v := (.pointer (some ⟨g, 0, none⟩))) #[true, true, true, false, false, false, false] rfl (by kernel_rfl) (by kernel_rfl) (by kernel_rfl) (by kernel_rfl) (fun _ _ _ h => h) (.inl ⟨by kernel_rfl, fun x_ hu => by kernel_rfl⟩) hS1 ?_
  simp only [Act.put, List.setIfInBounds_toArray, List.set_cons_zero, List.set_cons_succ, List.getElem_toArray, List.getElem_cons_zero, List.getElem_cons_succ]
  refine any_one (i := 4) (by kernel_rfl) rfl (fun K_ hQ => ?_)
  refine step_callw (by kernel_rfl) 14 #[P0 g] (by kernel_rfl) ((room_ok G g gd D.safe.length s (by omega) x0 ((unhide hst).gr hB.gr)).mono ?_)
  rintro r u4 ⟨rfl, hg⟩
  refine ⟨_, rfl, ?_⟩
  rw [← unhide hh, ← unhide hrm]
  replace hB := hB.more hg
  replace hS1 : (fun (v : World) => v.heap[gn]? = some (.cells (spv s) 82 (0, 0))) u4 := hg.blk hS1
  clear hg
  refine hQ.out _ _ hS1 (fun _ => ?_)
  clear hQ K_
  simp only [Act.put, List.setIfInBounds_toArray, List.set_cons_zero, List.set_cons_succ, List.getElem_toArray, List.getElem_cons_zero, List.getElem_cons_succ]
  refine any_take (i := 5) (v := (.int .u64 (rm : Int))) #[true, true, true, true, true, false, false] rfl (by kernel_rfl) (by kernel_rfl) (by kernel_rfl) (by kernel_rfl) (fun _ _ _ h => h) (.inl ⟨by kernel_rfl, fun x_ hu => by go_simp⟩) hS1 ?_
  simp only [Act.put, List.setIfInBounds_toArray, List.set_cons_zero, List.set_cons_succ, List.getElem_toArray, List.getElem_cons_zero, List.getElem_cons_succ]
  refine any_take (i := 6) (v := (.bool true)) #[true, true, true, true, true, true, false] rfl (by kernel_rfl) (by kernel_rfl) (by kernel_rfl) (by kernel_rfl) (fun _ _ _ h => h) (.inl ⟨by kernel_rfl, fun x_ hu => by go_simp⟩) hS1 ?_
  simp only [Act.put, List.setIfInBounds_toArray, List.set_cons_zero, List.set_cons_succ, List.getElem_toArray, List.getElem_cons_zero, List.getElem_cons_succ]
  refine any_done (by kernel_rfl) ?_
  clear hS1 w1 w2
  have hZ : Hid (Vl (.tuple #[.slice none 0 0, .int .i64 210]) w (.returned (.tuple #[.slice none 0 0, .int .i64 210])) u4) := ⟨rfl, hB.gr⟩
  replace hB := hide hB
  go_wp2_with fail
  rw [unhide hT]
  exact unhide hZ
set_option maxHeartbeats 4000000 in
theorem esnap_no3 (F G : List Nat) (g gd m : Nat) (D : Dk) (s : Sup) (hD : D.Ok m) (hm : m ≤ 900000) (hd : D.dead = false) (hn : 64 ≤ D.safe.length) (w : World) (hL : Lies F gd D w) (hs : Sto G g gd D.safe.length s w) (ho : cntS (D.cur 0) (D.cur 1) = (s, true)) (hfit : s.size ≤ 64 * ((D.safe.length - 2) / 4)) (hne : ¬ sh16 (D.snap ((D.safe.length - 2) / 4) s) = s.hash) (hf : Fst w) : Calls Tryd.prog 17 #[P0 g] w (Vl (.tuple #[.slice none 0 0, .int .i64 210]) w) := by
  obtain ⟨T, hT⟩ : ∃ T, T = Vl (.tuple #[.slice none 0 0, .int .i64 210]) w := ⟨_, rfl⟩
  rw [← hT]
  replace hT := hide hT
  have h512 := hD.hi1
  have c0 := Dk.cur_bb hD 0 (by omega)
  have c1 := Dk.cur_bb hD 1 (by omega)
  have hst := hide hs
  obtain ⟨h, lg, sl, hh, hlg, hsl, hq⟩ := stN_is D.safe.length gd
  obtain ⟨-, hS⟩ := hs
  rw [hq] at hS
  clear hq
  have hcn := ho
  rw [← hh] at hfit hne
  obtain ⟨L, hsn⟩ : ∃ L, D.snap h s = L := ⟨_, rfl⟩
  rw [hsn] at hne
  have hok := cnt_right c0 c1 hcn
  have hpl := hok.p
  have hzz := hok.z
  have hhl := hok.hl
  have hhb : h ≤ 1000 := by omega
  obtain ⟨rm, hrm⟩ : ∃ x, x = 64 * h := ⟨_, rfl⟩
  have hrm2 : rm ≤ 10000 := by omega
  have w1 : IntKind.u64.wrap (s.size : Int) = (s.size : Int) := by rw [IntKind.wrap_u64]; omega
  have w2 : IntKind.u64.wrap (rm : Int) = (rm : Int) := by rw [IntKind.wrap_u64]; omega
  have w3 : IntKind.i64.wrap (s.size : Int) = (s.size : Int) := by rw [IntKind.wrap_i64]; omega
  have hgt : ¬ (rm : Int) < (s.size : Int) := by omega
  obtain ⟨o, hoo⟩ : ∃ x, x = 2 + s.place * h := ⟨_, rfl⟩
  have hoz : o + (s.size + 63) / 64 ≤ D.safe.length := by
    have hp2 : s.place = 0 ∨ s.place = 1 := by omega
    rcases hp2 with e | e <;> rw [e] at hoo <;> simp only [Nat.zero_mul, Nat.one_mul, Nat.add_zero] at hoo <;> omega
  have hrow : (rows D.cur o ((s.size + 63) / 64)).take s.size = L := by rw [← hsn, hoo]; rfl
  have hLb : IsB L := by
    rw [← hrow]
    exact fun x hx => (rows_len _ (fun i hi => Dk.cur_bb hD (o + i) (by omega))).2 x (List.mem_of_mem_take hx)
  have hLl : L.length = s.size := by
    rw [← hrow, List.length_take, (rows_len _ (fun i hi => Dk.cur_bb hD (o + i) (by omega))).1]
    omega
  replace hL := hide hL; replace hD := hide hD; replace hf := hide hf; replace hS := hide hS; replace ho := hide ho
  replace hcn := hide hcn; replace hok := hide hok
  replace hsn := hide hsn; replace hne := hide hne
  replace hoo := hide hoo; replace hrow := hide hrow; replace hLb := hide hLb; replace hLl := hide hLl
  replace hh := hide hh; replace hlg := hide hlg; replace hsl := hide hsl; replace c0 := hide c0; replace c1 := hide c1
  replace hrm := hide hrm
  go_enter Tryd.func17, Tryd.ntmps17
  go_upto_region 1 with fail
  refine wp_region_lit ?_
  refine list_val (.pointer (some ⟨g, 0, none⟩)) (by kernel_rfl) (by kernel_rfl) ?_
  simp only [Act.put, List.setIfInBounds_toArray, List.set_cons_zero, List.set_cons_succ, List.getElem_toArray, List.getElem_cons_zero, List.getElem_cons_succ]
  refine list_val (.bool false) (by kernel_rfl) (by kernel_rfl) ?_
  simp only [Act.put, List.setIfInBounds_toArray, List.set_cons_zero, List.set_cons_succ, List.getElem_toArray, List.getElem_cons_zero, List.getElem_cons_succ]
  refine wpList_nil ?_
  have hB := Bl.nil w
  replace hB := hide hB
  go_upto_region 3 with fail
  replace hB := unhide hB
  refine wp_region_lit ?_
  refine list_val (.pointer (some ⟨g, 0, none⟩)) (by kernel_rfl) (by kernel_rfl) ?_
  simp only [Act.put, List.setIfInBounds_toArray, List.set_cons_zero, List.set_cons_succ, List.getElem_toArray, List.getElem_cons_zero, List.getElem_cons_succ]
  refine list_val (.pointer (some ⟨g, 0, none⟩)) (by kernel_rfl) (by kernel_rfl) ?_
  simp only [Act.put, List.setIfInBounds_toArray, List.set_cons_zero, List.set_cons_succ, List.getElem_toArray, List.getElem_cons_zero, List.getElem_cons_succ]
  refine list_val (.pointer (some ⟨g, 3, none⟩)) (by kernel_rfl) (by kernel_rfl) ?_
  simp only [Act.put, List.setIfInBounds_toArray, List.set_cons_zero, List.set_cons_succ, List.getElem_toArray, List.getElem_cons_zero, List.getElem_cons_succ]
  refine list_val (.pointer (some ⟨gd, 0, none⟩)) (by kernel_rfl) (exec_pd _ (.tmp 12) rfl g 3 (by kernel_rfl) (some ⟨gd, 0, none⟩) (cell_of (hB.gr.blk (unhide hS)) (i := 3) rfl)) ?_
  simp only [Act.put, List.setIfInBounds_toArray, List.set_cons_zero, List.set_cons_succ, List.getElem_toArray, List.getElem_cons_zero, List.getElem_cons_succ]
  refine list_call 39 #[P0 gd] (by kernel_rfl) (by kernel_rfl) ((current_ok F gd m D (unhide hD) hm hd (by omega) _ ((unhide hL).gr hB.gr) ((unhide hf).gr hB.gr)).mono ?_)
  rintro r u1 ⟨rfl, hg⟩
  rw [unhide hcn]
  dsimp only
  rw [if_pos rfl, if_pos rfl]
  replace hB := hB.more hg
  clear hg
  refine ⟨_, rfl, ?_⟩
  simp only [Act.put, List.setIfInBounds_toArray, List.set_cons_zero, List.set_cons_succ, List.getElem_toArray, List.getElem_cons_zero, List.getElem_cons_succ]
  refine list_val (.tuple #[.agg (spv s), .int .i64 0]) (by kernel_rfl) (by kernel_rfl) ?_
  simp only [Act.put, List.setIfInBounds_toArray, List.set_cons_zero, List.set_cons_succ, List.getElem_toArray, List.getElem_cons_zero, List.getElem_cons_succ]
  refine list_val (.agg (spv s)) (by kernel_rfl) (by kernel_rfl) ?_
  simp only [Act.put, List.setIfInBounds_toArray, List.set_cons_zero, List.set_cons_succ, List.getElem_toArray, List.getElem_cons_zero, List.getElem_cons_succ]
  refine list_val (.int .i64 0) (by kernel_rfl) (by kernel_rfl) ?_
  simp only [Act.put, List.setIfInBounds_toArray, List.set_cons_zero, List.set_cons_succ, List.getElem_toArray, List.getElem_cons_zero, List.getElem_cons_succ]
  refine list_valw (.pointer (some ⟨u1.heap.size, 0, none⟩)) (u1.alloc (.cells (spv ZSp) 82 (0, 0))) (by kernel_rfl) (by kernel_rfl) ?_
  replace hB := hB.new (spv ZSp) 82
  simp only [List.nil_append, List.cons_append] at hB
  generalize World.alloc _ _ = u2 at *
  generalize u1.heap.size = gn at *
  replace hB : Bl w [⟨gn, spv ZSp, 82⟩] u2 := hB
  simp only [Act.put, List.setIfInBounds_toArray, List.set_cons_zero, List.set_cons_succ, List.getElem_toArray, List.getElem_cons_zero, List.getElem_cons_succ]
  refine list_store 82 (.tmp 4) (.tmp 15) (gn) (spv s) 82 (spv ZSp) (by kernel_rfl) rfl (by kernel_rfl) (by kernel_rfl) (hB.get 0 (x := ⟨gn, spv ZSp, 82⟩) rfl) (by rw [Tryd.infoSp, spv_size (s := s) hhl]) (by rw [spv_size (s := s) hhl, spv_size (s := ZSp) ZSp_hl]) (spv_one _) ?_
  replace hB := hB.set 0 (x := ⟨gn, spv ZSp, 82⟩) rfl (spv s)
  simp only [List.set_cons_zero, List.set_cons_succ] at hB
  generalize World.setRow _ _ _ = u3 at *
  replace hB : Bl w [⟨gn, spv s, 82⟩] u3 := hB
  simp only [Act.put, List.setIfInBounds_toArray, List.set_cons_zero, List.set_cons_succ, List.getElem_toArray, List.getElem_cons_zero, List.getElem_cons_succ]
  (refine wpList_step fun K hK => ?_; replace hK := hide hK; go_simp; refine unhide hK _ _ ?_; clear hK K)
  refine wpList_nil ?_
  replace hB := hide hB
  go_upto_region 6 with fail
  replace hB := unhide hB
  refine any_start (S := fun (v : World) => v.heap[gn]? = some (.cells (spv s) 82 (0, 0))) (by kernel_rfl) ?_
  replace hB := hB.drew
  generalize World.drew _ = x0 at *
  have hS1 : (fun (v : World) => v.heap[gn]? = some (.cells (spv s) 82 (0, 0))) x0 := (hB.get 0 (x := ⟨gn, spv s, 82⟩) rfl)
  simp only [List.size_toArray, List.length_cons, List.length_nil, Array.replicate, List.replicate]
  refine any_take (i := 0) (v := (.pointer (some ⟨gn, 2, none⟩))) #[false, false, false, false, false, false, false] rfl (by kernel_rfl) (by kernel_rfl) (by kernel_rfl) (by kernel_rfl) (fun _ _ _ h => h) (.inl ⟨by kernel_rfl, fun x_ hu => by kernel_rfl⟩) hS1 ?_
  simp only [Act.put, List.setIfInBounds_toArray, List.set_cons_zero, List.set_cons_succ, List.getElem_toArray, List.getElem_cons_zero, List.getElem_cons_succ]
  refine any_take (i := 1) (v := (.int .u32 (s.size : Int))) #[true, false, false, false, false, false, false] rfl (by kernel_rfl) (by kernel_rfl) (by kernel_rfl) (by kernel_rfl) (fun _ _ _ h => h) (.inl ⟨by kernel_rfl, fun x_ hu => exec_w32 _ (.tmp 20) rfl gn 2 (by kernel_rfl) _ (spv_cells hu).2.2⟩) hS1 ?_
  simp only [Act.put, List.setIfInBounds_toArray, List.set_cons_zero, List.set_cons_succ, List.getElem_toArray, List.getElem_cons_zero, List.getElem_cons_succ]
  refine any_take (i := 2) (v := (.int .u64 (s.size : Int))) #[true, true, false, false, false, false, false] rfl (by kernel_rfl) (by kernel_rfl) (by kernel_rfl) (by kernel_rfl) (fun _ _ _ h => h) (.inl ⟨by kernel_rfl, fun x_ hu => by go_simp⟩) hS1 ?_
  simp only [Act.put, List.setIfInBounds_toArray, List.set_cons_zero, List.set_cons_succ, List.getElem_toArray, List.getElem_cons_zero, List.getElem_cons_succ]
  refine any_take (i := 3) (v := (.pointer (some ⟨g, 0, none⟩))) #[true, true, true, false, false, false, false] rfl (by kernel_rfl) (by kernel_rfl) (by kernel_rfl) (by kernel_rfl) (fun _ _ _ h => h) (.inl ⟨by kernel_rfl, fun x_ hu => by kernel_rfl⟩) hS1 ?_
  simp only [Act.put, List.setIfInBounds_toArray, List.set_cons_zero, List.set_cons_succ, List.getElem_toArray, List.getElem_cons_zero, List.getElem_cons_succ]
  refine any_one (i := 4) (by kernel_rfl) rfl (fun K_ hQ => ?_)
  refine step_callw (by kernel_rfl) 14 #[P0 g] (by kernel_rfl) ((room_ok G g gd D.safe.length s (by omega) x0 ((unhide hst).gr hB.gr)).mono ?_)
  rintro r u4 ⟨rfl, hg⟩
  refine ⟨_, rfl, ?_⟩
  rw [← unhide hh, ← unhide hrm]
  replace hB := hB.more hg
  replace hS1 : (fun (v : World) => v.heap[gn]? = some (.cells (spv s) 82 (0, 0))) u4 := hg.blk hS1
  clear hg
  refine hQ.out _ _ hS1 (fun _ => ?_)
  clear hQ K_
  simp only [Act.put, List.setIfInBounds_toArray, List.set_cons_zero, List.set_cons_succ, List.getElem_toArray, List.getElem_cons_zero, List.getElem_cons_succ]
  refine any_take (i := 5) (v := (.int .u64 (rm : Int))) #[true, true, true, true, true, false, false] rfl (by kernel_rfl) (by kernel_rfl) (by kernel_rfl) (by kernel_rfl) (fun _ _ _ h => h) (.inl ⟨by kernel_rfl, fun x_ hu => by go_simp⟩) hS1 ?_
  simp only [Act.put, List.setIfInBounds_toArray, List.set_cons_zero, List.set_cons_succ, List.getElem_toArray, List.getElem_cons_zero, List.getElem_cons_succ]
  refine any_take (i := 6) (v := (.bool false)) #[true, true, true, true, true, true, false] rfl (by kernel_rfl) (by kernel_rfl) (by kernel_rfl) (by kernel_rfl) (fun _ _ _ h => h) (.inl ⟨by kernel_rfl, fun x_ hu => by go_simp⟩) hS1 ?_
  simp only [Act.put, List.setIfInBounds_toArray, List.set_cons_zero, List.set_cons_succ, List.getElem_toArray, List.getElem_cons_zero, List.getElem_cons_succ]
  refine any_done (by kernel_rfl) ?_
  clear hS1 w1 w2
  clear hgt
  replace hB := hide hB
  go_upto_region 8 with fail
  replace hB := unhide hB
  refine any_start (S := fun (v : World) => v.heap[gn]? = some (.cells (spv s) 82 (0, 0)) ∧ v.heap[g]? = some (.cells (stv h lg sl gd) 89 (0, 0))) (by kernel_rfl) ?_
  replace hB := hB.drew
  generalize World.drew _ = x1 at *
  have hS1 : (fun (v : World) => v.heap[gn]? = some (.cells (spv s) 82 (0, 0)) ∧ v.heap[g]? = some (.cells (stv h lg sl gd) 89 (0, 0))) x1 := ⟨(hB.get 0 (x := ⟨gn, spv s, 82⟩) rfl), hB.gr.blk (unhide hS)⟩
  simp only [List.size_toArray, List.length_cons, List.length_nil, Array.replicate, List.replicate]
  refine any_take (i := 0) (v := (.pointer (some ⟨g, 0, none⟩))) #[false, false, false, false, false, false, false, false, false, false, false, false, false, false, false, false, false] rfl (by kernel_rfl) (by kernel_rfl) (by kernel_rfl) (by kernel_rfl) (fun _ _ _ h => h) (.inl ⟨by kernel_rfl, fun x_ hu => by kernel_rfl⟩) hS1 ?_
  simp only [Act.put, List.setIfInBounds_toArray, List.set_cons_zero, List.set_cons_succ, List.getElem_toArray, List.getElem_cons_zero, List.getElem_cons_succ]
  refine any_take (i := 1) (v := (.pointer (some ⟨g, 0, none⟩))) #[true, false, false, false, false, false, false, false, false, false, false, false, false, false, false, false, false] rfl (by kernel_rfl) (by kernel_rfl) (by kernel_rfl) (by kernel_rfl) (fun _ _ _ h => h) (.inl ⟨by kernel_rfl, fun x_ hu => by kernel_rfl⟩) hS1 ?_
  simp only [Act.put, List.setIfInBounds_toArray, List.set_cons_zero, List.set_cons_succ, List.getElem_toArray, List.getElem_cons_zero, List.getElem_cons_succ]
  refine any_take (i := 2) (v := (.pointer (some ⟨g, 0, none⟩))) #[true, true, false, false, false, false, false, false, false, false, false, false, false, false, false, false, false] rfl (by kernel_rfl) (by kernel_rfl) (by kernel_rfl) (by kernel_rfl) (fun _ _ _ h => h) (.inl ⟨by kernel_rfl, fun x_ hu => by kernel_rfl⟩) hS1 ?_
  simp only [Act.put, List.setIfInBounds_toArray, List.set_cons_zero, List.set_cons_succ, List.getElem_toArray, List.getElem_cons_zero, List.getElem_cons_succ]
  refine any_take (i := 3) (v := (.pointer (some ⟨g, 0, none⟩))) #[true, true, true, false, false, false, false, false, false, false, false, false, false, false, false, false, false] rfl (by kernel_rfl) (by kernel_rfl) (by kernel_rfl) (by kernel_rfl) (fun _ _ _ h => h) (.inl ⟨by kernel_rfl, fun x_ hu => by kernel_rfl⟩) hS1 ?_
  simp only [Act.put, List.setIfInBounds_toArray, List.set_cons_zero, List.set_cons_succ, List.getElem_toArray, List.getElem_cons_zero, List.getElem_cons_succ]
  refine any_take (i := 4) (v := (.agg (lyv h lg sl))) #[true, true, true, true, false, false, false, false, false, false, false, false, false, false, false, false, false] rfl (by kernel_rfl) (by kernel_rfl) (by kernel_rfl) (by kernel_rfl) (fun _ _ _ h => h) (.inl ⟨by kernel_rfl, fun x_ hu => exec_row _ 87 (.tmp 31) rfl g 0 (by kernel_rfl) [.int .i64 (h : Int), .int .i64 (lg : Int), .int .i64 (sl : Int)] _ (ly_range hu.2) Tryd.underlying87 rfl (by rw [Tryd.infoLy]; rfl)⟩) hS1 ?_
  simp only [Act.put, List.setIfInBounds_toArray, List.set_cons_zero, List.set_cons_succ, List.getElem_toArray, List.getElem_cons_zero, List.getElem_cons_succ]
  refine any_take (i := 5) (v := (.pointer (some ⟨gn, 0, none⟩))) #[true, true, true, true, true, false, false, false, false, false, false, false, false, false, false, false, false] rfl (by kernel_rfl) (by kernel_rfl) (by kernel_rfl) (by kernel_rfl) (fun _ _ _ h => h) (.inl ⟨by kernel_rfl, fun x_ hu => by kernel_rfl⟩) hS1 ?_
  simp only [Act.put, List.setIfInBounds_toArray, List.set_cons_zero, List.set_cons_succ, List.getElem_toArray, List.getElem_cons_zero, List.getElem_cons_succ]
  refine any_take (i := 6) (v := (.int .u8 (s.place : Int))) #[true, true, true, true, true, true, false, false, false, false, false, false, false, false, false, false, false] rfl (by kernel_rfl) (by kernel_rfl) (by kernel_rfl) (by kernel_rfl) (fun _ _ _ h => h) (.inl ⟨by kernel_rfl, fun x_ hu => exec_b _ (.tmp 33) rfl gn 0 (by kernel_rfl) _ (spv_cells hu.1).1⟩) hS1 ?_
  simp only [Act.put, List.setIfInBounds_toArray, List.set_cons_zero, List.set_cons_succ, List.getElem_toArray, List.getElem_cons_zero, List.getElem_cons_succ]
  refine any_take (i := 8) (v := (.pointer (some ⟨gn, 2, none⟩))) #[true, true, true, true, true, true, true, false, false, false, false, false, false, false, false, false, false] rfl (by kernel_rfl) (by kernel_rfl) (by kernel_rfl) (by kernel_rfl) (fun _ _ _ h => h) (.inl ⟨by kernel_rfl, fun x_ hu => by kernel_rfl⟩) hS1 ?_
  simp only [Act.put, List.setIfInBounds_toArray, List.set_cons_zero, List.set_cons_succ, List.getElem_toArray, List.getElem_cons_zero, List.getElem_cons_succ]
  refine any_take (i := 9) (v := (.int .u32 (s.size : Int))) #[true, true, true, true, true, true, true, false, true, false, false, false, false, false, false, false, false] rfl (by kernel_rfl) (by kernel_rfl) (by kernel_rfl) (by kernel_rfl) (fun _ _ _ h => h) (.inl ⟨by kernel_rfl, fun x_ hu => exec_w32 _ (.tmp 36) rfl gn 2 (by kernel_rfl) _ (spv_cells hu.1).2.2⟩) hS1 ?_
  simp only [Act.put, List.setIfInBounds_toArray, List.set_cons_zero, List.set_cons_succ, List.getElem_toArray, List.getElem_cons_zero, List.getElem_cons_succ]
  refine any_take (i := 10) (v := (.int .i64 (s.size : Int))) #[true, true, true, true, true, true, true, false, true, true, false, false, false, false, false, false, false] rfl (by kernel_rfl) (by kernel_rfl) (by kernel_rfl) (by kernel_rfl) (fun _ _ _ h => h) (.inl ⟨by kernel_rfl, fun x_ hu => by go_simp⟩) hS1 ?_
  simp only [Act.put, List.setIfInBounds_toArray, List.set_cons_zero, List.set_cons_succ, List.getElem_toArray, List.getElem_cons_zero, List.getElem_cons_succ]
  refine any_one (i := 7) (by kernel_rfl) rfl (fun K_ hQ => ?_)
  refine step_callw (by kernel_rfl) 41 #[.agg (lyv h lg sl), .int .u8 (s.place : Int)] (by kernel_rfl) ((start_ok h lg sl s.place (by omega) (by omega) x1).mono ?_)
  rintro r u5 ⟨rfl, hg⟩
  refine ⟨_, rfl, ?_⟩
  rw [← unhide hoo]
  replace hB := hB.more hg
  replace hS1 : (fun (v : World) => v.heap[gn]? = some (.cells (spv s) 82 (0, 0)) ∧ v.heap[g]? = some (.cells (stv h lg sl gd) 89 (0, 0))) u5 := ⟨hg.blk hS1.1, hg.blk hS1.2⟩
  clear hg
  refine hQ.out _ _ hS1 (fun _ => ?_)
  clear hQ K_
  simp only [Act.put, List.setIfInBounds_toArray, List.set_cons_zero, List.set_cons_succ, List.getElem_toArray, List.getElem_cons_zero, List.getElem_cons_succ]
  refine any_one (i := 11) (by kernel_rfl) rfl (fun K_ hQ => ?_)
  refine step_callw (by kernel_rfl) 46 #[P0 g, .int .i64 (o : Int), .int .i64 (s.size : Int)] (by kernel_rfl) ((sfetch_ok F g gd m h lg sl D (unhide hD) (by omega) hd u5 ((unhide hL).gr hB.gr) hS1.2 o s.size hoz).mono ?_)
  rintro r u6 ⟨vb, rfl, hO, hg⟩
  refine ⟨_, rfl, ?_⟩
  rw [unhide hrow] at hO
  have hO2 := hide (ob_base hO hB.gr.size)
  clear hO
  replace hB := hB.more hg
  replace hS1 : (fun (v : World) => v.heap[gn]? = some (.cells (spv s) 82 (0, 0)) ∧ v.heap[g]? = some (.cells (stv h lg sl gd) 89 (0, 0))) u6 := ⟨hg.blk hS1.1, hg.blk hS1.2⟩
  clear hg
  refine hQ.out _ _ hS1 (fun _ => ?_)
  clear hQ K_
  simp only [Act.put, List.setIfInBounds_toArray, List.set_cons_zero, List.set_cons_succ, List.getElem_toArray, List.getElem_cons_zero, List.getElem_cons_succ]
  refine any_take (i := 12) (v := (.tuple #[vb, .int .i64 0])) #[true, true, true, true, true, true, true, true, true, true, true, true, false, false, false, false, false] rfl (by kernel_rfl) (by kernel_rfl) (by kernel_rfl) (by kernel_rfl) (fun _ _ _ h => h) (.inl ⟨by kernel_rfl, fun x_ hu => by kernel_rfl⟩) hS1 ?_
  simp only [Act.put, List.setIfInBounds_toArray, List.set_cons_zero, List.set_cons_succ, List.getElem_toArray, List.getElem_cons_zero, List.getElem_cons_succ]
  refine any_take (i := 13) (v := vb) #[true, true, true, true, true, true, true, true, true, true, true, true, true, false, false, false, false] rfl (by kernel_rfl) (by kernel_rfl) (by kernel_rfl) (by kernel_rfl) (fun _ _ _ h => h) (.inl ⟨by kernel_rfl, fun x_ hu => by kernel_rfl⟩) hS1 ?_
  simp only [Act.put, List.setIfInBounds_toArray, List.set_cons_zero, List.set_cons_succ, List.getElem_toArray, List.getElem_cons_zero, List.getElem_cons_succ]
  refine any_take (i := 14) (v := (.int .i64 0)) #[true, true, true, true, true, true, true, true, true, true, true, true, true, true, false, false, false] rfl (by kernel_rfl) (by kernel_rfl) (by kernel_rfl) (by kernel_rfl) (fun _ _ _ h => h) (.inl ⟨by kernel_rfl, fun x_ hu => by kernel_rfl⟩) hS1 ?_
  simp only [Act.put, List.setIfInBounds_toArray, List.set_cons_zero, List.set_cons_succ, List.getElem_toArray, List.getElem_cons_zero, List.getElem_cons_succ]
  refine any_one (i := 15) (by kernel_rfl) rfl (fun K_ hQ => ?_)
  replace hQ := hide hQ
  go_simp
  refine (unhide hQ).out _ _ hS1 (fun _ => ?_)
  clear hQ K_
  refine any_one (i := 16) (by kernel_rfl) rfl (fun K_ hQ => ?_)
  replace hQ := hide hQ
  go_simp
  refine (unhide hQ).out _ _ hS1 (fun _ => ?_)
  clear hQ K_
  refine any_done (by kernel_rfl) ?_
  clear hS1 w3
  obtain ⟨ab, cb, rfl, hlb⟩ := ob_lb (unhide hO2) (unhide hLb) (n := s.size) (unhide hLl)
  replace hlb := hide hlb
  replace hB := hide hB
  go_upto_region 11 with fail
  replace hB := unhide hB
  refine any_start (S := fun (v : World) => v.heap[gn]? = some (.cells (spv s) 82 (0, 0))) (by kernel_rfl) ?_
  have hgx := (Gr.refl u6).drew
  replace hB := hB.drew
  generalize World.drew _ = x2 at *
  have hS1 : (fun (v : World) => v.heap[gn]? = some (.cells (spv s) 82 (0, 0))) x2 := (hB.get 0 (x := ⟨gn, spv s, 82⟩) rfl)
  simp only [List.size_toArray, List.length_cons, List.length_nil, Array.replicate, List.replicate]
  refine any_take (i := 0) (v := (.slice ab s.size cb)) #[false, false, false, false, false] rfl (by kernel_rfl) (by kernel_rfl) (by kernel_rfl) (by kernel_rfl) (fun _ _ _ h => h) (.inl ⟨by kernel_rfl, fun x_ hu => by kernel_rfl⟩) hS1 ?_
  simp only [Act.put, List.setIfInBounds_toArray, List.set_cons_zero, List.set_cons_succ, List.getElem_toArray, List.getElem_cons_zero, List.getElem_cons_succ]
  refine any_take (i := 2) (v := (.pointer (some ⟨gn, 3, none⟩))) #[true, false, false, false, false] rfl (by kernel_rfl) (by kernel_rfl) (by kernel_rfl) (by kernel_rfl) (fun _ _ _ h => h) (.inl ⟨by kernel_rfl, fun x_ hu => by kernel_rfl⟩) hS1 ?_
  simp only [Act.put, List.setIfInBounds_toArray, List.set_cons_zero, List.set_cons_succ, List.getElem_toArray, List.getElem_cons_zero, List.getElem_cons_succ]
  refine any_take (i := 3) (v := (.agg (kc s.hash))) #[true, false, true, false, false] rfl (by kernel_rfl) (by kernel_rfl) (by kernel_rfl) (by kernel_rfl) (fun _ _ _ h => h) (.inl ⟨by kernel_rfl, fun x_ hu => exec_row _ 80 (.tmp 47) rfl gn 3 (by kernel_rfl) (bv s.hash) _ (spv_range hu) Tryd.underlying80 rfl (by rw [Tryd.infoMk, bv_len, hhl])⟩) hS1 ?_
  simp only [Act.put, List.setIfInBounds_toArray, List.set_cons_zero, List.set_cons_succ, List.getElem_toArray, List.getElem_cons_zero, List.getElem_cons_succ]
  refine any_one (i := 1) (by kernel_rfl) rfl (fun K_ hQ => ?_)
  refine step_callw (by kernel_rfl) 47 #[.slice ab s.size cb] (by kernel_rfl) ((digest_ok L ab s.size cb x2 ((unhide hlb).gr hgx) (by omega) ((unhide hf).gr hB.gr)).mono ?_)
  rintro r u7 ⟨rfl, hg⟩
  refine ⟨_, rfl, ?_⟩
  have hHl := sh16_len L
  have hHq : Hid (decide (sh16 L = s.hash) = false) := decide_eq_false (unhide hne)
  generalize sh16 L = HH at *
  replace hB := hB.more hg
  replace hS1 : (fun (v : World) => v.heap[gn]? = some (.cells (spv s) 82 (0, 0))) u7 := hg.blk hS1
  replace hgx := hgx.trans hg
  clear hg
  refine hQ.out _ _ hS1 (fun _ => ?_)
  clear hQ K_
  simp only [Act.put, List.setIfInBounds_toArray, List.set_cons_zero, List.set_cons_succ, List.getElem_toArray, List.getElem_cons_zero, List.getElem_cons_succ]
  refine any_take (i := 4) (v := (.bool true)) #[true, true, true, true, false] rfl (by kernel_rfl) (by kernel_rfl) (by kernel_rfl) (by kernel_rfl) (fun _ _ _ h => h) (.inl ⟨by kernel_rfl, fun x_ hu => exec_neM _ (.tmp 46) (.tmp 48) rfl HH s.hash hHl hhl (by kernel_rfl) (by kernel_rfl) true (by rw [unhide hHq]; rfl)⟩) hS1 ?_
  simp only [Act.put, List.setIfInBounds_toArray, List.set_cons_zero, List.set_cons_succ, List.getElem_toArray, List.getElem_cons_zero, List.getElem_cons_succ]
  refine any_done (by kernel_rfl) ?_
  clear hS1 hgx
  have hZ : Hid (Vl (.tuple #[.slice none 0 0, .int .i64 210]) w (.returned (.tuple #[.slice none 0 0, .int .i64 210])) u7) := ⟨rfl, hB.gr⟩
  replace hB := hide hB
  go_wp2_with fail
  rw [unhide hT]
  exact unhide hZ
theorem esnap_no (F G : List Nat) (g gd m : Nat) (D : Dk) (t : Sup) (hD : D.Ok m) (hm : m ≤ 900000) (hd : D.dead = false) (hn : 64 ≤ D.safe.length) (w : World) (hL : Lies F gd D w) (hs : Sto G g gd D.safe.length t w) (ho : Shut D ((D.safe.length - 2) / 4)) (hf : Fst w) : Calls Tryd.prog 17 #[P0 g] w (Vl (.tuple #[.slice none 0 0, .int .i64 210]) w) := by
  rcases ho with ho | ⟨s, h1, h2 | ⟨h2, h3⟩⟩
  · exact esnap_no1 F G g gd m D t hD hm hd hn w hL hs ho hf
  · exact esnap_no2 F G g gd m D s hD hm hd hn w hL hs h1 h2 hf
  · exact esnap_no3 F G g gd m D s hD hm hd hn w hL hs h1 h2 h3 hf
set_option maxHeartbeats 4000000 in
theorem eopen_no (F : List Nat) (gd m : Nat) (D : Dk) (hD : D.Ok m) (hm : m ≤ 900000) (hd : D.dead = false) (hn : 64 ≤ D.safe.length) (w : World) (hL : Lies F gd D w) (ho : Shut D ((D.safe.length - 2) / 4)) (hf : Fst w) : Calls Tryd.prog 18 #[P0 gd] w (Vl (.tuple #[.pointer none, .int .i64 210]) w) := by
  obtain ⟨T, hT⟩ : ∃ T, T = Vl (.tuple #[.pointer none, .int .i64 210]) w := ⟨_, rfl⟩
  rw [← hT]
  replace hT := hide hT
  replace hL := hide hL; replace hD := hide hD; replace hf := hide hf; replace ho := hide ho
  go_enter Tryd.func18, Tryd.ntmps18
  go_upto_region 1 with fail
  have hB := Bl.nil w
  refine wp_region_lit ?_
  refine list_val (.pointer (some ⟨gd, 0, none⟩)) (by kernel_rfl) (by kernel_rfl) ?_
  simp only [Act.put, List.setIfInBounds_toArray, List.set_cons_zero, List.set_cons_succ, List.getElem_toArray, List.getElem_cons_zero, List.getElem_cons_succ]
  refine list_call 35 #[P0 gd] (by kernel_rfl) (by kernel_rfl) ((on_ok F gd m D (unhide hD) hm hn w (unhide hL)).mono ?_)
  rintro r u1 ⟨gs, rfl, hg1, hg2, hg⟩
  replace hB := hB.join hg [⟨gs, stN D.safe.length gd, 89⟩] (by intro x hx; rw [List.mem_singleton] at hx; subst hx; exact ⟨hg2, hg1⟩) (List.pairwise_singleton _ _)
  replace hB : Bl w [⟨gs, stN D.safe.length gd, 89⟩] u1 := hB
  clear hg hg2
  refine ⟨_, rfl, ?_⟩
  simp only [Act.put, List.setIfInBounds_toArray, List.set_cons_zero, List.set_cons_succ, List.getElem_toArray, List.getElem_cons_zero, List.getElem_cons_succ]
  refine list_val (.tuple #[.pointer (some ⟨gs, 0, none⟩), .int .i64 0]) (by kernel_rfl) (by kernel_rfl) ?_
  simp only [Act.put, List.setIfInBounds_toArray, List.set_cons_zero, List.set_cons_succ, List.getElem_toArray, List.getElem_cons_zero, List.getElem_cons_succ]
  refine list_val (.pointer (some ⟨gs, 0, none⟩)) (by kernel_rfl) (by kernel_rfl) ?_
  simp only [Act.put, List.setIfInBounds_toArray, List.set_cons_zero, List.set_cons_succ, List.getElem_toArray, List.getElem_cons_zero, List.getElem_cons_succ]
  refine list_val (.int .i64 0) (by kernel_rfl) (by kernel_rfl) ?_
  simp only [Act.put, List.setIfInBounds_toArray, List.set_cons_zero, List.set_cons_succ, List.getElem_toArray, List.getElem_cons_zero, List.getElem_cons_succ]
  (refine wpList_step fun K hK => ?_; replace hK := hide hK; go_simp; refine unhide hK _ _ ?_; clear hK K)
  (refine wpList_step fun K hK => ?_; replace hK := hide hK; go_simp; refine unhide hK _ _ ?_; clear hK K)
  refine wpList_nil ?_
  replace hB := hide hB
  go_upto_region 4 with fail
  replace hB := unhide hB
  refine wp_region_lit ?_
  refine list_val (.pointer (some ⟨gs, 0, none⟩)) (by kernel_rfl) (by kernel_rfl) ?_
  simp only [Act.put, List.setIfInBounds_toArray, List.set_cons_zero, List.set_cons_succ, List.getElem_toArray, List.getElem_cons_zero, List.getElem_cons_succ]
  have hst : Sto [gs] gs gd D.safe.length ZSp u1 := ⟨rfl, (hB.get 0 (x := ⟨gs, stN D.safe.length gd, 89⟩) rfl)⟩
  refine list_call 17 #[P0 gs] (by kernel_rfl) (by kernel_rfl) ((esnap_no F [gs] gs gd m D ZSp (unhide hD) hm hd hn u1 ((unhide hL).gr hB.gr) hst (unhide ho) ((unhide hf).gr hB.gr)).mono ?_)
  rintro r u2 ⟨rfl, hg⟩
  replace hB := hB.more hg
  replace hst := hide (hst.gr hg)
  clear hg
  refine ⟨_, rfl, ?_⟩
  simp only [Act.put, List.setIfInBounds_toArray, List.set_cons_zero, List.set_cons_succ, List.getElem_toArray, List.getElem_cons_zero, List.getElem_cons_succ]
  refine list_val (.tuple #[.slice none 0 0, .int .i64 210]) (by kernel_rfl) (by kernel_rfl) ?_
  simp only [Act.put, List.setIfInBounds_toArray, List.set_cons_zero, List.set_cons_succ, List.getElem_toArray, List.getElem_cons_zero, List.getElem_cons_succ]
  refine list_val (.slice none 0 0) (by kernel_rfl) (by kernel_rfl) ?_
  simp only [Act.put, List.setIfInBounds_toArray, List.set_cons_zero, List.set_cons_succ, List.getElem_toArray, List.getElem_cons_zero, List.getElem_cons_succ]
  refine list_val (.int .i64 210) (by kernel_rfl) (by kernel_rfl) ?_
  simp only [Act.put, List.setIfInBounds_toArray, List.set_cons_zero, List.set_cons_succ, List.getElem_toArray, List.getElem_cons_zero, List.getElem_cons_succ]
  (refine wpList_step fun K hK => ?_; replace hK := hide hK; go_simp; refine unhide hK _ _ ?_; clear hK K)
  (refine wpList_step fun K hK => ?_; replace hK := hide hK; go_simp; refine unhide hK _ _ ?_; clear hK K)
  refine wpList_nil ?_
  have hZ : Hid (Vl (.tuple #[.pointer none, .int .i64 210]) w (.returned (.tuple #[.pointer none, .int .i64 210])) u2) := ⟨rfl, hB.gr⟩
  replace hB := hide hB
  go_wp2_with fail
  rw [unhide hT]
  exact unhide hZ
end Go.Proofs.YtomihjeiaignnaaDoor

namespace Go.Proofs.YtomihjeiaignnaaDoor
open Go.ChangeShapes Go.WideShapes Go.ChangeAt Go.RowKit
set_option maxRecDepth 100000
set_option linter.unusedVariables false
set_option linter.unusedSimpArgs false
theorem open_nums {H : Type} {enc : TypeId × Value → H} {W : World} {t e : TypeId} {k : IntKind} {n fuel : Nat} {cs : List Value} {x : DataW H × List MemPlace} (ht : Tryd.prog.underlying t = some (.array n e)) (he : Tryd.prog.underlying e = some (.int k)) (hc : Tryd.prog.cellsOf e = 1) (hn : Tryd.prog.cellsOf t = n)
    (h : DataW.trod enc Tryd.prog W 0 (fun _ => true) true fuel t cs = some x) : ∃ zs : List Int, cs = zs.map (Value.int k) ∧ zs.length = n ∧ ∀ z ∈ zs, (Lit.int k z).wf = true := by
  obtain ⟨xs, m, _, hx, hl, hxl, hh⟩ := DataW.trod_array ht h
  rw [hn] at hl
  have hce : ∀ i, i < n → ∃ z, cs[i]? = some (.int k z) ∧ (Lit.int k z).wf = true := by
    intro i hi
    have h1 := hh i hi
    rw [hc, Nat.mul_one, List.getElem?_eq_getElem (by omega)] at h1
    obtain ⟨z, e, _, hw⟩ := DataW.trod_int he h1
    refine ⟨z, ?_, hw⟩
    have h2 : ((cs.drop i).take 1)[0]? = some (.int k z) := by rw [e]; rfl
    simpa using h2
  refine ⟨cs.map (fun v => match v with | .int _ z => z | _ => 0), ?_, by simp [hl], ?_⟩
  · apply List.ext_getElem?
    intro i
    rcases Nat.lt_or_ge i n with hi | hi
    · obtain ⟨z, h1, _⟩ := hce i hi
      simp [h1]
    · rw [List.getElem?_eq_none (by omega), List.getElem?_eq_none (by simp; omega)]
  · intro z hz
    obtain ⟨v, hv, rfl⟩ := List.mem_map.1 hz
    obtain ⟨i, hi⟩ := List.getElem?_of_mem hv
    have hi2 : i < n := by have := (List.getElem?_eq_some_iff.1 hi).1; omega
    obtain ⟨z, h1, h2⟩ := hce i hi2
    rw [hi] at h1
    obtain rfl := Option.some.inj h1
    exact h2
theorem Tryd.cellsBk : Tryd.prog.cellsOf 50 = 64 := by kernel_rfl
theorem Tryd.cellsU8 : Tryd.prog.cellsOf 5 = 1 := by kernel_rfl
theorem Tryd.cellsIn : Tryd.prog.cellsOf 3 = 1 := by kernel_rfl
theorem Tryd.cellsBo : Tryd.prog.cellsOf 4 = 1 := by kernel_rfl
theorem Tryd.cellsU64 : Tryd.prog.cellsOf 33 = 1 := by kernel_rfl
theorem Tryd.cellsWs : Tryd.prog.cellsOf 53 = 1 := by kernel_rfl
theorem Tryd.cellsWr : Tryd.prog.cellsOf 57 = 67 := by kernel_rfl
theorem Tryd.cellsWn : Tryd.prog.cellsOf 55 = 4 := by kernel_rfl
theorem wf_b8 {x : Int} (h : (Lit.int .u8 x).wf = true) : 0 ≤ x ∧ x < 256 := by
  have := bounds_u8 h
  omega
theorem wf_b64 {x : Int} (h : (Lit.int .i64 x).wf = true) : -9223372036854775808 ≤ x ∧ x < 9223372036854775808 := by
  have := bounds_i64 h
  omega
theorem wf_u64 {x : Int} (h : (Lit.int .u64 x).wf = true) : 0 ≤ x ∧ x < 18446744073709551616 := by
  have := bounds_u64 h
  omega
theorem open_blkc {H : Type} {enc : TypeId × Value → H} {W : World} {fuel : Nat} {cs : List Value} {x : DataW H × List MemPlace} (h : DataW.trod enc Tryd.prog W 0 (fun _ => true) true fuel 50 cs = some x) : ∃ b, cs = bv b ∧ BB b := by
  obtain ⟨zs, h1, h2, h3⟩ := open_nums Tryd.underlying50 Tryd.underlying5 Tryd.cellsU8 Tryd.cellsBk h
  exact ⟨zs, h1, h2, fun z hz => wf_b8 (h3 z hz)⟩
theorem Lr.gr {k : Nat} {w v : World} {a : Option Addr} {n c : Nat} {R : List (List Value)} (h : Lr k w a n c R) (g : Gr w v) : Lr k v a n c R := by
  refine ⟨h.len, ?_, h.cap, h.max⟩
  rcases h.sl with h | ⟨p, o, h1, h2⟩
  · exact .inl h
  · exact .inr ⟨p, o, h1, fun i hi => range_gr (h2 i hi) g⟩
theorem open_rows {H : Type} {enc : TypeId × Value → H} {W : World} {t e : TypeId} {k : Nat} (ht : Tryd.prog.underlying t = some (.slice e)) (hk : Tryd.prog.cellsOf e = k) (hk0 : 0 < k) {α : Type} (z : α) (f : α → List Value) (Ok : α → Prop) (hlen : ∀ o, Ok o → (f o).length = k)
    (each : ∀ (fuel : Nat) (cs : List Value) (x : DataW H × List MemPlace), DataW.trod enc Tryd.prog W 0 (fun _ => true) true fuel e cs = some x → ∃ o, cs = f o ∧ Ok o)
    {fuel : Nat} {cs : List Value} {x : DataW H × List MemPlace} (hf : DataW.trod enc Tryd.prog W 0 (fun _ => true) true fuel t cs = some x) : ∃ a len cap l, cs = [.slice a len cap] ∧ Lr k W a len cap ((l : List α).map f) ∧ ∀ o ∈ l, Ok o := by
  rcases DataW.trod_slice ht hf with ⟨hcs, _⟩ | ⟨ad, len, cap, elems, rest, n, _, hcs, hx, hb, hl, hm, hlen2, hel, hsp, hns⟩
  · exact ⟨none, 0, 0, [], hcs, ⟨rfl, .inl rfl, Nat.le_refl _, by omega⟩, fun o h => by cases h⟩
  · have each2 : ∀ i, ∃ o : α, i < len → (∀ j, j < k → W.cell? (ad.add (i * k + j)) = (f o)[j]?) ∧ Ok o := by
      intro i
      by_cases hi : i < len
      · have hy : elems[i]? = some (elems[i]'(by omega)) := List.getElem?_eq_getElem (by omega)
        have h1 := hel i hi
        rw [hy, hk, Option.bind_eq_some_iff] at h1
        obtain ⟨cs', hcs', hy'⟩ := h1
        obtain ⟨o, e, ho⟩ := each _ _ _ hy'
        obtain ⟨_, hl4, hc4⟩ := World.cells?_some hcs'
        refine ⟨o, fun _ => ⟨fun j hj => ?_, ho⟩⟩
        have h9 := hc4 j hj
        rw [Deep.add_add] at h9
        rw [h9, e]
      · exact ⟨z, fun h => absurd h hi⟩
    obtain ⟨g, hg⟩ := Classical.axiomOfChoice each2
    refine ⟨some ad, len, cap, (List.range len).map g, hcs, ⟨by simp, ?_, hl, by unfold maxLen at hm; omega⟩, ?_⟩
    · rcases Nat.eq_zero_or_pos len with h0 | h0
      · exact .inl h0
      · right
        obtain ⟨b, off, spot⟩ := ad
        obtain ⟨h1, h2⟩ := hg 0 h0
        have h1 := h1 0 hk0
        have hspot : spot = none := by
          rw [List.getElem?_eq_getElem (by rw [hlen _ h2]; exact hk0)] at h1
          simpa [Addr.add] using World.cell?_spot h1
        subst hspot
        refine ⟨b, off, rfl, fun i hi => ?_⟩
        obtain ⟨h3, h4⟩ := hg i hi
        have e : (((List.range len).map g).map f).getD i [] = f (g i) := by simp [hi]
        rw [e]
        intro q v hq
        have hqk : q < k := by have := (List.getElem?_eq_some_iff.1 hq).1; rw [hlen _ h4] at this; exact this
        have h5 := h3 q hqk
        rw [Addr.add_mid, hq] at h5
        rw [Nat.add_assoc, Nat.mul_comm k i]
        exact h5
    · intro o ho
      obtain ⟨i, hi, rfl⟩ := List.mem_map.1 ho
      exact (hg i (List.mem_range.1 hi)).2
structure Wrl where
  at_ : Int
  turn : List Int
  sup : Bool
  cnt : Int
structure Wrl.Ok (x : Wrl) : Prop where
  a1 : -9223372036854775808 ≤ x.at_
  a2 : x.at_ < 9223372036854775808
  tb : BB x.turn
  c1 : 0 ≤ x.cnt
  c2 : x.cnt < 18446744073709551616
def wrv (x : Wrl) : List Value := .int .i64 x.at_ :: (bv x.turn ++ [.bool x.sup, .int .u64 x.cnt])
theorem wrv_len {x : Wrl} (h : x.Ok) : (wrv x).length = 67 := by
  have := h.tb.1
  unfold wrv
  simp [bv_len, this]
theorem open_wrtc {H : Type} {enc : TypeId × Value → H} {W : World} {fuel : Nat} {cs : List Value} {x : DataW H × List MemPlace} (h : DataW.trod enc Tryd.prog W 0 (fun _ => true) true fuel 57 cs = some x) : ∃ o, cs = wrv o ∧ o.Ok := by
  obtain ⟨y0, y1, y2, y3, n, hx, hl, h0, h1, h2, h3⟩ := Go.Joins.trod_struct4 Tryd.underlying57 h
  rw [Tryd.cellsWr] at hl
  simp only [Tryd.cellsIn, Tryd.cellsBk, Tryd.cellsBo, Tryd.cellsU64] at h0 h1 h2 h3
  obtain ⟨z0, e0, _, w0⟩ := DataW.trod_int Tryd.underlying3 h0
  obtain ⟨b, e1, hb⟩ := open_blkc h1
  obtain ⟨z2, e2, _⟩ := DataW.trod_bool Tryd.underlying4 h2
  obtain ⟨z3, e3, _, w3⟩ := DataW.trod_int Tryd.underlying33 h3
  have b0 := wf_b64 w0
  have b3 := wf_u64 w3
  refine ⟨⟨z0, b, z2, z3⟩, ?_, ⟨b0.1, b0.2, hb, b3.1, b3.2⟩⟩
  have s0 := take_split cs 0 1
  have s1 := take_split cs 1 64
  have s2 := take_split cs 65 1
  have s3 := take_split cs 66 1
  have s4 : cs.drop 67 = [] := List.drop_eq_nil_of_le (by omega)
  rw [List.drop_zero] at s0
  simp only [List.drop_zero] at e0
  rw [s0, e0, s1, e1, s2, e2, s3, e3, s4]
  rfl
theorem open_written {H : Type} {enc : TypeId × Value → H} {W : World} {base : Nat} {v : Value} {d : DataW H} {p : List MemPlace}
    (hv : Value.okWide Tryd.prog W .any base 55 v) (h : DataW.Trod enc Tryd.prog W 0 (fun _ => true) true 55 v d p) (hw : ∀ n ∈ d.weights Tryd.prog 55, n ≤ reachBytes) :
    ∃ n0 fm sa sn sc S wa wn wc, ∃ l : List Wrl, v = .agg #[.int .i64 n0, .bool fm, .slice sa sn sc, .slice wa wn wc] ∧ (-9223372036854775808 ≤ n0 ∧ n0 < 9223372036854775808) ∧ Lb W sa sn sc S ∧ sc ≤ 140737488351232 ∧ Lr 67 W wa wn wc (l.map wrv) ∧ ∀ o ∈ l, Wrl.Ok o := by
  unfold Value.okWide at hv
  rw [Tryd.underlying55] at hv
  obtain ⟨ar, rfl, hsz, _⟩ := hv
  obtain ⟨fuel, hf⟩ := h
  obtain ⟨y0, y1, y2, y3, n, hx, hl, h0, h1, h2, h3⟩ := Go.Joins.trod_struct4 Tryd.underlying55 hf
  rw [Tryd.cellsWn] at hl
  simp only [Value.cells] at hl h0 h1 h2 h3
  obtain ⟨cs⟩ := ar
  simp only at hl h0 h1 h2 h3
  match cs, hl with
  | [c0, c1, c2, c3], _ =>
    simp only [Tryd.cellsIn, Tryd.cellsBo, Tryd.cellsBy, Tryd.cellsWs] at h0 h1 h2 h3
    have hxd : d = .agg [y0.1, y1.1, y2.1, y3.1] := congrArg Prod.fst hx
    have hsw : ∀ e2 s2, y2.1 = .slice e2 s2 → (e2.length + s2.length) * Tryd.prog.bytesOf 5 ≤ reachBytes := by
      intro e2 s2 he
      refine hw _ ?_
      rw [hxd, DataW.weights, Tryd.underlying55]
      show _ ∈ DataW.weightsEach Tryd.prog [3, 4, 32, 53] [y0.1, y1.1, y2.1, y3.1]
      rw [DataW.weightsEach, DataW.weightsEach, DataW.weightsEach]
      refine List.mem_append_right _ (List.mem_append_right _ (List.mem_append_left _ ?_))
      rw [he, DataW.weights, Tryd.underlying32]
      exact List.mem_cons_self
    obtain ⟨z0, e0, _, w0⟩ := DataW.trod_int Tryd.underlying3 h0
    obtain ⟨z1, e1, _⟩ := DataW.trod_bool Tryd.underlying4 h1
    obtain ⟨wa, wn, wc, l, e3, hr, ho⟩ := open_rows Tryd.underlying53 Tryd.cellsWr (by omega) ⟨0, [], false, 0⟩ wrv Wrl.Ok (fun o h => wrv_len h) (fun fuel cs x h => open_wrtc h) h3
    have hby : ∃ sa sn sc S, c2 = .slice sa sn sc ∧ Lb W sa sn sc S ∧ sc ≤ 140737488351232 := by
      simp only [List.drop_succ_cons, List.drop_zero, List.take_succ_cons, List.take_zero] at h2
      rcases DataW.trod_slice Tryd.underlying32 h2 with ⟨e2, _⟩ | ⟨ad', l', c', _, _, _, _, e2, _⟩
      · have e4 : c2 = .slice none 0 0 := by simpa using e2
        subst e4
        obtain ⟨li, k1, k2, k3, k4, k5⟩ := open_bytes (a := none) (len := 0) (cap := 0) (d := y2.1) (p := y2.2) ⟨n, h2⟩ hsw
        exact ⟨none, 0, 0, li, rfl, ⟨k2, k1, k3, k4, by omega⟩, k5⟩
      · have e4 : c2 = .slice (some ad') l' c' := by simpa using e2
        subst e4
        obtain ⟨li, k1, k2, k3, k4, k5⟩ := open_bytes (a := some ad') (len := l') (cap := c') (d := y2.1) (p := y2.2) ⟨n, h2⟩ hsw
        exact ⟨some ad', l', c', li, rfl, ⟨k2, k1, k3, k4, by omega⟩, k5⟩
    obtain ⟨sa, sn, sc, S, e2, hS, hsc⟩ := hby
    simp at e0 e1 e3
    subst e0 e1 e2 e3
    exact ⟨z0, z1, sa, sn, sc, S, wa, wn, wc, l, rfl, wf_b64 w0, hS, hsc, hr, ho⟩
end Go.Proofs.YtomihjeiaignnaaDoor
