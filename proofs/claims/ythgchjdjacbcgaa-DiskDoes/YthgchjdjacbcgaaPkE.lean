/-
  The program: what lives on, Crash.
-/
import Derived.Test.YthgchjdjacbcgaaPkD
namespace Go.Proofs.Ythgchjdjacbcgaa
open Go.RowKit
set_option maxRecDepth 100000
set_option linter.unusedSimpArgs false
set_option linter.unusedVariables false
theorem range_chg {F F' : List Nat} {w v : World} {p o : Nat} {L : List Value} (h : w.rangeAt p o L) (k : Chg F F' w v) (hp : p ∉ F) : v.rangeAt p o L := fun j x hj => k.cell (h j x hj) hp
theorem Kp.chg2 {F F' : List Nat} {w v : World} {a : Option Addr} {n c : Nat} {l : List Bool} (h : Kp w a n c l) (k : Chg F F' w v) (hn : l = [] ∨ ∀ i ∈ F, blkOf a ≠ some i) : Kp v a n c l := by
  rcases hn with hn | hn
  · exact ⟨h.len, .inl hn, h.cap, h.max⟩
  · exact h.chg k hn
/-- what settle leaves -/
def Stl (g : Nat) (D : Dk) (sg sc : Nat) (l : Int) (w : World) (r : Ending) (w' : World) : Prop := r = .returned (.tuple #[]) ∧ ∃ C', Pd g D w' sg sc C' none 0 l ∧ Chg [g, sg] [g, sg] w w'
set_option maxHeartbeats 4000000 in
theorem settle_c (g : Nat) (D : Dk) (sg sc : Nat) (C : List Value) (pa : Option Addr) (pc : Nat) (l : Int) (keep : List Bool) (kb : Nat) (m : Nat) (hD : D.Ok m) (hm : m ≤ 1000001) (w : World) (hP : Pd g D w sg sc C pa pc l) (hC : ∀ (v : World), Chg [g, sg] [g, sg] w v → ∀ j : Nat, j < D.pend.length → Calls Try.prog 41 #[.int .i64 (j : Int), .pointer (some ⟨kb, 0, none⟩)] v (Vl (.bool (keep.getD j false)) v)) : Calls Try.prog 40 #[P0 g, .func (.func 41) #[] #[.pointer (some ⟨kb, 0, none⟩)]] w (Stl g (D.live keep) sg sc l w) := by
  obtain ⟨T, hT⟩ : ∃ T, T = Stl g (D.live keep) sg sc l w := ⟨_, rfl⟩
  rw [← hT]
  replace hT := hide hT
  obtain ⟨S, hS⟩ : ∃ x, x = D.safe := ⟨_, rfl⟩
  obtain ⟨P, hPp⟩ : ∃ x, x = D.pend := ⟨_, rfl⟩
  obtain ⟨dd, hdd⟩ : ∃ x, x = D.dead := ⟨_, rfl⟩
  obtain ⟨sn, hsn⟩ : ∃ n, n = D.safe.length := ⟨_, rfl⟩
  obtain ⟨pn, hpn⟩ : ∃ n, n = D.pend.length := ⟨_, rfl⟩
  obtain ⟨os, hos⟩ : ∃ n, n = D.ops := ⟨_, rfl⟩
  have hcl := hP.cel
  rw [← hdd, ← hsn, ← hpn, ← hos] at hcl
  replace hdd := hide hdd; replace hsn := hide hsn; replace hpn := hide hpn; replace hos := hide hos; replace hcl := hide hcl; replace hP := hide hP
  have hpm : pn ≤ 1000001 := by rw [unhide hpn]; exact Nat.le_trans hD.num hm
  have hs512 : sn ≤ 512 := by rw [unhide hsn]; exact hD.hi1
  have hB := (unhide hP).two (F := [g, sg]) (by simp) (by simp)
  rw [← unhide hdd, ← unhide hsn, ← unhide hpn, ← unhide hos] at hB
  have hCl := (unhide hP).len
  have hsc : sn ≤ sc := by rw [unhide hsn]; exact (unhide hP).cap
  have hCov : Cov C (S.map bv).flatten := by rw [hS]; exact (unhide hP).cov
  have hlsn : Hid (S.length = sn) := by show S.length = sn; rw [hS, unhide hsn]
  have hlpn : Hid (P.length = pn) := by show P.length = pn; rw [hPp, unhide hpn]
  have hDS : Hid (∀ b ∈ S, BB b) := by show ∀ b ∈ S, BB b; rw [hS]; exact hD.blk
  have hDP : Hid (∀ x ∈ P, x.1 < S.length ∧ BB x.2) := by show ∀ x ∈ P, x.1 < S.length ∧ BB x.2; rw [hS, hPp]; exact hD.pnd
  have hls : Hid (Ls 65 w pa pn pc (P.map wv)) := by show Ls 65 w pa pn pc (P.map wv); rw [hPp, unhide hpn]; exact (unhide hP).pls
  have hpf : Hid (∀ i, blkOf pa = some i → i ∉ [g, sg]) := fun i hi => by have := (unhide hP).pg_ne hi; simp [this.1, this.2]
  rw [← unhide hpn] at hC
  replace hD := hide hD; replace hB := hide hB; replace hC := hide hC; replace hS := hide hS; replace hPp := hide hPp
  go_enter Try.func40, Try.ntmps40
  go_upto_region 0 with fail
  replace hB := unhide hB
  refine wp_region_lit ?_
  refine list_val (.pointer (some ⟨g, 0, none⟩)) (by kernel_rfl) (by kernel_rfl) ?_
  simp only [Act.put, List.setIfInBounds_toArray, List.set_cons_zero, List.set_cons_succ, List.getElem_toArray, List.getElem_cons_zero, List.getElem_cons_succ]
  refine list_val (.pointer (some ⟨g, 0, none⟩)) (by kernel_rfl) (by kernel_rfl) ?_
  simp only [Act.put, List.setIfInBounds_toArray, List.set_cons_zero, List.set_cons_succ, List.getElem_toArray, List.getElem_cons_zero, List.getElem_cons_succ]
  refine list_val (.pointer (some ⟨g, 1, none⟩)) (by kernel_rfl) (by kernel_rfl) ?_
  simp only [Act.put, List.setIfInBounds_toArray, List.set_cons_zero, List.set_cons_succ, List.getElem_toArray, List.getElem_cons_zero, List.getElem_cons_succ]
  refine list_val (.slice pa pn pc) (by kernel_rfl) (exec_spw _ (.tmp 8) rfl g 1 (by kernel_rfl) pa pn pc (cell_of (hB.get 0 (x := ⟨g, pdv (some ⟨sg, 0, none⟩) sn sc pa pn pc l os dd, 67⟩) rfl) (i := 1) rfl)) ?_
  simp only [Act.put, List.setIfInBounds_toArray, List.set_cons_zero, List.set_cons_succ, List.getElem_toArray, List.getElem_cons_zero, List.getElem_cons_succ]
  refine list_val (.int .i64 pn) (by kernel_rfl) (by kernel_rfl) ?_
  simp only [Act.put, List.setIfInBounds_toArray, List.set_cons_zero, List.set_cons_succ, List.getElem_toArray, List.getElem_cons_zero, List.getElem_cons_succ]
  refine list_val (.int .i64 0) (by kernel_rfl) (by kernel_rfl) ?_
  simp only [Act.put, List.setIfInBounds_toArray, List.set_cons_zero, List.set_cons_succ, List.getElem_toArray, List.getElem_cons_zero, List.getElem_cons_succ]
  refine wpList_nil ?_
  have hscx : sn * 64 ≤ sc * 64 := Nat.mul_le_mul_right _ hsc
  obtain ⟨cz, hcz⟩ : ∃ z, z = sc * 64 := ⟨_, rfl⟩
  rw [← hcz] at hCl hscx
  replace hcz := hide hcz
  replace hCov : Hid (Cov C ((liv S P keep 0).map bv).flatten) := hCov
  replace hB := hide hB
  go_wp2_with fail
  go_loopw [11] (fun i wr => ∃ j : Nat, ∃ C : List Value, j ≤ pn ∧ i = .int .i64 j ∧ C.length = cz ∧ Hid (Cov C ((liv S P keep j).map bv).flatten) ∧ Hid (Bc [g, sg] w [⟨g, pdv (some ⟨sg, 0, none⟩) sn sc pa pn pc l os dd, 67⟩, ⟨sg, C.toArray, 39⟩] wr)) (fun i _ => pn - (intOf i).toNat)
  case atStart => exact ⟨0, C, by omega, rfl, hCl, hCov, hB⟩
  case round =>
  clear hB hCov hCl
  obtain ⟨j, C2, hj, rfl, hCl, hCov, hB⟩ := hrel
  by_cases hjl : j < pn
  · skip
    obtain ⟨p2, o2, rfl, hrw⟩ := (unhide hls).at_ j hjl
    rw [getD_map wv P j (0, []) [] (by rw [unhide hlpn]; exact hjl)] at hrw
    have hx := unhide hDP _ (mem_of_getD (d := (0, [])) (by rw [unhide hlpn]; exact hjl))
    have hnx : Hid (liv S P keep (j + 1) = if keep.getD j false then (liv S P keep j).set (P.getD j (0, [])).1 (P.getD j (0, [])).2 else liv S P keep j) := rfl
    obtain ⟨⟨ai, ab⟩, hab⟩ : ∃ x, x = P.getD j (0, []) := ⟨_, rfl⟩
    rw [← hab] at hrw hx hnx
    have hal : ab.length = 64 := hx.2.1
    have hai : ai < sn := by rw [← unhide hlsn]; exact hx.1
    have hwl : (wv (ai, ab)).length = 65 := by rw [wv_len, hal]
    have hlb : Hid (∀ b ∈ liv S P keep j, BB b) := liv_bb (unhide hDS) (fun x hx => (unhide hDP x hx).2) keep j (by rw [unhide hlpn]; exact hj)
    have hp2 : p2 ∉ [g, sg] := unhide hpf p2 rfl
    replace hab := hide hab; replace hx := hide hx; replace hrw := hide hrw; replace hp2 := hide hp2
    have jI : (j : Int) < (pn : Int) := by omega
    go_upto_region 2 with fail
    replace hB := unhide hB
    refine wp_region_lit ?_
    refine list_val (.int .i64 j) (by kernel_rfl) (by kernel_rfl) ?_
    simp only [Act.put, List.setIfInBounds_toArray, List.set_cons_zero, List.set_cons_succ, List.getElem_toArray, List.getElem_cons_zero, List.getElem_cons_succ]
    refine list_val (.pointer (some ⟨p2, o2 + 65 * j, none⟩)) (by kernel_rfl) (exec_ipw _ (.tmp 9) (.tmp 11) rfl p2 o2 pn pc j rfl rfl hjl) ?_
    simp only [Act.put, List.setIfInBounds_toArray, List.set_cons_zero, List.set_cons_succ, List.getElem_toArray, List.getElem_cons_zero, List.getElem_cons_succ]
    refine list_val (.agg ((wv (ai, ab)).toArray)) (by kernel_rfl) (exec_row _ 75 (.tmp 14) rfl p2 (o2 + 65 * j) (by kernel_rfl) (wv (ai, ab)) _ (range_chg (unhide hrw) hB.chg (unhide hp2)) Try.underlying75 rfl (by rw [Try.infoPW, hwl])) ?_
    simp only [Act.put, List.setIfInBounds_toArray, List.set_cons_zero, List.set_cons_succ, List.getElem_toArray, List.getElem_cons_zero, List.getElem_cons_succ]
    refine list_valw (.pointer (some ⟨wr.heap.size, 0, none⟩)) (wr.alloc (.cells ((wv (0, ZB)).toArray) 75 (0, 0))) (by kernel_rfl) (by kernel_rfl) ?_
    replace hB := hB.new ((wv (0, ZB)).toArray) 75
    simp only [List.nil_append, List.cons_append] at hB
    generalize World.alloc _ _ = v1 at *
    generalize wr.heap.size = g8 at *
    replace hB : Bc [g, sg] w [⟨g, pdv (some ⟨sg, 0, none⟩) sn sc (some ⟨p2, o2, none⟩) pn pc l os dd, 67⟩, ⟨sg, C2.toArray, 39⟩, ⟨g8, (wv (0, ZB)).toArray, 75⟩] v1 := hB
    simp only [Act.put, List.setIfInBounds_toArray, List.set_cons_zero, List.set_cons_succ, List.getElem_toArray, List.getElem_cons_zero, List.getElem_cons_succ]
    (refine wpList_step fun K hK => ?_; replace hK := hide hK; go_simp; refine unhide hK _ _ ?_; clear hK K)
    refine list_store 75 (.tmp 5) (.tmp 15) g8 ((wv (ai, ab)).toArray) 75 ((wv (0, ZB)).toArray) (by kernel_rfl) rfl (by kernel_rfl) (by kernel_rfl) (hB.get 2 (x := ⟨g8, (wv (0, ZB)).toArray, 75⟩) rfl) (by rw [Try.infoPW, List.size_toArray, hwl]) ((show ((wv (0, ZB)).toArray).size = 65 from rfl).trans (by rw [List.size_toArray, hwl])) (wv_one _) ?_
    replace hB := hB.set 2 (x := ⟨g8, (wv (0, ZB)).toArray, 75⟩) rfl ((wv (ai, ab)).toArray)
    simp only [List.set_cons_zero, List.set_cons_succ] at hB
    generalize World.setRow _ _ _ = v2 at *
    replace hB : Bc [g, sg] w [⟨g, pdv (some ⟨sg, 0, none⟩) sn sc (some ⟨p2, o2, none⟩) pn pc l os dd, 67⟩, ⟨sg, C2.toArray, 39⟩, ⟨g8, (wv (ai, ab)).toArray, 75⟩] v2 := hB
    simp only [Act.put, List.setIfInBounds_toArray, List.set_cons_zero, List.set_cons_succ, List.getElem_toArray, List.getElem_cons_zero, List.getElem_cons_succ]
    refine wpList_nil ?_
    replace hB := hide hB
    go_upto_region 3 with fail
    replace hB := unhide hB
    refine wp_region_lit ?_
    refine list_val (.func (.func 41) #[] #[.pointer (some ⟨kb, 0, none⟩)]) (by kernel_rfl) (by kernel_rfl) ?_
    simp only [Act.put, List.setIfInBounds_toArray, List.set_cons_zero, List.set_cons_succ, List.getElem_toArray, List.getElem_cons_zero, List.getElem_cons_succ]
    refine list_val (.int .i64 j) (by kernel_rfl) (by kernel_rfl) ?_
    simp only [Act.put, List.setIfInBounds_toArray, List.set_cons_zero, List.set_cons_succ, List.getElem_toArray, List.getElem_cons_zero, List.getElem_cons_succ]
    refine list_call 41 #[.int .i64 (j : Int), .pointer (some ⟨kb, 0, none⟩)] (by kernel_rfl) (by kernel_rfl) ((unhide hC _ hB.chg j hjl).mono ?_)
    rintro r v3 ⟨rfl, hG⟩
    refine ⟨_, rfl, ?_⟩
    replace hB := hB.more hG
    clear hG
    obtain ⟨kb_, hkb⟩ : ∃ x, x = keep.getD j false := ⟨_, rfl⟩
    rw [← hkb]
    replace hkb := hide hkb
    simp only [Act.put, List.setIfInBounds_toArray, List.set_cons_zero, List.set_cons_succ, List.getElem_toArray, List.getElem_cons_zero, List.getElem_cons_succ]
    refine wpList_nil ?_
    cases kb_
    case false =>
      have hB3 : Hid (Bc [g, sg] w [⟨g, pdv (some ⟨sg, 0, none⟩) sn sc (some ⟨p2, o2, none⟩) pn pc l os dd, 67⟩, ⟨sg, C2.toArray, 39⟩] _) := Bc.left (M := [⟨g8, (wv (ai, ab)).toArray, 75⟩]) hB
      clear hB
      go_wp2_with fail
      go_roundw
      case rel => exact ⟨j + 1, C2, by omega, by go_num, hCl, (by show Cov C2 ((liv S P keep (j + 1)).map bv).flatten; rw [unhide hnx, ← unhide hkb]; exact unhide hCov), hB3⟩
      case measure => simp [intOf]; omega
    case true =>
      go_upto_region 4 with fail
      replace hB := hB
      refine anyC_start 9 (fun v => Bc [g, sg] w [⟨g, pdv (some ⟨sg, 0, none⟩) sn sc (some ⟨p2, o2, none⟩) pn pc l os dd, 67⟩, ⟨sg, C2.toArray, 39⟩, ⟨g8, (wv (ai, ab)).toArray, 75⟩] v) (by kernel_rfl) ?_
      replace hB := hB.drew
      generalize World.drew _ = x0 at *
      simp only [List.size_toArray, List.length_cons, List.length_nil, Array.replicate, List.replicate]
      refine anyC_take (i := 0) (v := (.pointer (some ⟨g, 0, none⟩))) (fun v => Bc [g, sg] w [⟨g, pdv (some ⟨sg, 0, none⟩) sn sc (some ⟨p2, o2, none⟩) pn pc l os dd, 67⟩, ⟨sg, C2.toArray, 39⟩, ⟨g8, (wv (ai, ab)).toArray, 75⟩] v) (fun _ h_ => h_) (.inr (by kernel_rfl)) rfl (by kernel_rfl) (by kernel_rfl) (by kernel_rfl) (by decide) (by kernel_rfl) (by decide) (fun _ _ _ h => h) (.inl ⟨by kernel_rfl, fun x_ hu => by kernel_rfl⟩) hB ?_
      simp only [Act.put, List.setIfInBounds_toArray, List.set_cons_zero, List.set_cons_succ, List.getElem_toArray, List.getElem_cons_zero, List.getElem_cons_succ]
      refine anyC_take (i := 1) (v := (.pointer (some ⟨g, 0, none⟩))) (fun v => Bc [g, sg] w [⟨g, pdv (some ⟨sg, 0, none⟩) sn sc (some ⟨p2, o2, none⟩) pn pc l os dd, 67⟩, ⟨sg, C2.toArray, 39⟩, ⟨g8, (wv (ai, ab)).toArray, 75⟩] v) (fun _ h_ => h_) (.inr (by kernel_rfl)) rfl (by kernel_rfl) (by kernel_rfl) (by kernel_rfl) (by decide) (by kernel_rfl) (by decide) (fun _ _ _ h => h) (.inl ⟨by kernel_rfl, fun x_ hu => by kernel_rfl⟩) hB ?_
      simp only [Act.put, List.setIfInBounds_toArray, List.set_cons_zero, List.set_cons_succ, List.getElem_toArray, List.getElem_cons_zero, List.getElem_cons_succ]
      refine anyC_take (i := 2) (v := (.pointer (some ⟨g, 0, none⟩))) (fun v => Bc [g, sg] w [⟨g, pdv (some ⟨sg, 0, none⟩) sn sc (some ⟨p2, o2, none⟩) pn pc l os dd, 67⟩, ⟨sg, C2.toArray, 39⟩, ⟨g8, (wv (ai, ab)).toArray, 75⟩] v) (fun _ h_ => h_) (.inr (by kernel_rfl)) rfl (by kernel_rfl) (by kernel_rfl) (by kernel_rfl) (by decide) (by kernel_rfl) (by decide) (fun _ _ _ h => h) (.inl ⟨by kernel_rfl, fun x_ hu => by kernel_rfl⟩) hB ?_
      simp only [Act.put, List.setIfInBounds_toArray, List.set_cons_zero, List.set_cons_succ, List.getElem_toArray, List.getElem_cons_zero, List.getElem_cons_succ]
      refine anyC_take (i := 3) (v := (.slice (some ⟨sg, 0, none⟩) sn sc)) (fun v => Bc [g, sg] w [⟨g, pdv (some ⟨sg, 0, none⟩) sn sc (some ⟨p2, o2, none⟩) pn pc l os dd, 67⟩, ⟨sg, C2.toArray, 39⟩, ⟨g8, (wv (ai, ab)).toArray, 75⟩] v) (fun _ h_ => h_) (.inr (by kernel_rfl)) rfl (by kernel_rfl) (by kernel_rfl) (by kernel_rfl) (by decide) (by kernel_rfl) (by decide) (fun _ _ _ h => h) (.inl ⟨by kernel_rfl, fun x_ hu => exec_sb _ (.tmp 21) rfl g 0 (by kernel_rfl) (some ⟨sg, 0, none⟩) sn sc (cell_of (hu.get 0 (x := ⟨g, pdv (some ⟨sg, 0, none⟩) sn sc (some ⟨p2, o2, none⟩) pn pc l os dd, 67⟩) rfl) (i := 0) rfl)⟩) hB ?_
      simp only [Act.put, List.setIfInBounds_toArray, List.set_cons_zero, List.set_cons_succ, List.getElem_toArray, List.getElem_cons_zero, List.getElem_cons_succ]
      refine anyC_take (i := 4) (v := (.pointer (some ⟨g8, 0, none⟩))) (fun v => Bc [g, sg] w [⟨g, pdv (some ⟨sg, 0, none⟩) sn sc (some ⟨p2, o2, none⟩) pn pc l os dd, 67⟩, ⟨sg, C2.toArray, 39⟩, ⟨g8, (wv (ai, ab)).toArray, 75⟩] v) (fun _ h_ => h_) (.inr (by kernel_rfl)) rfl (by kernel_rfl) (by kernel_rfl) (by kernel_rfl) (by decide) (by kernel_rfl) (by decide) (fun _ _ _ h => h) (.inl ⟨by kernel_rfl, fun x_ hu => by kernel_rfl⟩) hB ?_
      simp only [Act.put, List.setIfInBounds_toArray, List.set_cons_zero, List.set_cons_succ, List.getElem_toArray, List.getElem_cons_zero, List.getElem_cons_succ]
      refine anyC_take (i := 5) (v := (.int .i64 (ai : Int))) (fun v => Bc [g, sg] w [⟨g, pdv (some ⟨sg, 0, none⟩) sn sc (some ⟨p2, o2, none⟩) pn pc l os dd, 67⟩, ⟨sg, C2.toArray, 39⟩, ⟨g8, (wv (ai, ab)).toArray, 75⟩] v) (fun _ h_ => h_) (.inr (by kernel_rfl)) rfl (by kernel_rfl) (by kernel_rfl) (by kernel_rfl) (by decide) (by kernel_rfl) (by decide) (fun _ _ _ h => h) (.inl ⟨by kernel_rfl, fun x_ hu => exec_i64 _ (.tmp 23) rfl g8 0 (by kernel_rfl) _ (cell_of (hu.get 2 (x := ⟨g8, (wv (ai, ab)).toArray, 75⟩) rfl) (i := 0) rfl)⟩) hB ?_
      simp only [Act.put, List.setIfInBounds_toArray, List.set_cons_zero, List.set_cons_succ, List.getElem_toArray, List.getElem_cons_zero, List.getElem_cons_succ]
      refine anyC_take (i := 6) (v := (.pointer (some ⟨g8, 1, none⟩))) (fun v => Bc [g, sg] w [⟨g, pdv (some ⟨sg, 0, none⟩) sn sc (some ⟨p2, o2, none⟩) pn pc l os dd, 67⟩, ⟨sg, C2.toArray, 39⟩, ⟨g8, (wv (ai, ab)).toArray, 75⟩] v) (fun _ h_ => h_) (.inr (by kernel_rfl)) rfl (by kernel_rfl) (by kernel_rfl) (by kernel_rfl) (by decide) (by kernel_rfl) (by decide) (fun _ _ _ h => h) (.inl ⟨by kernel_rfl, fun x_ hu => by kernel_rfl⟩) hB ?_
      simp only [Act.put, List.setIfInBounds_toArray, List.set_cons_zero, List.set_cons_succ, List.getElem_toArray, List.getElem_cons_zero, List.getElem_cons_succ]
      refine anyC_take (i := 7) (v := (.agg (kc ab))) (fun v => Bc [g, sg] w [⟨g, pdv (some ⟨sg, 0, none⟩) sn sc (some ⟨p2, o2, none⟩) pn pc l os dd, 67⟩, ⟨sg, C2.toArray, 39⟩, ⟨g8, (wv (ai, ab)).toArray, 75⟩] v) (fun _ h_ => h_) (.inr (by kernel_rfl)) rfl (by kernel_rfl) (by kernel_rfl) (by kernel_rfl) (by decide) (by kernel_rfl) (by decide) (fun _ _ _ h => h) (.inl ⟨by kernel_rfl, fun x_ hu => exec_row _ 39 (.tmp 25) rfl g8 1 (by kernel_rfl) (bv ab) _ (fun q_ v_ hq => cell_of (hu.get 2 (x := ⟨g8, (wv (ai, ab)).toArray, 75⟩) rfl) (by unfold wv; rw [List.getElem?_toArray, Nat.add_comm, List.getElem?_cons_succ]; exact hq)) Try.underlying39 rfl (by rw [Try.infoB, bv_len, hal])⟩) hB ?_
      simp only [Act.put, List.setIfInBounds_toArray, List.set_cons_zero, List.set_cons_succ, List.getElem_toArray, List.getElem_cons_zero, List.getElem_cons_succ]
      refine anyC_take (i := 8) (v := (.pointer (some ⟨sg, 0 + 64 * ai, none⟩))) (fun v => Bc [g, sg] w [⟨g, pdv (some ⟨sg, 0, none⟩) sn sc (some ⟨p2, o2, none⟩) pn pc l os dd, 67⟩, ⟨sg, C2.toArray, 39⟩, ⟨g8, (wv (ai, ab)).toArray, 75⟩] v) (fun _ h_ => h_) (.inr (by kernel_rfl)) rfl (by kernel_rfl) (by kernel_rfl) (by kernel_rfl) (by decide) (by kernel_rfl) (by decide) (fun _ _ _ h => h) (.inl ⟨by kernel_rfl, fun x_ hu => exec_ib _ (.tmp 22) (.tmp 24) rfl sg 0 sn sc ai rfl rfl hai⟩) hB ?_
      simp only [Act.put, List.setIfInBounds_toArray, List.set_cons_zero, List.set_cons_succ, List.getElem_toArray, List.getElem_cons_zero, List.getElem_cons_succ]
      refine anyC_last (by kernel_rfl) rfl (fun K_ hQ => ?_)
      have hli : ai < (liv S P keep j).length := by rw [liv_len, unhide hlsn]; exact hai
      have hC3 : Hid (Cov (sp C2 (64 * ai) (bv ab)) ((liv S P keep (j + 1)).map bv).flatten) := by
        show Cov _ ((liv S P keep (j + 1)).map bv).flatten
        rw [unhide hnx, ← unhide hkb]
        have h := cov_set 64 (by omega) C2 ((liv S P keep j).map bv) (bv_rows (unhide hlb)) ai (by rw [List.length_map]; exact hli) (bv ab) (by rw [bv_len, hal]) (by rw [List.length_map, liv_len, unhide hlsn, hCl]; exact hscx) (unhide hCov)
        rw [← List.map_set] at h
        exact h
      have hgC := (hB.get 1 (x := ⟨sg, C2.toArray, 39⟩) rfl)
      dsimp only at hgC
      refine list_store_mid 39 (.tmp 27) (.tmp 26) sg (0 + 64 * ai) (kc ab) (by kernel_rfl) rfl (by kernel_rfl) (by kernel_rfl) (there_of hgC (by rw [kc_size, hal, hCl, Nat.zero_add]; omega)) (by rw [Try.infoB, kc_size, hal]) (kc_one _) ?_
      refine hQ.out _ _ ?_
      clear hQ K_
      have hbs := setCells_bt ((kc ab).toList) x0 sg (0 + 64 * ai)
      have hcl2 := setCells_heap ((kc ab).toList) x0 sg (0 + 64 * ai) C2 39 hgC
      have e9 : (kc ab).toList = bv ab := by unfold kc bv; simp
      rw [e9, Nat.zero_add] at hcl2 hbs
      rw [e9, Nat.zero_add]
      have hB4 := hB.but hbs 1 (x := ⟨sg, C2.toArray, 39⟩) rfl rfl hcl2
      simp only [List.set_cons_zero, List.set_cons_succ] at hB4
      clear hB hcl2 hbs hgC e9
      generalize World.setCells _ _ _ _ = v9 at *
      have hB := hB4
      clear hB4
      simp only [Act.put, List.setIfInBounds_toArray, List.set_cons_zero, List.set_cons_succ, List.getElem_toArray, List.getElem_cons_zero, List.getElem_cons_succ]
      refine any_done (by kernel_rfl) ?_
      have hB3 : Hid (Bc [g, sg] w [⟨g, pdv (some ⟨sg, 0, none⟩) sn sc (some ⟨p2, o2, none⟩) pn pc l os dd, 67⟩, ⟨sg, (sp C2 (64 * ai) (bv ab)).toArray, 39⟩] _) := Bc.left (M := [⟨g8, (wv (ai, ab)).toArray, 75⟩]) hB
      clear hB
      go_wp2_with fail
      go_roundw
      case rel => exact ⟨j + 1, (sp C2 (64 * ai) (bv ab)), by omega, by go_num, by rw [sp_length]; exact hCl, hC3, hB3⟩
      case measure => simp [intOf]; omega
  have jI : ¬ (j : Int) < (pn : Int) := by omega
  have e : j = P.length := by rw [unhide hlpn]; omega
  go_upto_region 6 with fail
  replace hB := unhide hB
  refine wp_region_lit ?_
  refine list_val (.pointer (some ⟨g, 0, none⟩)) (by kernel_rfl) (by kernel_rfl) ?_
  simp only [Act.put, List.setIfInBounds_toArray, List.set_cons_zero, List.set_cons_succ, List.getElem_toArray, List.getElem_cons_zero, List.getElem_cons_succ]
  refine list_val (.pointer (some ⟨g, 0, none⟩)) (by kernel_rfl) (by kernel_rfl) ?_
  simp only [Act.put, List.setIfInBounds_toArray, List.set_cons_zero, List.set_cons_succ, List.getElem_toArray, List.getElem_cons_zero, List.getElem_cons_succ]
  refine list_val (.pointer (some ⟨g, 1, none⟩)) (by kernel_rfl) (by kernel_rfl) ?_
  simp only [Act.put, List.setIfInBounds_toArray, List.set_cons_zero, List.set_cons_succ, List.getElem_toArray, List.getElem_cons_zero, List.getElem_cons_succ]
  have c4 := cell_of (hB.get 0 (x := ⟨g, pdv (some ⟨sg, 0, none⟩) sn sc pa pn pc l os dd, 67⟩) rfl) (i := 1) rfl
  have fz := froz_of (i := 1) (hB.get 0 (x := ⟨g, pdv (some ⟨sg, 0, none⟩) sn sc pa pn pc l os dd, 67⟩) rfl)
  have hB2 := hB.cell 0 (x := ⟨g, pdv (some ⟨sg, 0, none⟩) sn sc pa pn pc l os dd, 67⟩) rfl 1 (.slice none 0 0)
  simp only [List.set_cons_zero, List.set_cons_succ] at hB2
  replace hB2 : Bc [g, sg] w [⟨g, pdv (some ⟨sg, 0, none⟩) sn sc none 0 0 l os dd, 67⟩, ⟨sg, C2.toArray, 39⟩] _ := hB2
  clear hB
  replace hB2 := hide hB2
  dsimp only at c4 fz
  (refine wpList_step fun K hK => ?_; replace hK := hide hK; go_simp; refine unhide hK _ _ ?_; clear hK K)
  clear c4 fz
  have hB := unhide hB2
  clear hB2
  generalize World.setCell _ _ _ = v4 at *
  refine wpList_nil ?_
  have hZ : Hid (Stl g (D.live keep) sg sc l w (.returned (.tuple #[])) v4) := by
    have hl : (liv S P keep P.length).length = sn := by rw [liv_len, unhide hlsn]
    have hd1 : (D.live keep).safe = liv S P keep P.length := by
      show liv D.safe D.pend keep D.pend.length = _
      rw [unhide hS, unhide hPp]
    refine ⟨rfl, C2, ⟨?_, ?_, ?_, ?_, ?_, (unhide hP).max, ?_, (unhide hP).lf⟩, hB.chg⟩
    · rw [hd1, hl]
      show v4.heap[g]? = some (.cells (pdv (some ⟨sg, 0, none⟩) sn sc none 0 0 l D.ops D.dead) _ (0, 0))
      rw [← unhide hos, ← unhide hdd]
      exact (hB.get 0 (x := ⟨g, pdv (some ⟨sg, 0, none⟩) sn sc none 0 0 l os dd, 67⟩) rfl)
    · exact (hB.get 1 (x := ⟨sg, C2.toArray, 39⟩) rfl)
    · rw [hd1, ← e]
      exact unhide hCov
    · rw [hCl]
      exact unhide hcz
    · rw [hd1, hl]
      exact hsc
    · exact ⟨(fun r hr => by cases hr), rfl, .inl ⟨rfl, rfl⟩⟩
  replace hB := hide hB
  go_wp2_with fail
  rw [unhide hT]
  exact bodyPost_end (results_none Try.results40 _ _ _) rfl (unhide hZ)
set_option maxHeartbeats 4000000 in
theorem settle_s (g : Nat) (D : Dk) (sg sc : Nat) (C : List Value) (pa : Option Addr) (pc : Nat) (l : Int) (keep : List Bool) (m : Nat) (hD : D.Ok m) (hm : m ≤ 1000001) (w : World) (hP : Pd g D w sg sc C pa pc l) (hC : ∀ (v : World), Chg [g, sg] [g, sg] w v → ∀ j : Nat, j < D.pend.length → Calls Try.prog 45 #[.int .i64 (j : Int)] v (Vl (.bool (keep.getD j false)) v)) : Calls Try.prog 40 #[P0 g, .func (.func 45) #[] #[]] w (Stl g (D.live keep) sg sc l w) := by
  obtain ⟨T, hT⟩ : ∃ T, T = Stl g (D.live keep) sg sc l w := ⟨_, rfl⟩
  rw [← hT]
  replace hT := hide hT
  obtain ⟨S, hS⟩ : ∃ x, x = D.safe := ⟨_, rfl⟩
  obtain ⟨P, hPp⟩ : ∃ x, x = D.pend := ⟨_, rfl⟩
  obtain ⟨dd, hdd⟩ : ∃ x, x = D.dead := ⟨_, rfl⟩
  obtain ⟨sn, hsn⟩ : ∃ n, n = D.safe.length := ⟨_, rfl⟩
  obtain ⟨pn, hpn⟩ : ∃ n, n = D.pend.length := ⟨_, rfl⟩
  obtain ⟨os, hos⟩ : ∃ n, n = D.ops := ⟨_, rfl⟩
  have hcl := hP.cel
  rw [← hdd, ← hsn, ← hpn, ← hos] at hcl
  replace hdd := hide hdd; replace hsn := hide hsn; replace hpn := hide hpn; replace hos := hide hos; replace hcl := hide hcl; replace hP := hide hP
  have hpm : pn ≤ 1000001 := by rw [unhide hpn]; exact Nat.le_trans hD.num hm
  have hs512 : sn ≤ 512 := by rw [unhide hsn]; exact hD.hi1
  have hB := (unhide hP).two (F := [g, sg]) (by simp) (by simp)
  rw [← unhide hdd, ← unhide hsn, ← unhide hpn, ← unhide hos] at hB
  have hCl := (unhide hP).len
  have hsc : sn ≤ sc := by rw [unhide hsn]; exact (unhide hP).cap
  have hCov : Cov C (S.map bv).flatten := by rw [hS]; exact (unhide hP).cov
  have hlsn : Hid (S.length = sn) := by show S.length = sn; rw [hS, unhide hsn]
  have hlpn : Hid (P.length = pn) := by show P.length = pn; rw [hPp, unhide hpn]
  have hDS : Hid (∀ b ∈ S, BB b) := by show ∀ b ∈ S, BB b; rw [hS]; exact hD.blk
  have hDP : Hid (∀ x ∈ P, x.1 < S.length ∧ BB x.2) := by show ∀ x ∈ P, x.1 < S.length ∧ BB x.2; rw [hS, hPp]; exact hD.pnd
  have hls : Hid (Ls 65 w pa pn pc (P.map wv)) := by show Ls 65 w pa pn pc (P.map wv); rw [hPp, unhide hpn]; exact (unhide hP).pls
  have hpf : Hid (∀ i, blkOf pa = some i → i ∉ [g, sg]) := fun i hi => by have := (unhide hP).pg_ne hi; simp [this.1, this.2]
  rw [← unhide hpn] at hC
  replace hD := hide hD; replace hB := hide hB; replace hC := hide hC; replace hS := hide hS; replace hPp := hide hPp
  go_enter Try.func40, Try.ntmps40
  go_upto_region 0 with fail
  replace hB := unhide hB
  refine wp_region_lit ?_
  refine list_val (.pointer (some ⟨g, 0, none⟩)) (by kernel_rfl) (by kernel_rfl) ?_
  simp only [Act.put, List.setIfInBounds_toArray, List.set_cons_zero, List.set_cons_succ, List.getElem_toArray, List.getElem_cons_zero, List.getElem_cons_succ]
  refine list_val (.pointer (some ⟨g, 0, none⟩)) (by kernel_rfl) (by kernel_rfl) ?_
  simp only [Act.put, List.setIfInBounds_toArray, List.set_cons_zero, List.set_cons_succ, List.getElem_toArray, List.getElem_cons_zero, List.getElem_cons_succ]
  refine list_val (.pointer (some ⟨g, 1, none⟩)) (by kernel_rfl) (by kernel_rfl) ?_
  simp only [Act.put, List.setIfInBounds_toArray, List.set_cons_zero, List.set_cons_succ, List.getElem_toArray, List.getElem_cons_zero, List.getElem_cons_succ]
  refine list_val (.slice pa pn pc) (by kernel_rfl) (exec_spw _ (.tmp 8) rfl g 1 (by kernel_rfl) pa pn pc (cell_of (hB.get 0 (x := ⟨g, pdv (some ⟨sg, 0, none⟩) sn sc pa pn pc l os dd, 67⟩) rfl) (i := 1) rfl)) ?_
  simp only [Act.put, List.setIfInBounds_toArray, List.set_cons_zero, List.set_cons_succ, List.getElem_toArray, List.getElem_cons_zero, List.getElem_cons_succ]
  refine list_val (.int .i64 pn) (by kernel_rfl) (by kernel_rfl) ?_
  simp only [Act.put, List.setIfInBounds_toArray, List.set_cons_zero, List.set_cons_succ, List.getElem_toArray, List.getElem_cons_zero, List.getElem_cons_succ]
  refine list_val (.int .i64 0) (by kernel_rfl) (by kernel_rfl) ?_
  simp only [Act.put, List.setIfInBounds_toArray, List.set_cons_zero, List.set_cons_succ, List.getElem_toArray, List.getElem_cons_zero, List.getElem_cons_succ]
  refine wpList_nil ?_
  have hscx : sn * 64 ≤ sc * 64 := Nat.mul_le_mul_right _ hsc
  obtain ⟨cz, hcz⟩ : ∃ z, z = sc * 64 := ⟨_, rfl⟩
  rw [← hcz] at hCl hscx
  replace hcz := hide hcz
  replace hCov : Hid (Cov C ((liv S P keep 0).map bv).flatten) := hCov
  replace hB := hide hB
  go_wp2_with fail
  go_loopw [11] (fun i wr => ∃ j : Nat, ∃ C : List Value, j ≤ pn ∧ i = .int .i64 j ∧ C.length = cz ∧ Hid (Cov C ((liv S P keep j).map bv).flatten) ∧ Hid (Bc [g, sg] w [⟨g, pdv (some ⟨sg, 0, none⟩) sn sc pa pn pc l os dd, 67⟩, ⟨sg, C.toArray, 39⟩] wr)) (fun i _ => pn - (intOf i).toNat)
  case atStart => exact ⟨0, C, by omega, rfl, hCl, hCov, hB⟩
  case round =>
  clear hB hCov hCl
  obtain ⟨j, C2, hj, rfl, hCl, hCov, hB⟩ := hrel
  by_cases hjl : j < pn
  · skip
    obtain ⟨p2, o2, rfl, hrw⟩ := (unhide hls).at_ j hjl
    rw [getD_map wv P j (0, []) [] (by rw [unhide hlpn]; exact hjl)] at hrw
    have hx := unhide hDP _ (mem_of_getD (d := (0, [])) (by rw [unhide hlpn]; exact hjl))
    have hnx : Hid (liv S P keep (j + 1) = if keep.getD j false then (liv S P keep j).set (P.getD j (0, [])).1 (P.getD j (0, [])).2 else liv S P keep j) := rfl
    obtain ⟨⟨ai, ab⟩, hab⟩ : ∃ x, x = P.getD j (0, []) := ⟨_, rfl⟩
    rw [← hab] at hrw hx hnx
    have hal : ab.length = 64 := hx.2.1
    have hai : ai < sn := by rw [← unhide hlsn]; exact hx.1
    have hwl : (wv (ai, ab)).length = 65 := by rw [wv_len, hal]
    have hlb : Hid (∀ b ∈ liv S P keep j, BB b) := liv_bb (unhide hDS) (fun x hx => (unhide hDP x hx).2) keep j (by rw [unhide hlpn]; exact hj)
    have hp2 : p2 ∉ [g, sg] := unhide hpf p2 rfl
    replace hab := hide hab; replace hx := hide hx; replace hrw := hide hrw; replace hp2 := hide hp2
    have jI : (j : Int) < (pn : Int) := by omega
    go_upto_region 2 with fail
    replace hB := unhide hB
    refine wp_region_lit ?_
    refine list_val (.int .i64 j) (by kernel_rfl) (by kernel_rfl) ?_
    simp only [Act.put, List.setIfInBounds_toArray, List.set_cons_zero, List.set_cons_succ, List.getElem_toArray, List.getElem_cons_zero, List.getElem_cons_succ]
    refine list_val (.pointer (some ⟨p2, o2 + 65 * j, none⟩)) (by kernel_rfl) (exec_ipw _ (.tmp 9) (.tmp 11) rfl p2 o2 pn pc j rfl rfl hjl) ?_
    simp only [Act.put, List.setIfInBounds_toArray, List.set_cons_zero, List.set_cons_succ, List.getElem_toArray, List.getElem_cons_zero, List.getElem_cons_succ]
    refine list_val (.agg ((wv (ai, ab)).toArray)) (by kernel_rfl) (exec_row _ 75 (.tmp 14) rfl p2 (o2 + 65 * j) (by kernel_rfl) (wv (ai, ab)) _ (range_chg (unhide hrw) hB.chg (unhide hp2)) Try.underlying75 rfl (by rw [Try.infoPW, hwl])) ?_
    simp only [Act.put, List.setIfInBounds_toArray, List.set_cons_zero, List.set_cons_succ, List.getElem_toArray, List.getElem_cons_zero, List.getElem_cons_succ]
    refine list_valw (.pointer (some ⟨wr.heap.size, 0, none⟩)) (wr.alloc (.cells ((wv (0, ZB)).toArray) 75 (0, 0))) (by kernel_rfl) (by kernel_rfl) ?_
    replace hB := hB.new ((wv (0, ZB)).toArray) 75
    simp only [List.nil_append, List.cons_append] at hB
    generalize World.alloc _ _ = v1 at *
    generalize wr.heap.size = g8 at *
    replace hB : Bc [g, sg] w [⟨g, pdv (some ⟨sg, 0, none⟩) sn sc (some ⟨p2, o2, none⟩) pn pc l os dd, 67⟩, ⟨sg, C2.toArray, 39⟩, ⟨g8, (wv (0, ZB)).toArray, 75⟩] v1 := hB
    simp only [Act.put, List.setIfInBounds_toArray, List.set_cons_zero, List.set_cons_succ, List.getElem_toArray, List.getElem_cons_zero, List.getElem_cons_succ]
    (refine wpList_step fun K hK => ?_; replace hK := hide hK; go_simp; refine unhide hK _ _ ?_; clear hK K)
    refine list_store 75 (.tmp 5) (.tmp 15) g8 ((wv (ai, ab)).toArray) 75 ((wv (0, ZB)).toArray) (by kernel_rfl) rfl (by kernel_rfl) (by kernel_rfl) (hB.get 2 (x := ⟨g8, (wv (0, ZB)).toArray, 75⟩) rfl) (by rw [Try.infoPW, List.size_toArray, hwl]) ((show ((wv (0, ZB)).toArray).size = 65 from rfl).trans (by rw [List.size_toArray, hwl])) (wv_one _) ?_
    replace hB := hB.set 2 (x := ⟨g8, (wv (0, ZB)).toArray, 75⟩) rfl ((wv (ai, ab)).toArray)
    simp only [List.set_cons_zero, List.set_cons_succ] at hB
    generalize World.setRow _ _ _ = v2 at *
    replace hB : Bc [g, sg] w [⟨g, pdv (some ⟨sg, 0, none⟩) sn sc (some ⟨p2, o2, none⟩) pn pc l os dd, 67⟩, ⟨sg, C2.toArray, 39⟩, ⟨g8, (wv (ai, ab)).toArray, 75⟩] v2 := hB
    simp only [Act.put, List.setIfInBounds_toArray, List.set_cons_zero, List.set_cons_succ, List.getElem_toArray, List.getElem_cons_zero, List.getElem_cons_succ]
    refine wpList_nil ?_
    replace hB := hide hB
    go_upto_region 3 with fail
    replace hB := unhide hB
    refine wp_region_lit ?_
    refine list_val (.func (.func 45) #[] #[]) (by kernel_rfl) (by kernel_rfl) ?_
    simp only [Act.put, List.setIfInBounds_toArray, List.set_cons_zero, List.set_cons_succ, List.getElem_toArray, List.getElem_cons_zero, List.getElem_cons_succ]
    refine list_val (.int .i64 j) (by kernel_rfl) (by kernel_rfl) ?_
    simp only [Act.put, List.setIfInBounds_toArray, List.set_cons_zero, List.set_cons_succ, List.getElem_toArray, List.getElem_cons_zero, List.getElem_cons_succ]
    refine list_call 45 #[.int .i64 (j : Int)] (by kernel_rfl) (by kernel_rfl) ((unhide hC _ hB.chg j hjl).mono ?_)
    rintro r v3 ⟨rfl, hG⟩
    refine ⟨_, rfl, ?_⟩
    replace hB := hB.more hG
    clear hG
    obtain ⟨kb_, hkb⟩ : ∃ x, x = keep.getD j false := ⟨_, rfl⟩
    rw [← hkb]
    replace hkb := hide hkb
    simp only [Act.put, List.setIfInBounds_toArray, List.set_cons_zero, List.set_cons_succ, List.getElem_toArray, List.getElem_cons_zero, List.getElem_cons_succ]
    refine wpList_nil ?_
    cases kb_
    case false =>
      have hB3 : Hid (Bc [g, sg] w [⟨g, pdv (some ⟨sg, 0, none⟩) sn sc (some ⟨p2, o2, none⟩) pn pc l os dd, 67⟩, ⟨sg, C2.toArray, 39⟩] _) := Bc.left (M := [⟨g8, (wv (ai, ab)).toArray, 75⟩]) hB
      clear hB
      go_wp2_with fail
      go_roundw
      case rel => exact ⟨j + 1, C2, by omega, by go_num, hCl, (by show Cov C2 ((liv S P keep (j + 1)).map bv).flatten; rw [unhide hnx, ← unhide hkb]; exact unhide hCov), hB3⟩
      case measure => simp [intOf]; omega
    case true =>
      go_upto_region 4 with fail
      replace hB := hB
      refine anyC_start 9 (fun v => Bc [g, sg] w [⟨g, pdv (some ⟨sg, 0, none⟩) sn sc (some ⟨p2, o2, none⟩) pn pc l os dd, 67⟩, ⟨sg, C2.toArray, 39⟩, ⟨g8, (wv (ai, ab)).toArray, 75⟩] v) (by kernel_rfl) ?_
      replace hB := hB.drew
      generalize World.drew _ = x0 at *
      simp only [List.size_toArray, List.length_cons, List.length_nil, Array.replicate, List.replicate]
      refine anyC_take (i := 0) (v := (.pointer (some ⟨g, 0, none⟩))) (fun v => Bc [g, sg] w [⟨g, pdv (some ⟨sg, 0, none⟩) sn sc (some ⟨p2, o2, none⟩) pn pc l os dd, 67⟩, ⟨sg, C2.toArray, 39⟩, ⟨g8, (wv (ai, ab)).toArray, 75⟩] v) (fun _ h_ => h_) (.inr (by kernel_rfl)) rfl (by kernel_rfl) (by kernel_rfl) (by kernel_rfl) (by decide) (by kernel_rfl) (by decide) (fun _ _ _ h => h) (.inl ⟨by kernel_rfl, fun x_ hu => by kernel_rfl⟩) hB ?_
      simp only [Act.put, List.setIfInBounds_toArray, List.set_cons_zero, List.set_cons_succ, List.getElem_toArray, List.getElem_cons_zero, List.getElem_cons_succ]
      refine anyC_take (i := 1) (v := (.pointer (some ⟨g, 0, none⟩))) (fun v => Bc [g, sg] w [⟨g, pdv (some ⟨sg, 0, none⟩) sn sc (some ⟨p2, o2, none⟩) pn pc l os dd, 67⟩, ⟨sg, C2.toArray, 39⟩, ⟨g8, (wv (ai, ab)).toArray, 75⟩] v) (fun _ h_ => h_) (.inr (by kernel_rfl)) rfl (by kernel_rfl) (by kernel_rfl) (by kernel_rfl) (by decide) (by kernel_rfl) (by decide) (fun _ _ _ h => h) (.inl ⟨by kernel_rfl, fun x_ hu => by kernel_rfl⟩) hB ?_
      simp only [Act.put, List.setIfInBounds_toArray, List.set_cons_zero, List.set_cons_succ, List.getElem_toArray, List.getElem_cons_zero, List.getElem_cons_succ]
      refine anyC_take (i := 2) (v := (.pointer (some ⟨g, 0, none⟩))) (fun v => Bc [g, sg] w [⟨g, pdv (some ⟨sg, 0, none⟩) sn sc (some ⟨p2, o2, none⟩) pn pc l os dd, 67⟩, ⟨sg, C2.toArray, 39⟩, ⟨g8, (wv (ai, ab)).toArray, 75⟩] v) (fun _ h_ => h_) (.inr (by kernel_rfl)) rfl (by kernel_rfl) (by kernel_rfl) (by kernel_rfl) (by decide) (by kernel_rfl) (by decide) (fun _ _ _ h => h) (.inl ⟨by kernel_rfl, fun x_ hu => by kernel_rfl⟩) hB ?_
      simp only [Act.put, List.setIfInBounds_toArray, List.set_cons_zero, List.set_cons_succ, List.getElem_toArray, List.getElem_cons_zero, List.getElem_cons_succ]
      refine anyC_take (i := 3) (v := (.slice (some ⟨sg, 0, none⟩) sn sc)) (fun v => Bc [g, sg] w [⟨g, pdv (some ⟨sg, 0, none⟩) sn sc (some ⟨p2, o2, none⟩) pn pc l os dd, 67⟩, ⟨sg, C2.toArray, 39⟩, ⟨g8, (wv (ai, ab)).toArray, 75⟩] v) (fun _ h_ => h_) (.inr (by kernel_rfl)) rfl (by kernel_rfl) (by kernel_rfl) (by kernel_rfl) (by decide) (by kernel_rfl) (by decide) (fun _ _ _ h => h) (.inl ⟨by kernel_rfl, fun x_ hu => exec_sb _ (.tmp 21) rfl g 0 (by kernel_rfl) (some ⟨sg, 0, none⟩) sn sc (cell_of (hu.get 0 (x := ⟨g, pdv (some ⟨sg, 0, none⟩) sn sc (some ⟨p2, o2, none⟩) pn pc l os dd, 67⟩) rfl) (i := 0) rfl)⟩) hB ?_
      simp only [Act.put, List.setIfInBounds_toArray, List.set_cons_zero, List.set_cons_succ, List.getElem_toArray, List.getElem_cons_zero, List.getElem_cons_succ]
      refine anyC_take (i := 4) (v := (.pointer (some ⟨g8, 0, none⟩))) (fun v => Bc [g, sg] w [⟨g, pdv (some ⟨sg, 0, none⟩) sn sc (some ⟨p2, o2, none⟩) pn pc l os dd, 67⟩, ⟨sg, C2.toArray, 39⟩, ⟨g8, (wv (ai, ab)).toArray, 75⟩] v) (fun _ h_ => h_) (.inr (by kernel_rfl)) rfl (by kernel_rfl) (by kernel_rfl) (by kernel_rfl) (by decide) (by kernel_rfl) (by decide) (fun _ _ _ h => h) (.inl ⟨by kernel_rfl, fun x_ hu => by kernel_rfl⟩) hB ?_
      simp only [Act.put, List.setIfInBounds_toArray, List.set_cons_zero, List.set_cons_succ, List.getElem_toArray, List.getElem_cons_zero, List.getElem_cons_succ]
      refine anyC_take (i := 5) (v := (.int .i64 (ai : Int))) (fun v => Bc [g, sg] w [⟨g, pdv (some ⟨sg, 0, none⟩) sn sc (some ⟨p2, o2, none⟩) pn pc l os dd, 67⟩, ⟨sg, C2.toArray, 39⟩, ⟨g8, (wv (ai, ab)).toArray, 75⟩] v) (fun _ h_ => h_) (.inr (by kernel_rfl)) rfl (by kernel_rfl) (by kernel_rfl) (by kernel_rfl) (by decide) (by kernel_rfl) (by decide) (fun _ _ _ h => h) (.inl ⟨by kernel_rfl, fun x_ hu => exec_i64 _ (.tmp 23) rfl g8 0 (by kernel_rfl) _ (cell_of (hu.get 2 (x := ⟨g8, (wv (ai, ab)).toArray, 75⟩) rfl) (i := 0) rfl)⟩) hB ?_
      simp only [Act.put, List.setIfInBounds_toArray, List.set_cons_zero, List.set_cons_succ, List.getElem_toArray, List.getElem_cons_zero, List.getElem_cons_succ]
      refine anyC_take (i := 6) (v := (.pointer (some ⟨g8, 1, none⟩))) (fun v => Bc [g, sg] w [⟨g, pdv (some ⟨sg, 0, none⟩) sn sc (some ⟨p2, o2, none⟩) pn pc l os dd, 67⟩, ⟨sg, C2.toArray, 39⟩, ⟨g8, (wv (ai, ab)).toArray, 75⟩] v) (fun _ h_ => h_) (.inr (by kernel_rfl)) rfl (by kernel_rfl) (by kernel_rfl) (by kernel_rfl) (by decide) (by kernel_rfl) (by decide) (fun _ _ _ h => h) (.inl ⟨by kernel_rfl, fun x_ hu => by kernel_rfl⟩) hB ?_
      simp only [Act.put, List.setIfInBounds_toArray, List.set_cons_zero, List.set_cons_succ, List.getElem_toArray, List.getElem_cons_zero, List.getElem_cons_succ]
      refine anyC_take (i := 7) (v := (.agg (kc ab))) (fun v => Bc [g, sg] w [⟨g, pdv (some ⟨sg, 0, none⟩) sn sc (some ⟨p2, o2, none⟩) pn pc l os dd, 67⟩, ⟨sg, C2.toArray, 39⟩, ⟨g8, (wv (ai, ab)).toArray, 75⟩] v) (fun _ h_ => h_) (.inr (by kernel_rfl)) rfl (by kernel_rfl) (by kernel_rfl) (by kernel_rfl) (by decide) (by kernel_rfl) (by decide) (fun _ _ _ h => h) (.inl ⟨by kernel_rfl, fun x_ hu => exec_row _ 39 (.tmp 25) rfl g8 1 (by kernel_rfl) (bv ab) _ (fun q_ v_ hq => cell_of (hu.get 2 (x := ⟨g8, (wv (ai, ab)).toArray, 75⟩) rfl) (by unfold wv; rw [List.getElem?_toArray, Nat.add_comm, List.getElem?_cons_succ]; exact hq)) Try.underlying39 rfl (by rw [Try.infoB, bv_len, hal])⟩) hB ?_
      simp only [Act.put, List.setIfInBounds_toArray, List.set_cons_zero, List.set_cons_succ, List.getElem_toArray, List.getElem_cons_zero, List.getElem_cons_succ]
      refine anyC_take (i := 8) (v := (.pointer (some ⟨sg, 0 + 64 * ai, none⟩))) (fun v => Bc [g, sg] w [⟨g, pdv (some ⟨sg, 0, none⟩) sn sc (some ⟨p2, o2, none⟩) pn pc l os dd, 67⟩, ⟨sg, C2.toArray, 39⟩, ⟨g8, (wv (ai, ab)).toArray, 75⟩] v) (fun _ h_ => h_) (.inr (by kernel_rfl)) rfl (by kernel_rfl) (by kernel_rfl) (by kernel_rfl) (by decide) (by kernel_rfl) (by decide) (fun _ _ _ h => h) (.inl ⟨by kernel_rfl, fun x_ hu => exec_ib _ (.tmp 22) (.tmp 24) rfl sg 0 sn sc ai rfl rfl hai⟩) hB ?_
      simp only [Act.put, List.setIfInBounds_toArray, List.set_cons_zero, List.set_cons_succ, List.getElem_toArray, List.getElem_cons_zero, List.getElem_cons_succ]
      refine anyC_last (by kernel_rfl) rfl (fun K_ hQ => ?_)
      have hli : ai < (liv S P keep j).length := by rw [liv_len, unhide hlsn]; exact hai
      have hC3 : Hid (Cov (sp C2 (64 * ai) (bv ab)) ((liv S P keep (j + 1)).map bv).flatten) := by
        show Cov _ ((liv S P keep (j + 1)).map bv).flatten
        rw [unhide hnx, ← unhide hkb]
        have h := cov_set 64 (by omega) C2 ((liv S P keep j).map bv) (bv_rows (unhide hlb)) ai (by rw [List.length_map]; exact hli) (bv ab) (by rw [bv_len, hal]) (by rw [List.length_map, liv_len, unhide hlsn, hCl]; exact hscx) (unhide hCov)
        rw [← List.map_set] at h
        exact h
      have hgC := (hB.get 1 (x := ⟨sg, C2.toArray, 39⟩) rfl)
      dsimp only at hgC
      refine list_store_mid 39 (.tmp 27) (.tmp 26) sg (0 + 64 * ai) (kc ab) (by kernel_rfl) rfl (by kernel_rfl) (by kernel_rfl) (there_of hgC (by rw [kc_size, hal, hCl, Nat.zero_add]; omega)) (by rw [Try.infoB, kc_size, hal]) (kc_one _) ?_
      refine hQ.out _ _ ?_
      clear hQ K_
      have hbs := setCells_bt ((kc ab).toList) x0 sg (0 + 64 * ai)
      have hcl2 := setCells_heap ((kc ab).toList) x0 sg (0 + 64 * ai) C2 39 hgC
      have e9 : (kc ab).toList = bv ab := by unfold kc bv; simp
      rw [e9, Nat.zero_add] at hcl2 hbs
      rw [e9, Nat.zero_add]
      have hB4 := hB.but hbs 1 (x := ⟨sg, C2.toArray, 39⟩) rfl rfl hcl2
      simp only [List.set_cons_zero, List.set_cons_succ] at hB4
      clear hB hcl2 hbs hgC e9
      generalize World.setCells _ _ _ _ = v9 at *
      have hB := hB4
      clear hB4
      simp only [Act.put, List.setIfInBounds_toArray, List.set_cons_zero, List.set_cons_succ, List.getElem_toArray, List.getElem_cons_zero, List.getElem_cons_succ]
      refine any_done (by kernel_rfl) ?_
      have hB3 : Hid (Bc [g, sg] w [⟨g, pdv (some ⟨sg, 0, none⟩) sn sc (some ⟨p2, o2, none⟩) pn pc l os dd, 67⟩, ⟨sg, (sp C2 (64 * ai) (bv ab)).toArray, 39⟩] _) := Bc.left (M := [⟨g8, (wv (ai, ab)).toArray, 75⟩]) hB
      clear hB
      go_wp2_with fail
      go_roundw
      case rel => exact ⟨j + 1, (sp C2 (64 * ai) (bv ab)), by omega, by go_num, by rw [sp_length]; exact hCl, hC3, hB3⟩
      case measure => simp [intOf]; omega
  have jI : ¬ (j : Int) < (pn : Int) := by omega
  have e : j = P.length := by rw [unhide hlpn]; omega
  go_upto_region 6 with fail
  replace hB := unhide hB
  refine wp_region_lit ?_
  refine list_val (.pointer (some ⟨g, 0, none⟩)) (by kernel_rfl) (by kernel_rfl) ?_
  simp only [Act.put, List.setIfInBounds_toArray, List.set_cons_zero, List.set_cons_succ, List.getElem_toArray, List.getElem_cons_zero, List.getElem_cons_succ]
  refine list_val (.pointer (some ⟨g, 0, none⟩)) (by kernel_rfl) (by kernel_rfl) ?_
  simp only [Act.put, List.setIfInBounds_toArray, List.set_cons_zero, List.set_cons_succ, List.getElem_toArray, List.getElem_cons_zero, List.getElem_cons_succ]
  refine list_val (.pointer (some ⟨g, 1, none⟩)) (by kernel_rfl) (by kernel_rfl) ?_
  simp only [Act.put, List.setIfInBounds_toArray, List.set_cons_zero, List.set_cons_succ, List.getElem_toArray, List.getElem_cons_zero, List.getElem_cons_succ]
  have c4 := cell_of (hB.get 0 (x := ⟨g, pdv (some ⟨sg, 0, none⟩) sn sc pa pn pc l os dd, 67⟩) rfl) (i := 1) rfl
  have fz := froz_of (i := 1) (hB.get 0 (x := ⟨g, pdv (some ⟨sg, 0, none⟩) sn sc pa pn pc l os dd, 67⟩) rfl)
  have hB2 := hB.cell 0 (x := ⟨g, pdv (some ⟨sg, 0, none⟩) sn sc pa pn pc l os dd, 67⟩) rfl 1 (.slice none 0 0)
  simp only [List.set_cons_zero, List.set_cons_succ] at hB2
  replace hB2 : Bc [g, sg] w [⟨g, pdv (some ⟨sg, 0, none⟩) sn sc none 0 0 l os dd, 67⟩, ⟨sg, C2.toArray, 39⟩] _ := hB2
  clear hB
  replace hB2 := hide hB2
  dsimp only at c4 fz
  (refine wpList_step fun K hK => ?_; replace hK := hide hK; go_simp; refine unhide hK _ _ ?_; clear hK K)
  clear c4 fz
  have hB := unhide hB2
  clear hB2
  generalize World.setCell _ _ _ = v4 at *
  refine wpList_nil ?_
  have hZ : Hid (Stl g (D.live keep) sg sc l w (.returned (.tuple #[])) v4) := by
    have hl : (liv S P keep P.length).length = sn := by rw [liv_len, unhide hlsn]
    have hd1 : (D.live keep).safe = liv S P keep P.length := by
      show liv D.safe D.pend keep D.pend.length = _
      rw [unhide hS, unhide hPp]
    refine ⟨rfl, C2, ⟨?_, ?_, ?_, ?_, ?_, (unhide hP).max, ?_, (unhide hP).lf⟩, hB.chg⟩
    · rw [hd1, hl]
      show v4.heap[g]? = some (.cells (pdv (some ⟨sg, 0, none⟩) sn sc none 0 0 l D.ops D.dead) _ (0, 0))
      rw [← unhide hos, ← unhide hdd]
      exact (hB.get 0 (x := ⟨g, pdv (some ⟨sg, 0, none⟩) sn sc none 0 0 l os dd, 67⟩) rfl)
    · exact (hB.get 1 (x := ⟨sg, C2.toArray, 39⟩) rfl)
    · rw [hd1, ← e]
      exact unhide hCov
    · rw [hCl]
      exact unhide hcz
    · rw [hd1, hl]
      exact hsc
    · exact ⟨(fun r hr => by cases hr), rfl, .inl ⟨rfl, rfl⟩⟩
  replace hB := hide hB
  go_wp2_with fail
  rw [unhide hT]
  exact bodyPost_end (results_none Try.results40 _ _ _) rfl (unhide hZ)
set_option maxHeartbeats 4000000 in
theorem crash1_ok (j kb kn kp : Nat) (ka : Option Addr) (keep : List Bool) (w : World) (hj : j < 9223372036854775808) (hkb : w.heap[kb]? = some (.cells #[.slice ka kn kp] 35 (0, 0))) (hK : Kp w ka kn kp keep) : Calls Try.prog 41 #[.int .i64 (j : Int), .pointer (some ⟨kb, 0, none⟩)] w (Vl (.bool (keep.getD j false)) w) := by
  obtain ⟨T, hT⟩ : ∃ T, T = Vl (.bool (keep.getD j false)) w := ⟨_, rfl⟩
  rw [← hT]
  replace hT := hide hT
  replace hK := hide hK; replace hkb := hide hkb
  go_enter Try.func41, Try.ntmps41
  go_upto_region 1 with fail
  by_cases hjk : j < kn
  · skip
    have kI : (j : Int) < (kn : Int) := by omega
    obtain ⟨p3, o3, rfl, hkc⟩ := (unhide hK).at_ j hjk
    obtain ⟨b, hb⟩ : ∃ x, x = keep.getD j false := ⟨_, rfl⟩
    rw [← hb] at hkc
    replace hkc := hide hkc; replace hb := hide hb
    refine wp_region_lit ?_
    refine list_val (.int .i64 j) (by kernel_rfl) (by kernel_rfl) ?_
    simp only [Act.put, List.setIfInBounds_toArray, List.set_cons_zero, List.set_cons_succ, List.getElem_toArray, List.getElem_cons_zero, List.getElem_cons_succ]
    refine list_val (.slice (some ⟨p3, o3, none⟩) kn kp) (by kernel_rfl) (exec_sk _ (.tmp 1) rfl kb 0 (by kernel_rfl) (some ⟨p3, o3, none⟩) kn kp (cell_of (unhide hkb) (i := 0) rfl)) ?_
    simp only [Act.put, List.setIfInBounds_toArray, List.set_cons_zero, List.set_cons_succ, List.getElem_toArray, List.getElem_cons_zero, List.getElem_cons_succ]
    refine list_val (.int .i64 kn) (by kernel_rfl) (by kernel_rfl) ?_
    simp only [Act.put, List.setIfInBounds_toArray, List.set_cons_zero, List.set_cons_succ, List.getElem_toArray, List.getElem_cons_zero, List.getElem_cons_succ]
    refine list_val (.bool true) (by kernel_rfl) (by go_simp) ?_
    simp only [Act.put, List.setIfInBounds_toArray, List.set_cons_zero, List.set_cons_succ, List.getElem_toArray, List.getElem_cons_zero, List.getElem_cons_succ]
    refine list_val (.bool true) (by kernel_rfl) (by kernel_rfl) ?_
    simp only [Act.put, List.setIfInBounds_toArray, List.set_cons_zero, List.set_cons_succ, List.getElem_toArray, List.getElem_cons_zero, List.getElem_cons_succ]
    refine list_val (.slice (some ⟨p3, o3, none⟩) kn kp) (by kernel_rfl) (exec_sk _ (.tmp 1) rfl kb 0 (by kernel_rfl) (some ⟨p3, o3, none⟩) kn kp (cell_of (unhide hkb) (i := 0) rfl)) ?_
    simp only [Act.put, List.setIfInBounds_toArray, List.set_cons_zero, List.set_cons_succ, List.getElem_toArray, List.getElem_cons_zero, List.getElem_cons_succ]
    refine list_val (.int .i64 j) (by kernel_rfl) (by kernel_rfl) ?_
    simp only [Act.put, List.setIfInBounds_toArray, List.set_cons_zero, List.set_cons_succ, List.getElem_toArray, List.getElem_cons_zero, List.getElem_cons_succ]
    refine list_val (.pointer (some ⟨p3, o3 + j, none⟩)) (by kernel_rfl) (exec_ik _ (.tmp 9) (.tmp 10) rfl p3 o3 kn kp j rfl rfl hjk) ?_
    simp only [Act.put, List.setIfInBounds_toArray, List.set_cons_zero, List.set_cons_succ, List.getElem_toArray, List.getElem_cons_zero, List.getElem_cons_succ]
    refine list_val (.bool b) (by kernel_rfl) (exec_bool _ (.tmp 11) rfl p3 (o3 + j) (by kernel_rfl) b (unhide hkc)) ?_
    simp only [Act.put, List.setIfInBounds_toArray, List.set_cons_zero, List.set_cons_succ, List.getElem_toArray, List.getElem_cons_zero, List.getElem_cons_succ]
    refine list_val (.bool b) (by kernel_rfl) (by kernel_rfl) ?_
    simp only [Act.put, List.setIfInBounds_toArray, List.set_cons_zero, List.set_cons_succ, List.getElem_toArray, List.getElem_cons_zero, List.getElem_cons_succ]
    (refine wpList_step fun K hK => ?_; replace hK := hide hK; go_simp; refine unhide hK _ _ ?_; clear hK K)
    refine wpList_nil ?_
    have hZ : Hid (Vl (.bool (keep.getD j false)) w (.returned (.bool b)) w) := ⟨by rw [unhide hb], Gr.refl w⟩
    go_wp2_with fail
    rw [unhide hT]
    exact unhide hZ
  have kI : ¬ (j : Int) < (kn : Int) := by omega
  have hkf : keep.getD j false = false := by
    rw [List.getD_eq_getElem?_getD, List.getElem?_eq_none (by rw [(unhide hK).len]; omega)]
    rfl
  replace hkf := hide hkf
  refine wp_region_lit ?_
  refine list_val (.int .i64 j) (by kernel_rfl) (by kernel_rfl) ?_
  simp only [Act.put, List.setIfInBounds_toArray, List.set_cons_zero, List.set_cons_succ, List.getElem_toArray, List.getElem_cons_zero, List.getElem_cons_succ]
  refine list_val (.slice ka kn kp) (by kernel_rfl) (exec_sk _ (.tmp 1) rfl kb 0 (by kernel_rfl) ka kn kp (cell_of (unhide hkb) (i := 0) rfl)) ?_
  simp only [Act.put, List.setIfInBounds_toArray, List.set_cons_zero, List.set_cons_succ, List.getElem_toArray, List.getElem_cons_zero, List.getElem_cons_succ]
  refine list_val (.int .i64 kn) (by kernel_rfl) (by kernel_rfl) ?_
  simp only [Act.put, List.setIfInBounds_toArray, List.set_cons_zero, List.set_cons_succ, List.getElem_toArray, List.getElem_cons_zero, List.getElem_cons_succ]
  refine list_val (.bool false) (by kernel_rfl) (by go_simp) ?_
  simp only [Act.put, List.setIfInBounds_toArray, List.set_cons_zero, List.set_cons_succ, List.getElem_toArray, List.getElem_cons_zero, List.getElem_cons_succ]
  refine list_val (.bool false) (by kernel_rfl) (by kernel_rfl) ?_
  simp only [Act.put, List.setIfInBounds_toArray, List.set_cons_zero, List.set_cons_succ, List.getElem_toArray, List.getElem_cons_zero, List.getElem_cons_succ]
  refine wpList_step fun K hK => ?_
  rw [if_neg (ne_true_of_eq_false (by kernel_rfl))]
  refine hK _ _ ?_
  clear hK K
  simp only [Act.put, List.setIfInBounds_toArray, List.set_cons_zero, List.set_cons_succ, List.getElem_toArray, List.getElem_cons_zero, List.getElem_cons_succ]
  refine wpList_step fun K hK => ?_
  rw [if_neg (ne_true_of_eq_false (by kernel_rfl))]
  refine hK _ _ ?_
  clear hK K
  simp only [Act.put, List.setIfInBounds_toArray, List.set_cons_zero, List.set_cons_succ, List.getElem_toArray, List.getElem_cons_zero, List.getElem_cons_succ]
  refine wpList_step fun K hK => ?_
  rw [if_neg (ne_true_of_eq_false (by kernel_rfl))]
  refine hK _ _ ?_
  clear hK K
  simp only [Act.put, List.setIfInBounds_toArray, List.set_cons_zero, List.set_cons_succ, List.getElem_toArray, List.getElem_cons_zero, List.getElem_cons_succ]
  refine wpList_step fun K hK => ?_
  rw [if_neg (ne_true_of_eq_false (by kernel_rfl))]
  refine hK _ _ ?_
  clear hK K
  simp only [Act.put, List.setIfInBounds_toArray, List.set_cons_zero, List.set_cons_succ, List.getElem_toArray, List.getElem_cons_zero, List.getElem_cons_succ]
  refine list_val (.bool false) (by kernel_rfl) (by kernel_rfl) ?_
  simp only [Act.put, List.setIfInBounds_toArray, List.set_cons_zero, List.set_cons_succ, List.getElem_toArray, List.getElem_cons_zero, List.getElem_cons_succ]
  (refine wpList_step fun K hK => ?_; replace hK := hide hK; go_simp; refine unhide hK _ _ ?_; clear hK K)
  refine wpList_nil ?_
  have hZ : Hid (Vl (.bool (keep.getD j false)) w (.returned (.bool false)) w) := ⟨by rw [unhide hkf], Gr.refl w⟩
  go_wp2_with fail
  rw [unhide hT]
  exact unhide hZ
theorem sync11_ok (j : Nat) (w : World) : Calls Try.prog 45 #[.int .i64 (j : Int)] w (Vl (.bool true) w) := by
  obtain ⟨T, hT⟩ : ∃ T, T = Vl (.bool true) w := ⟨_, rfl⟩
  rw [← hT]
  replace hT := hide hT
  go_enter Try.func45, Try.ntmps45
  go_wp2_with fail
  rw [unhide hT]
  exact ⟨rfl, Gr.refl w⟩
set_option maxHeartbeats 4000000 in
theorem dcrash_p (g : Nat) (D : Dk) (sg sc : Nat) (C : List Value) (pa : Option Addr) (pc : Nat) (l : Int) (keep : List Bool) (ka : Option Addr) (kn kp : Nat) (m : Nat) (hD : D.Ok m) (hm : m ≤ 1000000) (w : World) (hP : Pd g D w sg sc C pa pc l) (hK : Kp w ka kn kp keep) (hn : keep = [] ∨ ∀ i ∈ pdF g sg pa, blkOf ka ≠ some i) : Calls Try.prog 25 #[P0 g, .slice ka kn kp] w (Ch (pdF g sg pa) g (D.crashD keep) 0 w) := by
  obtain ⟨T, hT⟩ : ∃ T, T = Ch (pdF g sg pa) g (D.crashD keep) 0 w := ⟨_, rfl⟩
  rw [← hT]
  replace hT := hide hT
  have hgl := hP.lt g (mem_pdF.2 (.inl rfl))
  have hsl := hP.lt sg (mem_pdF.2 (.inr (.inl rfl)))
  replace hP := hide hP; replace hK := hide hK; replace hn := hide hn; replace hD := hide hD
  go_enter Try.func25, Try.ntmps25
  go_upto_region 1 with fail
  have hB := ((Bl.nil w).new #[.slice ka kn kp] 35)
  simp only [size_alloc, List.nil_append, List.cons_append] at hB
  generalize World.alloc _ _ = u at *
  replace hB : Bl w [⟨w.heap.size, #[.slice ka kn kp], 35⟩] u := hB
  refine wp_region_lit ?_
  refine list_val (.pointer (some ⟨g, 0, none⟩)) (by kernel_rfl) (by kernel_rfl) ?_
  simp only [Act.put, List.setIfInBounds_toArray, List.set_cons_zero, List.set_cons_succ, List.getElem_toArray, List.getElem_cons_zero, List.getElem_cons_succ]
  refine list_val (.bool false) (by kernel_rfl) (by kernel_rfl) ?_
  simp only [Act.put, List.setIfInBounds_toArray, List.set_cons_zero, List.set_cons_succ, List.getElem_toArray, List.getElem_cons_zero, List.getElem_cons_succ]
  refine wpList_nil ?_
  replace hB := hide hB
  go_upto_region 3 with fail
  replace hB := unhide hB
  refine wp_region_lit ?_
  refine list_val (.pointer (some ⟨g, 0, none⟩)) (by kernel_rfl) (by kernel_rfl) ?_
  simp only [Act.put, List.setIfInBounds_toArray, List.set_cons_zero, List.set_cons_succ, List.getElem_toArray, List.getElem_cons_zero, List.getElem_cons_succ]
  refine list_val (.func (.func 41) #[] #[.pointer (some ⟨w.heap.size, 0, none⟩)]) (by kernel_rfl) (by kernel_rfl) ?_
  simp only [Act.put, List.setIfInBounds_toArray, List.set_cons_zero, List.set_cons_succ, List.getElem_toArray, List.getElem_cons_zero, List.getElem_cons_succ]
  refine list_call 40 #[P0 g, .func (.func 41) #[] #[.pointer (some ⟨w.heap.size, 0, none⟩)]] (by kernel_rfl) (by kernel_rfl) ((settle_c g D sg sc C pa pc l keep w.heap.size m (unhide hD) (by omega) u ((unhide hP).gr hB.gr) (fun v hv j hj => crash1_ok j w.heap.size kn kp ka keep v (by have := (unhide hD).num; omega) (hv.blk (hB.get 0 (x := ⟨w.heap.size, #[.slice ka kn kp], 35⟩) rfl) (by simp; omega)) (((unhide hK).gr hB.gr).chg2 hv ((unhide hn).imp id (fun hn i hi => hn i (mem_pdF.2 (by simp at hi; rcases hi with hi | hi; exact .inl hi; exact .inr (.inl hi)))))))).mono ?_)
  rintro r v1 ⟨rfl, C2, hP2, hch⟩
  refine ⟨_, rfl, ?_⟩
  replace hch := hide (hB.gr.chg hch)
  simp only [Act.put, List.setIfInBounds_toArray, List.set_cons_zero, List.set_cons_succ, List.getElem_toArray, List.getElem_cons_zero, List.getElem_cons_succ]
  refine wpList_nil ?_
  clear hB
  have hl2 := hP2.lf
  obtain ⟨os, hos⟩ : ∃ x, x = (D.live keep).ops := ⟨_, rfl⟩
  obtain ⟨sn, hsn⟩ : ∃ x, x = (D.live keep).safe.length := ⟨_, rfl⟩
  obtain ⟨dd, hdd⟩ : ∃ x, x = (D.live keep).dead := ⟨_, rfl⟩
  have hB := (Bc.nil [g] v1).add ⟨g, pdv (some ⟨sg, 0, none⟩) (D.live keep).safe.length sc none (D.live keep).pend.length 0 l (D.live keep).ops (D.live keep).dead, 67⟩ hP2.cel (.inl (by simp)) (fun y hy => by cases hy)
  rw [← hos, ← hsn, ← hdd] at hB
  replace hos := hide hos; replace hsn := hide hsn; replace hdd := hide hdd; replace hP2 := hide hP2
  replace hB : Bc [g] v1 [⟨g, pdv (some ⟨sg, 0, none⟩) sn sc none 0 0 l os dd, 67⟩] v1 := hB
  replace hB := hide hB
  go_upto_region 4 with fail
  replace hB := unhide hB
  refine wp_region_lit ?_
  refine list_val (.pointer (some ⟨g, 0, none⟩)) (by kernel_rfl) (by kernel_rfl) ?_
  simp only [Act.put, List.setIfInBounds_toArray, List.set_cons_zero, List.set_cons_succ, List.getElem_toArray, List.getElem_cons_zero, List.getElem_cons_succ]
  refine list_val (.pointer (some ⟨g, 0, none⟩)) (by kernel_rfl) (by kernel_rfl) ?_
  simp only [Act.put, List.setIfInBounds_toArray, List.set_cons_zero, List.set_cons_succ, List.getElem_toArray, List.getElem_cons_zero, List.getElem_cons_succ]
  refine list_val (.pointer (some ⟨g, 0, none⟩)) (by kernel_rfl) (by kernel_rfl) ?_
  simp only [Act.put, List.setIfInBounds_toArray, List.set_cons_zero, List.set_cons_succ, List.getElem_toArray, List.getElem_cons_zero, List.getElem_cons_succ]
  refine list_val (.pointer (some ⟨g, 2, none⟩)) (by kernel_rfl) (by kernel_rfl) ?_
  simp only [Act.put, List.setIfInBounds_toArray, List.set_cons_zero, List.set_cons_succ, List.getElem_toArray, List.getElem_cons_zero, List.getElem_cons_succ]
  have c4 := cell_of (hB.get 0 (x := ⟨g, pdv (some ⟨sg, 0, none⟩) sn sc none 0 0 l os dd, 67⟩) rfl) (i := 2) rfl
  have fz := froz_of (i := 2) (hB.get 0 (x := ⟨g, pdv (some ⟨sg, 0, none⟩) sn sc none 0 0 l os dd, 67⟩) rfl)
  have hB2 := hB.cell 0 (x := ⟨g, pdv (some ⟨sg, 0, none⟩) sn sc none 0 0 l os dd, 67⟩) rfl 2 (.int .i64 (-1))
  simp only [List.set_cons_zero, List.set_cons_succ] at hB2
  replace hB2 : Bc [g] v1 [⟨g, pdv (some ⟨sg, 0, none⟩) sn sc none 0 0 (-1) os dd, 67⟩] _ := hB2
  clear hB
  replace hB2 := hide hB2
  dsimp only at c4 fz
  (refine wpList_step fun K hK => ?_; replace hK := hide hK; go_simp; refine unhide hK _ _ ?_; clear hK K)
  clear c4 fz
  have hB := unhide hB2
  clear hB2
  generalize World.setCell _ _ _ = v2 at *
  refine list_val (.pointer (some ⟨g, 0, none⟩)) (by kernel_rfl) (by kernel_rfl) ?_
  simp only [Act.put, List.setIfInBounds_toArray, List.set_cons_zero, List.set_cons_succ, List.getElem_toArray, List.getElem_cons_zero, List.getElem_cons_succ]
  refine list_val (.pointer (some ⟨g, 4, none⟩)) (by kernel_rfl) (by kernel_rfl) ?_
  simp only [Act.put, List.setIfInBounds_toArray, List.set_cons_zero, List.set_cons_succ, List.getElem_toArray, List.getElem_cons_zero, List.getElem_cons_succ]
  have c4 := cell_of (hB.get 0 (x := ⟨g, pdv (some ⟨sg, 0, none⟩) sn sc none 0 0 (-1) os dd, 67⟩) rfl) (i := 4) rfl
  have fz := froz_of (i := 4) (hB.get 0 (x := ⟨g, pdv (some ⟨sg, 0, none⟩) sn sc none 0 0 (-1) os dd, 67⟩) rfl)
  have hB2 := hB.cell 0 (x := ⟨g, pdv (some ⟨sg, 0, none⟩) sn sc none 0 0 (-1) os dd, 67⟩) rfl 4 (.bool false)
  simp only [List.set_cons_zero, List.set_cons_succ] at hB2
  replace hB2 : Bc [g] v1 [⟨g, pdv (some ⟨sg, 0, none⟩) sn sc none 0 0 (-1) os false, 67⟩] _ := hB2
  clear hB
  replace hB2 := hide hB2
  dsimp only at c4 fz
  (refine wpList_step fun K hK => ?_; replace hK := hide hK; go_simp; refine unhide hK _ _ ?_; clear hK K)
  clear c4 fz
  have hB := unhide hB2
  clear hB2
  generalize World.setCell _ _ _ = v3 at *
  refine wpList_nil ?_
  have hZ : Hid (Ch (pdF g sg pa) g (D.crashD keep) 0 w (.returned (.int .i64 0)) v3) := by
    have h2 := unhide hP2
    have hk : ∀ i, i ∈ pdF g sg none → i ≠ g → v3.heap[i]? = v1.heap[i]? := fun i hi hne => hB.chg.block i (h2.lt i hi) (by simp [hne])
    refine ⟨pdF g sg none, rfl, ⟨sg, sc, C2, none, 0, -1, ⟨?_, ?_, h2.cov, h2.len, h2.cap, h2.max, ⟨(fun r hr => by cases hr), rfl, .inl ⟨rfl, rfl⟩⟩, Lf.refl _ (by show (-9223372036854775808 : Int) ≤ -1; omega)⟩, rfl⟩, ?_⟩
    · show v3.heap[g]? = some (.cells (pdv (some ⟨sg, 0, none⟩) (D.live keep).safe.length sc none 0 0 (-1) (D.live keep).ops false) _ (0, 0))
      rw [← unhide hsn, ← unhide hos]
      exact (hB.get 0 (x := ⟨g, pdv (some ⟨sg, 0, none⟩) sn sc none 0 0 (-1) os false, 67⟩) rfl)
    · rw [hk sg (mem_pdF.2 (.inr (.inl rfl))) h2.sg_ne.symm]
      exact h2.saf
    · have hw : Chg [g, sg] [g, sg] w v3 := (unhide hch).trans (hB.chg.wide (fun i hi => by simp at hi; simp [hi]) (fun i hi => .inl hi))
      refine hw.wide (fun i hi => mem_pdF.2 (by simp at hi; rcases hi with hi | hi; exact .inl hi; exact .inr (.inl hi))) (fun i hi => .inl (mem_pdF.2 ?_))
      rcases mem_pdF.1 hi with hi | hi | hi
      · exact .inl hi
      · exact .inr (.inl hi)
      · cases hi
  replace hB := hide hB
  go_wp2_with fail
  rw [unhide hT]
  exact unhide hZ
theorem dcrash_ok (F : List Nat) (g m : Nat) (D : Dk) (hD : D.Ok m) (hm : m ≤ 1000000) (keep : List Bool) (ka : Option Addr) (kn kp : Nat) (w : World) (h : Lies F g D w) (hK : Kp w ka kn kp keep) (hn : ∀ i ∈ F, blkOf ka ≠ some i) : Calls Try.prog 25 #[P0 g, .slice ka kn kp] w (Ch F g (D.crashD keep) 0 w) := by
  obtain ⟨sg, sc, C, pa, pc, l, h, rfl⟩ := h
  exact dcrash_p g D sg sc C pa pc l keep ka kn kp m hD hm w h hK (.inr hn)
theorem dcrash_ok2 (F : List Nat) (g m : Nat) (D : Dk) (hD : D.Ok m) (hm : m ≤ 1000000) (keep : List Bool) (ka : Option Addr) (kn kp : Nat) (w : World) (h : Lies F g D w) (hK : Kp w ka kn kp keep) (hn : keep = [] ∨ ∀ i ∈ F, blkOf ka ≠ some i) : Calls Try.prog 25 #[P0 g, .slice ka kn kp] w (Ch F g (D.crashD keep) 0 w) := by
  obtain ⟨sg, sc, C, pa, pc, l, h, rfl⟩ := h
  exact dcrash_p g D sg sc C pa pc l keep ka kn kp m hD hm w h hK hn
theorem dcrash_nil (a : Option Addr) (n c : Nat) (w : World) : Calls Try.prog 25 #[.pointer none, .slice a n c] w (Vl (.int .i64 1) w) := by
  obtain ⟨T, hT⟩ : ∃ T, T = Vl (.int .i64 1) w := ⟨_, rfl⟩
  rw [← hT]
  replace hT := hide hT
  go_enter Try.func25, Try.ntmps25
  go_upto_region 1 with fail
  have hB := ((Bl.nil w).new #[.slice a n c] 35)
  simp only [size_alloc, List.nil_append, List.cons_append] at hB
  generalize World.alloc _ _ = u at *
  refine wp_region_lit ?_
  refine list_val (.pointer none) (by kernel_rfl) (by kernel_rfl) ?_
  simp only [Act.put, List.setIfInBounds_toArray, List.set_cons_zero, List.set_cons_succ, List.getElem_toArray, List.getElem_cons_zero, List.getElem_cons_succ]
  refine list_val (.bool true) (by kernel_rfl) (by kernel_rfl) ?_
  simp only [Act.put, List.setIfInBounds_toArray, List.set_cons_zero, List.set_cons_succ, List.getElem_toArray, List.getElem_cons_zero, List.getElem_cons_succ]
  refine wpList_nil ?_
  have hZ : Hid (Vl (.int .i64 1) w (.returned (.int .i64 1)) u) := ⟨rfl, hB.gr⟩
  replace hB := hide hB
  go_wp2_with fail
  rw [unhide hT]
  exact unhide hZ
end Go.Proofs.Ythgchjdjacbcgaa
