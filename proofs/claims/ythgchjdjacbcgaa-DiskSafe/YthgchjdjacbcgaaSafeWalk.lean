/-
  Nothing that was synced is lost by a crash: the walk of DiskSafe.
-/
import Derived.Test.YthgchjdjacbcgaaSafeRnd
namespace Go.Proofs.Ythgchjdjacbcgaa
open Go.RowKit
set_option maxRecDepth 100000
set_option linter.unusedSimpArgs false
set_option linter.unusedVariables false
theorem far_of {L : List (List Nat × Nat × Dk)} {a : Option Addr} (h : Far L a) (n : Nat) {F : List Nat} {g : Nat} {D : Dk} (hn : L[n]? = some (F, g, D)) : ∀ i ∈ F, blkOf a ≠ some i := h _ (List.mem_of_getElem? hn)
set_option maxHeartbeats 4000000 in
theorem safe_law (l : List Opl) (a : Option Addr) (n c : Nat) (keep : List Bool) (ka : Option Addr) (kn kp : Nat) (w : World) (hl : Los w a n c l) (hK : Kp w ka kn kp keep) (hkn : kn ≤ 140737488351232) : Calls Try.prog 6 #[.slice a n c, .slice ka kn kp] w (Woke w) := by
  obtain ⟨T, hT⟩ : ∃ T, T = Woke w := ⟨_, rfl⟩
  rw [← hT]
  replace hT := hide hT
  have hkF : keep = [] ∨ ∀ p, blkOf ka = some p → p < w.heap.size := by
    rcases hK.sl with h | ⟨p, o, rfl, h⟩
    · exact .inl h
    · cases keep with
      | nil => exact .inl rfl
      | cons b r =>
        refine .inr fun q e => ?_
        have h1 := lt_of_cell (h 0 (.bool b) rfl)
        have h2 : p = q := by simpa [blkOf] using e
        rw [← h2]
        exact h1
  have hok := hl.ok
  replace hl := hide hl; replace hK := hide hK; replace hkF := hide hkF; replace hok := hide hok
  go_enter Try.func6, Try.ntmps6
  go_upto_region 1 with fail
  refine wp_region_lit ?_
  refine list_call 9 #[] (by kernel_rfl) (by kernel_rfl) ((wakes_ok _).mono ?_)
  rintro r v ⟨rfl, hG⟩
  refine ⟨_, rfl, ?_⟩
  replace hG := hide hG
  simp only [Act.put, List.setIfInBounds_toArray, List.set_cons_zero, List.set_cons_succ, List.getElem_toArray, List.getElem_cons_zero, List.getElem_cons_succ]
  refine list_val (.bool false) (by kernel_rfl) (by kernel_rfl) ?_
  simp only [Act.put, List.setIfInBounds_toArray, List.set_cons_zero, List.set_cons_succ, List.getElem_toArray, List.getElem_cons_zero, List.getElem_cons_succ]
  refine wpList_nil ?_
  obtain ⟨D, hDe⟩ : ∃ D, D = wornD l := ⟨_, rfl⟩
  obtain ⟨m, hme⟩ : ∃ m, m = (l.take 120).length := ⟨_, rfl⟩
  have hm : m ≤ 120 := by rw [hme, List.length_take]; omega
  have hsix : Six D := by rw [hDe]; exact wrn_six _ _
  have hDk : D.Ok m := by rw [hDe, hme]; exact wrn_ok (fun o ho => unhide hok o (List.mem_of_mem_take ho)) _
  have hDP : ∀ x ∈ D.pend, x.1 < D.safe.length := fun x hx => (hDk.pnd x hx).1
  obtain ⟨pn, hpn⟩ : ∃ k, k = D.pend.length := ⟨_, rfl⟩
  have hpb : pn ≤ 1000 := by rw [hpn]; exact Nat.le_trans hDk.num (by omega)
  replace hDe := hide hDe; replace hme := hide hme; replace hsix := hide hsix; replace hDk := hide hDk; replace hDP := hide hDP; replace hpn := hide hpn
  go_upto_region 3 with fail
  refine wp_region_lit ?_
  refine list_val (.slice a n c) (by kernel_rfl) (by kernel_rfl) ?_
  simp only [Act.put, List.setIfInBounds_toArray, List.set_cons_zero, List.set_cons_succ, List.getElem_toArray, List.getElem_cons_zero, List.getElem_cons_succ]
  refine list_call 23 #[.slice a n c] (by kernel_rfl) (by kernel_rfl) ((worn_ok l a n c _ ((unhide hl).gr (unhide hG))).mono ?_)
  rintro r u1 ⟨gd, F0, rfl, hL, hF, hg⟩
  refine ⟨_, rfl, ?_⟩
  rw [← unhide hDe] at hL
  have hS : Ds w [(F0, gd, D)] u1 := (Ds.nil (unhide hG)).add hg hL hF
  replace hS := hide hS
  clear hG hL hF hg
  simp only [Act.put, List.setIfInBounds_toArray, List.set_cons_zero, List.set_cons_succ, List.getElem_toArray, List.getElem_cons_zero, List.getElem_cons_succ]
  (refine wpList_step fun K hK => ?_; replace hK := hide hK; go_simp; refine unhide hK _ _ ?_; clear hK K)
  refine wpList_nil ?_
  go_upto_region 4 with fail
  refine wp_region_lit ?_
  refine list_val (.pointer (some ⟨gd, 0, none⟩)) (by kernel_rfl) (by kernel_rfl) ?_
  simp only [Act.put, List.setIfInBounds_toArray, List.set_cons_zero, List.set_cons_succ, List.getElem_toArray, List.getElem_cons_zero, List.getElem_cons_succ]
  refine list_val (.bool false) (by kernel_rfl) (by kernel_rfl) ?_
  simp only [Act.put, List.setIfInBounds_toArray, List.set_cons_zero, List.set_cons_succ, List.getElem_toArray, List.getElem_cons_zero, List.getElem_cons_succ]
  refine wpList_nil ?_
  go_upto_region 6 with fail
  refine wp_region_lit ?_
  refine list_val (.pointer (some ⟨gd, 0, none⟩)) (by kernel_rfl) (by kernel_rfl) ?_
  simp only [Act.put, List.setIfInBounds_toArray, List.set_cons_zero, List.set_cons_succ, List.getElem_toArray, List.getElem_cons_zero, List.getElem_cons_succ]
  refine list_call 24 #[.pointer (some ⟨gd, 0, none⟩)] (by kernel_rfl) (by kernel_rfl) ((held_ok F0 gd m D (unhide hDk) (by omega) _ ((unhide hS).at_ (n := 0) rfl)).mono ?_)
  rintro r u2 ⟨na, nc, rfl, hls, hfr, hg⟩
  refine ⟨_, rfl, ?_⟩
  rw [(unhide hsix).six] at hls ⊢
  have hfa := hide ((unhide hS).far hfr)
  replace hls := hide hls
  clear hfr
  replace hS := hide ((unhide hS).more hg)
  clear hg
  simp only [Act.put, List.setIfInBounds_toArray, List.set_cons_zero, List.set_cons_succ, List.getElem_toArray, List.getElem_cons_zero, List.getElem_cons_succ]
  (refine wpList_step fun K hK => ?_; replace hK := hide hK; go_simp; refine unhide hK _ _ ?_; clear hK K)
  refine wpList_nil ?_
  go_upto_region 7 with fail
  refine wp_region_lit ?_
  refine list_val (.pointer (some ⟨gd, 0, none⟩)) (by kernel_rfl) (by kernel_rfl) ?_
  simp only [Act.put, List.setIfInBounds_toArray, List.set_cons_zero, List.set_cons_succ, List.getElem_toArray, List.getElem_cons_zero, List.getElem_cons_succ]
  refine list_call 19 #[.pointer (some ⟨gd, 0, none⟩)] (by kernel_rfl) (by kernel_rfl) ((dcopy_ok F0 gd m D (unhide hDk) (by omega) _ ((unhide hS).at_ (n := 0) rfl)).mono ?_)
  rintro r u3 ⟨ga, F1, rfl, hL, hF, hg⟩
  refine ⟨_, rfl, ?_⟩
  replace hfa := hide ((unhide hfa).add (F := F1) (g := ga) (D := D) hF (unhide hls).low)
  replace hS := hide (show Ds w [(F0, gd, D), (F1, ga, D)] u3 from (unhide hS).add hg hL hF)
  replace hls := hide ((unhide hls).gr hg)
  replace hfa : Hid (Far [(F0, gd, D), (F1, ga, D)] na) := hfa
  clear hL hF hg
  simp only [Act.put, List.setIfInBounds_toArray, List.set_cons_zero, List.set_cons_succ, List.getElem_toArray, List.getElem_cons_zero, List.getElem_cons_succ]
  refine list_val (.pointer (some ⟨gd, 0, none⟩)) (by kernel_rfl) (by kernel_rfl) ?_
  simp only [Act.put, List.setIfInBounds_toArray, List.set_cons_zero, List.set_cons_succ, List.getElem_toArray, List.getElem_cons_zero, List.getElem_cons_succ]
  refine list_call 19 #[.pointer (some ⟨gd, 0, none⟩)] (by kernel_rfl) (by kernel_rfl) ((dcopy_ok F0 gd m D (unhide hDk) (by omega) _ ((unhide hS).at_ (n := 0) rfl)).mono ?_)
  rintro r u4 ⟨gs, F2, rfl, hL, hF, hg⟩
  refine ⟨_, rfl, ?_⟩
  replace hfa := hide ((unhide hfa).add (F := F2) (g := gs) (D := D) hF (unhide hls).low)
  replace hS := hide (show Ds w [(F0, gd, D), (F1, ga, D), (F2, gs, D)] u4 from (unhide hS).add hg hL hF)
  replace hls := hide ((unhide hls).gr hg)
  replace hfa : Hid (Far [(F0, gd, D), (F1, ga, D), (F2, gs, D)] na) := hfa
  clear hL hF hg
  simp only [Act.put, List.setIfInBounds_toArray, List.set_cons_zero, List.set_cons_succ, List.getElem_toArray, List.getElem_cons_zero, List.getElem_cons_succ]
  refine list_val (.pointer (some ⟨gd, 0, none⟩)) (by kernel_rfl) (by kernel_rfl) ?_
  simp only [Act.put, List.setIfInBounds_toArray, List.set_cons_zero, List.set_cons_succ, List.getElem_toArray, List.getElem_cons_zero, List.getElem_cons_succ]
  refine list_call 19 #[.pointer (some ⟨gd, 0, none⟩)] (by kernel_rfl) (by kernel_rfl) ((dcopy_ok F0 gd m D (unhide hDk) (by omega) _ ((unhide hS).at_ (n := 0) rfl)).mono ?_)
  rintro r u5 ⟨gn, F3, rfl, hL, hF, hg⟩
  refine ⟨_, rfl, ?_⟩
  replace hfa := hide ((unhide hfa).add (F := F3) (g := gn) (D := D) hF (unhide hls).low)
  replace hS := hide (show Ds w [(F0, gd, D), (F1, ga, D), (F2, gs, D), (F3, gn, D)] u5 from (unhide hS).add hg hL hF)
  replace hls := hide ((unhide hls).gr hg)
  replace hfa : Hid (Far [(F0, gd, D), (F1, ga, D), (F2, gs, D), (F3, gn, D)] na) := hfa
  clear hL hF hg
  simp only [Act.put, List.setIfInBounds_toArray, List.set_cons_zero, List.set_cons_succ, List.getElem_toArray, List.getElem_cons_zero, List.getElem_cons_succ]
  (refine wpList_step fun K hK => ?_; replace hK := hide hK; go_simp; refine unhide hK _ _ ?_; clear hK K)
  (refine wpList_step fun K hK => ?_; replace hK := hide hK; go_simp; refine unhide hK _ _ ?_; clear hK K)
  (refine wpList_step fun K hK => ?_; replace hK := hide hK; go_simp; refine unhide hK _ _ ?_; clear hK K)
  refine wpList_nil ?_
  go_upto_region 8 with fail
  refine wp_region_lit ?_
  refine list_val (.pointer (some ⟨gd, 0, none⟩)) (by kernel_rfl) (by kernel_rfl) ?_
  simp only [Act.put, List.setIfInBounds_toArray, List.set_cons_zero, List.set_cons_succ, List.getElem_toArray, List.getElem_cons_zero, List.getElem_cons_succ]
  refine list_call 20 #[.pointer (some ⟨gd, 0, none⟩)] (by kernel_rfl) (by kernel_rfl) ((dpending_ok F0 gd m D (unhide hDk) (by omega) _ ((unhide hS).at_ (n := 0) rfl)).mono ?_)
  rintro r z1 ⟨vp, rfl, hOr, hg⟩
  refine ⟨_, rfl, ?_⟩
  obtain ⟨pv0, cv0, rfl, -⟩ := hOr.ls
  have e2 : (iv (D.pend.map fun x => (x.1 : Int))).length = pn := by rw [iv_len, List.length_map, unhide hpn]
  rw [e2]
  clear hOr e2
  replace hls := hide ((unhide hls).gr hg)
  replace hS := hide ((unhide hS).more hg)
  clear hg
  have hB := Bl.nil z1
  simp only [Act.put, List.setIfInBounds_toArray, List.set_cons_zero, List.set_cons_succ, List.getElem_toArray, List.getElem_cons_zero, List.getElem_cons_succ]
  refine list_val (.int .i64 pn) (by kernel_rfl) (by kernel_rfl) ?_
  simp only [Act.put, List.setIfInBounds_toArray, List.set_cons_zero, List.set_cons_succ, List.getElem_toArray, List.getElem_cons_zero, List.getElem_cons_succ]
  refine make_bools z1 rfl (.tmp 39) (.tmp 39) rfl pn pn rfl rfl (Nat.le_refl _) (by omega) ?_
  simp only [Act.put, List.setIfInBounds_toArray, List.set_cons_zero, List.set_cons_succ, List.getElem_toArray, List.getElem_cons_zero, List.getElem_cons_succ]
  replace hB := hB.new (bc (List.replicate pn false)) 4
  simp only [List.nil_append, List.cons_append] at hB
  generalize World.alloc _ _ = z2 at *
  obtain ⟨gk, hgq⟩ : ∃ k, k = z1.heap.size := ⟨_, rfl⟩
  rw [← hgq] at hB ⊢
  replace hgq := hide hgq
  (refine wpList_step fun K hK => ?_; replace hK := hide hK; go_simp; refine unhide hK _ _ ?_; clear hK K)
  refine wpList_nil ?_
  have e0 : flt 0 pn = List.replicate pn false := by unfold flt; simp
  rw [← e0] at hB
  clear e0
  replace hB := hide hB
  go_wp2_with fail
  go_loopw [43] (fun i wr => ∃ i2 : Nat, i2 ≤ pn ∧ i = .int .i64 i2 ∧ Hid (Bl z1 [⟨gk, bc (flt i2 pn), 4⟩] wr)) (fun i _ => pn - (intOf i).toNat)
  case atStart => exact ⟨0, by omega, rfl, hB⟩
  case round =>
  clear hB
  obtain ⟨i2, hi2, rfl, hB⟩ := hrel
  by_cases hil : i2 < pn
  · have jI2 : (i2 : Int) < (pn : Int) := by omega
    have c0 := cell_of (i := i2) ((unhide hB).get 0 (x := ⟨gk, bc (flt i2 pn), 4⟩) rfl) (Array.getElem?_eq_getElem (by dsimp only; rw [bc_size, flt_len _ _ hi2]; exact hil))
    have fz := froz_of (i := i2) ((unhide hB).get 0 (x := ⟨gk, bc (flt i2 pn), 4⟩) rfl)
    have hB2 := (unhide hB).cell 0 (x := ⟨gk, bc (flt i2 pn), 4⟩) rfl i2 (.bool true)
    simp only [List.set_cons_zero, List.set_cons_succ, bc_set, flt_set i2 pn hil] at hB2
    clear hB
    replace hB2 := hide hB2
    dsimp only at c0 fz
    generalize (bc (flt i2 pn))[i2]'_ = z at c0
    go_wp2_with fail
    go_roundw
    case rel => exact ⟨i2 + 1, by omega, by go_num, hB2⟩
    case measure => simp [intOf]; omega
  have jI2 : ¬ (i2 : Int) < (pn : Int) := by omega
  have hKp : Hid (Kp wr (some ⟨gk, 0, none⟩) pn pn (List.replicate pn true)) := by
    have e : i2 = pn := by omega
    have h := (unhide hB).get 0 (x := ⟨gk, bc (flt i2 pn), 4⟩) rfl
    dsimp only at h
    rw [e, flt_all] at h
    exact bc_kp h (by simp) (by omega)
  have hgF : Hid (∀ i ∈ F1, blkOf (some (⟨gk, 0, none⟩ : Addr)) ≠ some i) := by
    intro i hi e
    have h1 := ((unhide hS).at_ (n := 1) rfl : Lies F1 ga D z1).lt i hi
    have h2 : gk = i := by simpa [blkOf] using e
    have h3 := unhide hgq
    omega
  replace hls := hide ((unhide hls).gr (unhide hB).gr)
  replace hS := hide ((unhide hS).more (unhide hB).gr)
  clear hB
  have hsyE : D.syncE = 0 := by unfold Dk.syncE; rw [(unhide hsix).dead, if_neg (by decide), if_neg (by rw [(unhide hsix).left]; decide)]
  replace hsyE := hide hsyE
  go_upto_region 14 with fail
  refine wp_region_lit ?_
  refine list_val (.pointer (some ⟨ga, 0, none⟩)) (by kernel_rfl) (by kernel_rfl) ?_
  simp only [Act.put, List.setIfInBounds_toArray, List.set_cons_zero, List.set_cons_succ, List.getElem_toArray, List.getElem_cons_zero, List.getElem_cons_succ]
  refine list_val (.slice (some ⟨gk, 0, none⟩) pn pn) (by kernel_rfl) (by kernel_rfl) ?_
  simp only [Act.put, List.setIfInBounds_toArray, List.set_cons_zero, List.set_cons_succ, List.getElem_toArray, List.getElem_cons_zero, List.getElem_cons_succ]
  refine list_call 25 #[.pointer (some ⟨ga, 0, none⟩), .slice (some ⟨gk, 0, none⟩) pn pn] (by kernel_rfl) (by kernel_rfl) ((dcrash_ok F1 ga m D (unhide hDk) (by omega) (List.replicate pn true) _ pn pn _ ((unhide hS).at_ (n := 1) rfl) (unhide hKp) (unhide hgF)).mono ?_)
  rintro r t1 ⟨F1b, rfl, hL1, hch⟩
  refine ⟨_, rfl, ?_⟩
  have hls9 := hls
  replace hls := hide ((unhide hls).chg hch (far_of (unhide hfa) 1 rfl))
  replace hfa := hide ((unhide hfa).chg (n := 1) (D' := (D.crashD (List.replicate pn true))) rfl hch (unhide hls9).low)
  replace hS := hide (show Ds w [(F0, gd, D), (F1b, ga, (D.crashD (List.replicate pn true))), (F2, gs, D), (F3, gn, D)] t1 from (unhide hS).chg (n := 1) rfl hch hL1)
  replace hfa : Hid (Far [(F0, gd, D), (F1b, ga, (D.crashD (List.replicate pn true))), (F2, gs, D), (F3, gn, D)] na) := hfa
  clear hch hL1 hls9
  clear hKp hgF
  simp only [Act.put, List.setIfInBounds_toArray, List.set_cons_zero, List.set_cons_succ, List.getElem_toArray, List.getElem_cons_zero, List.getElem_cons_succ]
  refine list_val (.bool false) (by kernel_rfl) (by kernel_rfl) ?_
  simp only [Act.put, List.setIfInBounds_toArray, List.set_cons_zero, List.set_cons_succ, List.getElem_toArray, List.getElem_cons_zero, List.getElem_cons_succ]
  refine list_val (.bool false) (by kernel_rfl) (by kernel_rfl) ?_
  simp only [Act.put, List.setIfInBounds_toArray, List.set_cons_zero, List.set_cons_succ, List.getElem_toArray, List.getElem_cons_zero, List.getElem_cons_succ]
  refine list_val (.pointer (some ⟨gn, 0, none⟩)) (by kernel_rfl) (by kernel_rfl) ?_
  simp only [Act.put, List.setIfInBounds_toArray, List.set_cons_zero, List.set_cons_succ, List.getElem_toArray, List.getElem_cons_zero, List.getElem_cons_succ]
  refine list_call 25 #[.pointer (some ⟨gn, 0, none⟩), .slice none 0 0] (by kernel_rfl) (by kernel_rfl) ((dcrash_ok F3 gn m D (unhide hDk) (by omega) [] none 0 0 _ ((unhide hS).at_ (n := 3) rfl) ⟨rfl, .inl rfl, Nat.le_refl _, by omega⟩ (fun i_ hi_ e_ => by cases e_)).mono ?_)
  rintro r t2 ⟨F3b, rfl, hL1, hch⟩
  refine ⟨_, rfl, ?_⟩
  have hls9 := hls
  replace hls := hide ((unhide hls).chg hch (far_of (unhide hfa) 3 rfl))
  replace hfa := hide ((unhide hfa).chg (n := 3) (D' := D.crashD []) rfl hch (unhide hls9).low)
  replace hS := hide (show Ds w [(F0, gd, D), (F1b, ga, (D.crashD (List.replicate pn true))), (F2, gs, D), (F3b, gn, (D.crashD []))] t2 from (unhide hS).chg (n := 3) rfl hch hL1)
  replace hfa : Hid (Far [(F0, gd, D), (F1b, ga, (D.crashD (List.replicate pn true))), (F2, gs, D), (F3b, gn, (D.crashD []))] na) := hfa
  clear hch hL1 hls9
  simp only [Act.put, List.setIfInBounds_toArray, List.set_cons_zero, List.set_cons_succ, List.getElem_toArray, List.getElem_cons_zero, List.getElem_cons_succ]
  refine list_val (.bool false) (by kernel_rfl) (by kernel_rfl) ?_
  simp only [Act.put, List.setIfInBounds_toArray, List.set_cons_zero, List.set_cons_succ, List.getElem_toArray, List.getElem_cons_zero, List.getElem_cons_succ]
  refine list_val (.bool false) (by kernel_rfl) (by kernel_rfl) ?_
  simp only [Act.put, List.setIfInBounds_toArray, List.set_cons_zero, List.set_cons_succ, List.getElem_toArray, List.getElem_cons_zero, List.getElem_cons_succ]
  refine list_val (.bool false) (by kernel_rfl) (by kernel_rfl) ?_
  simp only [Act.put, List.setIfInBounds_toArray, List.set_cons_zero, List.set_cons_succ, List.getElem_toArray, List.getElem_cons_zero, List.getElem_cons_succ]
  refine list_val (.pointer (some ⟨gd, 0, none⟩)) (by kernel_rfl) (by kernel_rfl) ?_
  simp only [Act.put, List.setIfInBounds_toArray, List.set_cons_zero, List.set_cons_succ, List.getElem_toArray, List.getElem_cons_zero, List.getElem_cons_succ]
  refine list_call 26 #[.pointer (some ⟨gd, 0, none⟩)] (by kernel_rfl) (by kernel_rfl) ((dsync_ok F0 gd m D (unhide hDk) (by omega) _ ((unhide hS).at_ (n := 0) rfl)).mono ?_)
  rintro r t3 ⟨F0b, rfl, hL1, hch⟩
  refine ⟨_, rfl, ?_⟩
  rw [unhide hsyE]
  have hls9 := hls
  replace hls := hide ((unhide hls).chg hch (far_of (unhide hfa) 0 rfl))
  replace hfa := hide ((unhide hfa).chg (n := 0) (D' := D.syncD) rfl hch (unhide hls9).low)
  replace hS := hide (show Ds w [(F0b, gd, D.syncD), (F1b, ga, (D.crashD (List.replicate pn true))), (F2, gs, D), (F3b, gn, (D.crashD []))] t3 from (unhide hS).chg (n := 0) rfl hch hL1)
  replace hfa : Hid (Far [(F0b, gd, D.syncD), (F1b, ga, (D.crashD (List.replicate pn true))), (F2, gs, D), (F3b, gn, (D.crashD []))] na) := hfa
  clear hch hL1 hls9
  simp only [Act.put, List.setIfInBounds_toArray, List.set_cons_zero, List.set_cons_succ, List.getElem_toArray, List.getElem_cons_zero, List.getElem_cons_succ]
  refine list_val (.bool false) (by kernel_rfl) (by kernel_rfl) ?_
  simp only [Act.put, List.setIfInBounds_toArray, List.set_cons_zero, List.set_cons_succ, List.getElem_toArray, List.getElem_cons_zero, List.getElem_cons_succ]
  refine list_val (.bool false) (by kernel_rfl) (by kernel_rfl) ?_
  simp only [Act.put, List.setIfInBounds_toArray, List.set_cons_zero, List.set_cons_succ, List.getElem_toArray, List.getElem_cons_zero, List.getElem_cons_succ]
  refine list_val (.bool false) (by kernel_rfl) (by kernel_rfl) ?_
  simp only [Act.put, List.setIfInBounds_toArray, List.set_cons_zero, List.set_cons_succ, List.getElem_toArray, List.getElem_cons_zero, List.getElem_cons_succ]
  refine list_val (.pointer (some ⟨gd, 0, none⟩)) (by kernel_rfl) (by kernel_rfl) ?_
  simp only [Act.put, List.setIfInBounds_toArray, List.set_cons_zero, List.set_cons_succ, List.getElem_toArray, List.getElem_cons_zero, List.getElem_cons_succ]
  refine list_call 25 #[.pointer (some ⟨gd, 0, none⟩), .slice none 0 0] (by kernel_rfl) (by kernel_rfl) ((dcrash_ok F0b gd (m + 1) D.syncD (unhide hDk).sync (by omega) [] none 0 0 _ ((unhide hS).at_ (n := 0) rfl) ⟨rfl, .inl rfl, Nat.le_refl _, by omega⟩ (fun i_ hi_ e_ => by cases e_)).mono ?_)
  rintro r t4 ⟨F0c, rfl, hL1, hch⟩
  refine ⟨_, rfl, ?_⟩
  have hls9 := hls
  replace hls := hide ((unhide hls).chg hch (far_of (unhide hfa) 0 rfl))
  replace hfa := hide ((unhide hfa).chg (n := 0) (D' := D.syncD.crashD []) rfl hch (unhide hls9).low)
  replace hS := hide (show Ds w [(F0c, gd, (D.syncD.crashD [])), (F1b, ga, (D.crashD (List.replicate pn true))), (F2, gs, D), (F3b, gn, (D.crashD []))] t4 from (unhide hS).chg (n := 0) rfl hch hL1)
  replace hfa : Hid (Far [(F0c, gd, (D.syncD.crashD [])), (F1b, ga, (D.crashD (List.replicate pn true))), (F2, gs, D), (F3b, gn, (D.crashD []))] na) := hfa
  clear hch hL1 hls9
  simp only [Act.put, List.setIfInBounds_toArray, List.set_cons_zero, List.set_cons_succ, List.getElem_toArray, List.getElem_cons_zero, List.getElem_cons_succ]
  refine list_val (.bool false) (by kernel_rfl) (by kernel_rfl) ?_
  simp only [Act.put, List.setIfInBounds_toArray, List.set_cons_zero, List.set_cons_succ, List.getElem_toArray, List.getElem_cons_zero, List.getElem_cons_succ]
  refine list_val (.bool false) (by kernel_rfl) (by kernel_rfl) ?_
  simp only [Act.put, List.setIfInBounds_toArray, List.set_cons_zero, List.set_cons_succ, List.getElem_toArray, List.getElem_cons_zero, List.getElem_cons_succ]
  refine wpList_nil ?_
  have hA1 := (unhide hDk).crash (List.replicate pn true)
  have hA1h : heldL (D.crashD (List.replicate pn true)) = heldL D := by
    rw [unhide hpn]
    exact crash_all D (unhide hDP) D (unhide hsix).dead rfl rfl
  have hA16 : (D.crashD (List.replicate pn true)).safe.length = 6 := by rw [crash_len]; exact (unhide hsix).six
  have hZ0 := (unhide hDk).sync.crash []
  have hZ0h : heldL (D.syncD.crashD []) = heldL D := crash_sync (unhide hsix) (unhide hDP)
  have hZ06 : (D.syncD.crashD []).safe.length = 6 := by rw [crash_len]; exact (sync_six (unhide hsix)).six
  replace hA1 := hide hA1; replace hA1h := hide hA1h; replace hA16 := hide hA16; replace hZ0 := hide hZ0; replace hZ0h := hide hZ0h; replace hZ06 := hide hZ06
  go_upto_region 16 with fail
  refine wp_region_lit ?_
  refine list_val (.pointer (some ⟨ga, 0, none⟩)) (by kernel_rfl) (by kernel_rfl) ?_
  simp only [Act.put, List.setIfInBounds_toArray, List.set_cons_zero, List.set_cons_succ, List.getElem_toArray, List.getElem_cons_zero, List.getElem_cons_succ]
  refine list_call 24 #[.pointer (some ⟨ga, 0, none⟩)] (by kernel_rfl) (by kernel_rfl) ((held_ok F1b ga m (D.crashD (List.replicate pn true)) (unhide hA1) (by omega) _ ((unhide hS).at_ (n := 1) rfl)).mono ?_)
  rintro r t5 ⟨xa, xc, rfl, hlx, -, hg⟩
  refine ⟨_, rfl, ?_⟩
  rw [unhide hA16, unhide hA1h] at hlx
  rw [unhide hA16]
  replace hls := hide ((unhide hls).gr hg)
  replace hlx := hide hlx
  replace hS := hide ((unhide hS).more hg)
  clear hg
  simp only [Act.put, List.setIfInBounds_toArray, List.set_cons_zero, List.set_cons_succ, List.getElem_toArray, List.getElem_cons_zero, List.getElem_cons_succ]
  refine list_val (.slice na 6 nc) (by kernel_rfl) (by kernel_rfl) ?_
  simp only [Act.put, List.setIfInBounds_toArray, List.set_cons_zero, List.set_cons_succ, List.getElem_toArray, List.getElem_cons_zero, List.getElem_cons_succ]
  refine list_call 27 #[.slice xa 6 xc, .slice na 6 nc] (by kernel_rfl) (by kernel_rfl) ((same_ok (heldL D) (heldN_bb (unhide hDk) _) xa na 6 xc nc (by omega) _ (unhide hlx) (unhide hls)).mono ?_)
  rintro r t6 ⟨rfl, hg⟩
  refine ⟨_, rfl, ?_⟩
  replace hls := hide ((unhide hls).gr hg)
  replace hS := hide ((unhide hS).more hg)
  clear hg
  clear hlx
  simp only [Act.put, List.setIfInBounds_toArray, List.set_cons_zero, List.set_cons_succ, List.getElem_toArray, List.getElem_cons_zero, List.getElem_cons_succ]
  refine list_val (.bool false) (by kernel_rfl) (by kernel_rfl) ?_
  simp only [Act.put, List.setIfInBounds_toArray, List.set_cons_zero, List.set_cons_succ, List.getElem_toArray, List.getElem_cons_zero, List.getElem_cons_succ]
  refine list_val (.bool false) (by kernel_rfl) (by kernel_rfl) ?_
  simp only [Act.put, List.setIfInBounds_toArray, List.set_cons_zero, List.set_cons_succ, List.getElem_toArray, List.getElem_cons_zero, List.getElem_cons_succ]
  refine list_val (.pointer (some ⟨gd, 0, none⟩)) (by kernel_rfl) (by kernel_rfl) ?_
  simp only [Act.put, List.setIfInBounds_toArray, List.set_cons_zero, List.set_cons_succ, List.getElem_toArray, List.getElem_cons_zero, List.getElem_cons_succ]
  refine list_call 24 #[.pointer (some ⟨gd, 0, none⟩)] (by kernel_rfl) (by kernel_rfl) ((held_ok F0c gd (m + 1) (D.syncD.crashD []) (unhide hZ0) (by omega) _ ((unhide hS).at_ (n := 0) rfl)).mono ?_)
  rintro r t7 ⟨ya, yc, rfl, hlx, -, hg⟩
  refine ⟨_, rfl, ?_⟩
  rw [unhide hZ06, unhide hZ0h] at hlx
  rw [unhide hZ06]
  replace hls := hide ((unhide hls).gr hg)
  replace hlx := hide hlx
  replace hS := hide ((unhide hS).more hg)
  clear hg
  simp only [Act.put, List.setIfInBounds_toArray, List.set_cons_zero, List.set_cons_succ, List.getElem_toArray, List.getElem_cons_zero, List.getElem_cons_succ]
  refine list_val (.slice na 6 nc) (by kernel_rfl) (by kernel_rfl) ?_
  simp only [Act.put, List.setIfInBounds_toArray, List.set_cons_zero, List.set_cons_succ, List.getElem_toArray, List.getElem_cons_zero, List.getElem_cons_succ]
  refine list_call 27 #[.slice ya 6 yc, .slice na 6 nc] (by kernel_rfl) (by kernel_rfl) ((same_ok (heldL D) (heldN_bb (unhide hDk) _) ya na 6 yc nc (by omega) _ (unhide hlx) (unhide hls)).mono ?_)
  rintro r t8 ⟨rfl, hg⟩
  refine ⟨_, rfl, ?_⟩
  replace hls := hide ((unhide hls).gr hg)
  replace hS := hide ((unhide hS).more hg)
  clear hg
  clear hlx
  simp only [Act.put, List.setIfInBounds_toArray, List.set_cons_zero, List.set_cons_succ, List.getElem_toArray, List.getElem_cons_zero, List.getElem_cons_succ]
  refine list_val (.bool false) (by kernel_rfl) (by kernel_rfl) ?_
  simp only [Act.put, List.setIfInBounds_toArray, List.set_cons_zero, List.set_cons_succ, List.getElem_toArray, List.getElem_cons_zero, List.getElem_cons_succ]
  refine list_val (.bool false) (by kernel_rfl) (by kernel_rfl) ?_
  simp only [Act.put, List.setIfInBounds_toArray, List.set_cons_zero, List.set_cons_succ, List.getElem_toArray, List.getElem_cons_zero, List.getElem_cons_succ]
  refine wpList_nil ?_
  clear hls hfa
  go_upto_region 18 with fail
  refine wp_region_lit ?_
  refine list_val (.pointer (some ⟨gs, 0, none⟩)) (by kernel_rfl) (by kernel_rfl) ?_
  simp only [Act.put, List.setIfInBounds_toArray, List.set_cons_zero, List.set_cons_succ, List.getElem_toArray, List.getElem_cons_zero, List.getElem_cons_succ]
  refine list_call 20 #[.pointer (some ⟨gs, 0, none⟩)] (by kernel_rfl) (by kernel_rfl) ((dpending_ok F2 gs m D (unhide hDk) (by omega) _ ((unhide hS).at_ (n := 2) rfl)).mono ?_)
  rintro r t9 ⟨vp, rfl, hOr, hg⟩
  refine ⟨_, rfl, ?_⟩
  have hf1 := hide (fun (p : Nat) (e : vp.ownBlock = some p) => (World.ownsRow.lt hOr.2 p e).1)
  obtain ⟨pv, cv, rfl, hpl⟩ := hOr.ls
  have e2 : (iv (D.pend.map fun x => (x.1 : Int))).length = pn := by rw [iv_len, List.length_map, unhide hpn]
  rw [e2] at hpl hOr ⊢
  have hfp := hide ((unhide hS).far (hOr.fr (Nat.le_refl _)))
  replace hpl := hide hpl
  clear hOr e2 hf1
  replace hS := hide ((unhide hS).more hg)
  clear hg
  simp only [Act.put, List.setIfInBounds_toArray, List.set_cons_zero, List.set_cons_succ, List.getElem_toArray, List.getElem_cons_zero, List.getElem_cons_succ]
  (refine wpList_step fun K hK => ?_; replace hK := hide hK; go_simp; refine unhide hK _ _ ?_; clear hK K)
  refine wpList_nil ?_
  go_upto_region 19 with fail
  refine wp_region_lit ?_
  refine list_val (.pointer (some ⟨gs, 0, none⟩)) (by kernel_rfl) (by kernel_rfl) ?_
  simp only [Act.put, List.setIfInBounds_toArray, List.set_cons_zero, List.set_cons_succ, List.getElem_toArray, List.getElem_cons_zero, List.getElem_cons_succ]
  refine list_call 19 #[.pointer (some ⟨gs, 0, none⟩)] (by kernel_rfl) (by kernel_rfl) ((dcopy_ok F2 gs m D (unhide hDk) (by omega) _ ((unhide hS).at_ (n := 2) rfl)).mono ?_)
  rintro r y1 ⟨gt, F4, rfl, hL, hF, hg⟩
  refine ⟨_, rfl, ?_⟩
  replace hfp := hide ((unhide hfp).add (F := F4) (g := gt) (D := D) hF (unhide hpl).low)
  replace hS := hide (show Ds w [(F0c, gd, (D.syncD.crashD [])), (F1b, ga, (D.crashD (List.replicate pn true))), (F2, gs, D), (F3b, gn, (D.crashD [])), (F4, gt, D)] y1 from (unhide hS).add hg hL hF)
  replace hfp : Hid (Far [(F0c, gd, (D.syncD.crashD [])), (F1b, ga, (D.crashD (List.replicate pn true))), (F2, gs, D), (F3b, gn, (D.crashD [])), (F4, gt, D)] pv) := hfp
  replace hpl := hide ((unhide hpl).gr hg)
  clear hL hF hg
  simp only [Act.put, List.setIfInBounds_toArray, List.set_cons_zero, List.set_cons_succ, List.getElem_toArray, List.getElem_cons_zero, List.getElem_cons_succ]
  (refine wpList_step fun K hK => ?_; replace hK := hide hK; go_simp; refine unhide hK _ _ ?_; clear hK K)
  refine wpList_nil ?_
  have hN1 := (unhide hDk).crash []
  have hN16 : (D.crashD []).safe.length = 6 := by rw [crash_len]; exact (unhide hsix).six
  replace hN1 := hide hN1; replace hN16 := hide hN16
  go_upto_region 20 with fail
  refine wp_region_lit ?_
  refine list_val (.pointer (some ⟨gn, 0, none⟩)) (by kernel_rfl) (by kernel_rfl) ?_
  simp only [Act.put, List.setIfInBounds_toArray, List.set_cons_zero, List.set_cons_succ, List.getElem_toArray, List.getElem_cons_zero, List.getElem_cons_succ]
  refine list_call 24 #[.pointer (some ⟨gn, 0, none⟩)] (by kernel_rfl) (by kernel_rfl) ((held_ok F3b gn m (D.crashD []) (unhide hN1) (by omega) _ ((unhide hS).at_ (n := 3) rfl)).mono ?_)
  rintro r y2 ⟨wa, wc, rfl, hwl, hfr, hg⟩
  refine ⟨_, rfl, ?_⟩
  rw [unhide hN16] at hwl ⊢
  have hfw := hide ((unhide hS).far hfr)
  replace hwl := hide hwl
  replace hpl := hide ((unhide hpl).gr hg)
  clear hfr
  replace hS := hide ((unhide hS).more hg)
  clear hg
  simp only [Act.put, List.setIfInBounds_toArray, List.set_cons_zero, List.set_cons_succ, List.getElem_toArray, List.getElem_cons_zero, List.getElem_cons_succ]
  (refine wpList_step fun K hK => ?_; replace hK := hide hK; go_simp; refine unhide hK _ _ ?_; clear hK K)
  refine wpList_nil ?_
  go_upto_region 21 with fail
  refine wp_region_lit ?_
  refine list_val (.pointer (some ⟨gs, 0, none⟩)) (by kernel_rfl) (by kernel_rfl) ?_
  simp only [Act.put, List.setIfInBounds_toArray, List.set_cons_zero, List.set_cons_succ, List.getElem_toArray, List.getElem_cons_zero, List.getElem_cons_succ]
  refine list_val (.slice ka kn kp) (by kernel_rfl) (by kernel_rfl) ?_
  simp only [Act.put, List.setIfInBounds_toArray, List.set_cons_zero, List.set_cons_succ, List.getElem_toArray, List.getElem_cons_zero, List.getElem_cons_succ]
  refine list_call 25 #[.pointer (some ⟨gs, 0, none⟩), .slice ka kn kp] (by kernel_rfl) (by kernel_rfl) ((dcrash_ok2 F2 gs m D (unhide hDk) (by omega) keep ka kn kp _ ((unhide hS).at_ (n := 2) rfl) ((unhide hK).gr (unhide hS).gr) ((unhide hkF).imp id (fun h => far_of ((unhide hS).old h) 2 rfl))).mono ?_)
  rintro r y3 ⟨F2b, rfl, hL1, hch⟩
  refine ⟨_, rfl, ?_⟩
  replace hwl := hide ((unhide hwl).chg hch (far_of (unhide hfw) 2 rfl))
  replace hpl := hide ((unhide hpl).chg hch (far_of (unhide hfp) 2 rfl))
  replace hS := hide (show Ds w [(F0c, gd, (D.syncD.crashD [])), (F1b, ga, (D.crashD (List.replicate pn true))), (F2b, gs, (D.crashD keep)), (F3b, gn, (D.crashD [])), (F4, gt, D)] y3 from (unhide hS).chg (n := 2) rfl hch hL1)
  clear hch hL1 hfw hfp
  simp only [Act.put, List.setIfInBounds_toArray, List.set_cons_zero, List.set_cons_succ, List.getElem_toArray, List.getElem_cons_zero, List.getElem_cons_succ]
  refine list_val (.bool false) (by kernel_rfl) (by kernel_rfl) ?_
  simp only [Act.put, List.setIfInBounds_toArray, List.set_cons_zero, List.set_cons_succ, List.getElem_toArray, List.getElem_cons_zero, List.getElem_cons_succ]
  refine list_val (.bool false) (by kernel_rfl) (by kernel_rfl) ?_
  simp only [Act.put, List.setIfInBounds_toArray, List.set_cons_zero, List.set_cons_succ, List.getElem_toArray, List.getElem_cons_zero, List.getElem_cons_succ]
  refine list_val (.pointer (some ⟨gt, 0, none⟩)) (by kernel_rfl) (by kernel_rfl) ?_
  simp only [Act.put, List.setIfInBounds_toArray, List.set_cons_zero, List.set_cons_succ, List.getElem_toArray, List.getElem_cons_zero, List.getElem_cons_succ]
  refine list_val (.bool false) (by kernel_rfl) (by kernel_rfl) ?_
  simp only [Act.put, List.setIfInBounds_toArray, List.set_cons_zero, List.set_cons_succ, List.getElem_toArray, List.getElem_cons_zero, List.getElem_cons_succ]
  refine list_val (.bool false) (by kernel_rfl) (by kernel_rfl) ?_
  simp only [Act.put, List.setIfInBounds_toArray, List.set_cons_zero, List.set_cons_succ, List.getElem_toArray, List.getElem_cons_zero, List.getElem_cons_succ]
  refine wpList_nil ?_
  have hS1 := (unhide hDk).crash keep
  have hS16 : (D.crashD keep).safe.length = 6 := by rw [crash_len]; exact (unhide hsix).six
  replace hS1 := hide hS1; replace hS16 := hide hS16
  go_upto_region 23 with fail
  refine wp_region_lit ?_
  refine list_val (.pointer (some ⟨gs, 0, none⟩)) (by kernel_rfl) (by kernel_rfl) ?_
  simp only [Act.put, List.setIfInBounds_toArray, List.set_cons_zero, List.set_cons_succ, List.getElem_toArray, List.getElem_cons_zero, List.getElem_cons_succ]
  refine list_call 24 #[.pointer (some ⟨gs, 0, none⟩)] (by kernel_rfl) (by kernel_rfl) ((held_ok F2b gs m (D.crashD keep) (unhide hS1) (by omega) _ ((unhide hS).at_ (n := 2) rfl)).mono ?_)
  rintro r v0 ⟨sa, sc, rfl, hgl, hfr, hg⟩
  refine ⟨_, rfl, ?_⟩
  rw [unhide hS16] at hgl ⊢
  replace hgl := hide hgl
  replace hpl := hide ((unhide hpl).gr hg)
  replace hwl := hide ((unhide hwl).gr hg)
  clear hfr
  replace hS := hide ((unhide hS).more hg)
  clear hg
  simp only [Act.put, List.setIfInBounds_toArray, List.set_cons_zero, List.set_cons_succ, List.getElem_toArray, List.getElem_cons_zero, List.getElem_cons_succ]
  (refine wpList_step fun K hK => ?_; replace hK := hide hK; go_simp; refine unhide hK _ _ ?_; clear hK K)
  refine wpList_nil ?_
  have hv0 : Hid (Gr v0 v0) := Gr.refl v0
  go_wp2_with fail
  go_loopw [99] (fun ix wr => ∃ i : Nat, i ≤ 6 ∧ ix = .int .i64 i ∧ Hid (Gr v0 wr)) (fun ix _ => 6 - (intOf ix).toNat)
  case atStart => exact ⟨0, by omega, rfl, hv0⟩
  case round =>
  clear hv0
  obtain ⟨i, hi6, rfl, hv⟩ := hrel
  by_cases hi : i < 6
  · skip
    have iI : (i : Int) < 6 := by omega
    go_upto_region 26 with fail
    refine wp_region_lit ?_
    refine list_val (.int .i64 (i : Int)) (by kernel_rfl) (by kernel_rfl) ?_
    simp only [Act.put, List.setIfInBounds_toArray, List.set_cons_zero, List.set_cons_succ, List.getElem_toArray, List.getElem_cons_zero, List.getElem_cons_succ]
    (refine wpList_step fun K hK => ?_; replace hK := hide hK; go_simp; refine unhide hK _ _ ?_; clear hK K)
    refine wpList_nil ?_
    rename_i K0_ hK0_
    refine hK0_ _ _ ?_
    refine wp_code_eq (c := rndCode) (by kernel_rfl) ?_
    refine safe_rnd v0 D m (unhide hDk) (by omega) (unhide hsix).six keep i hi gt F4 ((unhide hS).at_ (n := 4) rfl) pn (unhide hpn) pv cv (unhide hpl) sa sc (unhide hgl) wa wc (unhide hwl) _ (unhide hv) _ (by exact fun _ _ _ _ _ h => h) _ _ _ _ _ _ _ _ _ _ _ _ _ _ _ _ _ _ _ _ _ _ _ _ _ _ _ _ _ _ _ _ _ _ _ _ _ _ _ _ _ _ _ _ _ _ _ _ _ _ _ _ _ _ _ _ _ _ _ _ _ _ _ _ _ _ _ _ _ _ _ _ _ _ _ _ _ _ _ _ _ _ _ _ _ _ _ _ _ _ _ _ _ _ _ _ _ _ _ _ _ _ _ _ _ _ _ _ _ _ _ _ _ _ _ _ _ _ _ _ _ _ _ _ _ _ _ _ _ _ _ _ _ _ _ _ _ _ _ _ _ _ _ _ _ _ _ _ _ _ _ _ _ _ _ _ _ _ (fun e17 e18 e19 e20 e21 e22 e102 e103 e104 e105 e106 e107 e108 e109 e110 e111 e112 e113 e114 e115 e116 e117 e118 e119 e120 e121 e122 e123 e124 e125 e126 e127 e128 e129 e130 e131 e132 e133 e134 e135 e136 e137 e138 e139 e140 e141 e142 e143 e144 e145 e146 e147 e148 e149 e150 e151 e152 w9 hw9 => ?_)
    replace hw9 := hide hw9
    clear hv
    go_wp2_with fail
    go_roundw
    case rel => exact ⟨_, _, _, _, _, _, _, _, _, _, _, _, _, _, _, _, _, _, _, _, _, _, _, _, _, _, _, _, _, _, _, _, _, _, _, _, _, _, _, _, _, _, _, _, _, _, _, _, _, _, _, _, _, _, _, _, _, _, _, _, _, _, _, ⟨i + 1, by omega, by go_num, hw9⟩, rfl⟩
    case measure =>
      show 6 - (intOf (.int .i64 ((i : Int) + 1))).toNat < 6 - (intOf (.int .i64 (i : Int))).toNat
      simp [intOf]; omega
  have iI : ¬ (i : Int) < 6 := by omega
  replace hS := hide ((unhide hS).more (unhide hv))
  clear hv hpl hgl hwl
  go_upto_region 41 with fail
  refine wp_region_lit ?_
  refine list_val (.pointer (some ⟨gs, 0, none⟩)) (by kernel_rfl) (by kernel_rfl) ?_
  simp only [Act.put, List.setIfInBounds_toArray, List.set_cons_zero, List.set_cons_succ, List.getElem_toArray, List.getElem_cons_zero, List.getElem_cons_succ]
  refine list_call 20 #[.pointer (some ⟨gs, 0, none⟩)] (by kernel_rfl) (by kernel_rfl) ((dpending_ok F2b gs m (D.crashD keep) (unhide hS1) (by omega) _ ((unhide hS).at_ (n := 2) rfl)).mono ?_)
  rintro r q1 ⟨vp, rfl, hOr, hg⟩
  refine ⟨_, rfl, ?_⟩
  obtain ⟨qv, qc, rfl, -⟩ := hOr.ls
  have e2 : (iv ((D.crashD keep).pend.map fun x => (x.1 : Int))).length = 0 := rfl
  rw [e2]
  clear hOr e2
  replace hS := hide ((unhide hS).more hg)
  clear hg
  simp only [Act.put, List.setIfInBounds_toArray, List.set_cons_zero, List.set_cons_succ, List.getElem_toArray, List.getElem_cons_zero, List.getElem_cons_succ]
  refine list_val (.int .i64 0) (by kernel_rfl) (by kernel_rfl) ?_
  simp only [Act.put, List.setIfInBounds_toArray, List.set_cons_zero, List.set_cons_succ, List.getElem_toArray, List.getElem_cons_zero, List.getElem_cons_succ]
  refine list_val (.bool true) (by kernel_rfl) (by kernel_rfl) ?_
  simp only [Act.put, List.setIfInBounds_toArray, List.set_cons_zero, List.set_cons_succ, List.getElem_toArray, List.getElem_cons_zero, List.getElem_cons_succ]
  refine list_val (.bool true) (by kernel_rfl) (by kernel_rfl) ?_
  simp only [Act.put, List.setIfInBounds_toArray, List.set_cons_zero, List.set_cons_succ, List.getElem_toArray, List.getElem_cons_zero, List.getElem_cons_succ]
  refine list_val (.pointer (some ⟨gs, 0, none⟩)) (by kernel_rfl) (by kernel_rfl) ?_
  simp only [Act.put, List.setIfInBounds_toArray, List.set_cons_zero, List.set_cons_succ, List.getElem_toArray, List.getElem_cons_zero, List.getElem_cons_succ]
  refine list_call 21 #[.pointer (some ⟨gs, 0, none⟩)] (by kernel_rfl) (by kernel_rfl) ((ddead_ok F2b gs m (D.crashD keep) (unhide hS1) (by omega) _ ((unhide hS).at_ (n := 2) rfl)).mono ?_)
  rintro r q2 ⟨rfl, hg⟩
  refine ⟨_, rfl, ?_⟩
  rw [show (D.crashD keep).dead = false from rfl]
  replace hS := hide ((unhide hS).more hg)
  clear hg
  simp only [Act.put, List.setIfInBounds_toArray, List.set_cons_zero, List.set_cons_succ, List.getElem_toArray, List.getElem_cons_zero, List.getElem_cons_succ]
  refine list_val (.bool true) (by kernel_rfl) (by kernel_rfl) ?_
  simp only [Act.put, List.setIfInBounds_toArray, List.set_cons_zero, List.set_cons_succ, List.getElem_toArray, List.getElem_cons_zero, List.getElem_cons_succ]
  refine list_val (.bool true) (by kernel_rfl) (by kernel_rfl) ?_
  simp only [Act.put, List.setIfInBounds_toArray, List.set_cons_zero, List.set_cons_succ, List.getElem_toArray, List.getElem_cons_zero, List.getElem_cons_succ]
  (refine wpList_step fun K hK => ?_; replace hK := hide hK; go_simp; refine unhide hK _ _ ?_; clear hK K)
  refine wpList_nil ?_
  have hP : Hid (Gr w _) := (unhide hS).gr
  clear hS
  go_wp2_with fail
  rw [unhide hT]
  exact ⟨rfl, unhide hP⟩
end Go.Proofs.Ythgchjdjacbcgaa
