/-
  An armed disk does as one that is not, till the power goes: the walk of DiskArmed.
-/
import Derived.Test.YthgchjdjacbcgaaArmedRest
namespace Go.Proofs.Ythgchjdjacbcgaa
open Go.RowKit
set_option maxRecDepth 100000
set_option linter.unusedSimpArgs false
set_option linter.unusedVariables false
set_option maxHeartbeats 4000000 in
theorem armed_law (l : List Opl) (a : Option Addr) (n c : Nat) (n0 : Int) (w : World) (hl : Los w a n c l) : Calls Try.prog 7 #[.slice a n c, .int .i64 n0] w (Woke w) := by
  obtain ⟨T, hT⟩ : ∃ T, T = Woke w := ⟨_, rfl⟩
  rw [← hT]
  replace hT := hide hT
  have hcap := hl.cap
  replace hl := hide hl
  go_enter Try.func7, Try.ntmps7
  go_upto_region 1 with fail
  refine wp_region_lit ?_
  refine list_call 9 #[] (by kernel_rfl) (by kernel_rfl) ((wakes_ok _).mono ?_)
  rintro r v ⟨rfl, hG⟩
  refine ⟨_, rfl, ?_⟩
  simp only [Act.put, List.setIfInBounds_toArray, List.set_cons_zero, List.set_cons_succ, List.getElem_toArray, List.getElem_cons_zero, List.getElem_cons_succ]
  refine list_val (.bool false) (by kernel_rfl) (by kernel_rfl) ?_
  simp only [Act.put, List.setIfInBounds_toArray, List.set_cons_zero, List.set_cons_succ, List.getElem_toArray, List.getElem_cons_zero, List.getElem_cons_succ]
  refine wpList_nil ?_
  replace hG := hide hG
  obtain ⟨n1, hn1⟩ : ∃ n1 : Int, n1 = if n0 < 0 then 0 else n0 := ⟨_, rfl⟩
  have hn1p : 0 ≤ n1 := by rw [hn1]; split <;> omega
  obtain ⟨nn, hnn⟩ : ∃ k : Nat, (k : Int) = n1 % 40 := ⟨(n1 % 40).toNat, by omega⟩
  have hn40 : nn < 40 := by omega
  have e1 : Int.tmod n1 40 = (nn : Int) := by rw [Int.tmod_eq_emod_of_nonneg hn1p]; omega
  replace hn1 := hide hn1; replace hnn := hide hnn
  go_upto_region 3 with fail
  refine wp_region_lit ?_
  refine list_val (.int .i64 n0) (by kernel_rfl) (by kernel_rfl) ?_
  simp only [Act.put, List.setIfInBounds_toArray, List.set_cons_zero, List.set_cons_succ, List.getElem_toArray, List.getElem_cons_zero, List.getElem_cons_succ]
  refine list_val (.int .i64 n1) (by kernel_rfl) (by rw [unhide hn1]; go_simp) ?_
  simp only [Act.put, List.setIfInBounds_toArray, List.set_cons_zero, List.set_cons_succ, List.getElem_toArray, List.getElem_cons_zero, List.getElem_cons_succ]
  refine list_val (.int .i64 (nn : Int)) (by kernel_rfl) (by go_simp) ?_
  simp only [Act.put, List.setIfInBounds_toArray, List.set_cons_zero, List.set_cons_succ, List.getElem_toArray, List.getElem_cons_zero, List.getElem_cons_succ]
  (refine wpList_step fun K hK => ?_; replace hK := hide hK; go_simp; refine unhide hK _ _ ?_; clear hK K)
  refine wpList_nil ?_
  replace e1 := hide e1; replace hn1p := hide hn1p
  go_upto_region 4 with fail
  refine wp_region_lit ?_
  refine list_call 23 #[.slice none 0 0] (by kernel_rfl) (by kernel_rfl) ((worn_nil _).mono ?_)
  rintro r u1 ⟨ga, F, rfl, hL, hF, hg⟩
  refine ⟨_, rfl, ?_⟩
  have hS : Ds w [(F, ga, dk0 6)] u1 := (Ds.nil (unhide hG)).add hg hL hF
  clear hG hL hF hg
  simp only [Act.put, List.setIfInBounds_toArray, List.set_cons_zero, List.set_cons_succ, List.getElem_toArray, List.getElem_cons_zero, List.getElem_cons_succ]
  refine list_call 23 #[.slice none 0 0] (by kernel_rfl) (by kernel_rfl) ((worn_nil _).mono ?_)
  rintro r u2 ⟨gb, G, rfl, hL, hF, hg⟩
  refine ⟨_, rfl, ?_⟩
  replace hS : Ds w [(F, ga, dk0 6), (G, gb, dk0 6)] u2 := hS.add hg hL hF
  clear hL hF hg
  simp only [Act.put, List.setIfInBounds_toArray, List.set_cons_zero, List.set_cons_succ, List.getElem_toArray, List.getElem_cons_zero, List.getElem_cons_succ]
  (refine wpList_step fun K hK => ?_; replace hK := hide hK; go_simp; refine unhide hK _ _ ?_; clear hK K)
  (refine wpList_step fun K hK => ?_; replace hK := hide hK; go_simp; refine unhide hK _ _ ?_; clear hK K)
  refine wpList_nil ?_
  replace hS := hide hS
  have hD0 := hide (dk0_ok 6 (by omega) (by omega))
  go_upto_region 5 with fail
  refine wp_region_lit ?_
  refine list_val (.pointer (some ⟨ga, 0, none⟩)) (by kernel_rfl) (by kernel_rfl) ?_
  simp only [Act.put, List.setIfInBounds_toArray, List.set_cons_zero, List.set_cons_succ, List.getElem_toArray, List.getElem_cons_zero, List.getElem_cons_succ]
  refine list_val (.bool false) (by kernel_rfl) (by kernel_rfl) ?_
  simp only [Act.put, List.setIfInBounds_toArray, List.set_cons_zero, List.set_cons_succ, List.getElem_toArray, List.getElem_cons_zero, List.getElem_cons_succ]
  refine list_val (.bool false) (by kernel_rfl) (by kernel_rfl) ?_
  simp only [Act.put, List.setIfInBounds_toArray, List.set_cons_zero, List.set_cons_succ, List.getElem_toArray, List.getElem_cons_zero, List.getElem_cons_succ]
  refine list_val (.pointer (some ⟨gb, 0, none⟩)) (by kernel_rfl) (by kernel_rfl) ?_
  simp only [Act.put, List.setIfInBounds_toArray, List.set_cons_zero, List.set_cons_succ, List.getElem_toArray, List.getElem_cons_zero, List.getElem_cons_succ]
  refine list_val (.bool false) (by kernel_rfl) (by kernel_rfl) ?_
  simp only [Act.put, List.setIfInBounds_toArray, List.set_cons_zero, List.set_cons_succ, List.getElem_toArray, List.getElem_cons_zero, List.getElem_cons_succ]
  refine list_val (.bool false) (by kernel_rfl) (by kernel_rfl) ?_
  simp only [Act.put, List.setIfInBounds_toArray, List.set_cons_zero, List.set_cons_succ, List.getElem_toArray, List.getElem_cons_zero, List.getElem_cons_succ]
  refine list_val (.bool false) (by kernel_rfl) (by kernel_rfl) ?_
  simp only [Act.put, List.setIfInBounds_toArray, List.set_cons_zero, List.set_cons_succ, List.getElem_toArray, List.getElem_cons_zero, List.getElem_cons_succ]
  refine list_val (.pointer (some ⟨ga, 0, none⟩)) (by kernel_rfl) (by kernel_rfl) ?_
  simp only [Act.put, List.setIfInBounds_toArray, List.set_cons_zero, List.set_cons_succ, List.getElem_toArray, List.getElem_cons_zero, List.getElem_cons_succ]
  refine list_val (.int .i64 (nn : Int)) (by kernel_rfl) (by kernel_rfl) ?_
  simp only [Act.put, List.setIfInBounds_toArray, List.set_cons_zero, List.set_cons_succ, List.getElem_toArray, List.getElem_cons_zero, List.getElem_cons_succ]
  refine list_call 28 #[.pointer (some ⟨ga, 0, none⟩), .int .i64 (nn : Int)] (by kernel_rfl) (by kernel_rfl) ((darm_ok F ga 0 (dk0 6) (unhide hD0) (by omega) (nn : Int) (by omega) (by omega) _ ((unhide hS).at_ (n := 0) rfl)).mono ?_)
  rintro r u3 ⟨F1, rfl, hL1, hch⟩
  refine ⟨_, rfl, ?_⟩
  rw [arm_zero] at hL1
  replace hS := hide (show Ds w [(F1, ga, arm (dk0 6) nn), (G, gb, dk0 6)] u3 from (unhide hS).chg (n := 0) rfl hch hL1)
  rw [show (dk0 6).armE = 0 from rfl]
  clear hch hL1
  simp only [Act.put, List.setIfInBounds_toArray, List.set_cons_zero, List.set_cons_succ, List.getElem_toArray, List.getElem_cons_zero, List.getElem_cons_succ]
  refine list_val (.bool false) (by kernel_rfl) (by kernel_rfl) ?_
  simp only [Act.put, List.setIfInBounds_toArray, List.set_cons_zero, List.set_cons_succ, List.getElem_toArray, List.getElem_cons_zero, List.getElem_cons_succ]
  refine list_val (.bool false) (by kernel_rfl) (by kernel_rfl) ?_
  simp only [Act.put, List.setIfInBounds_toArray, List.set_cons_zero, List.set_cons_succ, List.getElem_toArray, List.getElem_cons_zero, List.getElem_cons_succ]
  refine wpList_nil ?_
  go_upto_region 8 with fail
  refine wp_region_lit ?_
  refine list_val (.slice a n c) (by kernel_rfl) (by kernel_rfl) ?_
  simp only [Act.put, List.setIfInBounds_toArray, List.set_cons_zero, List.set_cons_succ, List.getElem_toArray, List.getElem_cons_zero, List.getElem_cons_succ]
  refine list_call 12 #[.slice a n c] (by kernel_rfl) (by kernel_rfl) ((few_ok a n c hcap _).mono ?_)
  rintro r u_ ⟨m, rfl, hm, hu⟩
  refine ⟨_, rfl, ?_⟩
  replace hu := hu.symm
  subst hu
  have hlf := hide ((unhide hl).few hm)
  have hm120 : m ≤ 120 := by omega
  replace hm := hide hm
  simp only [Act.put, List.setIfInBounds_toArray, List.set_cons_zero, List.set_cons_succ, List.getElem_toArray, List.getElem_cons_zero, List.getElem_cons_succ]
  refine list_val (.int .i64 m) (by kernel_rfl) (by kernel_rfl) ?_
  simp only [Act.put, List.setIfInBounds_toArray, List.set_cons_zero, List.set_cons_succ, List.getElem_toArray, List.getElem_cons_zero, List.getElem_cons_succ]
  refine list_val (.int .i64 0) (by kernel_rfl) (by kernel_rfl) ?_
  simp only [Act.put, List.setIfInBounds_toArray, List.set_cons_zero, List.set_cons_succ, List.getElem_toArray, List.getElem_cons_zero, List.getElem_cons_succ]
  refine wpList_nil ?_
  obtain ⟨l2, hl2⟩ : ∃ x, x = l.take 120 := ⟨_, rfl⟩
  rw [← hl2] at hlf
  have hok := hide (unhide hlf).ok
  have hI0 : Hid (Six (dk0 6) ∧ (dk0 6).Ok 0 ∧ (dk0 6).ops ≤ nn ∧ ∃ F G, Ds w [(F, ga, arm (dk0 6) nn), (G, gb, (dk0 6))] u3) := ⟨⟨rfl, rfl, rfl⟩, unhide hD0, Nat.zero_le _, F1, G, unhide hS⟩
  replace hl2 := hide hl2
  clear hS hD0
  go_wp2_with fail
  go_loopw [7, 44] (fun dn i wr => ∃ (j : Nat) (B : Dk), j ≤ m ∧ i = .int .i64 j ∧ dn = .int .i64 (B.ops : Int) ∧ Hid (Six B ∧ B.Ok j ∧ B.ops ≤ nn ∧ ∃ F G, Ds w [(F, ga, arm B nn), (G, gb, B)] wr)) (fun _ i _ => m - (intOf i).toNat)
  case atStart => exact ⟨0, dk0 6, by omega, rfl, rfl, hI0⟩
  case round =>
  clear hI0
  obtain ⟨j, B, hj, rfl, rfl, hIj⟩ := hrel
  by_cases hjl : j < m
  · skip
    have jI : (j : Int) < (m : Int) := by omega
    obtain ⟨p, o, ka, kn, kp, rfl, hrw, hkp, hqo⟩ := (unhide hlf).at_ j hjl
    generalize l2.getD j op0 = q at *
    obtain ⟨hsix, hBk, hnB, F, G, hS⟩ := unhide hIj
    clear hIj
    have hAk := arm_ok hBk hnB (by omega)
    have hDq := hAk.op q hqo
    replace hrw := hide hrw; replace hkp := hide hkp; replace hqo := hide hqo; replace hsix := hide hsix; replace hBk := hide hBk; replace hAk := hide hAk; replace hS := hide hS
    go_upto_region 10 with fail
    have hB := Bl.nil wr
    refine wp_region_lit ?_
    refine list_val (.pointer (some ⟨p, o + 4 * j, none⟩)) (by kernel_rfl) (exec_io _ (.tmp 42) (.tmp 44) rfl p o m c j rfl rfl hjl) ?_
    simp only [Act.put, List.setIfInBounds_toArray, List.set_cons_zero, List.set_cons_succ, List.getElem_toArray, List.getElem_cons_zero, List.getElem_cons_succ]
    refine list_val (.agg (opv q ka kn kp)) (by kernel_rfl) (exec_lop _ (.tmp 46) rfl p (o + 4 * j) (by kernel_rfl) q ka kn kp (range_gr (unhide hrw) (unhide hS).gr)) ?_
    simp only [Act.put, List.setIfInBounds_toArray, List.set_cons_zero, List.set_cons_succ, List.getElem_toArray, List.getElem_cons_zero, List.getElem_cons_succ]
    refine list_valw (.pointer (some ⟨wr.heap.size, 0, none⟩)) (wr.alloc (.cells (opv op0 none 0 0) 37 (0, 0))) (by kernel_rfl) (by kernel_rfl) ?_
    replace hB := hB.new (opv op0 none 0 0) 37
    simp only [List.nil_append, List.cons_append] at hB
    generalize World.alloc _ _ = v1 at *
    generalize wr.heap.size = go at *
    replace hB : Bl wr [⟨go, opv op0 none 0 0, 37⟩] v1 := hB
    simp only [Act.put, List.setIfInBounds_toArray, List.set_cons_zero, List.set_cons_succ, List.getElem_toArray, List.getElem_cons_zero, List.getElem_cons_succ]
    refine list_store 37 (.tmp 9) (.tmp 47) go (opv q ka kn kp) 37 (opv op0 none 0 0) (by kernel_rfl) rfl (by kernel_rfl) (by kernel_rfl) (hB.get 0 (x := ⟨go, opv op0 none 0 0, 37⟩) rfl) (by rw [Try.infoO]; rfl) rfl (opv_one ..) ?_
    replace hB := hB.set 0 (x := ⟨go, opv op0 none 0 0, 37⟩) rfl (opv q ka kn kp)
    simp only [List.set_cons_zero, List.set_cons_succ] at hB
    generalize World.setRow _ _ _ = v2 at *
    replace hB : Bl wr [⟨go, opv q ka kn kp, 37⟩] v2 := hB
    simp only [Act.put, List.setIfInBounds_toArray, List.set_cons_zero, List.set_cons_succ, List.getElem_toArray, List.getElem_cons_zero, List.getElem_cons_succ]
    refine wpList_nil ?_
    have hO := (hB.get 0 (x := ⟨go, opv q ka kn kp, 37⟩) rfl)
    dsimp only at hO
    have hoF : go ∉ F := fun hm => by have h1 := ((unhide hS).at_ (n := 0) rfl : Lies F ga (arm B nn) wr).lt _ hm; have h2 := hB.own 0 (x := ⟨go, opv q ka kn kp, 37⟩) rfl; dsimp only at h2; omega
    replace hO := hide hO
    replace hS := hide ((unhide hS).more hB.gr)
    obtain ⟨kk, hkk⟩ : ∃ kk, kk = q.k := ⟨_, rfl⟩
    replace hkk := hide hkk
    clear hB
    go_upto_region 11 with fail
    by_cases hk3 : 2 < kk
    · skip
      refine wp_region_lit ?_
      refine list_val (.agg (opv q ka kn kp)) (by kernel_rfl) (exec_arr _ 37 (.tmp 9) rfl go (by kernel_rfl) (opv q ka kn kp) 37 _ (unhide hO) Try.underlying37 rfl (by rw [Try.infoO]; rfl)) ?_
      simp only [Act.put, List.setIfInBounds_toArray, List.set_cons_zero, List.set_cons_succ, List.getElem_toArray, List.getElem_cons_zero, List.getElem_cons_succ]
      refine list_call 29 #[.agg (opv q ka kn kp)] (by kernel_rfl) (by kernel_rfl) ((kind_ok q (unhide hqo) ka kn kp _).mono ?_)
      rintro r v3 ⟨rfl, hg⟩
      refine ⟨_, rfl, ?_⟩
      rw [← unhide hkk]
      replace hS := hide ((unhide hS).more hg)
      replace hO := hide (hg.blk (unhide hO))
      clear hg
      simp only [Act.put, List.setIfInBounds_toArray, List.set_cons_zero, List.set_cons_succ, List.getElem_toArray, List.getElem_cons_zero, List.getElem_cons_succ]
      refine list_val (.bool true) (by kernel_rfl) (by have h : (2 : Int) < (kk : Int) := (by omega); go_simp) ?_
      simp only [Act.put, List.setIfInBounds_toArray, List.set_cons_zero, List.set_cons_succ, List.getElem_toArray, List.getElem_cons_zero, List.getElem_cons_succ]
      refine wpList_nil ?_
      have hI1 : Hid (Six B ∧ B.Ok (j + 1) ∧ B.ops ≤ nn ∧ ∃ F G, Ds w [(F, ga, arm B nn), (G, gb, B)] v3) := ⟨unhide hsix, (unhide hBk).up (by omega), hnB, F, G, unhide hS⟩
      clear hS hO
      go_wp2_with fail
      go_roundw
      case rel => exact ⟨j + 1, B, by omega, by go_num, rfl, hI1⟩
      case measure => simp [intOf]; omega
    refine wp_region_lit ?_
    refine list_val (.agg (opv q ka kn kp)) (by kernel_rfl) (exec_arr _ 37 (.tmp 9) rfl go (by kernel_rfl) (opv q ka kn kp) 37 _ (unhide hO) Try.underlying37 rfl (by rw [Try.infoO]; rfl)) ?_
    simp only [Act.put, List.setIfInBounds_toArray, List.set_cons_zero, List.set_cons_succ, List.getElem_toArray, List.getElem_cons_zero, List.getElem_cons_succ]
    refine list_call 29 #[.agg (opv q ka kn kp)] (by kernel_rfl) (by kernel_rfl) ((kind_ok q (unhide hqo) ka kn kp _).mono ?_)
    rintro r v3 ⟨rfl, hg⟩
    refine ⟨_, rfl, ?_⟩
    rw [← unhide hkk]
    replace hS := hide ((unhide hS).more hg)
    replace hO := hide (hg.blk (unhide hO))
    clear hg
    simp only [Act.put, List.setIfInBounds_toArray, List.set_cons_zero, List.set_cons_succ, List.getElem_toArray, List.getElem_cons_zero, List.getElem_cons_succ]
    refine list_val (.bool false) (by kernel_rfl) (by have h : ¬ (2 : Int) < (kk : Int) := (by omega); go_simp) ?_
    simp only [Act.put, List.setIfInBounds_toArray, List.set_cons_zero, List.set_cons_succ, List.getElem_toArray, List.getElem_cons_zero, List.getElem_cons_succ]
    refine wpList_nil ?_
    go_upto_region 12 with fail
    refine wp_region_lit ?_
    refine list_val (.pointer (some ⟨gb, 0, none⟩)) (by kernel_rfl) (by kernel_rfl) ?_
    simp only [Act.put, List.setIfInBounds_toArray, List.set_cons_zero, List.set_cons_succ, List.getElem_toArray, List.getElem_cons_zero, List.getElem_cons_succ]
    refine list_call 22 #[.pointer (some ⟨gb, 0, none⟩)] (by kernel_rfl) (by kernel_rfl) ((dops_ok G gb j B (unhide hBk) (by omega) _ ((unhide hS).at_ (n := 1) rfl)).mono ?_)
    rintro r v4 ⟨rfl, hg⟩
    refine ⟨_, rfl, ?_⟩
    replace hS := hide ((unhide hS).more hg)
    replace hO := hide (hg.blk (unhide hO))
    clear hg
    simp only [Act.put, List.setIfInBounds_toArray, List.set_cons_zero, List.set_cons_succ, List.getElem_toArray, List.getElem_cons_zero, List.getElem_cons_succ]
    (refine wpList_step fun K hK => ?_; replace hK := hide hK; go_simp; refine unhide hK _ _ ?_; clear hK K)
    refine wpList_nil ?_
    go_upto_region 13 with fail
    by_cases h1 : B.ops = nn
    · skip
      by_cases h2 : 0 < kk
      · skip
        by_cases h3 : kk = 2
        · skip
          refine wp_region_lit ?_
          refine list_val (.int .i64 (B.ops : Int)) (by kernel_rfl) (by kernel_rfl) ?_
          simp only [Act.put, List.setIfInBounds_toArray, List.set_cons_zero, List.set_cons_succ, List.getElem_toArray, List.getElem_cons_zero, List.getElem_cons_succ]
          refine list_val (.int .i64 (nn : Int)) (by kernel_rfl) (by kernel_rfl) ?_
          simp only [Act.put, List.setIfInBounds_toArray, List.set_cons_zero, List.set_cons_succ, List.getElem_toArray, List.getElem_cons_zero, List.getElem_cons_succ]
          refine list_val (.bool true) (by kernel_rfl) (by have h : (B.ops : Int) = (nn : Int) := (by omega); go_simp) ?_
          simp only [Act.put, List.setIfInBounds_toArray, List.set_cons_zero, List.set_cons_succ, List.getElem_toArray, List.getElem_cons_zero, List.getElem_cons_succ]
          refine list_val (.bool true) (by kernel_rfl) (by kernel_rfl) ?_
          simp only [Act.put, List.setIfInBounds_toArray, List.set_cons_zero, List.set_cons_succ, List.getElem_toArray, List.getElem_cons_zero, List.getElem_cons_succ]
          refine list_val (.agg (opv q ka kn kp)) (by kernel_rfl) (exec_arr _ 37 (.tmp 9) rfl go (by kernel_rfl) (opv q ka kn kp) 37 _ (unhide hO) Try.underlying37 rfl (by rw [Try.infoO]; rfl)) ?_
          simp only [Act.put, List.setIfInBounds_toArray, List.set_cons_zero, List.set_cons_succ, List.getElem_toArray, List.getElem_cons_zero, List.getElem_cons_succ]
          refine list_call 29 #[.agg (opv q ka kn kp)] (by kernel_rfl) (by kernel_rfl) ((kind_ok q (unhide hqo) ka kn kp _).mono ?_)
          rintro r v5 ⟨rfl, hg⟩
          refine ⟨_, rfl, ?_⟩
          rw [← unhide hkk]
          replace hS := hide ((unhide hS).more hg)
          replace hO := hide (hg.blk (unhide hO))
          clear hg
          simp only [Act.put, List.setIfInBounds_toArray, List.set_cons_zero, List.set_cons_succ, List.getElem_toArray, List.getElem_cons_zero, List.getElem_cons_succ]
          refine list_val (.bool true) (by kernel_rfl) (by have h : (0 : Int) < (kk : Int) := (by omega); go_simp) ?_
          simp only [Act.put, List.setIfInBounds_toArray, List.set_cons_zero, List.set_cons_succ, List.getElem_toArray, List.getElem_cons_zero, List.getElem_cons_succ]
          refine list_val (.bool true) (by kernel_rfl) (by kernel_rfl) ?_
          simp only [Act.put, List.setIfInBounds_toArray, List.set_cons_zero, List.set_cons_succ, List.getElem_toArray, List.getElem_cons_zero, List.getElem_cons_succ]
          refine list_val (.bool true) (by kernel_rfl) (by kernel_rfl) ?_
          simp only [Act.put, List.setIfInBounds_toArray, List.set_cons_zero, List.set_cons_succ, List.getElem_toArray, List.getElem_cons_zero, List.getElem_cons_succ]
          refine list_val (.agg (opv q ka kn kp)) (by kernel_rfl) (exec_arr _ 37 (.tmp 9) rfl go (by kernel_rfl) (opv q ka kn kp) 37 _ (unhide hO) Try.underlying37 rfl (by rw [Try.infoO]; rfl)) ?_
          simp only [Act.put, List.setIfInBounds_toArray, List.set_cons_zero, List.set_cons_succ, List.getElem_toArray, List.getElem_cons_zero, List.getElem_cons_succ]
          refine list_call 29 #[.agg (opv q ka kn kp)] (by kernel_rfl) (by kernel_rfl) ((kind_ok q (unhide hqo) ka kn kp _).mono ?_)
          rintro r v6 ⟨rfl, hg⟩
          refine ⟨_, rfl, ?_⟩
          rw [← unhide hkk]
          replace hS := hide ((unhide hS).more hg)
          replace hO := hide (hg.blk (unhide hO))
          clear hg
          simp only [Act.put, List.setIfInBounds_toArray, List.set_cons_zero, List.set_cons_succ, List.getElem_toArray, List.getElem_cons_zero, List.getElem_cons_succ]
          refine list_val (.bool true) (by kernel_rfl) (by have h : (kk : Int) = 2 := (by omega); go_simp) ?_
          simp only [Act.put, List.setIfInBounds_toArray, List.set_cons_zero, List.set_cons_succ, List.getElem_toArray, List.getElem_cons_zero, List.getElem_cons_succ]
          refine list_val_offs 8 (.bool true) (by kernel_rfl) (by kernel_rfl) (by kernel_rfl) ?_
          simp only [List.drop_succ_cons, List.drop_zero, List.take_succ_cons, List.take_zero, putU]
          simp only [Act.put, List.setIfInBounds_toArray, List.set_cons_zero, List.set_cons_succ, List.getElem_toArray, List.getElem_cons_zero, List.getElem_cons_succ]
          refine list_val (.bool true) (by kernel_rfl) (by kernel_rfl) ?_
          simp only [Act.put, List.setIfInBounds_toArray, List.set_cons_zero, List.set_cons_succ, List.getElem_toArray, List.getElem_cons_zero, List.getElem_cons_succ]
          refine list_val (.bool true) (by kernel_rfl) (by kernel_rfl) ?_
          simp only [Act.put, List.setIfInBounds_toArray, List.set_cons_zero, List.set_cons_succ, List.getElem_toArray, List.getElem_cons_zero, List.getElem_cons_succ]
          refine wpList_nil ?_
          have hc : Hid ((B.ops = nn ∧ 0 < kk ∧ (kk = 2 ∨ (0 ≤ q.at_ ∧ q.at_ < 6)))) := by show (B.ops = nn ∧ 0 < kk ∧ (kk = 2 ∨ (0 ≤ q.at_ ∧ q.at_ < 6))); omega
          clear h1
          clear h2
          clear h3
          rename_i K1_ hK1_ K0_ hK0_
          refine hK0_ _ _ ?_
          refine wp_cond_true rfl ?_
          refine wp_code_eq (c := onCode) (by kernel_rfl) ?_
          exact armed_on w nn hn40 B j (by omega) F G ga gb go q ka kn kp kk (unhide hsix) (unhide hBk) (unhide hAk) hnB (unhide hqo) (unhide hkk) hk3 _ (unhide hS) (unhide hkp) hoF (unhide hO) _ (unhide hc) (fun t w' hg ht => by
            show bodyPost Try.prog Try.f7 T .ret ⟨t, []⟩ w'
            exact bodyPost_ret (v := .bool true) (by rw [results_tmp Try.results7, ht]) rfl (by rw [unhide hT]; exact ⟨rfl, hg⟩)) _ _ _ _ _ _ _ _ _ _ _ _ _ _ _ _ _ _ _ _ _ _ _ _ _ _ _ _ _ _ _ _ _ _ _ _ _ _ _ _ _ _ _ _ _ _ _ _ _ _ _ _ _ _ _ _ _ _ _ _ _ _ _ _ _ _ _ _ _ _ _ _ _ _ _ _ _ _ _ _ _ _ _ _ _ _ _ _ _ _ _ _ _ _ _ _ _ _ _ _ _ _ _ _ _ _ _ _ _ _ _ _ _ _ _ _ _ _ _ _ _ _ _ _ _ _ _ _ _ _ _ _ _ _ _ _ _ _ _ _ _ _ _ _ _ _ _ _ _ _ _ _ _ _ _ _ _ _ _ _ _ _ _ _ _ _ _ _ _ _ _ _ _ _
        by_cases h4 : 0 ≤ q.at_
        · skip
          by_cases h5 : q.at_ < 6
          · skip
            refine wp_region_lit ?_
            refine list_val (.int .i64 (B.ops : Int)) (by kernel_rfl) (by kernel_rfl) ?_
            simp only [Act.put, List.setIfInBounds_toArray, List.set_cons_zero, List.set_cons_succ, List.getElem_toArray, List.getElem_cons_zero, List.getElem_cons_succ]
            refine list_val (.int .i64 (nn : Int)) (by kernel_rfl) (by kernel_rfl) ?_
            simp only [Act.put, List.setIfInBounds_toArray, List.set_cons_zero, List.set_cons_succ, List.getElem_toArray, List.getElem_cons_zero, List.getElem_cons_succ]
            refine list_val (.bool true) (by kernel_rfl) (by have h : (B.ops : Int) = (nn : Int) := (by omega); go_simp) ?_
            simp only [Act.put, List.setIfInBounds_toArray, List.set_cons_zero, List.set_cons_succ, List.getElem_toArray, List.getElem_cons_zero, List.getElem_cons_succ]
            refine list_val (.bool true) (by kernel_rfl) (by kernel_rfl) ?_
            simp only [Act.put, List.setIfInBounds_toArray, List.set_cons_zero, List.set_cons_succ, List.getElem_toArray, List.getElem_cons_zero, List.getElem_cons_succ]
            refine list_val (.agg (opv q ka kn kp)) (by kernel_rfl) (exec_arr _ 37 (.tmp 9) rfl go (by kernel_rfl) (opv q ka kn kp) 37 _ (unhide hO) Try.underlying37 rfl (by rw [Try.infoO]; rfl)) ?_
            simp only [Act.put, List.setIfInBounds_toArray, List.set_cons_zero, List.set_cons_succ, List.getElem_toArray, List.getElem_cons_zero, List.getElem_cons_succ]
            refine list_call 29 #[.agg (opv q ka kn kp)] (by kernel_rfl) (by kernel_rfl) ((kind_ok q (unhide hqo) ka kn kp _).mono ?_)
            rintro r v5 ⟨rfl, hg⟩
            refine ⟨_, rfl, ?_⟩
            rw [← unhide hkk]
            replace hS := hide ((unhide hS).more hg)
            replace hO := hide (hg.blk (unhide hO))
            clear hg
            simp only [Act.put, List.setIfInBounds_toArray, List.set_cons_zero, List.set_cons_succ, List.getElem_toArray, List.getElem_cons_zero, List.getElem_cons_succ]
            refine list_val (.bool true) (by kernel_rfl) (by have h : (0 : Int) < (kk : Int) := (by omega); go_simp) ?_
            simp only [Act.put, List.setIfInBounds_toArray, List.set_cons_zero, List.set_cons_succ, List.getElem_toArray, List.getElem_cons_zero, List.getElem_cons_succ]
            refine list_val (.bool true) (by kernel_rfl) (by kernel_rfl) ?_
            simp only [Act.put, List.setIfInBounds_toArray, List.set_cons_zero, List.set_cons_succ, List.getElem_toArray, List.getElem_cons_zero, List.getElem_cons_succ]
            refine list_val (.bool true) (by kernel_rfl) (by kernel_rfl) ?_
            simp only [Act.put, List.setIfInBounds_toArray, List.set_cons_zero, List.set_cons_succ, List.getElem_toArray, List.getElem_cons_zero, List.getElem_cons_succ]
            refine list_val (.agg (opv q ka kn kp)) (by kernel_rfl) (exec_arr _ 37 (.tmp 9) rfl go (by kernel_rfl) (opv q ka kn kp) 37 _ (unhide hO) Try.underlying37 rfl (by rw [Try.infoO]; rfl)) ?_
            simp only [Act.put, List.setIfInBounds_toArray, List.set_cons_zero, List.set_cons_succ, List.getElem_toArray, List.getElem_cons_zero, List.getElem_cons_succ]
            refine list_call 29 #[.agg (opv q ka kn kp)] (by kernel_rfl) (by kernel_rfl) ((kind_ok q (unhide hqo) ka kn kp _).mono ?_)
            rintro r v6 ⟨rfl, hg⟩
            refine ⟨_, rfl, ?_⟩
            rw [← unhide hkk]
            replace hS := hide ((unhide hS).more hg)
            replace hO := hide (hg.blk (unhide hO))
            clear hg
            simp only [Act.put, List.setIfInBounds_toArray, List.set_cons_zero, List.set_cons_succ, List.getElem_toArray, List.getElem_cons_zero, List.getElem_cons_succ]
            refine list_val (.bool false) (by kernel_rfl) (by have h : ¬ (kk : Int) = 2 := (by omega); go_simp) ?_
            simp only [Act.put, List.setIfInBounds_toArray, List.set_cons_zero, List.set_cons_succ, List.getElem_toArray, List.getElem_cons_zero, List.getElem_cons_succ]
            refine list_val (.bool false) (by kernel_rfl) (by kernel_rfl) ?_
            simp only [Act.put, List.setIfInBounds_toArray, List.set_cons_zero, List.set_cons_succ, List.getElem_toArray, List.getElem_cons_zero, List.getElem_cons_succ]
            refine list_val (.pointer (some ⟨go, 1, none⟩)) (by kernel_rfl) (by kernel_rfl) ?_
            simp only [Act.put, List.setIfInBounds_toArray, List.set_cons_zero, List.set_cons_succ, List.getElem_toArray, List.getElem_cons_zero, List.getElem_cons_succ]
            refine list_val (.int .i64 q.at_) (by kernel_rfl) (exec_i64 _ (.tmp 66) rfl go 1 (by kernel_rfl) q.at_ (cell_of (unhide hO) (i := 1) rfl)) ?_
            simp only [Act.put, List.setIfInBounds_toArray, List.set_cons_zero, List.set_cons_succ, List.getElem_toArray, List.getElem_cons_zero, List.getElem_cons_succ]
            refine list_val (.bool true) (by kernel_rfl) (by have h : 0 ≤ q.at_ := (by omega); go_simp) ?_
            simp only [Act.put, List.setIfInBounds_toArray, List.set_cons_zero, List.set_cons_succ, List.getElem_toArray, List.getElem_cons_zero, List.getElem_cons_succ]
            refine list_val (.bool true) (by kernel_rfl) (by kernel_rfl) ?_
            simp only [Act.put, List.setIfInBounds_toArray, List.set_cons_zero, List.set_cons_succ, List.getElem_toArray, List.getElem_cons_zero, List.getElem_cons_succ]
            refine list_val (.pointer (some ⟨go, 1, none⟩)) (by kernel_rfl) (by kernel_rfl) ?_
            simp only [Act.put, List.setIfInBounds_toArray, List.set_cons_zero, List.set_cons_succ, List.getElem_toArray, List.getElem_cons_zero, List.getElem_cons_succ]
            refine list_val (.int .i64 q.at_) (by kernel_rfl) (exec_i64 _ (.tmp 70) rfl go 1 (by kernel_rfl) q.at_ (cell_of (unhide hO) (i := 1) rfl)) ?_
            simp only [Act.put, List.setIfInBounds_toArray, List.set_cons_zero, List.set_cons_succ, List.getElem_toArray, List.getElem_cons_zero, List.getElem_cons_succ]
            refine list_val (.bool true) (by kernel_rfl) (by have h : q.at_ < 6 := (by omega); go_simp) ?_
            simp only [Act.put, List.setIfInBounds_toArray, List.set_cons_zero, List.set_cons_succ, List.getElem_toArray, List.getElem_cons_zero, List.getElem_cons_succ]
            refine list_val (.bool true) (by kernel_rfl) (by kernel_rfl) ?_
            simp only [Act.put, List.setIfInBounds_toArray, List.set_cons_zero, List.set_cons_succ, List.getElem_toArray, List.getElem_cons_zero, List.getElem_cons_succ]
            refine list_val (.bool true) (by kernel_rfl) (by kernel_rfl) ?_
            simp only [Act.put, List.setIfInBounds_toArray, List.set_cons_zero, List.set_cons_succ, List.getElem_toArray, List.getElem_cons_zero, List.getElem_cons_succ]
            refine list_val (.bool true) (by kernel_rfl) (by kernel_rfl) ?_
            simp only [Act.put, List.setIfInBounds_toArray, List.set_cons_zero, List.set_cons_succ, List.getElem_toArray, List.getElem_cons_zero, List.getElem_cons_succ]
            refine wpList_nil ?_
            have hc : Hid ((B.ops = nn ∧ 0 < kk ∧ (kk = 2 ∨ (0 ≤ q.at_ ∧ q.at_ < 6)))) := by show (B.ops = nn ∧ 0 < kk ∧ (kk = 2 ∨ (0 ≤ q.at_ ∧ q.at_ < 6))); omega
            clear h1
            clear h2
            clear h3
            clear h4
            clear h5
            rename_i K1_ hK1_ K0_ hK0_
            refine hK0_ _ _ ?_
            refine wp_cond_true rfl ?_
            refine wp_code_eq (c := onCode) (by kernel_rfl) ?_
            exact armed_on w nn hn40 B j (by omega) F G ga gb go q ka kn kp kk (unhide hsix) (unhide hBk) (unhide hAk) hnB (unhide hqo) (unhide hkk) hk3 _ (unhide hS) (unhide hkp) hoF (unhide hO) _ (unhide hc) (fun t w' hg ht => by
              show bodyPost Try.prog Try.f7 T .ret ⟨t, []⟩ w'
              exact bodyPost_ret (v := .bool true) (by rw [results_tmp Try.results7, ht]) rfl (by rw [unhide hT]; exact ⟨rfl, hg⟩)) _ _ _ _ _ _ _ _ _ _ _ _ _ _ _ _ _ _ _ _ _ _ _ _ _ _ _ _ _ _ _ _ _ _ _ _ _ _ _ _ _ _ _ _ _ _ _ _ _ _ _ _ _ _ _ _ _ _ _ _ _ _ _ _ _ _ _ _ _ _ _ _ _ _ _ _ _ _ _ _ _ _ _ _ _ _ _ _ _ _ _ _ _ _ _ _ _ _ _ _ _ _ _ _ _ _ _ _ _ _ _ _ _ _ _ _ _ _ _ _ _ _ _ _ _ _ _ _ _ _ _ _ _ _ _ _ _ _ _ _ _ _ _ _ _ _ _ _ _ _ _ _ _ _ _ _ _ _ _ _ _ _ _ _ _ _ _ _ _ _ _ _ _ _
          refine wp_region_lit ?_
          refine list_val (.int .i64 (B.ops : Int)) (by kernel_rfl) (by kernel_rfl) ?_
          simp only [Act.put, List.setIfInBounds_toArray, List.set_cons_zero, List.set_cons_succ, List.getElem_toArray, List.getElem_cons_zero, List.getElem_cons_succ]
          refine list_val (.int .i64 (nn : Int)) (by kernel_rfl) (by kernel_rfl) ?_
          simp only [Act.put, List.setIfInBounds_toArray, List.set_cons_zero, List.set_cons_succ, List.getElem_toArray, List.getElem_cons_zero, List.getElem_cons_succ]
          refine list_val (.bool true) (by kernel_rfl) (by have h : (B.ops : Int) = (nn : Int) := (by omega); go_simp) ?_
          simp only [Act.put, List.setIfInBounds_toArray, List.set_cons_zero, List.set_cons_succ, List.getElem_toArray, List.getElem_cons_zero, List.getElem_cons_succ]
          refine list_val (.bool true) (by kernel_rfl) (by kernel_rfl) ?_
          simp only [Act.put, List.setIfInBounds_toArray, List.set_cons_zero, List.set_cons_succ, List.getElem_toArray, List.getElem_cons_zero, List.getElem_cons_succ]
          refine list_val (.agg (opv q ka kn kp)) (by kernel_rfl) (exec_arr _ 37 (.tmp 9) rfl go (by kernel_rfl) (opv q ka kn kp) 37 _ (unhide hO) Try.underlying37 rfl (by rw [Try.infoO]; rfl)) ?_
          simp only [Act.put, List.setIfInBounds_toArray, List.set_cons_zero, List.set_cons_succ, List.getElem_toArray, List.getElem_cons_zero, List.getElem_cons_succ]
          refine list_call 29 #[.agg (opv q ka kn kp)] (by kernel_rfl) (by kernel_rfl) ((kind_ok q (unhide hqo) ka kn kp _).mono ?_)
          rintro r v5 ⟨rfl, hg⟩
          refine ⟨_, rfl, ?_⟩
          rw [← unhide hkk]
          replace hS := hide ((unhide hS).more hg)
          replace hO := hide (hg.blk (unhide hO))
          clear hg
          simp only [Act.put, List.setIfInBounds_toArray, List.set_cons_zero, List.set_cons_succ, List.getElem_toArray, List.getElem_cons_zero, List.getElem_cons_succ]
          refine list_val (.bool true) (by kernel_rfl) (by have h : (0 : Int) < (kk : Int) := (by omega); go_simp) ?_
          simp only [Act.put, List.setIfInBounds_toArray, List.set_cons_zero, List.set_cons_succ, List.getElem_toArray, List.getElem_cons_zero, List.getElem_cons_succ]
          refine list_val (.bool true) (by kernel_rfl) (by kernel_rfl) ?_
          simp only [Act.put, List.setIfInBounds_toArray, List.set_cons_zero, List.set_cons_succ, List.getElem_toArray, List.getElem_cons_zero, List.getElem_cons_succ]
          refine list_val (.bool true) (by kernel_rfl) (by kernel_rfl) ?_
          simp only [Act.put, List.setIfInBounds_toArray, List.set_cons_zero, List.set_cons_succ, List.getElem_toArray, List.getElem_cons_zero, List.getElem_cons_succ]
          refine list_val (.agg (opv q ka kn kp)) (by kernel_rfl) (exec_arr _ 37 (.tmp 9) rfl go (by kernel_rfl) (opv q ka kn kp) 37 _ (unhide hO) Try.underlying37 rfl (by rw [Try.infoO]; rfl)) ?_
          simp only [Act.put, List.setIfInBounds_toArray, List.set_cons_zero, List.set_cons_succ, List.getElem_toArray, List.getElem_cons_zero, List.getElem_cons_succ]
          refine list_call 29 #[.agg (opv q ka kn kp)] (by kernel_rfl) (by kernel_rfl) ((kind_ok q (unhide hqo) ka kn kp _).mono ?_)
          rintro r v6 ⟨rfl, hg⟩
          refine ⟨_, rfl, ?_⟩
          rw [← unhide hkk]
          replace hS := hide ((unhide hS).more hg)
          replace hO := hide (hg.blk (unhide hO))
          clear hg
          simp only [Act.put, List.setIfInBounds_toArray, List.set_cons_zero, List.set_cons_succ, List.getElem_toArray, List.getElem_cons_zero, List.getElem_cons_succ]
          refine list_val (.bool false) (by kernel_rfl) (by have h : ¬ (kk : Int) = 2 := (by omega); go_simp) ?_
          simp only [Act.put, List.setIfInBounds_toArray, List.set_cons_zero, List.set_cons_succ, List.getElem_toArray, List.getElem_cons_zero, List.getElem_cons_succ]
          refine list_val (.bool false) (by kernel_rfl) (by kernel_rfl) ?_
          simp only [Act.put, List.setIfInBounds_toArray, List.set_cons_zero, List.set_cons_succ, List.getElem_toArray, List.getElem_cons_zero, List.getElem_cons_succ]
          refine list_val (.pointer (some ⟨go, 1, none⟩)) (by kernel_rfl) (by kernel_rfl) ?_
          simp only [Act.put, List.setIfInBounds_toArray, List.set_cons_zero, List.set_cons_succ, List.getElem_toArray, List.getElem_cons_zero, List.getElem_cons_succ]
          refine list_val (.int .i64 q.at_) (by kernel_rfl) (exec_i64 _ (.tmp 66) rfl go 1 (by kernel_rfl) q.at_ (cell_of (unhide hO) (i := 1) rfl)) ?_
          simp only [Act.put, List.setIfInBounds_toArray, List.set_cons_zero, List.set_cons_succ, List.getElem_toArray, List.getElem_cons_zero, List.getElem_cons_succ]
          refine list_val (.bool true) (by kernel_rfl) (by have h : 0 ≤ q.at_ := (by omega); go_simp) ?_
          simp only [Act.put, List.setIfInBounds_toArray, List.set_cons_zero, List.set_cons_succ, List.getElem_toArray, List.getElem_cons_zero, List.getElem_cons_succ]
          refine list_val (.bool true) (by kernel_rfl) (by kernel_rfl) ?_
          simp only [Act.put, List.setIfInBounds_toArray, List.set_cons_zero, List.set_cons_succ, List.getElem_toArray, List.getElem_cons_zero, List.getElem_cons_succ]
          refine list_val (.pointer (some ⟨go, 1, none⟩)) (by kernel_rfl) (by kernel_rfl) ?_
          simp only [Act.put, List.setIfInBounds_toArray, List.set_cons_zero, List.set_cons_succ, List.getElem_toArray, List.getElem_cons_zero, List.getElem_cons_succ]
          refine list_val (.int .i64 q.at_) (by kernel_rfl) (exec_i64 _ (.tmp 70) rfl go 1 (by kernel_rfl) q.at_ (cell_of (unhide hO) (i := 1) rfl)) ?_
          simp only [Act.put, List.setIfInBounds_toArray, List.set_cons_zero, List.set_cons_succ, List.getElem_toArray, List.getElem_cons_zero, List.getElem_cons_succ]
          refine list_val (.bool false) (by kernel_rfl) (by have h : ¬ q.at_ < 6 := (by omega); go_simp) ?_
          simp only [Act.put, List.setIfInBounds_toArray, List.set_cons_zero, List.set_cons_succ, List.getElem_toArray, List.getElem_cons_zero, List.getElem_cons_succ]
          refine list_val (.bool false) (by kernel_rfl) (by kernel_rfl) ?_
          simp only [Act.put, List.setIfInBounds_toArray, List.set_cons_zero, List.set_cons_succ, List.getElem_toArray, List.getElem_cons_zero, List.getElem_cons_succ]
          refine list_val (.bool false) (by kernel_rfl) (by kernel_rfl) ?_
          simp only [Act.put, List.setIfInBounds_toArray, List.set_cons_zero, List.set_cons_succ, List.getElem_toArray, List.getElem_cons_zero, List.getElem_cons_succ]
          refine list_val (.bool false) (by kernel_rfl) (by kernel_rfl) ?_
          simp only [Act.put, List.setIfInBounds_toArray, List.set_cons_zero, List.set_cons_succ, List.getElem_toArray, List.getElem_cons_zero, List.getElem_cons_succ]
          refine wpList_nil ?_
          have hc : Hid (¬ (B.ops = nn ∧ 0 < kk ∧ (kk = 2 ∨ (0 ≤ q.at_ ∧ q.at_ < 6)))) := by show ¬ (B.ops = nn ∧ 0 < kk ∧ (kk = 2 ∨ (0 ≤ q.at_ ∧ q.at_ < 6))); omega
          clear h1
          clear h2
          clear h3
          clear h4
          clear h5
          rename_i K1_ hK1_ K0_ hK0_
          refine hK0_ _ _ ?_
          refine wp_cond_false rfl ?_
          refine wp_skip ?_
          show K1_ _ _
          refine hK1_ _ _ ?_
          refine wp_code_eq (c := restCode) (by kernel_rfl) ?_
          refine armed_rest w nn hn40 B j (by omega) F G ga gb go q ka kn kp kk (unhide hsix) (unhide hBk) (unhide hAk) hnB (unhide hqo) (unhide hkk) hk3 _ (unhide hS) (unhide hkp) hoF (unhide hO) _ (unhide hc) _ _ _ _ _ _ _ _ _ _ _ _ _ _ _ _ _ _ _ _ _ _ _ _ _ _ _ _ _ _ _ _ _ _ _ _ _ _ _ _ _ _ _ _ _ _ _ _ _ _ _ _ _ _ _ _ _ _ _ _ _ _ _ _ _ _ _ _ _ _ _ _ _ _ _ _ _ _ _ _ _ _ _ _ _ _ _ _ _ _ _ _ _ _ _ _ _ _ _ _ _ _ _ _ _ _ _ _ _ _ _ _ _ _ _ _ _ _ _ _ _ _ _ _ _ _ _ _ _ _ _ _ _ _ _ _ _ _ _ _ _ _ _ _ _ _ _ _ _ _ _ _ _ _ _ _ _ _ _ _ _ _ _ _ _ _ _ _ _ _ _ _ _ _ (fun E F1 G1 w9 h6 hEk hEn hSS u4 u18 u19 u20 u21 u137 u138 u139 u140 u141 u142 u143 u144 u145 u146 u147 u148 u149 u150 u151 u152 u153 u154 u155 u156 u157 u158 u159 u160 u161 u162 u163 u164 u165 u166 => ?_)
          have hI1 : Hid (Six E ∧ E.Ok (j + 1) ∧ E.ops ≤ nn ∧ ∃ F G, Ds w [(F, ga, arm E nn), (G, gb, E)] w9) := ⟨h6, hEk, hEn, F1, G1, hSS⟩
          clear hS hO hSS h6 hEk
          go_wp2_with fail
          go_roundw
          case rel => exact ⟨_, _, _, _, _, _, _, _, _, _, _, _, _, _, _, _, _, _, _, _, _, _, _, _, _, _, _, _, _, _, _, _, _, _, _, _, _, _, _, _, _, _, _, _, _, _, _, _, _, _, _, _, _, _, _, _, _, _, _, _, _, _, _, _, _, _, _, _, _, _, _, _, _, _, _, _, _, _, _, _, _, _, _, _, _, _, _, _, _, _, _, _, _, _, _, _, _, _, _, _, _, _, _, _, _, _, _, _, _, _, _, _, _, _, _, _, _, _, _, _, _, _, _, _, _, _, _, _, _, _, _, _, _, _, _, _, _, _, _, ⟨j + 1, E, by omega, by go_num, rfl, hI1⟩, rfl⟩
          case measure =>
            show m - (intOf (.int .i64 ((j : Int) + 1))).toNat < m - (intOf (.int .i64 (j : Int))).toNat
            simp [intOf]; omega
        refine wp_region_lit ?_
        refine list_val (.int .i64 (B.ops : Int)) (by kernel_rfl) (by kernel_rfl) ?_
        simp only [Act.put, List.setIfInBounds_toArray, List.set_cons_zero, List.set_cons_succ, List.getElem_toArray, List.getElem_cons_zero, List.getElem_cons_succ]
        refine list_val (.int .i64 (nn : Int)) (by kernel_rfl) (by kernel_rfl) ?_
        simp only [Act.put, List.setIfInBounds_toArray, List.set_cons_zero, List.set_cons_succ, List.getElem_toArray, List.getElem_cons_zero, List.getElem_cons_succ]
        refine list_val (.bool true) (by kernel_rfl) (by have h : (B.ops : Int) = (nn : Int) := (by omega); go_simp) ?_
        simp only [Act.put, List.setIfInBounds_toArray, List.set_cons_zero, List.set_cons_succ, List.getElem_toArray, List.getElem_cons_zero, List.getElem_cons_succ]
        refine list_val (.bool true) (by kernel_rfl) (by kernel_rfl) ?_
        simp only [Act.put, List.setIfInBounds_toArray, List.set_cons_zero, List.set_cons_succ, List.getElem_toArray, List.getElem_cons_zero, List.getElem_cons_succ]
        refine list_val (.agg (opv q ka kn kp)) (by kernel_rfl) (exec_arr _ 37 (.tmp 9) rfl go (by kernel_rfl) (opv q ka kn kp) 37 _ (unhide hO) Try.underlying37 rfl (by rw [Try.infoO]; rfl)) ?_
        simp only [Act.put, List.setIfInBounds_toArray, List.set_cons_zero, List.set_cons_succ, List.getElem_toArray, List.getElem_cons_zero, List.getElem_cons_succ]
        refine list_call 29 #[.agg (opv q ka kn kp)] (by kernel_rfl) (by kernel_rfl) ((kind_ok q (unhide hqo) ka kn kp _).mono ?_)
        rintro r v5 ⟨rfl, hg⟩
        refine ⟨_, rfl, ?_⟩
        rw [← unhide hkk]
        replace hS := hide ((unhide hS).more hg)
        replace hO := hide (hg.blk (unhide hO))
        clear hg
        simp only [Act.put, List.setIfInBounds_toArray, List.set_cons_zero, List.set_cons_succ, List.getElem_toArray, List.getElem_cons_zero, List.getElem_cons_succ]
        refine list_val (.bool true) (by kernel_rfl) (by have h : (0 : Int) < (kk : Int) := (by omega); go_simp) ?_
        simp only [Act.put, List.setIfInBounds_toArray, List.set_cons_zero, List.set_cons_succ, List.getElem_toArray, List.getElem_cons_zero, List.getElem_cons_succ]
        refine list_val (.bool true) (by kernel_rfl) (by kernel_rfl) ?_
        simp only [Act.put, List.setIfInBounds_toArray, List.set_cons_zero, List.set_cons_succ, List.getElem_toArray, List.getElem_cons_zero, List.getElem_cons_succ]
        refine list_val (.bool true) (by kernel_rfl) (by kernel_rfl) ?_
        simp only [Act.put, List.setIfInBounds_toArray, List.set_cons_zero, List.set_cons_succ, List.getElem_toArray, List.getElem_cons_zero, List.getElem_cons_succ]
        refine list_val (.agg (opv q ka kn kp)) (by kernel_rfl) (exec_arr _ 37 (.tmp 9) rfl go (by kernel_rfl) (opv q ka kn kp) 37 _ (unhide hO) Try.underlying37 rfl (by rw [Try.infoO]; rfl)) ?_
        simp only [Act.put, List.setIfInBounds_toArray, List.set_cons_zero, List.set_cons_succ, List.getElem_toArray, List.getElem_cons_zero, List.getElem_cons_succ]
        refine list_call 29 #[.agg (opv q ka kn kp)] (by kernel_rfl) (by kernel_rfl) ((kind_ok q (unhide hqo) ka kn kp _).mono ?_)
        rintro r v6 ⟨rfl, hg⟩
        refine ⟨_, rfl, ?_⟩
        rw [← unhide hkk]
        replace hS := hide ((unhide hS).more hg)
        replace hO := hide (hg.blk (unhide hO))
        clear hg
        simp only [Act.put, List.setIfInBounds_toArray, List.set_cons_zero, List.set_cons_succ, List.getElem_toArray, List.getElem_cons_zero, List.getElem_cons_succ]
        refine list_val (.bool false) (by kernel_rfl) (by have h : ¬ (kk : Int) = 2 := (by omega); go_simp) ?_
        simp only [Act.put, List.setIfInBounds_toArray, List.set_cons_zero, List.set_cons_succ, List.getElem_toArray, List.getElem_cons_zero, List.getElem_cons_succ]
        refine list_val (.bool false) (by kernel_rfl) (by kernel_rfl) ?_
        simp only [Act.put, List.setIfInBounds_toArray, List.set_cons_zero, List.set_cons_succ, List.getElem_toArray, List.getElem_cons_zero, List.getElem_cons_succ]
        refine list_val (.pointer (some ⟨go, 1, none⟩)) (by kernel_rfl) (by kernel_rfl) ?_
        simp only [Act.put, List.setIfInBounds_toArray, List.set_cons_zero, List.set_cons_succ, List.getElem_toArray, List.getElem_cons_zero, List.getElem_cons_succ]
        refine list_val (.int .i64 q.at_) (by kernel_rfl) (exec_i64 _ (.tmp 66) rfl go 1 (by kernel_rfl) q.at_ (cell_of (unhide hO) (i := 1) rfl)) ?_
        simp only [Act.put, List.setIfInBounds_toArray, List.set_cons_zero, List.set_cons_succ, List.getElem_toArray, List.getElem_cons_zero, List.getElem_cons_succ]
        refine list_val (.bool false) (by kernel_rfl) (by have h : ¬ 0 ≤ q.at_ := (by omega); go_simp) ?_
        simp only [Act.put, List.setIfInBounds_toArray, List.set_cons_zero, List.set_cons_succ, List.getElem_toArray, List.getElem_cons_zero, List.getElem_cons_succ]
        refine list_val_offs 3 (.bool false) (by kernel_rfl) (by kernel_rfl) (by kernel_rfl) ?_
        simp only [List.drop_succ_cons, List.drop_zero, List.take_succ_cons, List.take_zero, putU]
        simp only [Act.put, List.setIfInBounds_toArray, List.set_cons_zero, List.set_cons_succ, List.getElem_toArray, List.getElem_cons_zero, List.getElem_cons_succ]
        refine list_val (.bool false) (by kernel_rfl) (by kernel_rfl) ?_
        simp only [Act.put, List.setIfInBounds_toArray, List.set_cons_zero, List.set_cons_succ, List.getElem_toArray, List.getElem_cons_zero, List.getElem_cons_succ]
        refine list_val (.bool false) (by kernel_rfl) (by kernel_rfl) ?_
        simp only [Act.put, List.setIfInBounds_toArray, List.set_cons_zero, List.set_cons_succ, List.getElem_toArray, List.getElem_cons_zero, List.getElem_cons_succ]
        refine list_val (.bool false) (by kernel_rfl) (by kernel_rfl) ?_
        simp only [Act.put, List.setIfInBounds_toArray, List.set_cons_zero, List.set_cons_succ, List.getElem_toArray, List.getElem_cons_zero, List.getElem_cons_succ]
        refine wpList_nil ?_
        have hc : Hid (¬ (B.ops = nn ∧ 0 < kk ∧ (kk = 2 ∨ (0 ≤ q.at_ ∧ q.at_ < 6)))) := by show ¬ (B.ops = nn ∧ 0 < kk ∧ (kk = 2 ∨ (0 ≤ q.at_ ∧ q.at_ < 6))); omega
        clear h1
        clear h2
        clear h3
        clear h4
        rename_i K1_ hK1_ K0_ hK0_
        refine hK0_ _ _ ?_
        refine wp_cond_false rfl ?_
        refine wp_skip ?_
        show K1_ _ _
        refine hK1_ _ _ ?_
        refine wp_code_eq (c := restCode) (by kernel_rfl) ?_
        refine armed_rest w nn hn40 B j (by omega) F G ga gb go q ka kn kp kk (unhide hsix) (unhide hBk) (unhide hAk) hnB (unhide hqo) (unhide hkk) hk3 _ (unhide hS) (unhide hkp) hoF (unhide hO) _ (unhide hc) _ _ _ _ _ _ _ _ _ _ _ _ _ _ _ _ _ _ _ _ _ _ _ _ _ _ _ _ _ _ _ _ _ _ _ _ _ _ _ _ _ _ _ _ _ _ _ _ _ _ _ _ _ _ _ _ _ _ _ _ _ _ _ _ _ _ _ _ _ _ _ _ _ _ _ _ _ _ _ _ _ _ _ _ _ _ _ _ _ _ _ _ _ _ _ _ _ _ _ _ _ _ _ _ _ _ _ _ _ _ _ _ _ _ _ _ _ _ _ _ _ _ _ _ _ _ _ _ _ _ _ _ _ _ _ _ _ _ _ _ _ _ _ _ _ _ _ _ _ _ _ _ _ _ _ _ _ _ _ _ _ _ _ _ _ _ _ _ _ _ _ _ _ _ (fun E F1 G1 w9 h6 hEk hEn hSS u4 u18 u19 u20 u21 u137 u138 u139 u140 u141 u142 u143 u144 u145 u146 u147 u148 u149 u150 u151 u152 u153 u154 u155 u156 u157 u158 u159 u160 u161 u162 u163 u164 u165 u166 => ?_)
        have hI1 : Hid (Six E ∧ E.Ok (j + 1) ∧ E.ops ≤ nn ∧ ∃ F G, Ds w [(F, ga, arm E nn), (G, gb, E)] w9) := ⟨h6, hEk, hEn, F1, G1, hSS⟩
        clear hS hO hSS h6 hEk
        go_wp2_with fail
        go_roundw
        case rel => exact ⟨_, _, _, _, _, _, _, _, _, _, _, _, _, _, _, _, _, _, _, _, _, _, _, _, _, _, _, _, _, _, _, _, _, _, _, _, _, _, _, _, _, _, _, _, _, _, _, _, _, _, _, _, _, _, _, _, _, _, _, _, _, _, _, _, _, _, _, _, _, _, _, _, _, _, _, _, _, _, _, _, _, _, _, _, _, _, _, _, _, _, _, _, _, _, _, _, _, _, _, _, _, _, _, _, _, _, _, _, _, _, _, _, _, _, _, _, _, _, _, _, _, _, _, _, _, _, _, _, _, _, _, _, _, _, _, _, _, _, _, ⟨j + 1, E, by omega, by go_num, rfl, hI1⟩, rfl⟩
        case measure =>
          show m - (intOf (.int .i64 ((j : Int) + 1))).toNat < m - (intOf (.int .i64 (j : Int))).toNat
          simp [intOf]; omega
      refine wp_region_lit ?_
      refine list_val (.int .i64 (B.ops : Int)) (by kernel_rfl) (by kernel_rfl) ?_
      simp only [Act.put, List.setIfInBounds_toArray, List.set_cons_zero, List.set_cons_succ, List.getElem_toArray, List.getElem_cons_zero, List.getElem_cons_succ]
      refine list_val (.int .i64 (nn : Int)) (by kernel_rfl) (by kernel_rfl) ?_
      simp only [Act.put, List.setIfInBounds_toArray, List.set_cons_zero, List.set_cons_succ, List.getElem_toArray, List.getElem_cons_zero, List.getElem_cons_succ]
      refine list_val (.bool true) (by kernel_rfl) (by have h : (B.ops : Int) = (nn : Int) := (by omega); go_simp) ?_
      simp only [Act.put, List.setIfInBounds_toArray, List.set_cons_zero, List.set_cons_succ, List.getElem_toArray, List.getElem_cons_zero, List.getElem_cons_succ]
      refine list_val (.bool true) (by kernel_rfl) (by kernel_rfl) ?_
      simp only [Act.put, List.setIfInBounds_toArray, List.set_cons_zero, List.set_cons_succ, List.getElem_toArray, List.getElem_cons_zero, List.getElem_cons_succ]
      refine list_val (.agg (opv q ka kn kp)) (by kernel_rfl) (exec_arr _ 37 (.tmp 9) rfl go (by kernel_rfl) (opv q ka kn kp) 37 _ (unhide hO) Try.underlying37 rfl (by rw [Try.infoO]; rfl)) ?_
      simp only [Act.put, List.setIfInBounds_toArray, List.set_cons_zero, List.set_cons_succ, List.getElem_toArray, List.getElem_cons_zero, List.getElem_cons_succ]
      refine list_call 29 #[.agg (opv q ka kn kp)] (by kernel_rfl) (by kernel_rfl) ((kind_ok q (unhide hqo) ka kn kp _).mono ?_)
      rintro r v5 ⟨rfl, hg⟩
      refine ⟨_, rfl, ?_⟩
      rw [← unhide hkk]
      replace hS := hide ((unhide hS).more hg)
      replace hO := hide (hg.blk (unhide hO))
      clear hg
      simp only [Act.put, List.setIfInBounds_toArray, List.set_cons_zero, List.set_cons_succ, List.getElem_toArray, List.getElem_cons_zero, List.getElem_cons_succ]
      refine list_val (.bool false) (by kernel_rfl) (by have h : ¬ (0 : Int) < (kk : Int) := (by omega); go_simp) ?_
      simp only [Act.put, List.setIfInBounds_toArray, List.set_cons_zero, List.set_cons_succ, List.getElem_toArray, List.getElem_cons_zero, List.getElem_cons_succ]
      refine list_val (.bool false) (by kernel_rfl) (by kernel_rfl) ?_
      simp only [Act.put, List.setIfInBounds_toArray, List.set_cons_zero, List.set_cons_succ, List.getElem_toArray, List.getElem_cons_zero, List.getElem_cons_succ]
      refine list_val_offs 13 (.bool false) (by kernel_rfl) (by kernel_rfl) (by kernel_rfl) ?_
      simp only [List.drop_succ_cons, List.drop_zero, List.take_succ_cons, List.take_zero, putU]
      simp only [Act.put, List.setIfInBounds_toArray, List.set_cons_zero, List.set_cons_succ, List.getElem_toArray, List.getElem_cons_zero, List.getElem_cons_succ]
      refine list_val (.bool false) (by kernel_rfl) (by kernel_rfl) ?_
      simp only [Act.put, List.setIfInBounds_toArray, List.set_cons_zero, List.set_cons_succ, List.getElem_toArray, List.getElem_cons_zero, List.getElem_cons_succ]
      refine wpList_nil ?_
      have hc : Hid (¬ (B.ops = nn ∧ 0 < kk ∧ (kk = 2 ∨ (0 ≤ q.at_ ∧ q.at_ < 6)))) := by show ¬ (B.ops = nn ∧ 0 < kk ∧ (kk = 2 ∨ (0 ≤ q.at_ ∧ q.at_ < 6))); omega
      clear h1
      clear h2
      rename_i K1_ hK1_ K0_ hK0_
      refine hK0_ _ _ ?_
      refine wp_cond_false rfl ?_
      refine wp_skip ?_
      show K1_ _ _
      refine hK1_ _ _ ?_
      refine wp_code_eq (c := restCode) (by kernel_rfl) ?_
      refine armed_rest w nn hn40 B j (by omega) F G ga gb go q ka kn kp kk (unhide hsix) (unhide hBk) (unhide hAk) hnB (unhide hqo) (unhide hkk) hk3 _ (unhide hS) (unhide hkp) hoF (unhide hO) _ (unhide hc) _ _ _ _ _ _ _ _ _ _ _ _ _ _ _ _ _ _ _ _ _ _ _ _ _ _ _ _ _ _ _ _ _ _ _ _ _ _ _ _ _ _ _ _ _ _ _ _ _ _ _ _ _ _ _ _ _ _ _ _ _ _ _ _ _ _ _ _ _ _ _ _ _ _ _ _ _ _ _ _ _ _ _ _ _ _ _ _ _ _ _ _ _ _ _ _ _ _ _ _ _ _ _ _ _ _ _ _ _ _ _ _ _ _ _ _ _ _ _ _ _ _ _ _ _ _ _ _ _ _ _ _ _ _ _ _ _ _ _ _ _ _ _ _ _ _ _ _ _ _ _ _ _ _ _ _ _ _ _ _ _ _ _ _ _ _ _ _ _ _ _ _ _ _ (fun E F1 G1 w9 h6 hEk hEn hSS u4 u18 u19 u20 u21 u137 u138 u139 u140 u141 u142 u143 u144 u145 u146 u147 u148 u149 u150 u151 u152 u153 u154 u155 u156 u157 u158 u159 u160 u161 u162 u163 u164 u165 u166 => ?_)
      have hI1 : Hid (Six E ∧ E.Ok (j + 1) ∧ E.ops ≤ nn ∧ ∃ F G, Ds w [(F, ga, arm E nn), (G, gb, E)] w9) := ⟨h6, hEk, hEn, F1, G1, hSS⟩
      clear hS hO hSS h6 hEk
      go_wp2_with fail
      go_roundw
      case rel => exact ⟨_, _, _, _, _, _, _, _, _, _, _, _, _, _, _, _, _, _, _, _, _, _, _, _, _, _, _, _, _, _, _, _, _, _, _, _, _, _, _, _, _, _, _, _, _, _, _, _, _, _, _, _, _, _, _, _, _, _, _, _, _, _, _, _, _, _, _, _, _, _, _, _, _, _, _, _, _, _, _, _, _, _, _, _, _, _, _, _, _, _, _, _, _, _, _, _, _, _, _, _, _, _, _, _, _, _, _, _, _, _, _, _, _, _, _, _, _, _, _, _, _, _, _, _, _, _, _, _, _, _, _, _, _, _, _, _, _, _, _, ⟨j + 1, E, by omega, by go_num, rfl, hI1⟩, rfl⟩
      case measure =>
        show m - (intOf (.int .i64 ((j : Int) + 1))).toNat < m - (intOf (.int .i64 (j : Int))).toNat
        simp [intOf]; omega
    refine wp_region_lit ?_
    refine list_val (.int .i64 (B.ops : Int)) (by kernel_rfl) (by kernel_rfl) ?_
    simp only [Act.put, List.setIfInBounds_toArray, List.set_cons_zero, List.set_cons_succ, List.getElem_toArray, List.getElem_cons_zero, List.getElem_cons_succ]
    refine list_val (.int .i64 (nn : Int)) (by kernel_rfl) (by kernel_rfl) ?_
    simp only [Act.put, List.setIfInBounds_toArray, List.set_cons_zero, List.set_cons_succ, List.getElem_toArray, List.getElem_cons_zero, List.getElem_cons_succ]
    refine list_val (.bool false) (by kernel_rfl) (by have h : ¬ (B.ops : Int) = (nn : Int) := (by omega); go_simp) ?_
    simp only [Act.put, List.setIfInBounds_toArray, List.set_cons_zero, List.set_cons_succ, List.getElem_toArray, List.getElem_cons_zero, List.getElem_cons_succ]
    refine list_val_offs 3 (.bool false) (by kernel_rfl) (by kernel_rfl) (by kernel_rfl) ?_
    simp only [List.drop_succ_cons, List.drop_zero, List.take_succ_cons, List.take_zero, putU]
    simp only [Act.put, List.setIfInBounds_toArray, List.set_cons_zero, List.set_cons_succ, List.getElem_toArray, List.getElem_cons_zero, List.getElem_cons_succ]
    refine list_val (.bool false) (by kernel_rfl) (by kernel_rfl) ?_
    simp only [Act.put, List.setIfInBounds_toArray, List.set_cons_zero, List.set_cons_succ, List.getElem_toArray, List.getElem_cons_zero, List.getElem_cons_succ]
    refine list_val_offs 13 (.bool false) (by kernel_rfl) (by kernel_rfl) (by kernel_rfl) ?_
    simp only [List.drop_succ_cons, List.drop_zero, List.take_succ_cons, List.take_zero, putU]
    simp only [Act.put, List.setIfInBounds_toArray, List.set_cons_zero, List.set_cons_succ, List.getElem_toArray, List.getElem_cons_zero, List.getElem_cons_succ]
    refine list_val (.bool false) (by kernel_rfl) (by kernel_rfl) ?_
    simp only [Act.put, List.setIfInBounds_toArray, List.set_cons_zero, List.set_cons_succ, List.getElem_toArray, List.getElem_cons_zero, List.getElem_cons_succ]
    refine wpList_nil ?_
    have hc : Hid (¬ (B.ops = nn ∧ 0 < kk ∧ (kk = 2 ∨ (0 ≤ q.at_ ∧ q.at_ < 6)))) := by show ¬ (B.ops = nn ∧ 0 < kk ∧ (kk = 2 ∨ (0 ≤ q.at_ ∧ q.at_ < 6))); omega
    clear h1
    rename_i K1_ hK1_ K0_ hK0_
    refine hK0_ _ _ ?_
    refine wp_cond_false rfl ?_
    refine wp_skip ?_
    show K1_ _ _
    refine hK1_ _ _ ?_
    refine wp_code_eq (c := restCode) (by kernel_rfl) ?_
    refine armed_rest w nn hn40 B j (by omega) F G ga gb go q ka kn kp kk (unhide hsix) (unhide hBk) (unhide hAk) hnB (unhide hqo) (unhide hkk) hk3 _ (unhide hS) (unhide hkp) hoF (unhide hO) _ (unhide hc) _ _ _ _ _ _ _ _ _ _ _ _ _ _ _ _ _ _ _ _ _ _ _ _ _ _ _ _ _ _ _ _ _ _ _ _ _ _ _ _ _ _ _ _ _ _ _ _ _ _ _ _ _ _ _ _ _ _ _ _ _ _ _ _ _ _ _ _ _ _ _ _ _ _ _ _ _ _ _ _ _ _ _ _ _ _ _ _ _ _ _ _ _ _ _ _ _ _ _ _ _ _ _ _ _ _ _ _ _ _ _ _ _ _ _ _ _ _ _ _ _ _ _ _ _ _ _ _ _ _ _ _ _ _ _ _ _ _ _ _ _ _ _ _ _ _ _ _ _ _ _ _ _ _ _ _ _ _ _ _ _ _ _ _ _ _ _ _ _ _ _ _ _ _ (fun E F1 G1 w9 h6 hEk hEn hSS u4 u18 u19 u20 u21 u137 u138 u139 u140 u141 u142 u143 u144 u145 u146 u147 u148 u149 u150 u151 u152 u153 u154 u155 u156 u157 u158 u159 u160 u161 u162 u163 u164 u165 u166 => ?_)
    have hI1 : Hid (Six E ∧ E.Ok (j + 1) ∧ E.ops ≤ nn ∧ ∃ F G, Ds w [(F, ga, arm E nn), (G, gb, E)] w9) := ⟨h6, hEk, hEn, F1, G1, hSS⟩
    clear hS hO hSS h6 hEk
    go_wp2_with fail
    go_roundw
    case rel => exact ⟨_, _, _, _, _, _, _, _, _, _, _, _, _, _, _, _, _, _, _, _, _, _, _, _, _, _, _, _, _, _, _, _, _, _, _, _, _, _, _, _, _, _, _, _, _, _, _, _, _, _, _, _, _, _, _, _, _, _, _, _, _, _, _, _, _, _, _, _, _, _, _, _, _, _, _, _, _, _, _, _, _, _, _, _, _, _, _, _, _, _, _, _, _, _, _, _, _, _, _, _, _, _, _, _, _, _, _, _, _, _, _, _, _, _, _, _, _, _, _, _, _, _, _, _, _, _, _, _, _, _, _, _, _, _, _, _, _, _, _, ⟨j + 1, E, by omega, by go_num, rfl, hI1⟩, rfl⟩
    case measure =>
      show m - (intOf (.int .i64 ((j : Int) + 1))).toNat < m - (intOf (.int .i64 (j : Int))).toNat
      simp [intOf]; omega
  have jI : ¬ (j : Int) < (m : Int) := by omega
  obtain ⟨hsix, hBk, hnB, F, G, hS⟩ := unhide hIj
  clear hIj
  have hAk := arm_ok hBk hnB (by omega)
  replace hsix := hide hsix; replace hBk := hide hBk; replace hAk := hide hAk; replace hS := hide hS
  go_upto_region 34 with fail
  refine wp_region_lit ?_
  refine list_val (.pointer (some ⟨ga, 0, none⟩)) (by kernel_rfl) (by kernel_rfl) ?_
  simp only [Act.put, List.setIfInBounds_toArray, List.set_cons_zero, List.set_cons_succ, List.getElem_toArray, List.getElem_cons_zero, List.getElem_cons_succ]
  refine list_call 24 #[.pointer (some ⟨ga, 0, none⟩)] (by kernel_rfl) (by kernel_rfl) ((held_ok F ga j (arm B nn) (unhide hAk) (by omega) _ ((unhide hS).at_ (n := 0) rfl)).mono ?_)
  rintro r t2 ⟨la, lc, rfl, hls1, -, hg⟩
  refine ⟨_, rfl, ?_⟩
  have e6 : (arm B nn).safe.length = 6 := (unhide hsix).six
  rw [e6, held_arm] at hls1
  rw [e6]
  replace hls1 := hide hls1
  clear e6
  replace hS := hide ((unhide hS).more hg)
  clear hg
  simp only [Act.put, List.setIfInBounds_toArray, List.set_cons_zero, List.set_cons_succ, List.getElem_toArray, List.getElem_cons_zero, List.getElem_cons_succ]
  refine list_val (.pointer (some ⟨gb, 0, none⟩)) (by kernel_rfl) (by kernel_rfl) ?_
  simp only [Act.put, List.setIfInBounds_toArray, List.set_cons_zero, List.set_cons_succ, List.getElem_toArray, List.getElem_cons_zero, List.getElem_cons_succ]
  refine list_call 24 #[.pointer (some ⟨gb, 0, none⟩)] (by kernel_rfl) (by kernel_rfl) ((held_ok G gb j B (unhide hBk) (by omega) _ ((unhide hS).at_ (n := 1) rfl)).mono ?_)
  rintro r t3 ⟨lb, ld, rfl, hls2, -, hg⟩
  refine ⟨_, rfl, ?_⟩
  rw [(unhide hsix).six] at hls2 ⊢
  replace hls1 := hide ((unhide hls1).gr hg)
  replace hls2 := hide hls2
  replace hS := hide ((unhide hS).more hg)
  clear hg
  simp only [Act.put, List.setIfInBounds_toArray, List.set_cons_zero, List.set_cons_succ, List.getElem_toArray, List.getElem_cons_zero, List.getElem_cons_succ]
  refine list_call 27 #[.slice la 6 lc, .slice lb 6 ld] (by kernel_rfl) (by kernel_rfl) ((same_ok (heldL B) (heldN_bb (unhide hBk) _) la lb 6 lc ld (by omega) _ (unhide hls1) (unhide hls2)).mono ?_)
  rintro r t4 ⟨rfl, hg⟩
  refine ⟨_, rfl, ?_⟩
  replace hS := hide ((unhide hS).more hg)
  clear hg
  clear hls1 hls2
  simp only [Act.put, List.setIfInBounds_toArray, List.set_cons_zero, List.set_cons_succ, List.getElem_toArray, List.getElem_cons_zero, List.getElem_cons_succ]
  refine list_val (.bool true) (by kernel_rfl) (by kernel_rfl) ?_
  simp only [Act.put, List.setIfInBounds_toArray, List.set_cons_zero, List.set_cons_succ, List.getElem_toArray, List.getElem_cons_zero, List.getElem_cons_succ]
  refine list_val (.pointer (some ⟨ga, 0, none⟩)) (by kernel_rfl) (by kernel_rfl) ?_
  simp only [Act.put, List.setIfInBounds_toArray, List.set_cons_zero, List.set_cons_succ, List.getElem_toArray, List.getElem_cons_zero, List.getElem_cons_succ]
  refine list_call 22 #[.pointer (some ⟨ga, 0, none⟩)] (by kernel_rfl) (by kernel_rfl) ((dops_ok F ga j (arm B nn) (unhide hAk) (by omega) _ ((unhide hS).at_ (n := 0) rfl)).mono ?_)
  rintro r t5 ⟨rfl, hg⟩
  refine ⟨_, rfl, ?_⟩
  rw [show (arm B nn).ops = B.ops from rfl]
  replace hS := hide ((unhide hS).more hg)
  clear hg
  simp only [Act.put, List.setIfInBounds_toArray, List.set_cons_zero, List.set_cons_succ, List.getElem_toArray, List.getElem_cons_zero, List.getElem_cons_succ]
  refine list_val (.pointer (some ⟨gb, 0, none⟩)) (by kernel_rfl) (by kernel_rfl) ?_
  simp only [Act.put, List.setIfInBounds_toArray, List.set_cons_zero, List.set_cons_succ, List.getElem_toArray, List.getElem_cons_zero, List.getElem_cons_succ]
  refine list_call 22 #[.pointer (some ⟨gb, 0, none⟩)] (by kernel_rfl) (by kernel_rfl) ((dops_ok G gb j B (unhide hBk) (by omega) _ ((unhide hS).at_ (n := 1) rfl)).mono ?_)
  rintro r t6 ⟨rfl, hg⟩
  refine ⟨_, rfl, ?_⟩
  replace hS := hide ((unhide hS).more hg)
  clear hg
  simp only [Act.put, List.setIfInBounds_toArray, List.set_cons_zero, List.set_cons_succ, List.getElem_toArray, List.getElem_cons_zero, List.getElem_cons_succ]
  refine list_val (.bool true) (by kernel_rfl) (by go_simp) ?_
  simp only [Act.put, List.setIfInBounds_toArray, List.set_cons_zero, List.set_cons_succ, List.getElem_toArray, List.getElem_cons_zero, List.getElem_cons_succ]
  refine list_val (.bool true) (by kernel_rfl) (by kernel_rfl) ?_
  simp only [Act.put, List.setIfInBounds_toArray, List.set_cons_zero, List.set_cons_succ, List.getElem_toArray, List.getElem_cons_zero, List.getElem_cons_succ]
  (refine wpList_step fun K hK => ?_; replace hK := hide hK; go_simp; refine unhide hK _ _ ?_; clear hK K)
  refine wpList_nil ?_
  have hP : Hid (Gr w _) := (unhide hS).gr
  clear hS
  go_wp2_with fail
  rw [unhide hT]
  exact ⟨rfl, unhide hP⟩
end Go.Proofs.Ythgchjdjacbcgaa
