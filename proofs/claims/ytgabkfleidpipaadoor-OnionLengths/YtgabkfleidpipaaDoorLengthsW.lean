/-
  Of layer 15: what the proof leans on.
-/
import Derived.Test.YtgabkfleidpipaaDoorXK9
namespace Go.Proofs.YtgabkfleidpipaaDoor
open Go.RowKit
set_option maxRecDepth 100000
set_option linter.unusedSimpArgs false
set_option linter.unusedVariables false
set_option maxHeartbeats 4000000 in
theorem lengths_ok (r1 : Int) (a1 : Option Addr) (n1 c1 : Nat) (b1 : Option Addr) (m1 d1 : Nat) (p1 : Option Addr) (i1 e1 : Nat) (q1 : Option Addr) (k1 l1 : Nat) (S1 O1 : List (List Int)) (hr1 : 0 ≤ r1) (r2 : Int) (a2 : Option Addr) (n2 c2 : Nat) (b2 : Option Addr) (m2 d2 : Nat) (p2 : Option Addr) (i2 e2 : Nat) (q2 : Option Addr) (k2 l2 : Nat) (S2 O2 : List (List Int)) (hr2 : 0 ≤ r2) (P1 : List Int) (w : World) (hF : Fst w) (lk1 : Kw w a1 n1 c1 S1) (lo1 : Kw w b1 m1 d1 O1) (lk2 : Kw w a2 n2 c2 S2) (lo2 : Kw w b2 m2 d2 O2) (lp1 : Lb w p1 i1 e1 P1) : Calls Tryd.prog 5 #[.agg (roadv r1 a1 n1 c1 b1 m1 d1 p1 i1 e1 q1 k1 l1), .agg (roadv r2 a2 n2 c2 b2 m2 d2 p2 i2 e2 q2 k2 l2)] w (Woke w) := by
  obtain ⟨T, hT⟩ : ∃ T, T = Woke w := ⟨_, rfl⟩
  rw [← hT]
  replace hT := hide hT
  obtain ⟨N1, hN1⟩ : ∃ N, N = min (min n1 m1) 3 := ⟨_, rfl⟩
  obtain ⟨N2, hN2⟩ : ∃ N, N = min (min n2 m2) 3 := ⟨_, rfl⟩
  obtain ⟨N, hN⟩ : ∃ N, N = min N1 N2 := ⟨_, rfl⟩
  have hNa : N ≤ N1 := by omega
  have hNb : N ≤ N2 := by omega
  have hN3 : N ≤ 3 := by omega
  have hSl1 : N ≤ (S1.take N1).length := by rw [List.length_take, lk1.len]; omega
  have hSl2 : N ≤ (S2.take N2).length := by rw [List.length_take, lk2.len]; omega
  have hx1 := lp1.cap
  have hx2 := lp1.max
  have hPl := lp1.len
  obtain ⟨SR, hSR⟩ : ∃ S, S = roadv r1 a1 n1 c1 b1 m1 d1 p1 i1 e1 q1 k1 l1 := ⟨_, rfl⟩
  obtain ⟨SQ, hSQ⟩ : ∃ S, S = roadv r2 a2 n2 c2 b2 m2 d2 p2 i2 e2 q2 k2 l2 := ⟨_, rfl⟩
  rw [← hSR, ← hSQ]
  replace hSR := hide hSR
  replace hSQ := hide hSQ
  replace hN1 := hide hN1
  replace hN2 := hide hN2
  replace hN := hide hN
  replace lk1 := hide lk1
  replace lo1 := hide lo1
  replace lk2 := hide lk2
  replace lo2 := hide lo2
  replace lp1 := hide lp1
  replace hF := hide hF
  replace hSl1 := hide hSl1
  replace hSl2 := hide hSl2
  replace hPl := hide hPl
  replace hx1 := hide hx1
  replace hx2 := hide hx2
  replace hNa := hide hNa
  replace hNb := hide hNb
  replace hN3 := hide hN3
  go_enter Tryd.func5, Tryd.ntmps5
  go_upto_region 1 with fail
  have hB := ((Bl.nil w).new SR 26).new SQ 26
  simp only [size_alloc, List.nil_append, List.cons_append] at hB
  generalize World.alloc _ _ = u at *
  rw [unhide hSR, unhide hSQ] at hB
  replace hB : Bl w [⟨w.heap.size, roadv r1 a1 n1 c1 b1 m1 d1 p1 i1 e1 q1 k1 l1, 26⟩, ⟨w.heap.size + 1, roadv r2 a2 n2 c2 b2 m2 d2 p2 i2 e2 q2 k2 l2, 26⟩] u := hB
  refine wp_region_lit ?_
  refine list_call 6 #[] (by kernel_rfl) (by kernel_rfl) ((wakes15_ok u ((unhide hF).gr hB.gr)).mono ?_)
  rintro r_ u1 ⟨rfl, hg⟩
  replace hB := hB.more hg
  clear hg
  refine ⟨_, rfl, ?_⟩
  simp only [nrm]
  refine list_val (.bool false) (by kernel_rfl) (by kernel_rfl) ?_
  simp only [nrm]
  refine wpList_nil ?_
  replace hB := hide hB
  go_upto_region 3 with fail
  replace hB := unhide hB
  by_cases hbig : 1000 < i1
  · skip
    have hbI : (1000 : Int) < (i1 : Int) := by omega
    have hZ : Hid (T (.returned (.bool true)) u1) := by
      rw [unhide hT]
      exact ⟨rfl, hB.gr⟩
    refine wp_region_lit ?_
    refine list_val (.pointer (some ⟨w.heap.size, 3, none⟩)) (by kernel_rfl) (by kernel_rfl) ?_
    simp only [nrm]
    refine list_val (.slice p1 i1 e1) (by kernel_rfl) (exec_bs _ (.tmp 19) rfl (w.heap.size) 3 (by kernel_rfl) p1 i1 e1 (cell_of (hB.get 0 (x := ⟨w.heap.size, roadv r1 a1 n1 c1 b1 m1 d1 p1 i1 e1 q1 k1 l1, 26⟩) rfl) (i := 3) rfl)) ?_
    simp only [nrm]
    refine list_val (.int .i64 (i1 : Int)) (by kernel_rfl) (by kernel_rfl) ?_
    simp only [nrm]
    refine list_val (.bool true) (by kernel_rfl) (by go_simp) ?_
    simp only [nrm]
    refine wpList_nil ?_
    go_wp2_with fail
    exact unhide hZ
  · skip
    have hbI : ¬ (1000 : Int) < (i1 : Int) := by omega
    refine wp_region_lit ?_
    refine list_val (.pointer (some ⟨w.heap.size, 3, none⟩)) (by kernel_rfl) (by kernel_rfl) ?_
    simp only [nrm]
    refine list_val (.slice p1 i1 e1) (by kernel_rfl) (exec_bs _ (.tmp 19) rfl (w.heap.size) 3 (by kernel_rfl) p1 i1 e1 (cell_of (hB.get 0 (x := ⟨w.heap.size, roadv r1 a1 n1 c1 b1 m1 d1 p1 i1 e1 q1 k1 l1, 26⟩) rfl) (i := 3) rfl)) ?_
    simp only [nrm]
    refine list_val (.int .i64 (i1 : Int)) (by kernel_rfl) (by kernel_rfl) ?_
    simp only [nrm]
    refine list_val (.bool false) (by kernel_rfl) (by go_simp) ?_
    simp only [nrm]
    refine wpList_nil ?_
    clear hbI
    replace hB := hide hB
    go_upto_region 5 with fail
    replace hB := unhide hB
    refine wp_region_lit ?_
    refine list_val (.agg (roadv r1 a1 n1 c1 b1 m1 d1 p1 i1 e1 q1 k1 l1)) (by kernel_rfl) (exec_arr _ 26 (.tmp 2) rfl (w.heap.size) (by kernel_rfl) (roadv r1 a1 n1 c1 b1 m1 d1 p1 i1 e1 q1 k1 l1) 26 _ (hB.get 0 (x := ⟨w.heap.size, roadv r1 a1 n1 c1 b1 m1 d1 p1 i1 e1 q1 k1 l1, 26⟩) rfl) Tryd.underlying26 rfl (by rw [Tryd.infoRoad]; rfl)) ?_
    simp only [nrm]
    refine list_call 7 #[.agg (roadv r1 a1 n1 c1 b1 m1 d1 p1 i1 e1 q1 k1 l1)] (by kernel_rfl) (by kernel_rfl) ((rhops_ok r1 a1 n1 c1 b1 m1 d1 p1 i1 e1 q1 k1 l1 S1 O1 N1 (unhide hN1) u1 ((unhide lk1).gr hB.gr) ((unhide lo1).gr hB.gr)).mono ?_)
    rintro r_ u2 ⟨ka1, kc1, oa1, oc1, rfl, hk1, ho1, hg⟩
    replace hB := hB.more hg
    clear hg
    replace hk1 := hide hk1
    replace ho1 := hide ho1
    refine ⟨_, rfl, ?_⟩
    simp only [nrm]
    refine list_val (.tuple #[.slice ka1 N1 kc1, .slice oa1 N1 oc1]) (by kernel_rfl) (by kernel_rfl) ?_
    simp only [nrm]
    refine list_val (.slice ka1 N1 kc1) (by kernel_rfl) (by kernel_rfl) ?_
    simp only [nrm]
    refine list_val (.slice oa1 N1 oc1) (by kernel_rfl) (by kernel_rfl) ?_
    simp only [nrm]
    (refine wpList_step fun K hK => ?_; replace hK := hide hK; go_simp; refine unhide hK _ _ ?_; clear hK K)
    (refine wpList_step fun K hK => ?_; replace hK := hide hK; go_simp; refine unhide hK _ _ ?_; clear hK K)
    refine wpList_nil ?_
    replace hB := hide hB
    go_upto_region 6 with fail
    replace hB := unhide hB
    refine wp_region_lit ?_
    refine list_val (.agg (roadv r2 a2 n2 c2 b2 m2 d2 p2 i2 e2 q2 k2 l2)) (by kernel_rfl) (exec_arr _ 26 (.tmp 3) rfl (w.heap.size + 1) (by kernel_rfl) (roadv r2 a2 n2 c2 b2 m2 d2 p2 i2 e2 q2 k2 l2) 26 _ (hB.get 1 (x := ⟨w.heap.size + 1, roadv r2 a2 n2 c2 b2 m2 d2 p2 i2 e2 q2 k2 l2, 26⟩) rfl) Tryd.underlying26 rfl (by rw [Tryd.infoRoad]; rfl)) ?_
    simp only [nrm]
    refine list_call 7 #[.agg (roadv r2 a2 n2 c2 b2 m2 d2 p2 i2 e2 q2 k2 l2)] (by kernel_rfl) (by kernel_rfl) ((rhops_ok r2 a2 n2 c2 b2 m2 d2 p2 i2 e2 q2 k2 l2 S2 O2 N2 (unhide hN2) u2 ((unhide lk2).gr hB.gr) ((unhide lo2).gr hB.gr)).mono ?_)
    rintro r_ u3 ⟨ka2, kc2, oa2, oc2, rfl, hk2, ho2, hg⟩
    replace hB := hB.more hg
    replace hk1 := hide ((unhide hk1).gr hg)
    replace ho1 := hide ((unhide ho1).gr hg)
    clear hg
    replace hk2 := hide hk2
    replace ho2 := hide ho2
    refine ⟨_, rfl, ?_⟩
    simp only [nrm]
    refine list_val (.tuple #[.slice ka2 N2 kc2, .slice oa2 N2 oc2]) (by kernel_rfl) (by kernel_rfl) ?_
    simp only [nrm]
    refine list_val (.slice ka2 N2 kc2) (by kernel_rfl) (by kernel_rfl) ?_
    simp only [nrm]
    refine list_val (.slice oa2 N2 oc2) (by kernel_rfl) (by kernel_rfl) ?_
    simp only [nrm]
    (refine wpList_step fun K hK => ?_; replace hK := hide hK; go_simp; refine unhide hK _ _ ?_; clear hK K)
    (refine wpList_step fun K hK => ?_; replace hK := hide hK; go_simp; refine unhide hK _ _ ?_; clear hK K)
    refine wpList_nil ?_
    skip
    replace hB := hide hB
    go_upto_region 7 with fail
    replace hB := unhide hB
    refine wp_region_lit ?_
    refine list_val (.slice ka1 N1 kc1) (by kernel_rfl) (by kernel_rfl) ?_
    simp only [nrm]
    refine list_val (.int .i64 (N1 : Int)) (by kernel_rfl) (by kernel_rfl) ?_
    simp only [nrm]
    refine list_val (.slice ka2 N2 kc2) (by kernel_rfl) (by kernel_rfl) ?_
    simp only [nrm]
    refine list_val (.int .i64 (N2 : Int)) (by kernel_rfl) (by kernel_rfl) ?_
    simp only [nrm]
    refine list_val (.int .i64 (N : Int)) (by kernel_rfl) (exec_min2 _ (.tmp 34) (.tmp 36) rfl N1 N2 N (by kernel_rfl) (by kernel_rfl) (unhide hN)) ?_
    simp only [nrm]
    (refine wpList_step fun K hK => ?_; replace hK := hide hK; go_simp; refine unhide hK _ _ ?_; clear hK K)
    refine wpList_nil ?_
    replace hB := hide hB
    go_upto_region 8 with fail
    replace hB := unhide hB
    refine wp_region_lit ?_
    refine list_val (.pointer (some ⟨w.heap.size, 3, none⟩)) (by kernel_rfl) (by kernel_rfl) ?_
    simp only [nrm]
    refine list_val (.slice p1 i1 e1) (by kernel_rfl) (exec_bs _ (.tmp 38) rfl (w.heap.size) 3 (by kernel_rfl) p1 i1 e1 (cell_of (hB.get 0 (x := ⟨w.heap.size, roadv r1 a1 n1 c1 b1 m1 d1 p1 i1 e1 q1 k1 l1, 26⟩) rfl) (i := 3) rfl)) ?_
    simp only [nrm]
    refine list_val (.int .i64 (i1 : Int)) (by kernel_rfl) (by kernel_rfl) ?_
    simp only [nrm]
    refine wpList_step fun K_ hQ => ?_
    rw [if_pos (by kernel_rfl)]
    refine make_op (.tmp 40) (.tmp 40) rfl i1 i1 (by kernel_rfl) (by kernel_rfl) (Nat.le_refl _) (by omega) ?_
    have hg := (Gr.refl u3).alloc (.cells (kc (List.replicate i1 0)) 5 (0, 0))
    have hz := kc_lb (n := i1) (blk_new u3 (.cells (kc (List.replicate i1 0)) 5 (0, 0))) (by simp) (by intro x hx; rw [List.eq_of_mem_replicate hx]; omega) (by omega)
    replace hB := hB.more hg
    replace hk1 := hide ((unhide hk1).gr hg)
    replace ho1 := hide ((unhide ho1).gr hg)
    replace hk2 := hide ((unhide hk2).gr hg)
    replace ho2 := hide ((unhide ho2).gr hg)
    clear hg
    replace hz := hide hz
    generalize World.alloc _ _ = u4 at *
    generalize u3.heap.size = gz at *
    refine hQ _ _ ?_
    clear hQ K_
    simp only [nrm]
    (refine wpList_step fun K hK => ?_; replace hK := hide hK; go_simp; refine unhide hK _ _ ?_; clear hK K)
    refine wpList_nil ?_
    replace hB := hide hB
    go_upto_region 9 with fail
    replace hB := unhide hB
    obtain ⟨LL, hLL⟩ : ∃ L, L = i1 + 48 * N := ⟨_, rfl⟩
    replace hLL := hide hLL
    refine any_start (S := fun (v : World) => Bl w [⟨w.heap.size, roadv r1 a1 n1 c1 b1 m1 d1 p1 i1 e1 q1 k1 l1, 26⟩, ⟨w.heap.size + 1, roadv r2 a2 n2 c2 b2 m2 d2 p2 i2 e2 q2 k2 l2, 26⟩] v) (by kernel_rfl) ?_
    have hdr := (Gr.refl u4).drew
    replace hB := hB.drew
    replace hk1 := hide ((unhide hk1).gr hdr)
    replace ho1 := hide ((unhide ho1).gr hdr)
    replace hk2 := hide ((unhide hk2).gr hdr)
    replace ho2 := hide ((unhide ho2).gr hdr)
    replace hz := hide ((unhide hz).gr hdr)
    clear hdr
    generalize World.drew _ = x1 at *
    replace hB : Bl w [⟨w.heap.size, roadv r1 a1 n1 c1 b1 m1 d1 p1 i1 e1 q1 k1 l1, 26⟩, ⟨w.heap.size + 1, roadv r2 a2 n2 c2 b2 m2 d2 p2 i2 e2 q2 k2 l2, 26⟩] x1 := hB
    simp only [List.size_toArray, List.length_cons, List.length_nil, Array.replicate, List.replicate]
    refine any_take (i := 0) (v := (.pointer (some ⟨w.heap.size, 0, none⟩))) #[false, false, false, false, false, false, false, false, false, false, false, false, false, false, false, false, false, false] rfl (by kernel_rfl) (by kernel_rfl) (by kernel_rfl) (by kernel_rfl) (fun _ _ _ h => h) (.inl ⟨by kernel_rfl, fun x_ hu => by kernel_rfl⟩) hB ?_
    simp only [nrm]
    refine any_take (i := 1) (v := (.int .u64 r1)) #[true, false, false, false, false, false, false, false, false, false, false, false, false, false, false, false, false, false] rfl (by kernel_rfl) (by kernel_rfl) (by kernel_rfl) (by kernel_rfl) (fun _ _ _ h => h) (.inl ⟨by kernel_rfl, fun x_ hu => exec_u64 _ (.tmp 43) rfl (w.heap.size) 0 (by kernel_rfl) r1 (cell_of (hu.get 0 (x := ⟨w.heap.size, roadv r1 a1 n1 c1 b1 m1 d1 p1 i1 e1 q1 k1 l1, 26⟩) rfl) (i := 0) rfl)⟩) hB ?_
    simp only [nrm]
    refine any_take (i := 2) (v := (.slice ka1 N1 kc1)) #[true, true, false, false, false, false, false, false, false, false, false, false, false, false, false, false, false, false] rfl (by kernel_rfl) (by kernel_rfl) (by kernel_rfl) (by kernel_rfl) (fun _ _ _ h => h) (.inl ⟨by kernel_rfl, fun x_ hu => by kernel_rfl⟩) hB ?_
    simp only [nrm]
    refine any_take (i := 3) (v := (.int .i64 (N : Int))) #[true, true, true, false, false, false, false, false, false, false, false, false, false, false, false, false, false, false] rfl (by kernel_rfl) (by kernel_rfl) (by kernel_rfl) (by kernel_rfl) (fun _ _ _ h => h) (.inl ⟨by kernel_rfl, fun x_ hu => by kernel_rfl⟩) hB ?_
    simp only [nrm]
    refine any_take (i := 4) (v := (.slice ka1 N kc1)) #[true, true, true, true, false, false, false, false, false, false, false, false, false, false, false, false, false, false] rfl (by kernel_rfl) (by kernel_rfl) (by kernel_rfl) (by kernel_rfl) (fun _ _ _ h => h) (.inl ⟨by kernel_rfl, fun x_ hu => exec_uptok _ (.tmp 45) (.tmp 46) rfl ka1 N1 kc1 N (by kernel_rfl) (by kernel_rfl) (unhide hk1).cap (unhide hNa)⟩) hB ?_
    simp only [nrm]
    refine any_take (i := 5) (v := (.slice oa1 N1 oc1)) #[true, true, true, true, true, false, false, false, false, false, false, false, false, false, false, false, false, false] rfl (by kernel_rfl) (by kernel_rfl) (by kernel_rfl) (by kernel_rfl) (fun _ _ _ h => h) (.inl ⟨by kernel_rfl, fun x_ hu => by kernel_rfl⟩) hB ?_
    simp only [nrm]
    refine any_take (i := 6) (v := (.int .i64 (N : Int))) #[true, true, true, true, true, true, false, false, false, false, false, false, false, false, false, false, false, false] rfl (by kernel_rfl) (by kernel_rfl) (by kernel_rfl) (by kernel_rfl) (fun _ _ _ h => h) (.inl ⟨by kernel_rfl, fun x_ hu => by kernel_rfl⟩) hB ?_
    simp only [nrm]
    refine any_take (i := 7) (v := (.slice oa1 N oc1)) #[true, true, true, true, true, true, true, false, false, false, false, false, false, false, false, false, false, false] rfl (by kernel_rfl) (by kernel_rfl) (by kernel_rfl) (by kernel_rfl) (fun _ _ _ h => h) (.inl ⟨by kernel_rfl, fun x_ hu => exec_uptok _ (.tmp 48) (.tmp 49) rfl oa1 N1 oc1 N (by kernel_rfl) (by kernel_rfl) (unhide ho1).cap (unhide hNa)⟩) hB ?_
    simp only [nrm]
    refine any_take (i := 8) (v := (.pointer (some ⟨w.heap.size, 3, none⟩))) #[true, true, true, true, true, true, true, true, false, false, false, false, false, false, false, false, false, false] rfl (by kernel_rfl) (by kernel_rfl) (by kernel_rfl) (by kernel_rfl) (fun _ _ _ h => h) (.inl ⟨by kernel_rfl, fun x_ hu => by kernel_rfl⟩) hB ?_
    simp only [nrm]
    refine any_take (i := 9) (v := (.slice p1 i1 e1)) #[true, true, true, true, true, true, true, true, true, false, false, false, false, false, false, false, false, false] rfl (by kernel_rfl) (by kernel_rfl) (by kernel_rfl) (by kernel_rfl) (fun _ _ _ h => h) (.inl ⟨by kernel_rfl, fun x_ hu => exec_bs _ (.tmp 51) rfl (w.heap.size) 3 (by kernel_rfl) p1 i1 e1 (cell_of (hu.get 0 (x := ⟨w.heap.size, roadv r1 a1 n1 c1 b1 m1 d1 p1 i1 e1 q1 k1 l1, 26⟩) rfl) (i := 3) rfl)⟩) hB ?_
    simp only [nrm]
    refine any_one (i := 10) (by kernel_rfl) rfl (fun K_ hQ => ?_)
    refine step_callw (by kernel_rfl) 8 #[.int .u64 r1, .slice ka1 N kc1, .slice oa1 N oc1, .slice p1 i1 e1] (by kernel_rfl) ((nbuild_ok r1 hr1 (((S1.take N1).map pubL).take N) ((O1.take N1).take N) P1 ka1 oa1 p1 N kc1 oc1 i1 e1 (unhide hN3) (by omega) x1 ((unhide hF).gr hB.gr) ((unhide hk1).take (unhide hNa)) ((unhide ho1).take (unhide hNa)) ((unhide lp1).gr hB.gr) (fun i_ hi_ => nlow_all _ _ N i_ hi_ (unhide hSl1))).mono ?_)
    rintro r u5 ⟨v1, sa1, sc1, rfl, hO1, hS1, hg⟩
    refine ⟨_, rfl, ?_⟩
    obtain ⟨va1, vc1, rfl⟩ := hO1.sl
    have hlen : (onL r1 P1 (shL ((O1.take N1).take N) (((S1.take N1).map pubL).take N)) ((O1.take N1).take N)).length = LL := by
          have h1 := (unhide hk1).len
          have h2 := (unhide ho1).len
          have h3 := unhide hNa
          have h4 : (shL ((O1.take N1).take N) (((S1.take N1).map pubL).take N)).length = N := by
            rw [shL_len _ _ (by simp only [List.length_take, List.length_map] at h1 h2 ⊢; omega)]
            simp only [List.length_take, List.length_map] at h1 ⊢
            omega
          rw [onL_len _ _ _ _ (by rw [h4]; simp only [List.length_take] at h2 ⊢; omega), h4, unhide hLL]
          have h9 := unhide hPl
          omega
    rw [hlen]
    replace hB := hB.more hg
    replace hk2 := hide ((unhide hk2).gr hg)
    replace ho2 := hide ((unhide ho2).gr hg)
    replace hz := hide ((unhide hz).gr hg)
    clear hg hlen hO1 hS1
    refine hQ.out _ _ hB (fun _ => ?_)
    clear hQ K_
    simp only [nrm]
    refine any_take (i := 11) (v := (.tuple #[.slice va1 LL vc1, .slice sa1 N sc1, .int .i64 0])) #[true, true, true, true, true, true, true, true, true, true, true, false, false, false, false, false, false, false] rfl (by kernel_rfl) (by kernel_rfl) (by kernel_rfl) (by kernel_rfl) (fun _ _ _ h => h) (.inl ⟨by kernel_rfl, fun x_ hu => by kernel_rfl⟩) hB ?_
    simp only [nrm]
    refine any_take (i := 12) (v := (.slice va1 LL vc1)) #[true, true, true, true, true, true, true, true, true, true, true, true, false, false, false, false, false, false] rfl (by kernel_rfl) (by kernel_rfl) (by kernel_rfl) (by kernel_rfl) (fun _ _ _ h => h) (.inl ⟨by kernel_rfl, fun x_ hu => by kernel_rfl⟩) hB ?_
    simp only [nrm]
    refine any_take (i := 13) (v := (.slice sa1 N sc1)) #[true, true, true, true, true, true, true, true, true, true, true, true, true, false, false, false, false, false] rfl (by kernel_rfl) (by kernel_rfl) (by kernel_rfl) (by kernel_rfl) (fun _ _ _ h => h) (.inl ⟨by kernel_rfl, fun x_ hu => by kernel_rfl⟩) hB ?_
    simp only [nrm]
    refine any_take (i := 14) (v := (.int .i64 0)) #[true, true, true, true, true, true, true, true, true, true, true, true, true, true, false, false, false, false] rfl (by kernel_rfl) (by kernel_rfl) (by kernel_rfl) (by kernel_rfl) (fun _ _ _ h => h) (.inl ⟨by kernel_rfl, fun x_ hu => by kernel_rfl⟩) hB ?_
    simp only [nrm]
    refine any_one (i := 15) (by kernel_rfl) rfl (fun K_ hQ => ?_)
    replace hQ := hide hQ
    go_simp
    refine (unhide hQ).out _ _ hB (fun _ => ?_)
    clear hQ K_
    refine any_one (i := 16) (by kernel_rfl) rfl (fun K_ hQ => ?_)
    replace hQ := hide hQ
    go_simp
    refine (unhide hQ).out _ _ hB (fun _ => ?_)
    clear hQ K_
    refine any_one (i := 17) (by kernel_rfl) rfl (fun K_ hQ => ?_)
    replace hQ := hide hQ
    go_simp
    refine (unhide hQ).out _ _ hB (fun _ => ?_)
    clear hQ K_
    refine any_done (by kernel_rfl) ?_
    replace hB := hide hB
    go_upto_region 10 with fail
    replace hB := unhide hB
    refine any_start (S := fun (v : World) => Bl w [⟨w.heap.size, roadv r1 a1 n1 c1 b1 m1 d1 p1 i1 e1 q1 k1 l1, 26⟩, ⟨w.heap.size + 1, roadv r2 a2 n2 c2 b2 m2 d2 p2 i2 e2 q2 k2 l2, 26⟩] v) (by kernel_rfl) ?_
    have hdr := (Gr.refl u5).drew
    replace hB := hB.drew
    replace hk2 := hide ((unhide hk2).gr hdr)
    replace ho2 := hide ((unhide ho2).gr hdr)
    replace hz := hide ((unhide hz).gr hdr)
    clear hdr
    generalize World.drew _ = x2 at *
    replace hB : Bl w [⟨w.heap.size, roadv r1 a1 n1 c1 b1 m1 d1 p1 i1 e1 q1 k1 l1, 26⟩, ⟨w.heap.size + 1, roadv r2 a2 n2 c2 b2 m2 d2 p2 i2 e2 q2 k2 l2, 26⟩] x2 := hB
    simp only [List.size_toArray, List.length_cons, List.length_nil, Array.replicate, List.replicate]
    refine any_take (i := 0) (v := (.pointer (some ⟨w.heap.size + 1, 0, none⟩))) #[false, false, false, false, false, false, false, false, false, false, false, false, false, false, false, false, false] rfl (by kernel_rfl) (by kernel_rfl) (by kernel_rfl) (by kernel_rfl) (fun _ _ _ h => h) (.inl ⟨by kernel_rfl, fun x_ hu => by kernel_rfl⟩) hB ?_
    simp only [nrm]
    refine any_take (i := 1) (v := (.int .u64 r2)) #[true, false, false, false, false, false, false, false, false, false, false, false, false, false, false, false, false] rfl (by kernel_rfl) (by kernel_rfl) (by kernel_rfl) (by kernel_rfl) (fun _ _ _ h => h) (.inl ⟨by kernel_rfl, fun x_ hu => exec_u64 _ (.tmp 58) rfl (w.heap.size + 1) 0 (by kernel_rfl) r2 (cell_of (hu.get 1 (x := ⟨w.heap.size + 1, roadv r2 a2 n2 c2 b2 m2 d2 p2 i2 e2 q2 k2 l2, 26⟩) rfl) (i := 0) rfl)⟩) hB ?_
    simp only [nrm]
    refine any_take (i := 2) (v := (.slice ka2 N2 kc2)) #[true, true, false, false, false, false, false, false, false, false, false, false, false, false, false, false, false] rfl (by kernel_rfl) (by kernel_rfl) (by kernel_rfl) (by kernel_rfl) (fun _ _ _ h => h) (.inl ⟨by kernel_rfl, fun x_ hu => by kernel_rfl⟩) hB ?_
    simp only [nrm]
    refine any_take (i := 3) (v := (.int .i64 (N : Int))) #[true, true, true, false, false, false, false, false, false, false, false, false, false, false, false, false, false] rfl (by kernel_rfl) (by kernel_rfl) (by kernel_rfl) (by kernel_rfl) (fun _ _ _ h => h) (.inl ⟨by kernel_rfl, fun x_ hu => by kernel_rfl⟩) hB ?_
    simp only [nrm]
    refine any_take (i := 4) (v := (.slice ka2 N kc2)) #[true, true, true, true, false, false, false, false, false, false, false, false, false, false, false, false, false] rfl (by kernel_rfl) (by kernel_rfl) (by kernel_rfl) (by kernel_rfl) (fun _ _ _ h => h) (.inl ⟨by kernel_rfl, fun x_ hu => exec_uptok _ (.tmp 60) (.tmp 61) rfl ka2 N2 kc2 N (by kernel_rfl) (by kernel_rfl) (unhide hk2).cap (unhide hNb)⟩) hB ?_
    simp only [nrm]
    refine any_take (i := 5) (v := (.slice oa2 N2 oc2)) #[true, true, true, true, true, false, false, false, false, false, false, false, false, false, false, false, false] rfl (by kernel_rfl) (by kernel_rfl) (by kernel_rfl) (by kernel_rfl) (fun _ _ _ h => h) (.inl ⟨by kernel_rfl, fun x_ hu => by kernel_rfl⟩) hB ?_
    simp only [nrm]
    refine any_take (i := 6) (v := (.int .i64 (N : Int))) #[true, true, true, true, true, true, false, false, false, false, false, false, false, false, false, false, false] rfl (by kernel_rfl) (by kernel_rfl) (by kernel_rfl) (by kernel_rfl) (fun _ _ _ h => h) (.inl ⟨by kernel_rfl, fun x_ hu => by kernel_rfl⟩) hB ?_
    simp only [nrm]
    refine any_take (i := 7) (v := (.slice oa2 N oc2)) #[true, true, true, true, true, true, true, false, false, false, false, false, false, false, false, false, false] rfl (by kernel_rfl) (by kernel_rfl) (by kernel_rfl) (by kernel_rfl) (fun _ _ _ h => h) (.inl ⟨by kernel_rfl, fun x_ hu => exec_uptok _ (.tmp 63) (.tmp 64) rfl oa2 N2 oc2 N (by kernel_rfl) (by kernel_rfl) (unhide ho2).cap (unhide hNb)⟩) hB ?_
    simp only [nrm]
    refine any_take (i := 8) (v := (.slice (some ⟨gz, 0, none⟩) i1 i1)) #[true, true, true, true, true, true, true, true, false, false, false, false, false, false, false, false, false] rfl (by kernel_rfl) (by kernel_rfl) (by kernel_rfl) (by kernel_rfl) (fun _ _ _ h => h) (.inl ⟨by kernel_rfl, fun x_ hu => by kernel_rfl⟩) hB ?_
    simp only [nrm]
    refine any_one (i := 9) (by kernel_rfl) rfl (fun K_ hQ => ?_)
    refine step_callw (by kernel_rfl) 8 #[.int .u64 r2, .slice ka2 N kc2, .slice oa2 N oc2, .slice (some ⟨gz, 0, none⟩) i1 i1] (by kernel_rfl) ((nbuild_ok r2 hr2 (((S2.take N2).map pubL).take N) ((O2.take N2).take N) (List.replicate i1 0) ka2 oa2 (some ⟨gz, 0, none⟩) N kc2 oc2 i1 i1 (unhide hN3) (by omega) x2 ((unhide hF).gr hB.gr) ((unhide hk2).take (unhide hNb)) ((unhide ho2).take (unhide hNb)) (unhide hz) (fun i_ hi_ => nlow_all _ _ N i_ hi_ (unhide hSl2))).mono ?_)
    rintro r u6 ⟨v2, sa2, sc2, rfl, hO2, hS2, hg⟩
    refine ⟨_, rfl, ?_⟩
    obtain ⟨va2, vc2, rfl⟩ := hO2.sl
    have hlen : (onL r2 (List.replicate i1 0) (shL ((O2.take N2).take N) (((S2.take N2).map pubL).take N)) ((O2.take N2).take N)).length = LL := by
          have h1 := (unhide hk2).len
          have h2 := (unhide ho2).len
          have h3 := unhide hNb
          have h4 : (shL ((O2.take N2).take N) (((S2.take N2).map pubL).take N)).length = N := by
            rw [shL_len _ _ (by simp only [List.length_take, List.length_map] at h1 h2 ⊢; omega)]
            simp only [List.length_take, List.length_map] at h1 ⊢
            omega
          rw [onL_len _ _ _ _ (by rw [h4]; simp only [List.length_take] at h2 ⊢; omega), h4, unhide hLL]
          rw [List.length_replicate]
    rw [hlen]
    replace hB := hB.more hg
    clear hg hlen hO2 hS2
    refine hQ.out _ _ hB (fun _ => ?_)
    clear hQ K_
    simp only [nrm]
    refine any_take (i := 10) (v := (.tuple #[.slice va2 LL vc2, .slice sa2 N sc2, .int .i64 0])) #[true, true, true, true, true, true, true, true, true, true, false, false, false, false, false, false, false] rfl (by kernel_rfl) (by kernel_rfl) (by kernel_rfl) (by kernel_rfl) (fun _ _ _ h => h) (.inl ⟨by kernel_rfl, fun x_ hu => by kernel_rfl⟩) hB ?_
    simp only [nrm]
    refine any_take (i := 11) (v := (.slice va2 LL vc2)) #[true, true, true, true, true, true, true, true, true, true, true, false, false, false, false, false, false] rfl (by kernel_rfl) (by kernel_rfl) (by kernel_rfl) (by kernel_rfl) (fun _ _ _ h => h) (.inl ⟨by kernel_rfl, fun x_ hu => by kernel_rfl⟩) hB ?_
    simp only [nrm]
    refine any_take (i := 12) (v := (.slice sa2 N sc2)) #[true, true, true, true, true, true, true, true, true, true, true, true, false, false, false, false, false] rfl (by kernel_rfl) (by kernel_rfl) (by kernel_rfl) (by kernel_rfl) (fun _ _ _ h => h) (.inl ⟨by kernel_rfl, fun x_ hu => by kernel_rfl⟩) hB ?_
    simp only [nrm]
    refine any_take (i := 13) (v := (.int .i64 0)) #[true, true, true, true, true, true, true, true, true, true, true, true, true, false, false, false, false] rfl (by kernel_rfl) (by kernel_rfl) (by kernel_rfl) (by kernel_rfl) (fun _ _ _ h => h) (.inl ⟨by kernel_rfl, fun x_ hu => by kernel_rfl⟩) hB ?_
    simp only [nrm]
    refine any_one (i := 14) (by kernel_rfl) rfl (fun K_ hQ => ?_)
    replace hQ := hide hQ
    go_simp
    refine (unhide hQ).out _ _ hB (fun _ => ?_)
    clear hQ K_
    refine any_one (i := 15) (by kernel_rfl) rfl (fun K_ hQ => ?_)
    replace hQ := hide hQ
    go_simp
    refine (unhide hQ).out _ _ hB (fun _ => ?_)
    clear hQ K_
    refine any_one (i := 16) (by kernel_rfl) rfl (fun K_ hQ => ?_)
    replace hQ := hide hQ
    go_simp
    refine (unhide hQ).out _ _ hB (fun _ => ?_)
    clear hQ K_
    refine any_done (by kernel_rfl) ?_
    have hZ : Hid (T (.returned (.bool true)) u6) := by
      rw [unhide hT]
      exact ⟨rfl, hB.gr⟩
    replace hB := hide hB
    go_upto_region 11 with fail
    replace hB := unhide hB
    refine wp_region_lit ?_
    refine list_val (.int .i64 0) (by kernel_rfl) (by kernel_rfl) ?_
    simp only [nrm]
    refine list_val (.bool true) (by kernel_rfl) (by kernel_rfl) ?_
    simp only [nrm]
    refine list_val (.bool true) (by kernel_rfl) (by kernel_rfl) ?_
    simp only [nrm]
    refine list_val (.int .i64 0) (by kernel_rfl) (by kernel_rfl) ?_
    simp only [nrm]
    refine list_val (.bool true) (by kernel_rfl) (by kernel_rfl) ?_
    simp only [nrm]
    refine list_val (.bool true) (by kernel_rfl) (by kernel_rfl) ?_
    simp only [nrm]
    refine list_val (.bool true) (by kernel_rfl) (by kernel_rfl) ?_
    simp only [nrm]
    refine list_val (.slice va1 LL vc1) (by kernel_rfl) (by kernel_rfl) ?_
    simp only [nrm]
    refine list_val (.int .i64 (LL : Int)) (by kernel_rfl) (by kernel_rfl) ?_
    simp only [nrm]
    refine list_val (.slice va2 LL vc2) (by kernel_rfl) (by kernel_rfl) ?_
    simp only [nrm]
    refine list_val (.int .i64 (LL : Int)) (by kernel_rfl) (by kernel_rfl) ?_
    simp only [nrm]
    refine list_val (.bool true) (by kernel_rfl) (by go_simp) ?_
    simp only [nrm]
    refine list_val (.bool true) (by kernel_rfl) (by kernel_rfl) ?_
    simp only [nrm]
    (refine wpList_step fun K hK => ?_; replace hK := hide hK; go_simp; refine unhide hK _ _ ?_; clear hK K)
    refine wpList_nil ?_
    go_wp2_with fail
    exact unhide hZ
end Go.Proofs.YtgabkfleidpipaaDoor
