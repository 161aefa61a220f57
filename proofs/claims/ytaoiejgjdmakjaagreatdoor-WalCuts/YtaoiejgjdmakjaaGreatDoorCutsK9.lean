/-
  Of layer 12: what the proof leans on.
-/
import Derived.Test.YtaoiejgjdmakjaaGreatDoorCutsK8
namespace Go.Proofs.YtaoiejgjdmakjaaGreatDoor
open Go.RowKit
set_option maxRecDepth 100000
set_option linter.unusedSimpArgs false
set_option linter.unusedVariables false
set_option maxHeartbeats 1000000 in
theorem wneed_ok (n : Int) (h1 : -9223372036854775808 ≤ n) (h2 : n < 9223372036854775808) (w : World) : Calls Tryz.prog 27 #[.int .i64 n] w (Vl (.int .i64 (nedI n)) w) := by
  obtain ⟨T, hT⟩ : ∃ T, T = Vl (.int .i64 (nedI n)) w := ⟨_, rfl⟩
  rw [← hT]
  by_cases h0 : n < 0
  · have e : nedI n = 0 := by unfold nedI; rw [if_pos h0]
    rw [e] at hT
    replace hT := hide hT
    clear e
    have hZ : Hid (Vl (.int .i64 0) w (.returned (.int .i64 0)) w) := ⟨rfl, Gr.refl w⟩
    go_enter Tryz.func27, Tryz.ntmps27
    go_wp2_with fail
    rw [unhide hT]
    exact unhide hZ
  · obtain ⟨q, hq⟩ : ∃ q : Int, q = n / 63 := ⟨_, rfl⟩
    obtain ⟨r, hr⟩ : ∃ r : Int, r = n % 63 := ⟨_, rfl⟩
    have e1 : n.tdiv 63 = q := by rw [Int.tdiv_eq_ediv_of_nonneg (by omega), hq]
    have e2 : n.tmod 63 = r := by rw [Int.tmod_eq_emod_of_nonneg (by omega), hr]
    have e3 : IntKind.i64.wrap q = q := by rw [IntKind.wrap_i64]; omega
    have e4 : IntKind.i64.wrap r = r := by rw [IntKind.wrap_i64]; omega
    have e5 : IntKind.i64.wrap (1 + q) = q + 1 := by rw [IntKind.wrap_i64]; omega
    by_cases hr0 : r < 1
    · have e : nedI n = q + 1 + 0 := by unfold nedI; rw [if_neg h0]; omega
      rw [e] at hT
      replace hT := hide hT
      obtain ⟨s, hs⟩ : ∃ s : Int, s = q + 1 + 0 := ⟨_, rfl⟩
      rw [← hs] at hT
      have e6 : IntKind.i64.wrap (q + 1 + 0) = s := by rw [IntKind.wrap_i64]; omega
      have e7 : IntKind.i64.wrap (q + 1) = s := by rw [IntKind.wrap_i64]; omega
      clear e5
      have e5 : IntKind.i64.wrap (1 + q) = s := by rw [IntKind.wrap_i64]; omega
      replace hs := hide hs
      replace hq := hide hq; replace hr := hide hr
      have hrz : r = 0 := by have := unhide hr; omega
      have e8 : IntKind.i64.wrap s = s := by have := unhide hs; have := unhide hq; rw [IntKind.wrap_i64]; omega
      subst hrz
      clear e
      have hZ : Hid (Vl (.int .i64 s) w (.returned (.int .i64 s)) w) := ⟨rfl, Gr.refl w⟩
      go_enter Tryz.func27, Tryz.ntmps27
      go_upto_region 3 with fail
      refine wp_region_lit ?_
      refine list_val (.int .i64 n) (by kernel_rfl) (by kernel_rfl) ?_
      simp only [nrm]
      refine list_val (.int .i64 q) (by kernel_rfl) (by go_simp) ?_
      simp only [nrm]
      refine list_val (.int .i64 s) (by kernel_rfl) (by go_simp) ?_
      simp only [nrm]
      refine list_val (.int .i64 n) (by kernel_rfl) (by kernel_rfl) ?_
      simp only [nrm]
      refine list_val (.int .i64 0) (by kernel_rfl) (by go_simp) ?_
      simp only [nrm]
      refine list_val (.int .i64 0) (by kernel_rfl) (by kernel_rfl) ?_
      simp only [nrm]
      refine list_val (.int .i64 s) (by kernel_rfl) (by go_simp) ?_
      simp only [nrm]
      (refine wpList_step fun K hK => ?_; replace hK := hide hK; go_simp; refine unhide hK _ _ ?_; clear hK K)
      refine wpList_nil ?_
      go_wp2_with fail
      rw [unhide hT]
      exact unhide hZ
    
    · have e : nedI n = q + 1 + 1 := by unfold nedI; rw [if_neg h0]; omega
      rw [e] at hT
      replace hT := hide hT
      obtain ⟨s, hs⟩ : ∃ s : Int, s = q + 1 + 1 := ⟨_, rfl⟩
      rw [← hs] at hT
      have e6 : IntKind.i64.wrap (q + 1 + 1) = s := by rw [IntKind.wrap_i64]; omega
      skip
      skip
      skip
      replace hs := hide hs
      replace hq := hide hq; replace hr := hide hr
      skip
      skip
      skip
      clear e
      have hZ : Hid (Vl (.int .i64 s) w (.returned (.int .i64 s)) w) := ⟨rfl, Gr.refl w⟩
      go_enter Tryz.func27, Tryz.ntmps27
      go_upto_region 3 with fail
      refine wp_region_lit ?_
      refine list_val (.int .i64 n) (by kernel_rfl) (by kernel_rfl) ?_
      simp only [nrm]
      refine list_val (.int .i64 q) (by kernel_rfl) (by go_simp) ?_
      simp only [nrm]
      refine list_val (.int .i64 (q + 1)) (by kernel_rfl) (by go_simp) ?_
      simp only [nrm]
      refine list_val (.int .i64 n) (by kernel_rfl) (by kernel_rfl) ?_
      simp only [nrm]
      refine list_val (.int .i64 r) (by kernel_rfl) (by go_simp) ?_
      simp only [nrm]
      refine list_val (.int .i64 1) (by kernel_rfl) (by go_simp; omega) ?_
      simp only [nrm]
      refine list_val (.int .i64 s) (by kernel_rfl) (by go_simp) ?_
      simp only [nrm]
      (refine wpList_step fun K hK => ?_; replace hK := hide hK; go_simp; refine unhide hK _ _ ?_; clear hK K)
      refine wpList_nil ?_
      go_wp2_with fail
      rw [unhide hT]
      exact unhide hZ
set_option maxHeartbeats 4000000 in
theorem wfits_ok (n k : Int) (h1 : -9223372036854775808 ≤ n) (h2 : n < 9223372036854775808) (w : World) : Calls Tryz.prog 55 #[.int .i64 n, .int .i64 k] w (Vl (.bool (decide (0 ≤ n ∧ nedI n ≤ k))) w) := by
  obtain ⟨T, hT⟩ : ∃ T, T = Vl (.bool (decide (0 ≤ n ∧ nedI n ≤ k))) w := ⟨_, rfl⟩
  rw [← hT]
  replace hT := hide hT
  by_cases h0 : 0 ≤ n
  · obtain ⟨rr, hrr⟩ : ∃ b, b = decide (nedI n ≤ k) := ⟨_, rfl⟩
    have e : decide (0 ≤ n ∧ nedI n ≤ k) = rr := by rw [hrr]; simp [h0]
    replace hrr := hide hrr
    rw [e] at hT
    clear e
    have hB := Bl.nil w
    go_enter Tryz.func55, Tryz.ntmps55
    go_upto_region 1 with fail
    refine wp_region_lit ?_
    refine list_val (.int .i64 n) (by kernel_rfl) (by kernel_rfl) ?_
    simp only [nrm]
    refine list_val (.bool true) (by kernel_rfl) (by go_simp) ?_
    simp only [nrm]
    refine list_val (.bool true) (by kernel_rfl) (by kernel_rfl) ?_
    simp only [nrm]
    refine list_val (.int .i64 n) (by kernel_rfl) (by kernel_rfl) ?_
    simp only [nrm]
    refine list_call 27 #[.int .i64 n] (by kernel_rfl) (by kernel_rfl) ((wneed_ok n h1 h2 _).mono ?_)
    rintro r u ⟨rfl, hg⟩
    refine ⟨_, rfl, ?_⟩
    replace hB := hB.more hg
    clear hg
    have hq : rr = decide (nedI n ≤ k) := unhide hrr
    clear hrr
    generalize nedI n = q at *
    replace hq := hide hq
    simp only [nrm]
    refine list_val (.int .i64 k) (by kernel_rfl) (by kernel_rfl) ?_
    simp only [nrm]
    refine list_val (.bool rr) (by kernel_rfl) (by rw [unhide hq]; kernel_rfl) ?_
    simp only [nrm]
    refine list_val (.bool rr) (by kernel_rfl) (by kernel_rfl) ?_
    simp only [nrm]
    (refine wpList_step fun K hK => ?_; replace hK := hide hK; go_simp; refine unhide hK _ _ ?_; clear hK K)
    refine wpList_nil ?_
    have hZ : Hid (Vl (.bool rr) w (.returned (.bool rr)) u) := ⟨by rfl, hB.gr⟩
    clear hB
    go_wp2_with fail
    rw [unhide hT]
    exact unhide hZ
  · obtain ⟨rr, hrr⟩ : ∃ b, b = false := ⟨_, rfl⟩
    have e : decide (0 ≤ n ∧ nedI n ≤ k) = rr := by rw [hrr]; simp [h0]
    rw [e] at hT
    clear e
    have hB := Bl.nil w
    go_enter Tryz.func55, Tryz.ntmps55
    go_upto_region 1 with fail
    refine wp_region_lit ?_
    refine list_val (.int .i64 n) (by kernel_rfl) (by kernel_rfl) ?_
    simp only [nrm]
    refine list_val (.bool false) (by kernel_rfl) (by go_simp) ?_
    simp only [nrm]
    refine list_val (.bool false) (by kernel_rfl) (by kernel_rfl) ?_
    simp only [nrm]
    refine wpList_step fun K hK => ?_
    rw [if_neg (ne_true_of_eq_false (by kernel_rfl))]
    refine hK _ _ ?_
    clear hK K
    simp only [nrm]
    refine wpList_step fun K hK => ?_
    rw [if_neg (ne_true_of_eq_false (by kernel_rfl))]
    refine hK _ _ ?_
    clear hK K
    simp only [nrm]
    refine wpList_step fun K hK => ?_
    rw [if_neg (ne_true_of_eq_false (by kernel_rfl))]
    refine hK _ _ ?_
    clear hK K
    simp only [nrm]
    refine wpList_step fun K hK => ?_
    rw [if_neg (ne_true_of_eq_false (by kernel_rfl))]
    refine hK _ _ ?_
    clear hK K
    simp only [nrm]
    refine list_val (.bool false) (by kernel_rfl) (by kernel_rfl) ?_
    simp only [nrm]
    (refine wpList_step fun K hK => ?_; replace hK := hide hK; go_simp; refine unhide hK _ _ ?_; clear hK K)
    refine wpList_nil ?_
    have hZ : Hid (Vl (.bool rr) w (.returned (.bool false)) w) := ⟨by rw [hrr], hB.gr⟩
    clear hB
    go_wp2_with fail
    rw [unhide hT]
    exact unhide hZ
set_option maxHeartbeats 4000000 in
theorem wsector_ok (S : List Int) (a : Option Addr) (n c : Nat) (w : World) (hS : Lb w a n c S) (hn : n ≤ 63) : Calls Tryz.prog 61 #[.slice a n c] w (Vl (.agg (kc (lay ZB 1 S))) w) := by
  obtain ⟨T, hT⟩ : ∃ T, T = Vl (.agg (kc (lay ZB 1 S))) w := ⟨_, rfl⟩
  rw [← hT]
  replace hT := hide hT
  have hSl := hS.len
  replace hS := hide hS
  go_enter Tryz.func61, Tryz.ntmps61
  go_upto_region 1 with fail
  have hB := ((Bl.nil w).new #[.int .u8 0, .int .u8 0, .int .u8 0, .int .u8 0, .int .u8 0, .int .u8 0, .int .u8 0, .int .u8 0, .int .u8 0, .int .u8 0, .int .u8 0, .int .u8 0, .int .u8 0, .int .u8 0, .int .u8 0, .int .u8 0, .int .u8 0, .int .u8 0, .int .u8 0, .int .u8 0, .int .u8 0, .int .u8 0, .int .u8 0, .int .u8 0, .int .u8 0, .int .u8 0, .int .u8 0, .int .u8 0, .int .u8 0, .int .u8 0, .int .u8 0, .int .u8 0, .int .u8 0, .int .u8 0, .int .u8 0, .int .u8 0, .int .u8 0, .int .u8 0, .int .u8 0, .int .u8 0, .int .u8 0, .int .u8 0, .int .u8 0, .int .u8 0, .int .u8 0, .int .u8 0, .int .u8 0, .int .u8 0, .int .u8 0, .int .u8 0, .int .u8 0, .int .u8 0, .int .u8 0, .int .u8 0, .int .u8 0, .int .u8 0, .int .u8 0, .int .u8 0, .int .u8 0, .int .u8 0, .int .u8 0, .int .u8 0, .int .u8 0, .int .u8 0] 36)
  simp only [size_alloc, List.nil_append, List.cons_append] at hB
  generalize World.alloc _ _ = u at *
  replace hB : Bl w [⟨w.heap.size, kc ZB, 36⟩] u := hB
  refine wp_region_lit ?_
  refine list_val (.agg (kc ZB)) (by kernel_rfl) (by kernel_rfl) ?_
  simp only [nrm]
  refine list_valw (.pointer (some ⟨u.heap.size, 0, none⟩)) (u.alloc (.cells (kc ZB) 36 (0, 0))) (by kernel_rfl) (by kernel_rfl) ?_
  replace hB := hB.new (kc ZB) 36
  simp only [List.nil_append, List.cons_append] at hB
  generalize World.alloc _ _ = u1 at *
  generalize u.heap.size = h1 at *
  replace hB : Bl w [⟨w.heap.size, kc ZB, 36⟩, ⟨h1, kc ZB, 36⟩] u1 := hB
  simp only [nrm]
  refine list_store 36 (.tmp 3) (.tmp 4) (h1) (kc ZB) 36 (kc ZB) (by kernel_rfl) rfl (by kernel_rfl) (by kernel_rfl) (hB.get 1 (x := ⟨h1, kc ZB, 36⟩) rfl) (by rw [Tryz.infoB, kc_size, (show ZB.length = 64 from rfl)]) ((show (kc ZB).size = 64 from rfl).trans ((kc_size _).trans (show ZB.length = 64 from rfl)).symm) (kc_one _) ?_
  replace hB := hB.set 1 (x := ⟨h1, kc ZB, 36⟩) rfl (kc ZB)
  simp only [List.set_cons_zero, List.set_cons_succ] at hB
  generalize World.setRow _ _ _ = u2 at *
  replace hB : Bl w [⟨w.heap.size, kc ZB, 36⟩, ⟨h1, kc ZB, 36⟩] u2 := hB
  simp only [nrm]
  refine wpList_nil ?_
  replace hB := hide hB
  go_upto_region 2 with fail
  replace hB := unhide hB
  refine wp_region_lit ?_
  refine list_val (.slice (some ⟨h1, 1, none⟩) 63 63) (by kernel_rfl) (exec_afrom _ (.tmp 3) (.const (.int .i64 1)) rfl h1 1 (by kernel_rfl) (by kernel_rfl) (by omega)) ?_
  simp only [nrm]
  refine list_val (.slice a n c) (by kernel_rfl) (by kernel_rfl) ?_
  simp only [nrm]
  refine wpList_step fun K_ hQ => ?_
  rw [if_pos (by kernel_rfl)]
  refine copy_wp (.tmp 5) (.tmp 6) rfl h1 1 63 63 a n c (by kernel_rfl) (by kernel_rfl) (ZB.map (Value.int .u8)) 36 (hB.get 1 (x := ⟨h1, kc ZB, 36⟩) rfl) S (by rw [hSl]; exact (Nat.min_eq_left hn).symm) ((unhide hS).gr hB.gr).sl (by rw [hSl, List.length_map]; show 1 + n ≤ 64; omega) ?_
  have hcell := laid (S := S) (o := 1) (hB.get 1 (x := ⟨h1, kc ZB, 36⟩) rfl) (by rw [hSl]; show 1 + n ≤ 64; omega)
  have hB2 := hB.but (setCells_bt (S.map (Value.int .u8)) u2 h1 1) 1 (x := ⟨h1, kc ZB, 36⟩) rfl rfl hcell
  simp only [List.set_cons_zero, List.set_cons_succ] at hB2
  generalize World.setCells _ _ _ _ = u3 at *
  rw [hSl]
  have hCl : (lay ZB 1 S).length = 64 := (lay_len _ _ _ (by rw [hSl]; show 1 + n ≤ 64; omega)).trans rfl
  generalize lay ZB 1 S = CL at *
  clear hcell hB
  have hB : Bl w [⟨w.heap.size, kc ZB, 36⟩, ⟨h1, kc CL, 36⟩] u3 := hB2
  clear hB2
  refine hQ _ _ ?_
  clear hQ K_
  simp only [nrm]
  refine wpList_nil ?_
  replace hB := hide hB
  go_upto_region 3 with fail
  replace hB := unhide hB
  refine wp_region_lit ?_
  refine list_val (.agg (kc CL)) (by kernel_rfl) (exec_arr _ 36 (.tmp 3) rfl (h1) (by kernel_rfl) (kc CL) 36 _ (hB.get 1 (x := ⟨h1, kc CL, 36⟩) rfl) Tryz.underlying36 rfl (by rw [Tryz.infoB, kc_size, hCl])) ?_
  simp only [nrm]
  refine list_store 36 (.tmp 2) (.tmp 8) (w.heap.size) (kc CL) 36 (kc ZB) (by kernel_rfl) rfl (by kernel_rfl) (by kernel_rfl) (hB.get 0 (x := ⟨w.heap.size, kc ZB, 36⟩) rfl) (by rw [Tryz.infoB, kc_size, hCl]) ((show (kc ZB).size = 64 from rfl).trans ((kc_size _).trans hCl).symm) (kc_one _) ?_
  replace hB := hB.set 0 (x := ⟨w.heap.size, kc ZB, 36⟩) rfl (kc CL)
  simp only [List.set_cons_zero, List.set_cons_succ] at hB
  generalize World.setRow _ _ _ = u4 at *
  replace hB : Bl w [⟨w.heap.size, kc CL, 36⟩, ⟨h1, kc CL, 36⟩] u4 := hB
  simp only [nrm]
  refine wpList_nil ?_
  replace hB := hide hB
  go_wp2_with fail
  replace hB := unhide hB
  rw [unhide hT]
  exact bodyPost_ret (v := .agg (kc CL)) (results_cell_row Tryz.results61 _ _ (w.heap.size) 36 (kc CL) (0, 0) _ rfl (hB.get 0 (x := ⟨w.heap.size, kc CL, 36⟩) rfl) Tryz.underlying36 rfl (by rw [Tryz.infoB, kc_size, hCl])) rfl (⟨rfl, hB.gr⟩)
theorem Tryz.infoBg : (Tryz.prog.info? 109).map (·.size) = some 16 := by kernel_rfl
theorem Tryz.infoMr : (Tryz.prog.info? 111).map (·.size) = some 19 := by kernel_rfl
set_option maxHeartbeats 4000000 in
theorem wdigest_ok (B : List Int) (a : Option Addr) (n c : Nat) (w : World) (hB0 : Lb w a n c B) (hn : n ≤ 100000000) (hf : Fst w) : Calls Tryz.prog 62 #[.slice a n c] w (Vl (.agg (kc (sh16 B))) w) := by
  obtain ⟨T, hT⟩ : ∃ T, T = Vl (.agg (kc (sh16 B))) w := ⟨_, rfl⟩
  rw [← hT]
  replace hT := hide hT
  replace hB0 := hide hB0; replace hf := hide hf
  go_enter Tryz.func62, Tryz.ntmps62
  go_upto_region 1 with fail
  have hB := ((Bl.nil w).new #[.int .u8 0, .int .u8 0, .int .u8 0, .int .u8 0, .int .u8 0, .int .u8 0, .int .u8 0, .int .u8 0, .int .u8 0, .int .u8 0, .int .u8 0, .int .u8 0, .int .u8 0, .int .u8 0, .int .u8 0, .int .u8 0] 109)
  simp only [size_alloc, List.nil_append, List.cons_append] at hB
  generalize World.alloc _ _ = u at *
  replace hB : Bl w [⟨w.heap.size, kc Z16, 109⟩] u := hB
  refine wp_region_lit ?_
  refine list_val (.slice a n c) (by kernel_rfl) (by kernel_rfl) ?_
  simp only [nrm]
  refine list_call 69 #[.slice a n c] (by kernel_rfl) (by kernel_rfl) ((sum_ok B (unhide hB0).isB n (unhide hB0).len (by omega) a c (unhide hB0).cap (unhide hB0).max u ((unhide hf).gr hB.gr) ((unhide hB0).gr hB.gr).sl).mono ?_)
  rintro r u1 ⟨rfl, hg⟩
  replace hB := hB.more hg
  have kl := sumL_len B
  have kT : Hid (sh16 B = (sumL B).take 16) := rfl
  generalize sumL B = K at *
  generalize hH : sh16 B = H at *
  have hHl : H.length = 16 := by rw [unhide kT, List.length_take, kl]; rfl
  clear hg hH
  refine ⟨_, rfl, ?_⟩
  simp only [nrm]
  refine list_valw (.pointer (some ⟨u1.heap.size, 0, none⟩)) (u1.alloc (.cells (kc (List.replicate 32 0)) 124 (0, 0))) (by kernel_rfl) (by kernel_rfl) ?_
  replace hB := hB.new (kc (List.replicate 32 0)) 124
  simp only [List.nil_append, List.cons_append] at hB
  generalize World.alloc _ _ = u2 at *
  generalize u1.heap.size = h1 at *
  replace hB : Bl w [⟨w.heap.size, kc Z16, 109⟩, ⟨h1, kc (List.replicate 32 0), 124⟩] u2 := hB
  simp only [nrm]
  refine list_store 124 (.tmp 3) (.tmp 5) (h1) (kc K) 124 (kc (List.replicate 32 0)) (by kernel_rfl) rfl (by kernel_rfl) (by kernel_rfl) (hB.get 1 (x := ⟨h1, kc (List.replicate 32 0), 124⟩) rfl) (by rw [Tryz.infoKy, kc_size, kl]) (by rw [kc_size, kc_size, kl, List.length_replicate]) (kc_one _) ?_
  replace hB := hB.set 1 (x := ⟨h1, kc (List.replicate 32 0), 124⟩) rfl (kc K)
  simp only [List.set_cons_zero, List.set_cons_succ] at hB
  generalize World.setRow _ _ _ = u3 at *
  replace hB : Bl w [⟨w.heap.size, kc Z16, 109⟩, ⟨h1, kc K, 124⟩] u3 := hB
  simp only [nrm]
  refine wpList_nil ?_
  replace hB := hide hB
  go_upto_region 2 with fail
  replace hB := unhide hB
  refine wp_region_lit ?_
  refine list_val (.slice (some ⟨h1, 0, none⟩) 16 32) (by kernel_rfl) (by kernel_rfl) ?_
  simp only [nrm]
  refine list_val (.pointer (some ⟨h1, 0, none⟩)) (by kernel_rfl) (by kernel_rfl) ?_
  simp only [nrm]
  refine list_val (.agg (kc H)) (by kernel_rfl) (exec_row _ 109 (.tmp 7) rfl h1 0 (by kernel_rfl) (bv H) _ (by have h := range_sub (hB.get 1 (x := ⟨h1, kc K, 124⟩) rfl) 0 16; rw [List.drop_zero, ← unhide kT] at h; exact h) Tryz.underlying109 rfl (by rw [Tryz.infoBg, bv_len, hHl])) ?_
  simp only [nrm]
  refine list_store 109 (.tmp 2) (.tmp 8) (w.heap.size) (kc H) 109 (kc Z16) (by kernel_rfl) rfl (by kernel_rfl) (by kernel_rfl) (hB.get 0 (x := ⟨w.heap.size, kc Z16, 109⟩) rfl) (by rw [Tryz.infoBg, kc_size, hHl]) (by rw [kc_size, kc_size, hHl]; rfl) (kc_one _) ?_
  replace hB := hB.set 0 (x := ⟨w.heap.size, kc Z16, 109⟩) rfl (kc H)
  simp only [List.set_cons_zero, List.set_cons_succ] at hB
  generalize World.setRow _ _ _ = u4 at *
  replace hB : Bl w [⟨w.heap.size, kc H, 109⟩, ⟨h1, kc K, 124⟩] u4 := hB
  simp only [nrm]
  refine wpList_nil ?_
  replace hB := hide hB
  go_wp2_with fail
  replace hB := unhide hB
  rw [unhide hT]
  exact bodyPost_ret (v := .agg (kc H)) (results_cell_row Tryz.results62 _ _ (w.heap.size) 109 (kc H) (0, 0) _ rfl (hB.get 0 (x := ⟨w.heap.size, kc H, 109⟩) rfl) Tryz.underlying109 rfl (by rw [Tryz.infoBg, kc_size, hHl])) rfl (⟨rfl, hB.gr⟩)
structure Mr where
  t : Nat
  k : Nat
  n : Nat
  h : List Int
structure Mr.Ok (m : Mr) : Prop where
  t : m.t < 18446744073709551616
  k : m.k < 4294967296
  n : m.n < 4294967296
  hl : m.h.length = 16
  hb : IsB m.h
def Mr.b48 (m : Mr) : List Int := 1 :: (lowL (m.t : Int) 8 ++ (lowL (m.k : Int) 4 ++ (lowL (m.n : Int) 4 ++ (m.h ++ List.replicate 15 0))))
def Mr.blk (m : Mr) : List Int := m.b48 ++ sh16 m.b48
theorem Mr.b48_len {m : Mr} (h : m.h.length = 16) : m.b48.length = 48 := by
  unfold Mr.b48
  simp only [List.length_cons, List.length_append, lowL_len, h, List.length_replicate]
theorem Mr.blk_bb {m : Mr} (h : m.Ok) : BB m.blk := by
  have h1 : IsB m.b48 := by
    unfold Mr.b48
    have h : IsB (lowL (m.t : Int) 8 ++ (lowL (m.k : Int) 4 ++ (lowL (m.n : Int) 4 ++ (m.h ++ List.replicate 15 0)))) := isB_app (lowL_isB _ _) (isB_app (lowL_isB _ _) (isB_app (lowL_isB _ _) (isB_app h.hb (isB_rep 15))))
    intro z hz
    rcases List.mem_cons.1 hz with e | e
    · omega
    · exact h z e
  refine ⟨?_, isB_app h1 (sh16_isB _ (sumL_isB _))⟩
  unfold Mr.blk
  rw [List.length_append, Mr.b48_len h.hl, sh16_len]
theorem mkL_mr (t k : Nat) (x : List Int) : mkL t k x = (Mr.mk t k x.length (sh16 x)).blk := by
  have e : mk48 t k x = (Mr.mk t k x.length (sh16 x)).b48 := by
    unfold mk48 Mr.b48
    generalize sh16 x = H
    dsimp only
  unfold mkL Mr.blk
  rw [e]
def mrl (m : Mr) : List Value := .int .u64 (m.t : Int) :: .int .u32 (m.k : Int) :: .int .u32 (m.n : Int) :: bv m.h
def mrv (m : Mr) : Array Value := (mrl m).toArray
def ZMr : Mr := ⟨0, 0, 0, Z16⟩
theorem mrl_len {m : Mr} (h : m.h.length = 16) : (mrl m).length = 19 := by unfold mrl bv; simp [h]
theorem mrv_size {m : Mr} (h : m.h.length = 16) : (mrv m).size = 19 := by unfold mrv mrl bv; simp [h]
theorem mrv_one (m : Mr) : (mrv m).all (·.oneCell') = true := by
  unfold mrv
  rw [List.all_toArray, List.all_eq_true]
  intro x hx
  unfold mrl at hx
  simp only [List.mem_cons] at hx
  rcases hx with rfl | rfl | rfl | hx
  · rfl
  · rfl
  · rfl
  · exact bv_one' _ x hx
theorem mrv_cells {w : World} {g : Nat} {m : Mr} {t : TypeId} (h : w.heap[g]? = some (.cells (mrv m) t (0, 0))) : w.cell? ⟨g, 0, none⟩ = some (.int .u64 (m.t : Int)) ∧ w.cell? ⟨g, 1, none⟩ = some (.int .u32 (m.k : Int)) ∧ w.cell? ⟨g, 2, none⟩ = some (.int .u32 (m.n : Int)) := ⟨cell_of h (i := 0) rfl, cell_of h (i := 1) rfl, cell_of h (i := 2) rfl⟩
theorem mrv_range {w : World} {g : Nat} {m : Mr} {t : TypeId} (h : w.heap[g]? = some (.cells (mrv m) t (0, 0))) : w.rangeAt g 3 (bv m.h) := fun j x hj => by
  refine cell_of h ?_
  unfold mrv mrl
  rw [List.getElem?_toArray, show 3 + j = j + 1 + 1 + 1 from by omega, List.getElem?_cons_succ, List.getElem?_cons_succ, List.getElem?_cons_succ]
  exact hj
theorem mrv_hash {w : World} {g : Nat} {m : Mr} {t : TypeId} (h : w.heap[g]? = some (.cells (mrv m) t (0, 0))) (hl : m.h.length = 16) (hb : IsB m.h) : Lb w (some ⟨g, 3, none⟩) 16 16 m.h := by
  refine ⟨hl, hb, .inr ⟨g, 3, rfl, fun j hj => mrv_range h j _ ?_⟩, Nat.le_refl _, by omega⟩
  unfold bv
  rw [List.getElem?_map, List.getElem?_eq_getElem hj]
  simp [List.getD_eq_getElem?_getD, hj]
theorem sp_mrl (m : Mr) (h : List Int) (hs : m.h.length = h.length) : sp (mrl m) 3 (h.map (Value.int .u8)) = mrl ⟨m.t, m.k, m.n, h⟩ := by
  have e := sp_mid (h.map (Value.int .u8)) [.int .u64 (m.t : Int), .int .u32 (m.k : Int), .int .u32 (m.n : Int)] (bv m.h) [] (by unfold bv; rw [List.length_map, List.length_map, hs])
  rw [List.append_nil, List.append_nil] at e
  exact e
theorem exec_bmr {a : Act} {o : Oper} (w : World) (x y z t : Operand) (ho : o.op = .build 111 #[(0, x), (1, y), (2, z), (3, t)]) (m : Mr) (hb : m.h.length = 16) (hx : a.eval x = .int .u64 (m.t : Int)) (hy : a.eval y = .int .u32 (m.k : Int)) (hz : a.eval z = .int .u32 (m.n : Int)) (ht : a.eval t = .agg (kc m.h)) :
    (execOp a.eval o).run Tryz.prog w = .ok (.value (.agg (mrv m))) w := by
  obtain ⟨pl, tu, sz, hh⟩ := m
  dsimp only at *
  obtain ⟨m0, m1, m2, m3, m4, m5, m6, m7, m8, m9, m10, m11, m12, m13, m14, m15, rfl⟩ := list16 hh hb
  have h := run_build (P := Tryz.prog) w 111 #[(0, .int .u64 (pl : Int)), (1, .int .u32 (tu : Int)), (2, .int .u32 (sz : Int)), (3, .agg (kc [m0, m1, m2, m3, m4, m5, m6, m7, m8, m9, m10, m11, m12, m13, m14, m15]))] (mrv ⟨pl, tu, sz, [m0, m1, m2, m3, m4, m5, m6, m7, m8, m9, m10, m11, m12, m13, m14, m15]⟩) (by kernel_rfl)
  unfold execOp
  simp only [ho, List.map_toArray, List.map_cons, List.map_nil, hx, hy, hz, ht, Sem.run_bind, h, Result.andThen_ok, Sem.run_pure]
set_option maxHeartbeats 4000000 in
theorem wdescribe_ok (t k : Nat) (ht : t < 18446744073709551616) (hk : k < 4294967296) (B : List Int) (a : Option Addr) (n c : Nat) (w : World) (hB0 : Lb w a n c B) (hn : n ≤ 100000000) (hf : Fst w) : Calls Tryz.prog 77 #[.int .u64 (t : Int), .int .i64 (k : Int), .slice a n c] w (Vl (.agg (mrv ⟨t, k, n, sh16 B⟩)) w) := by
  obtain ⟨T, hT⟩ : ∃ T, T = Vl (.agg (mrv ⟨t, k, n, sh16 B⟩)) w := ⟨_, rfl⟩
  rw [← hT]
  replace hT := hide hT
  have hHl := sh16_len B
  have hwn : IntKind.u32.wrap (n : Int) = (n : Int) := by rw [IntKind.wrap_u32]; omega
  have hwk : IntKind.u32.wrap (k : Int) = (k : Int) := by rw [IntKind.wrap_u32]; omega
  replace hB0 := hide hB0; replace hf := hide hf
  go_enter Tryz.func77, Tryz.ntmps77
  go_upto_region 1 with fail
  have hB := ((Bl.nil w).new #[.int .u64 0, .int .u32 0, .int .u32 0, .int .u8 0, .int .u8 0, .int .u8 0, .int .u8 0, .int .u8 0, .int .u8 0, .int .u8 0, .int .u8 0, .int .u8 0, .int .u8 0, .int .u8 0, .int .u8 0, .int .u8 0, .int .u8 0, .int .u8 0, .int .u8 0] 111)
  simp only [size_alloc, List.nil_append, List.cons_append] at hB
  generalize World.alloc _ _ = u at *
  replace hB : Bl w [⟨w.heap.size, mrv ZMr, 111⟩] u := hB
  refine wp_region_lit ?_
  refine list_val (.int .u64 (t : Int)) (by kernel_rfl) (by kernel_rfl) ?_
  simp only [nrm]
  refine list_val (.int .i64 (k : Int)) (by kernel_rfl) (by kernel_rfl) ?_
  simp only [nrm]
  refine list_val (.int .u32 (k : Int)) (by kernel_rfl) (by go_simp) ?_
  simp only [nrm]
  refine list_val (.slice a n c) (by kernel_rfl) (by kernel_rfl) ?_
  simp only [nrm]
  refine list_val (.int .i64 n) (by kernel_rfl) (by kernel_rfl) ?_
  simp only [nrm]
  refine list_val (.int .u32 (n : Int)) (by kernel_rfl) (by go_simp) ?_
  simp only [nrm]
  refine list_val (.slice a n c) (by kernel_rfl) (by kernel_rfl) ?_
  simp only [nrm]
  refine list_call 62 #[.slice a n c] (by kernel_rfl) (by kernel_rfl) ((wdigest_ok B a n c u ((unhide hB0).gr hB.gr) hn ((unhide hf).gr hB.gr)).mono ?_)
  rintro r u1 ⟨rfl, hg⟩
  replace hB := hB.more hg
  clear hg
  generalize sh16 B = H at *
  refine ⟨_, rfl, ?_⟩
  simp only [nrm]
  refine list_val (.agg (mrv ⟨t, k, n, H⟩)) (by kernel_rfl) (exec_bmr _ (.tmp 7) (.tmp 9) (.tmp 12) (.tmp 14) rfl ⟨t, k, n, H⟩ hHl (by kernel_rfl) (by kernel_rfl) (by kernel_rfl) (by kernel_rfl)) ?_
  simp only [nrm]
  refine list_store 111 (.tmp 6) (.tmp 15) (w.heap.size) (mrv ⟨t, k, n, H⟩) 111 (mrv ZMr) (by kernel_rfl) rfl (by kernel_rfl) (by kernel_rfl) (hB.get 0 (x := ⟨w.heap.size, mrv ZMr, 111⟩) rfl) (by rw [Tryz.infoMr, mrv_size hHl]) (by rw [mrv_size (m := ⟨t, k, n, H⟩) hHl]; rfl) (mrv_one _) ?_
  replace hB := hB.set 0 (x := ⟨w.heap.size, mrv ZMr, 111⟩) rfl (mrv ⟨t, k, n, H⟩)
  simp only [List.set_cons_zero, List.set_cons_succ] at hB
  generalize World.setRow _ _ _ = u4 at *
  replace hB : Bl w [⟨w.heap.size, mrv ⟨t, k, n, H⟩, 111⟩] u4 := hB
  simp only [nrm]
  refine wpList_nil ?_
  replace hB := hide hB
  go_wp2_with fail
  replace hB := unhide hB
  rw [unhide hT]
  exact bodyPost_ret (v := .agg (mrv ⟨t, k, n, H⟩)) (results_cell_row Tryz.results77 _ _ (w.heap.size) 111 (mrv ⟨t, k, n, H⟩) (0, 0) _ rfl (hB.get 0 (x := ⟨w.heap.size, mrv ⟨t, k, n, H⟩, 111⟩) rfl) Tryz.underlying111 rfl (by rw [Tryz.infoMr, mrv_size hHl])) rfl ⟨rfl, hB.gr⟩
set_option maxHeartbeats 4000000 in
theorem wput_ok (ga gb k : Nat) (C S : List Int) (hC : C.length = 64) (a : Option Addr) (n c : Nat) (w : World) (h1 : w.heap[ga]? = some (.cells #[.int .i64 (k : Int)] 3 (0, 0))) (h2 : w.heap[gb]? = some (.cells (kc C) 36 (0, 0))) (hS0 : Lb w a n c S) (hn : 0 < n) (hfit : k + n ≤ 64) : Calls Tryz.prog 95 #[.slice a n c, .pointer (some ⟨ga, 0, none⟩), .pointer (some ⟨gb, 0, none⟩)] w (fun r w' => r = .returned (.tuple #[]) ∧ w'.heap[ga]? = some (.cells #[.int .i64 ((k + n : Nat) : Int)] 3 (0, 0)) ∧ w'.heap[gb]? = some (.cells (kc (lay C k S)) 36 (0, 0)) ∧ Chg [ga, gb] [ga, gb] w w') := by
  obtain ⟨T, hT⟩ : ∃ T : Ending → World → Prop, T = fun r w' => r = .returned (.tuple #[]) ∧ w'.heap[ga]? = some (.cells #[.int .i64 ((k + n : Nat) : Int)] 3 (0, 0)) ∧ w'.heap[gb]? = some (.cells (kc (lay C k S)) 36 (0, 0)) ∧ Chg [ga, gb] [ga, gb] w w' := ⟨_, rfl⟩
  rw [← hT]
  replace hT := hide hT
  have hne : gb ≠ ga := ty_ne h2 h1 (by decide)
  obtain ⟨kn, hkn⟩ : ∃ x, x = k + n := ⟨_, rfl⟩
  have hw1 : IntKind.i64.wrap ((k : Int) + (n : Int)) = (kn : Int) := by rw [IntKind.wrap_i64]; omega
  have hB := ((Bc.nil [ga, gb] w).add ⟨ga, #[.int .i64 (k : Int)], 3⟩ h1 (.inl (by simp)) (fun y hy => by cases hy)).add ⟨gb, kc C, 36⟩ h2 (.inl (by simp)) (fun y hy => by simp at hy; subst hy; exact hne.symm)
  replace hB : Bc [ga, gb] w [⟨ga, #[.int .i64 (k : Int)], 3⟩, ⟨gb, kc C, 36⟩] w := hB
  clear h1 h2
  replace hS0 := hide hS0; replace hB := hide hB; replace hkn := hide hkn
  go_enter Tryz.func95, Tryz.ntmps95
  go_upto_region 0 with fail
  replace hB := unhide hB
  refine anyC_start 6 (fun (v : World) => v.heap[ga]? = some (.cells #[.int .i64 (k : Int)] 3 (0, 0))) (by kernel_rfl) ?_
  replace hB := hB.drew
  have hG := (Gr.refl w).drew
  generalize World.drew _ = x0 at *
  have hS : (fun (v : World) => v.heap[ga]? = some (.cells #[.int .i64 (k : Int)] 3 (0, 0))) x0 := (hB.get 0 (x := ⟨ga, #[.int .i64 (k : Int)], 3⟩) rfl)
  simp only [List.size_toArray, List.length_cons, List.length_nil, Array.replicate, List.replicate]
  refine anyC_take (i := 0) (v := (.int .i64 (k : Int))) (fun (v : World) => v.heap[ga]? = some (.cells #[.int .i64 (k : Int)] 3 (0, 0))) (fun _ h_ => h_) (.inr (by kernel_rfl)) rfl (by kernel_rfl) (by kernel_rfl) (by kernel_rfl) (by decide) (by kernel_rfl) (by decide) (fun _ _ _ h => h) (.inl ⟨by kernel_rfl, fun x_ hu => exec_i64 _ (.tmp 1) rfl ga 0 (by kernel_rfl) (k : Int) (cell_of hu (i := 0) rfl)⟩) hS ?_
  simp only [nrm]
  refine anyC_take (i := 1) (v := (.int .i64 (k : Int))) (fun (v : World) => v.heap[ga]? = some (.cells #[.int .i64 (k : Int)] 3 (0, 0))) (fun _ h_ => h_) (.inr (by kernel_rfl)) rfl (by kernel_rfl) (by kernel_rfl) (by kernel_rfl) (by decide) (by kernel_rfl) (by decide) (fun _ _ _ h => h) (.inl ⟨by kernel_rfl, fun x_ hu => exec_i64 _ (.tmp 1) rfl ga 0 (by kernel_rfl) (k : Int) (cell_of hu (i := 0) rfl)⟩) hS ?_
  simp only [nrm]
  refine anyC_take (i := 2) (v := (.slice (some ⟨gb, k, none⟩) (64 - k) (64 - k))) (fun (v : World) => v.heap[ga]? = some (.cells #[.int .i64 (k : Int)] 3 (0, 0))) (fun _ h_ => h_) (.inr (by kernel_rfl)) rfl (by kernel_rfl) (by kernel_rfl) (by kernel_rfl) (by decide) (by kernel_rfl) (by decide) (fun _ _ _ h => h) (.inl ⟨by kernel_rfl, fun x_ hu => exec_afrom _ (.tmp 2) (.tmp 5) rfl gb k (by kernel_rfl) (by kernel_rfl) (by omega)⟩) hS ?_
  simp only [nrm]
  refine anyC_take (i := 3) (v := (.slice a n c)) (fun (v : World) => v.heap[ga]? = some (.cells #[.int .i64 (k : Int)] 3 (0, 0))) (fun _ h_ => h_) (.inr (by kernel_rfl)) rfl (by kernel_rfl) (by kernel_rfl) (by kernel_rfl) (by decide) (by kernel_rfl) (by decide) (fun _ _ _ h => h) (.inl ⟨by kernel_rfl, fun x_ hu => by kernel_rfl⟩) hS ?_
  simp only [nrm]
  refine anyC_one (i := 4) (by kernel_rfl) rfl (fun K_ hQ => ?_)
  rw [if_pos (by kernel_rfl)]
  have hsl := (unhide hS0).len
  refine copy_wp (.tmp 6) (.tmp 7) rfl gb k (64 - k) (64 - k) a n c (by kernel_rfl) (by kernel_rfl) (C.map (Value.int .u8)) 36 (hB.get 1 (x := ⟨gb, kc C, 36⟩) rfl) S (by rw [hsl]; exact (Nat.min_eq_left (by omega)).symm) ((unhide hS0).gr hG).sl (by rw [hsl, List.length_map, hC]; omega) ?_
  have hcell := laid (S := S) (o := k) (hB.get 1 (x := ⟨gb, kc C, 36⟩) rfl) (by rw [hsl, hC]; omega)
  have hB2 := hB.but (setCells_bt (S.map (Value.int .u8)) x0 gb k) 1 (x := ⟨gb, kc C, 36⟩) rfl rfl hcell
  simp only [List.set_cons_zero, List.set_cons_succ] at hB2
  generalize World.setCells _ _ _ _ = x1 at *
  rw [hsl]
  clear hcell hB hS hG
  have hB : Bc [ga, gb] w [⟨ga, #[.int .i64 (k : Int)], 3⟩, ⟨gb, kc (lay C k S), 36⟩] x1 := hB2
  clear hB2
  generalize lay C k S = CL at *
  have hS : (fun (v : World) => v.heap[ga]? = some (.cells #[.int .i64 (k : Int)] 3 (0, 0))) x1 := (hB.get 0 (x := ⟨ga, #[.int .i64 (k : Int)], 3⟩) rfl)
  refine hQ.out _ _ hS (fun _ => ?_)
  clear hQ K_
  simp only [nrm]
  refine anyC_take (i := 5) (v := (.int .i64 (kn : Int))) (fun (v : World) => v.heap[ga]? = some (.cells #[.int .i64 (k : Int)] 3 (0, 0))) (fun _ h_ => h_) (.inr (by kernel_rfl)) rfl (by kernel_rfl) (by kernel_rfl) (by kernel_rfl) (by decide) (by kernel_rfl) (by decide) (fun _ _ _ h => h) (.inl ⟨by kernel_rfl, fun x_ hu => by go_simp⟩) hS ?_
  simp only [nrm]
  refine anyC_last (by kernel_rfl) rfl (fun K_ hQ => ?_)
  have c4 := cell_of (hB.get 0 (x := ⟨ga, #[.int .i64 (k : Int)], 3⟩) rfl) (i := 0) rfl
  have fz := froz_of (i := 0) (hB.get 0 (x := ⟨ga, #[.int .i64 (k : Int)], 3⟩) rfl)
  have hB2 := hB.cell 0 (x := ⟨ga, #[.int .i64 (k : Int)], 3⟩) rfl 0 (.int .i64 (kn : Int))
  simp only [List.set_cons_zero, List.set_cons_succ] at hB2
  replace hB2 : Bc [ga, gb] w [⟨ga, #[.int .i64 (kn : Int)], 3⟩, ⟨gb, kc CL, 36⟩] _ := hB2
  clear hB hS
  replace hB2 := hide hB2
  replace hQ := hide hQ
  dsimp only at c4 fz
  go_simp
  refine (unhide hQ).out _ _ ?_
  clear hQ K_ c4 fz
  have hB := unhide hB2
  clear hB2
  generalize World.setCell _ _ _ = x2 at *
  refine any_done (by kernel_rfl) ?_
  replace hB := hide hB
  go_wp2_with fail
  rw [unhide hT]
  exact bodyPost_end (results_none Tryz.results95 _ _ _) rfl ⟨rfl, by have h := (unhide hB).get 0 (x := ⟨ga, #[.int .i64 (kn : Int)], 3⟩) rfl; rw [← unhide hkn]; exact h, (unhide hB).get 1 (x := ⟨gb, kc CL, 36⟩) rfl, (unhide hB).chg⟩
theorem mr48_of (m : Mr) (h : m.h.length = 16) : (((([1] ++ lowL (m.t : Int) 8) ++ lowL (m.k : Int) 4) ++ lowL (m.n : Int) 4) ++ m.h) ++ List.replicate 31 0 = m.b48 ++ List.replicate 16 0 := by
  unfold Mr.b48
  rw [show (31 : Nat) = 15 + 16 from rfl, ← List.replicate_append_replicate]
  simp only [List.append_assoc, List.cons_append, List.nil_append]
set_option maxHeartbeats 4000000 in
theorem mblock_ok (m : Mr) (hm : m.Ok) (w : World) (hf : Fst w) : Calls Tryz.prog 78 #[.agg (mrv m)] w (Vl (.agg (kc m.blk)) w) := by
  obtain ⟨T, hT⟩ : ∃ T, T = Vl (.agg (kc m.blk)) w := ⟨_, rfl⟩
  rw [← hT]
  replace hT := hide hT
  obtain ⟨SK, hSK⟩ : ∃ X, X = mrv m := ⟨_, rfl⟩
  rw [← hSK]
  have ht := hm.t
  have hk := hm.k
  have hz := hm.n
  have hhl := hm.hl
  replace hSK := hide hSK; replace hm := hide hm; replace hf := hide hf
  go_enter Tryz.func78, Tryz.ntmps78
  go_upto_region 2 with fail
  have hB := ((((Bl.nil w).new SK 111).new #[.int .u8 0, .int .u8 0, .int .u8 0, .int .u8 0, .int .u8 0, .int .u8 0, .int .u8 0, .int .u8 0, .int .u8 0, .int .u8 0, .int .u8 0, .int .u8 0, .int .u8 0, .int .u8 0, .int .u8 0, .int .u8 0, .int .u8 0, .int .u8 0, .int .u8 0, .int .u8 0, .int .u8 0, .int .u8 0, .int .u8 0, .int .u8 0, .int .u8 0, .int .u8 0, .int .u8 0, .int .u8 0, .int .u8 0, .int .u8 0, .int .u8 0, .int .u8 0, .int .u8 0, .int .u8 0, .int .u8 0, .int .u8 0, .int .u8 0, .int .u8 0, .int .u8 0, .int .u8 0, .int .u8 0, .int .u8 0, .int .u8 0, .int .u8 0, .int .u8 0, .int .u8 0, .int .u8 0, .int .u8 0, .int .u8 0, .int .u8 0, .int .u8 0, .int .u8 0, .int .u8 0, .int .u8 0, .int .u8 0, .int .u8 0, .int .u8 0, .int .u8 0, .int .u8 0, .int .u8 0, .int .u8 0, .int .u8 0, .int .u8 0, .int .u8 0] 36).new #[.int .u8 0, .int .u8 0, .int .u8 0, .int .u8 0, .int .u8 0, .int .u8 0, .int .u8 0, .int .u8 0, .int .u8 0, .int .u8 0, .int .u8 0, .int .u8 0, .int .u8 0, .int .u8 0, .int .u8 0, .int .u8 0, .int .u8 0, .int .u8 0, .int .u8 0, .int .u8 0, .int .u8 0, .int .u8 0, .int .u8 0, .int .u8 0, .int .u8 0, .int .u8 0, .int .u8 0, .int .u8 0, .int .u8 0, .int .u8 0, .int .u8 0, .int .u8 0, .int .u8 0, .int .u8 0, .int .u8 0, .int .u8 0, .int .u8 0, .int .u8 0, .int .u8 0, .int .u8 0, .int .u8 0, .int .u8 0, .int .u8 0, .int .u8 0, .int .u8 0, .int .u8 0, .int .u8 0, .int .u8 0, .int .u8 0, .int .u8 0, .int .u8 0, .int .u8 0, .int .u8 0, .int .u8 0, .int .u8 0, .int .u8 0, .int .u8 0, .int .u8 0, .int .u8 0, .int .u8 0, .int .u8 0, .int .u8 0, .int .u8 0, .int .u8 0] 36)
  simp only [size_alloc, List.nil_append, List.cons_append] at hB
  generalize World.alloc _ _ = u at *
  rw [unhide hSK] at hB
  replace hB : Bl w [⟨w.heap.size, mrv m, 111⟩, ⟨w.heap.size + 1, kc ZB, 36⟩, ⟨w.heap.size + 1 + 1, kc ZB, 36⟩] u := hB
  refine wp_region_lit ?_
  refine list_valw (.pointer (some ⟨u.heap.size, 0, none⟩)) (u.alloc (.cells (#[.int .i64 0]) 3 (0, 0))) (by kernel_rfl) (by kernel_rfl) ?_
  replace hB := hB.new (#[.int .i64 0]) 3
  simp only [List.nil_append, List.cons_append] at hB
  generalize World.alloc _ _ = u1 at *
  generalize u.heap.size = ga at *
  replace hB : Bl w [⟨w.heap.size, mrv m, 111⟩, ⟨w.heap.size + 1, kc ZB, 36⟩, ⟨w.heap.size + 1 + 1, kc ZB, 36⟩, ⟨ga, #[.int .i64 0], 3⟩] u1 := hB
  simp only [nrm]
  have c4 := cell_of (hB.get 3 (x := ⟨ga, #[.int .i64 0], 3⟩) rfl) (i := 0) rfl
  have fz := froz_of (i := 0) (hB.get 3 (x := ⟨ga, #[.int .i64 0], 3⟩) rfl)
  have hB2 := hB.cell 3 (x := ⟨ga, #[.int .i64 0], 3⟩) rfl 0 (.int .i64 ((0 : Nat) : Int))
  simp only [List.set_cons_zero, List.set_cons_succ] at hB2
  replace hB2 : Bl w [⟨w.heap.size, mrv m, 111⟩, ⟨w.heap.size + 1, kc ZB, 36⟩, ⟨w.heap.size + 1 + 1, kc ZB, 36⟩, ⟨ga, #[.int .i64 ((0 : Nat) : Int)], 3⟩] _ := hB2
  clear hB
  replace hB2 := hide hB2
  dsimp only at c4 fz
  (refine wpList_step fun K hK => ?_; replace hK := hide hK; go_simp; refine unhide hK _ _ ?_; clear hK K)
  clear c4 fz
  have hB := unhide hB2
  clear hB2
  generalize World.setCell _ _ _ = u2 at *
  refine wpList_nil ?_
  replace hB := hide hB
  go_upto_region 3 with fail
  replace hB := unhide hB
  refine wp_region_lit ?_
  refine list_val (.func (.func 95) #[] #[.pointer (some ⟨ga, 0, none⟩), .pointer (some ⟨w.heap.size + 1 + 1, 0, none⟩)]) (by kernel_rfl) (by kernel_rfl) ?_
  simp only [nrm]
  (refine wpList_step fun K hK => ?_; replace hK := hide hK; go_simp; refine unhide hK _ _ ?_; clear hK K)
  refine wpList_nil ?_
  replace hB := hide hB
  go_upto_region 4 with fail
  replace hB := unhide hB
  have lC0 : ZB.length = 64 := rfl
  obtain ⟨C0, eC0⟩ : ∃ x, x = ZB := ⟨_, rfl⟩
  replace hB : Bl w [⟨w.heap.size, mrv m, 111⟩, ⟨w.heap.size + 1, kc ZB, 36⟩, ⟨w.heap.size + 1 + 1, kc C0, 36⟩, ⟨ga, #[.int .i64 ((0 : Nat) : Int)], 3⟩] u2 := by rw [eC0]; exact hB
  rw [← eC0] at lC0
  replace eC0 := hide eC0
  refine wp_region_lit ?_
  refine list_val (.func (.func 95) #[] #[.pointer (some ⟨ga, 0, none⟩), .pointer (some ⟨w.heap.size + 1 + 1, 0, none⟩)]) (by kernel_rfl) (by kernel_rfl) ?_
  simp only [nrm]
  refine list_valw (.slice (some ⟨u2.heap.size, 0, none⟩) 1 1) (u2.alloc (.cells (kc [1]) 5 (0, 0))) (by kernel_rfl) (by kernel_rfl) ?_
  have l2 : Lb (u2.alloc (.cells (kc [1]) 5 (0, 0))) (some ⟨u2.heap.size, 0, none⟩) 1 1 [1] := nw_lb (blk_new _ _) (by intro x hx; simp at hx; omega) rfl (by omega)
  have hg := (Gr.refl u2).alloc (.cells (kc [1]) 5 (0, 0))
  replace hB := hB.more hg
  clear hg
  generalize World.alloc _ _ = u3 at *
  generalize u2.heap.size = h1 at *
  simp only [nrm]
  refine list_call 95 #[.slice (some ⟨h1, 0, none⟩) 1 1, .pointer (some ⟨ga, 0, none⟩), .pointer (some ⟨w.heap.size + 1 + 1, 0, none⟩)] (by kernel_rfl) (by kernel_rfl) ((wput_ok ga (w.heap.size + 1 + 1) 0 C0 ([1]) lC0 (some ⟨h1, 0, none⟩) 1 1 u3 (hB.get 3 (x := ⟨ga, #[.int .i64 ((0 : Nat) : Int)], 3⟩) rfl) (hB.get 2 (x := ⟨w.heap.size + 1 + 1, kc C0, 36⟩) rfl) (l2) (by omega) (by omega)).mono ?_)
  rintro r u4 ⟨rfl, hc1, hc2, hch⟩
  have hB2 := hB.chg2 3 2 (by decide) (x := ⟨ga, #[.int .i64 ((0 : Nat) : Int)], 3⟩) (y := ⟨w.heap.size + 1 + 1, kc C0, 36⟩) rfl rfl hch hc1 hc2
  simp only [List.set_cons_zero, List.set_cons_succ] at hB2
  have lC1 : (lay C0 0 ([1])).length = 64 := (lay_len _ _ _ (by rw [(l2).len, lC0]; omega)).trans lC0
  have eC1 : Hid (lay C0 0 ([1]) = lay C0 0 ([1])) := rfl
  generalize hq_ : lay C0 0 ([1]) = C1 at *
  replace eC1 : Hid (C1 = lay C0 0 ([1])) := hq_.symm
  clear hB hc1 hc2 hch hq_
  replace hB2 : Bl w [⟨w.heap.size, mrv m, 111⟩, ⟨w.heap.size + 1, kc ZB, 36⟩, ⟨w.heap.size + 1 + 1, kc C1, 36⟩, ⟨ga, #[.int .i64 ((1 : Nat) : Int)], 3⟩] u4 := hB2
  have hB := hB2
  clear hB2
  refine ⟨_, rfl, ?_⟩
  simp only [nrm]
  refine wpList_nil ?_
  clear l2
  replace hB := hide hB
  go_upto_region 5 with fail
  replace hB := unhide hB
  refine wp_region_lit ?_
  refine list_val (.func (.func 95) #[] #[.pointer (some ⟨ga, 0, none⟩), .pointer (some ⟨w.heap.size + 1 + 1, 0, none⟩)]) (by kernel_rfl) (by kernel_rfl) ?_
  simp only [nrm]
  refine list_val (.pointer (some ⟨w.heap.size, 0, none⟩)) (by kernel_rfl) (by kernel_rfl) ?_
  simp only [nrm]
  refine list_val (.int .u64 (m.t : Int)) (by kernel_rfl) (exec_u64 _ (.tmp 12) rfl (w.heap.size) 0 (by kernel_rfl) _ (mrv_cells (hB.get 0 (x := ⟨w.heap.size, mrv m, 111⟩) rfl)).1) ?_
  simp only [nrm]
  refine list_call 82 #[.slice none 0 0, .int .u64 (m.t : Int)] (by kernel_rfl) (by kernel_rfl) ((put64_ok [] none 0 0 (m.t : Int) (by omega) (by omega) _ (Lb.nil0 _)).mono ?_)
  rintro r u7 ⟨h3, rfl, hg1, hg2, hg3⟩
  replace hB := hB.more hg3
  rw [List.nil_append] at hg2
  have l3 := kc_lb hg2 (lowL_len _ _) (lowL_isB _ _) (by omega)
  have hl3 := lowL_len (m.t : Int) 8
  clear hg1 hg2 hg3
  refine ⟨_, rfl, ?_⟩
  rw [List.nil_append]
  rw [hl3]
  obtain ⟨N8, eN8⟩ : ∃ x, x = lowL (m.t : Int) 8 := ⟨_, rfl⟩
  rw [← eN8] at l3
  replace eN8 := hide eN8
  simp only [nrm]
  refine list_call 95 #[.slice (some ⟨h3, 0, none⟩) 8 8, .pointer (some ⟨ga, 0, none⟩), .pointer (some ⟨w.heap.size + 1 + 1, 0, none⟩)] (by kernel_rfl) (by kernel_rfl) ((wput_ok ga (w.heap.size + 1 + 1) 1 C1 (N8) lC1 (some ⟨h3, 0, none⟩) 8 8 u7 (hB.get 3 (x := ⟨ga, #[.int .i64 ((1 : Nat) : Int)], 3⟩) rfl) (hB.get 2 (x := ⟨w.heap.size + 1 + 1, kc C1, 36⟩) rfl) (l3) (by omega) (by omega)).mono ?_)
  rintro r u8 ⟨rfl, hc1, hc2, hch⟩
  have hB2 := hB.chg2 3 2 (by decide) (x := ⟨ga, #[.int .i64 ((1 : Nat) : Int)], 3⟩) (y := ⟨w.heap.size + 1 + 1, kc C1, 36⟩) rfl rfl hch hc1 hc2
  simp only [List.set_cons_zero, List.set_cons_succ] at hB2
  have lC2 : (lay C1 1 (N8)).length = 64 := (lay_len _ _ _ (by rw [(l3).len, lC1]; omega)).trans lC1
  have eC2 : Hid (lay C1 1 (N8) = lay C1 1 (N8)) := rfl
  generalize hq_ : lay C1 1 (N8) = C2 at *
  replace eC2 : Hid (C2 = lay C1 1 (N8)) := hq_.symm
  clear hB hc1 hc2 hch hq_
  replace hB2 : Bl w [⟨w.heap.size, mrv m, 111⟩, ⟨w.heap.size + 1, kc ZB, 36⟩, ⟨w.heap.size + 1 + 1, kc C2, 36⟩, ⟨ga, #[.int .i64 ((9 : Nat) : Int)], 3⟩] u8 := hB2
  have hB := hB2
  clear hB2
  refine ⟨_, rfl, ?_⟩
  simp only [nrm]
  refine wpList_nil ?_
  clear l3 hl3
  replace hB := hide hB
  go_upto_region 6 with fail
  replace hB := unhide hB
  refine wp_region_lit ?_
  refine list_val (.func (.func 95) #[] #[.pointer (some ⟨ga, 0, none⟩), .pointer (some ⟨w.heap.size + 1 + 1, 0, none⟩)]) (by kernel_rfl) (by kernel_rfl) ?_
  simp only [nrm]
  refine list_val (.pointer (some ⟨w.heap.size, 1, none⟩)) (by kernel_rfl) (by kernel_rfl) ?_
  simp only [nrm]
  refine list_val (.int .u32 (m.k : Int)) (by kernel_rfl) (exec_w32 _ (.tmp 17) rfl (w.heap.size) 1 (by kernel_rfl) _ (mrv_cells (hB.get 0 (x := ⟨w.heap.size, mrv m, 111⟩) rfl)).2.1) ?_
  simp only [nrm]
  refine list_call 83 #[.slice none 0 0, .int .u32 (m.k : Int)] (by kernel_rfl) (by kernel_rfl) ((put32_ok (m.k : Int) ⟨by omega, by omega⟩ _).mono ?_)
  rintro r u9 ⟨h4, rfl, hg1, hg2, hg3⟩
  replace hB := hB.more hg3
  skip
  have l3 := kc_lb hg2 (lowL_len _ _) (lowL_isB _ _) (by omega)
  have hl3 := lowL_len (m.k : Int) 4
  clear hg1 hg2 hg3
  refine ⟨_, rfl, ?_⟩
  skip
  rw [hl3]
  obtain ⟨N4, eN4⟩ : ∃ x, x = lowL (m.k : Int) 4 := ⟨_, rfl⟩
  rw [← eN4] at l3
  replace eN4 := hide eN4
  simp only [nrm]
  refine list_call 95 #[.slice (some ⟨h4, 0, none⟩) 4 4, .pointer (some ⟨ga, 0, none⟩), .pointer (some ⟨w.heap.size + 1 + 1, 0, none⟩)] (by kernel_rfl) (by kernel_rfl) ((wput_ok ga (w.heap.size + 1 + 1) 9 C2 (N4) lC2 (some ⟨h4, 0, none⟩) 4 4 u9 (hB.get 3 (x := ⟨ga, #[.int .i64 ((9 : Nat) : Int)], 3⟩) rfl) (hB.get 2 (x := ⟨w.heap.size + 1 + 1, kc C2, 36⟩) rfl) (l3) (by omega) (by omega)).mono ?_)
  rintro r u10 ⟨rfl, hc1, hc2, hch⟩
  have hB2 := hB.chg2 3 2 (by decide) (x := ⟨ga, #[.int .i64 ((9 : Nat) : Int)], 3⟩) (y := ⟨w.heap.size + 1 + 1, kc C2, 36⟩) rfl rfl hch hc1 hc2
  simp only [List.set_cons_zero, List.set_cons_succ] at hB2
  have lC3 : (lay C2 9 (N4)).length = 64 := (lay_len _ _ _ (by rw [(l3).len, lC2]; omega)).trans lC2
  have eC3 : Hid (lay C2 9 (N4) = lay C2 9 (N4)) := rfl
  generalize hq_ : lay C2 9 (N4) = C3 at *
  replace eC3 : Hid (C3 = lay C2 9 (N4)) := hq_.symm
  clear hB hc1 hc2 hch hq_
  replace hB2 : Bl w [⟨w.heap.size, mrv m, 111⟩, ⟨w.heap.size + 1, kc ZB, 36⟩, ⟨w.heap.size + 1 + 1, kc C3, 36⟩, ⟨ga, #[.int .i64 ((13 : Nat) : Int)], 3⟩] u10 := hB2
  have hB := hB2
  clear hB2
  refine ⟨_, rfl, ?_⟩
  simp only [nrm]
  refine wpList_nil ?_
  clear l3 hl3
  replace hB := hide hB
  go_upto_region 7 with fail
  replace hB := unhide hB
  refine wp_region_lit ?_
  refine list_val (.func (.func 95) #[] #[.pointer (some ⟨ga, 0, none⟩), .pointer (some ⟨w.heap.size + 1 + 1, 0, none⟩)]) (by kernel_rfl) (by kernel_rfl) ?_
  simp only [nrm]
  refine list_val (.pointer (some ⟨w.heap.size, 2, none⟩)) (by kernel_rfl) (by kernel_rfl) ?_
  simp only [nrm]
  refine list_val (.int .u32 (m.n : Int)) (by kernel_rfl) (exec_w32 _ (.tmp 22) rfl (w.heap.size) 2 (by kernel_rfl) _ (mrv_cells (hB.get 0 (x := ⟨w.heap.size, mrv m, 111⟩) rfl)).2.2) ?_
  simp only [nrm]
  refine list_call 83 #[.slice none 0 0, .int .u32 (m.n : Int)] (by kernel_rfl) (by kernel_rfl) ((put32_ok (m.n : Int) ⟨by omega, by omega⟩ _).mono ?_)
  rintro r u11 ⟨h5, rfl, hg1, hg2, hg3⟩
  replace hB := hB.more hg3
  skip
  have l3 := kc_lb hg2 (lowL_len _ _) (lowL_isB _ _) (by omega)
  have hl3 := lowL_len (m.n : Int) 4
  clear hg1 hg2 hg3
  refine ⟨_, rfl, ?_⟩
  skip
  rw [hl3]
  obtain ⟨N5, eN5⟩ : ∃ x, x = lowL (m.n : Int) 4 := ⟨_, rfl⟩
  rw [← eN5] at l3
  replace eN5 := hide eN5
  simp only [nrm]
  refine list_call 95 #[.slice (some ⟨h5, 0, none⟩) 4 4, .pointer (some ⟨ga, 0, none⟩), .pointer (some ⟨w.heap.size + 1 + 1, 0, none⟩)] (by kernel_rfl) (by kernel_rfl) ((wput_ok ga (w.heap.size + 1 + 1) 13 C3 (N5) lC3 (some ⟨h5, 0, none⟩) 4 4 u11 (hB.get 3 (x := ⟨ga, #[.int .i64 ((13 : Nat) : Int)], 3⟩) rfl) (hB.get 2 (x := ⟨w.heap.size + 1 + 1, kc C3, 36⟩) rfl) (l3) (by omega) (by omega)).mono ?_)
  rintro r u12 ⟨rfl, hc1, hc2, hch⟩
  have hB2 := hB.chg2 3 2 (by decide) (x := ⟨ga, #[.int .i64 ((13 : Nat) : Int)], 3⟩) (y := ⟨w.heap.size + 1 + 1, kc C3, 36⟩) rfl rfl hch hc1 hc2
  simp only [List.set_cons_zero, List.set_cons_succ] at hB2
  have lC4 : (lay C3 13 (N5)).length = 64 := (lay_len _ _ _ (by rw [(l3).len, lC3]; omega)).trans lC3
  have eC4 : Hid (lay C3 13 (N5) = lay C3 13 (N5)) := rfl
  generalize hq_ : lay C3 13 (N5) = C4 at *
  replace eC4 : Hid (C4 = lay C3 13 (N5)) := hq_.symm
  clear hB hc1 hc2 hch hq_
  replace hB2 : Bl w [⟨w.heap.size, mrv m, 111⟩, ⟨w.heap.size + 1, kc ZB, 36⟩, ⟨w.heap.size + 1 + 1, kc C4, 36⟩, ⟨ga, #[.int .i64 ((17 : Nat) : Int)], 3⟩] u12 := hB2
  have hB := hB2
  clear hB2
  refine ⟨_, rfl, ?_⟩
  simp only [nrm]
  refine wpList_nil ?_
  clear l3 hl3
  replace hB := hide hB
  go_upto_region 8 with fail
  replace hB := unhide hB
  refine wp_region_lit ?_
  refine list_val (.func (.func 95) #[] #[.pointer (some ⟨ga, 0, none⟩), .pointer (some ⟨w.heap.size + 1 + 1, 0, none⟩)]) (by kernel_rfl) (by kernel_rfl) ?_
  simp only [nrm]
  refine list_val (.pointer (some ⟨w.heap.size, 3, none⟩)) (by kernel_rfl) (by kernel_rfl) ?_
  simp only [nrm]
  refine list_val (.slice (some ⟨w.heap.size, 3, none⟩) 16 16) (by kernel_rfl) (by kernel_rfl) ?_
  simp only [nrm]
  refine list_call 95 #[.slice (some ⟨w.heap.size, 3, none⟩) 16 16, .pointer (some ⟨ga, 0, none⟩), .pointer (some ⟨w.heap.size + 1 + 1, 0, none⟩)] (by kernel_rfl) (by kernel_rfl) ((wput_ok ga (w.heap.size + 1 + 1) 17 C4 (m.h) lC4 (some ⟨w.heap.size, 3, none⟩) 16 16 u12 (hB.get 3 (x := ⟨ga, #[.int .i64 ((17 : Nat) : Int)], 3⟩) rfl) (hB.get 2 (x := ⟨w.heap.size + 1 + 1, kc C4, 36⟩) rfl) (mrv_hash (hB.get 0 (x := ⟨w.heap.size, mrv m, 111⟩) rfl) hhl (unhide hm).hb) (by omega) (by omega)).mono ?_)
  rintro r u13 ⟨rfl, hc1, hc2, hch⟩
  have hB2 := hB.chg2 3 2 (by decide) (x := ⟨ga, #[.int .i64 ((17 : Nat) : Int)], 3⟩) (y := ⟨w.heap.size + 1 + 1, kc C4, 36⟩) rfl rfl hch hc1 hc2
  simp only [List.set_cons_zero, List.set_cons_succ] at hB2
  have lC5 : (lay C4 17 (m.h)).length = 64 := (lay_len _ _ _ (by rw [(mrv_hash (hB.get 0 (x := ⟨w.heap.size, mrv m, 111⟩) rfl) hhl (unhide hm).hb).len, lC4]; omega)).trans lC4
  have eC5 : Hid (lay C4 17 (m.h) = lay C4 17 (m.h)) := rfl
  generalize hq_ : lay C4 17 (m.h) = C5 at *
  replace eC5 : Hid (C5 = lay C4 17 (m.h)) := hq_.symm
  clear hB hc1 hc2 hch hq_
  replace hB2 : Bl w [⟨w.heap.size, mrv m, 111⟩, ⟨w.heap.size + 1, kc ZB, 36⟩, ⟨w.heap.size + 1 + 1, kc C5, 36⟩, ⟨ga, #[.int .i64 ((33 : Nat) : Int)], 3⟩] u13 := hB2
  have hB := hB2
  clear hB2
  refine ⟨_, rfl, ?_⟩
  simp only [nrm]
  refine wpList_nil ?_
  replace hB := hide hB
  go_upto_region 9 with fail
  replace hB := unhide hB
  refine wp_region_lit ?_
  have c4 := cell_of (hB.get 3 (x := ⟨ga, #[.int .i64 ((33 : Nat) : Int)], 3⟩) rfl) (i := 0) rfl
  have fz := froz_of (i := 0) (hB.get 3 (x := ⟨ga, #[.int .i64 ((33 : Nat) : Int)], 3⟩) rfl)
  have hB2 := hB.cell 3 (x := ⟨ga, #[.int .i64 ((33 : Nat) : Int)], 3⟩) rfl 0 (.int .i64 ((48 : Nat) : Int))
  simp only [List.set_cons_zero, List.set_cons_succ] at hB2
  replace hB2 : Bl w [⟨w.heap.size, mrv m, 111⟩, ⟨w.heap.size + 1, kc ZB, 36⟩, ⟨w.heap.size + 1 + 1, kc C5, 36⟩, ⟨ga, #[.int .i64 ((48 : Nat) : Int)], 3⟩] _ := hB2
  clear hB
  replace hB2 := hide hB2
  dsimp only at c4 fz
  (refine wpList_step fun K hK => ?_; replace hK := hide hK; go_simp; refine unhide hK _ _ ?_; clear hK K)
  clear c4 fz
  have hB := unhide hB2
  clear hB2
  generalize World.setCell _ _ _ = u14 at *
  refine wpList_nil ?_
  have eA : Hid (C5 = m.b48 ++ List.replicate 16 0) := by
    show C5 = _
    have z0 : C0 = [] ++ List.replicate 64 0 := unhide eC0
    have z1 : C1 = [1] ++ List.replicate 63 0 := by rw [unhide eC1, z0]; exact lay_zero [] [1] 64 (by decide)
    have z2 : C2 = ([1] ++ lowL (m.t : Int) 8) ++ List.replicate 55 0 := by
      have h := lay_zero [1] (lowL (m.t : Int) 8) 63 (by rw [lowL_len]; omega)
      rw [lowL_len] at h
      rw [unhide eC2, z1, unhide eN8]
      exact h
    have z3 : C3 = (([1] ++ lowL (m.t : Int) 8) ++ lowL (m.k : Int) 4) ++ List.replicate 51 0 := by
      have h := lay_zero ([1] ++ lowL (m.t : Int) 8) (lowL (m.k : Int) 4) 55 (by rw [lowL_len]; omega)
      rw [lowL_len, List.length_append, lowL_len] at h
      rw [unhide eC3, z2, unhide eN4]
      exact h
    have z4 : C4 = ((([1] ++ lowL (m.t : Int) 8) ++ lowL (m.k : Int) 4) ++ lowL (m.n : Int) 4) ++ List.replicate 47 0 := by
      have h := lay_zero (([1] ++ lowL (m.t : Int) 8) ++ lowL (m.k : Int) 4) (lowL (m.n : Int) 4) 51 (by rw [lowL_len]; omega)
      rw [lowL_len, List.length_append, lowL_len, List.length_append, lowL_len] at h
      rw [unhide eC4, z3, unhide eN5]
      exact h
    have h := lay_zero ((([1] ++ lowL (m.t : Int) 8) ++ lowL (m.k : Int) 4) ++ lowL (m.n : Int) 4) m.h 47 (by rw [hhl]; omega)
    rw [hhl, List.length_append, lowL_len, List.length_append, lowL_len, List.length_append, lowL_len] at h
    rw [unhide eC5, z4, ← mr48_of m hhl]
    exact h
  have hb48 : Hid (C5.take 48 = m.b48) := by show C5.take 48 = m.b48; rw [unhide eA]; exact take_app _ _ 48 (Mr.b48_len hhl)
  have hok := Mr.blk_bb (unhide hm)
  have hi48 : IsB m.b48 := fun x hx => hok.2 x (by unfold Mr.blk; exact List.mem_append_left _ hx)
  have hl48 := Mr.b48_len hhl
  have hbl : Hid (m.blk = m.b48 ++ sh16 m.b48) := rfl
  have hB4 : Hid (lay C5 48 (sh16 m.b48) = m.blk) := by
    show lay C5 48 (sh16 m.b48) = m.blk
    rw [unhide hbl]
    have h := lay_zero m.b48 (sh16 m.b48) 16 (by rw [sh16_len]; omega)
    rw [hl48, sh16_len] at h
    rw [unhide eA, h]
    exact List.append_nil _
  clear eC1 eC2 eC3 eC4 eC5 eC0 eA hok hbl
  generalize m.b48 = S48 at *
  replace hB := hide hB
  go_upto_region 10 with fail
  replace hB := unhide hB
  refine wp_region_lit ?_
  refine list_val (.int .i64 ((48 : Nat) : Int)) (by kernel_rfl) (exec_i64 _ (.tmp 4) rfl ga 0 (by kernel_rfl) _ (cell_of (hB.get 3 (x := ⟨ga, #[.int .i64 ((48 : Nat) : Int)], 3⟩) rfl) (i := 0) rfl)) ?_
  simp only [nrm]
  refine list_val (.slice (some ⟨w.heap.size + 1 + 1, 0, none⟩) 48 64) (by kernel_rfl) (by kernel_rfl) ?_
  simp only [nrm]
  have hlb : Lb u14 (some ⟨w.heap.size + 1 + 1, 0, none⟩) 48 64 S48 := by
    refine ⟨hl48, hi48, .inr ⟨_, 0, rfl, ?_⟩, by omega, by omega⟩
    have h2 := (kc_at (hB.get 2 (x := ⟨w.heap.size + 1 + 1, kc C5, 36⟩) rfl)).take 48
    rw [unhide hb48] at h2
    exact h2
  refine list_call 62 #[.slice (some ⟨w.heap.size + 1 + 1, 0, none⟩) 48 64] (by kernel_rfl) (by kernel_rfl) ((wdigest_ok S48 (some ⟨w.heap.size + 1 + 1, 0, none⟩) 48 64 u14 hlb (by omega) ((unhide hf).gr hB.gr)).mono ?_)
  rintro r u15 ⟨rfl, hg⟩
  replace hB := hB.more hg
  have hHl := sh16_len S48
  have hHb := sh16_isB S48 (sumL_isB S48)
  clear hg hlb
  generalize sh16 S48 = H at *
  refine ⟨_, rfl, ?_⟩
  simp only [nrm]
  refine list_valw (.pointer (some ⟨u15.heap.size, 0, none⟩)) (u15.alloc (.cells (kc Z16) 109 (0, 0))) (by kernel_rfl) (by kernel_rfl) ?_
  replace hB := hB.new (kc Z16) 109
  simp only [List.nil_append, List.cons_append] at hB
  generalize World.alloc _ _ = u16 at *
  generalize u15.heap.size = gm at *
  replace hB : Bl w [⟨w.heap.size, mrv m, 111⟩, ⟨w.heap.size + 1, kc ZB, 36⟩, ⟨w.heap.size + 1 + 1, kc C5, 36⟩, ⟨ga, #[.int .i64 ((48 : Nat) : Int)], 3⟩, ⟨gm, kc Z16, 109⟩] u16 := hB
  simp only [nrm]
  refine list_store 109 (.tmp 6) (.tmp 32) (gm) (kc H) 109 (kc Z16) (by kernel_rfl) rfl (by kernel_rfl) (by kernel_rfl) (hB.get 4 (x := ⟨gm, kc Z16, 109⟩) rfl) (by rw [Tryz.infoBg, kc_size, hHl]) (by rw [kc_size, kc_size, hHl]; rfl) (kc_one _) ?_
  replace hB := hB.set 4 (x := ⟨gm, kc Z16, 109⟩) rfl (kc H)
  simp only [List.set_cons_zero, List.set_cons_succ] at hB
  generalize World.setRow _ _ _ = u17 at *
  replace hB : Bl w [⟨w.heap.size, mrv m, 111⟩, ⟨w.heap.size + 1, kc ZB, 36⟩, ⟨w.heap.size + 1 + 1, kc C5, 36⟩, ⟨ga, #[.int .i64 ((48 : Nat) : Int)], 3⟩, ⟨gm, kc H, 109⟩] u17 := hB
  simp only [nrm]
  refine wpList_nil ?_
  replace hB := hide hB
  go_upto_region 11 with fail
  replace hB := unhide hB
  refine wp_region_lit ?_
  refine list_val (.func (.func 95) #[] #[.pointer (some ⟨ga, 0, none⟩), .pointer (some ⟨w.heap.size + 1 + 1, 0, none⟩)]) (by kernel_rfl) (by kernel_rfl) ?_
  simp only [nrm]
  refine list_val (.slice (some ⟨gm, 0, none⟩) 16 16) (by kernel_rfl) (by kernel_rfl) ?_
  simp only [nrm]
  refine list_call 95 #[.slice (some ⟨gm, 0, none⟩) 16 16, .pointer (some ⟨ga, 0, none⟩), .pointer (some ⟨w.heap.size + 1 + 1, 0, none⟩)] (by kernel_rfl) (by kernel_rfl) ((wput_ok ga (w.heap.size + 1 + 1) 48 C5 (H) lC5 (some ⟨gm, 0, none⟩) 16 16 u17 (hB.get 3 (x := ⟨ga, #[.int .i64 ((48 : Nat) : Int)], 3⟩) rfl) (hB.get 2 (x := ⟨w.heap.size + 1 + 1, kc C5, 36⟩) rfl) ((nw_lb0 (hB.get 4 (x := ⟨gm, kc H, 109⟩) rfl) hHb hHl (by omega))) (by omega) (by omega)).mono ?_)
  rintro r u18 ⟨rfl, hc1, hc2, hch⟩
  have hB2 := hB.chg2 3 2 (by decide) (x := ⟨ga, #[.int .i64 ((48 : Nat) : Int)], 3⟩) (y := ⟨w.heap.size + 1 + 1, kc C5, 36⟩) rfl rfl hch hc1 hc2
  simp only [List.set_cons_zero, List.set_cons_succ] at hB2
  have lC6 : (lay C5 48 (H)).length = 64 := (lay_len _ _ _ (by rw [((nw_lb0 (hB.get 4 (x := ⟨gm, kc H, 109⟩) rfl) hHb hHl (by omega))).len, lC5]; omega)).trans lC5
  have eC6 : Hid (lay C5 48 (H) = lay C5 48 (H)) := rfl
  generalize hq_ : lay C5 48 (H) = C6 at *
  replace eC6 : Hid (C6 = lay C5 48 (H)) := hq_.symm
  clear hB hc1 hc2 hch hq_
  replace hB2 : Bl w [⟨w.heap.size, mrv m, 111⟩, ⟨w.heap.size + 1, kc ZB, 36⟩, ⟨w.heap.size + 1 + 1, kc C6, 36⟩, ⟨ga, #[.int .i64 ((64 : Nat) : Int)], 3⟩, ⟨gm, kc H, 109⟩] u18 := hB2
  have hB := hB2
  clear hB2
  refine ⟨_, rfl, ?_⟩
  simp only [nrm]
  refine wpList_nil ?_
  replace hB := hide hB
  go_upto_region 12 with fail
  replace hB := unhide hB
  refine wp_region_lit ?_
  refine list_val (.agg (kc C6)) (by kernel_rfl) (exec_arr _ 36 (.tmp 3) rfl (w.heap.size + 1 + 1) (by kernel_rfl) (kc C6) 36 _ (hB.get 2 (x := ⟨w.heap.size + 1 + 1, kc C6, 36⟩) rfl) Tryz.underlying36 rfl (by rw [Tryz.infoB, kc_size, lC6])) ?_
  simp only [nrm]
  refine list_store 36 (.tmp 2) (.tmp 36) (w.heap.size + 1) (kc C6) 36 (kc ZB) (by kernel_rfl) rfl (by kernel_rfl) (by kernel_rfl) (hB.get 1 (x := ⟨w.heap.size + 1, kc ZB, 36⟩) rfl) (by rw [Tryz.infoB, kc_size, lC6]) ((show (kc ZB).size = 64 from rfl).trans ((kc_size _).trans lC6).symm) (kc_one _) ?_
  replace hB := hB.set 1 (x := ⟨w.heap.size + 1, kc ZB, 36⟩) rfl (kc C6)
  simp only [List.set_cons_zero, List.set_cons_succ] at hB
  generalize World.setRow _ _ _ = u19 at *
  replace hB : Bl w [⟨w.heap.size, mrv m, 111⟩, ⟨w.heap.size + 1, kc C6, 36⟩, ⟨w.heap.size + 1 + 1, kc C6, 36⟩, ⟨ga, #[.int .i64 ((64 : Nat) : Int)], 3⟩, ⟨gm, kc H, 109⟩] u19 := hB
  simp only [nrm]
  refine wpList_nil ?_
  have e9 : C6 = m.blk := unhide hB4
  replace e9 := hide e9
  clear eC6 hB4 hb48
  replace hB := hide hB
  go_wp2_with fail
  replace hB := unhide hB
  rw [unhide hT, ← unhide e9]
  exact bodyPost_ret (v := .agg (kc C6)) (results_cell_row Tryz.results78 _ _ (w.heap.size + 1) 36 (kc C6) (0, 0) _ rfl (hB.get 1 (x := ⟨w.heap.size + 1, kc C6, 36⟩) rfl) Tryz.underlying36 rfl (by rw [Tryz.infoB, kc_size, lC6])) rfl (⟨rfl, hB.gr⟩)
def mrOf (t k : Nat) (b : List Int) : Mr := ⟨t, k, cn4 b, (b.drop 17).take 16⟩
theorem mrOf_ok {t k : Nat} {b : List Int} (ht : t < 18446744073709551616) (hk : k < 4294967296) (hb : BB b) : (mrOf t k b).Ok := by
  have hl := hb.1
  have h4 := cn4_is hb
  have hr : ∀ i, i < 64 → 0 ≤ b.getD i 0 ∧ b.getD i 0 < 256 := fun i hi => hb.2 _ (mem_of_getD (by rw [hl]; exact hi))
  have r0 := hr 13 (by omega)
  have r1 := hr 14 (by omega)
  have r2 := hr 15 (by omega)
  have r3 := hr 16 (by omega)
  refine ⟨ht, hk, ?_, ?_, fun x hx => hb.2 x (List.mem_of_mem_drop (List.mem_of_mem_take hx))⟩
  · show cn4 b < _
    omega
  · show ((b.drop 17).take 16).length = 16
    rw [List.length_take, List.length_drop]
    omega
theorem cn4_low {b : List Int} (hb : BB b) : lowN ((b.drop 13).take 4) = (cn4 b : Int) := by
  have h4 := cn4_is hb
  have hl := hb.1
  have h0 : 0 ≤ lowN ((b.drop 13).take 4) := (lowN_bd _ (fun x hx => hb.2 x (List.mem_of_mem_drop (List.mem_of_mem_take hx)))).1
  unfold cn4
  omega
def Rdm (t k : Nat) (b : List Int) (w : World) (r : Ending) (w' : World) : Prop := r = .returned (.tuple #[.agg (mrv (mrOf t k b)), .bool (decide ((mrOf t k b).blk = b))]) ∧ Gr w w'
set_option maxHeartbeats 4000000 in
theorem wread_ok (t k : Nat) (ht : t < 18446744073709551616) (hk : k < 4294967296) (b : List Int) (hb : BB b) (w : World) (hf : Fst w) : Calls Tryz.prog 60 #[.agg (kc b), .int .u64 (t : Int), .int .i64 (k : Int)] w (Rdm t k b w) := by
  obtain ⟨T, hT⟩ : ∃ T, T = Rdm t k b w := ⟨_, rfl⟩
  rw [← hT]
  replace hT := hide hT
  obtain ⟨SK, hSK⟩ : ∃ X, X = kc b := ⟨_, rfl⟩
  rw [← hSK]
  have hok := mrOf_ok ht hk hb
  have hbl := hb.1
  have hhl := hok.hl
  have hwk : IntKind.u32.wrap (k : Int) = (k : Int) := by rw [IntKind.wrap_u32]; omega
  have hR0 : Hid (T = fun r w' => r = .returned (.tuple #[.agg (mrv (mrOf t k b)), .bool (decide ((mrOf t k b).blk = b))]) ∧ Gr w w') := hT
  clear hT
  have t2 : lowN ((((b.drop 13).take 51).drop 0).take 4) = ((mrOf t k b).n : Int) := by rw [sub_sub b 13 51 0 4 (by omega)]; exact cn4_low hb
  have t3 : (((b.drop 13).take 51).drop 4).take 16 = (mrOf t k b).h := by rw [sub_sub b 13 51 4 16 (by omega)]; rfl
  have e1 : (mrOf t k b).t = t := rfl
  have e2 : (mrOf t k b).k = k := rfl
  have hBl : ((b.drop 13).take 51).length = 51 := by rw [List.length_take, List.length_drop, hbl]; rfl
  generalize mrOf t k b = m at *
  obtain ⟨rt, hrt⟩ : ∃ r, r = decide (m.blk = b) := ⟨_, rfl⟩
  rw [← hrt] at hR0
  replace hSK := hide hSK; replace hf := hide hf; replace hb := hide hb; replace e1 := hide e1; replace e2 := hide e2; replace t2 := hide t2; replace t3 := hide t3; replace hrt := hide hrt; replace hok := hide hok
  go_enter Tryz.func60, Tryz.ntmps60
  go_upto_region 1 with fail
  have hB := (((Bl.nil w).new SK 36).new #[.int .u64 0, .int .u32 0, .int .u32 0, .int .u8 0, .int .u8 0, .int .u8 0, .int .u8 0, .int .u8 0, .int .u8 0, .int .u8 0, .int .u8 0, .int .u8 0, .int .u8 0, .int .u8 0, .int .u8 0, .int .u8 0, .int .u8 0, .int .u8 0, .int .u8 0] 111)
  simp only [size_alloc, List.nil_append, List.cons_append] at hB
  generalize World.alloc _ _ = u at *
  rw [unhide hSK] at hB
  replace hB : Bl w [⟨w.heap.size, kc b, 36⟩, ⟨w.heap.size + 1, mrv ZMr, 111⟩] u := hB
  refine wp_region_lit ?_
  refine list_val (.int .u64 (t : Int)) (by kernel_rfl) (by kernel_rfl) ?_
  simp only [nrm]
  refine list_val (.int .i64 (k : Int)) (by kernel_rfl) (by kernel_rfl) ?_
  simp only [nrm]
  refine list_val (.int .u32 (k : Int)) (by kernel_rfl) (by go_simp) ?_
  simp only [nrm]
  refine list_val (.agg (mrv ⟨t, k, 0, Z16⟩)) (by kernel_rfl) (by kernel_rfl) ?_
  simp only [nrm]
  refine list_valw (.pointer (some ⟨u.heap.size, 0, none⟩)) (u.alloc (.cells (mrv ZMr) 111 (0, 0))) (by kernel_rfl) (by kernel_rfl) ?_
  replace hB := hB.new (mrv ZMr) 111
  simp only [List.nil_append, List.cons_append] at hB
  generalize World.alloc _ _ = u1 at *
  generalize u.heap.size = gs at *
  replace hB : Bl w [⟨w.heap.size, kc b, 36⟩, ⟨w.heap.size + 1, mrv ZMr, 111⟩, ⟨gs, mrv ZMr, 111⟩] u1 := hB
  simp only [nrm]
  refine list_store 111 (.tmp 8) (.tmp 13) (gs) (mrv ⟨t, k, 0, Z16⟩) 111 (mrv ZMr) (by kernel_rfl) rfl (by kernel_rfl) (by kernel_rfl) (hB.get 2 (x := ⟨gs, mrv ZMr, 111⟩) rfl) (by rw [Tryz.infoMr, mrv_size (m := ⟨t, k, 0, Z16⟩) (by first | rfl | exact hhl)]) (by rw [mrv_size (m := ⟨t, k, 0, Z16⟩) (by first | rfl | exact hhl)]; rfl) (mrv_one _) ?_
  replace hB := hB.set 2 (x := ⟨gs, mrv ZMr, 111⟩) rfl (mrv ⟨t, k, 0, Z16⟩)
  simp only [List.set_cons_zero, List.set_cons_succ] at hB
  generalize World.setRow _ _ _ = u2 at *
  replace hB : Bl w [⟨w.heap.size, kc b, 36⟩, ⟨w.heap.size + 1, mrv ZMr, 111⟩, ⟨gs, mrv ⟨t, k, 0, Z16⟩, 111⟩] u2 := hB
  simp only [nrm]
  refine wpList_nil ?_
  replace hB := hide hB
  go_upto_region 2 with fail
  replace hB := unhide hB
  refine wp_region_lit ?_
  refine list_val (.slice (some ⟨w.heap.size, 13, none⟩) 51 51) (by kernel_rfl) (exec_afrom _ (.tmp 3) (.const (.int .i64 13)) rfl (w.heap.size) 13 (by kernel_rfl) (by kernel_rfl) (by omega)) ?_
  simp only [nrm]
  have hlb : Lb u2 (some ⟨w.heap.size, 13, none⟩) 51 51 ((b.drop 13).take 51) := sub_lb (hB.get 0 (x := ⟨w.heap.size, kc b, 36⟩) rfl) (unhide hb).2 13 51 51 (by omega) (by omega) (by omega)
  refine list_call 85 #[.slice (some ⟨w.heap.size, 13, none⟩) 51 51] (by kernel_rfl) (by kernel_rfl) ((oread_ok _ (w.heap.size) 13 51 51 u2 hlb (by omega) (by omega)).mono ?_)
  rintro r u3 ⟨gr, p, c, rfl, hg1, hg2, hR, hg⟩
  rw [hBl] at hR
  have hgs : gs < u2.heap.size := lt_of_block (hB.get 2 (x := ⟨gs, mrv ⟨t, k, 0, Z16⟩, 111⟩) rfl)
  have hne1 : gr ≠ gs := by omega
  have hne2 : p ≠ gs := by omega
  have hB2 := hB.join hg [⟨gr, rdr 0 p 51 c, 152⟩] (by intro x hx; rw [List.mem_singleton] at hx; subst hx; exact ⟨hR.cel, hg1⟩) (List.pairwise_singleton _ _)
  replace hB2 : Bl w [⟨w.heap.size, kc b, 36⟩, ⟨w.heap.size + 1, mrv ZMr, 111⟩, ⟨gs, mrv ⟨t, k, 0, Z16⟩, 111⟩, ⟨gr, rdr 0 p 51 c, 152⟩] u3 := hB2
  clear hB hg1 hg2 hg hgs hlb
  have hB := hB2
  clear hB2
  replace hR := hide hR
  generalize (b.drop 13).take 51 = B12 at *
  refine ⟨_, rfl, ?_⟩
  simp only [nrm]
  (refine wpList_step fun K hK => ?_; replace hK := hide hK; go_simp; refine unhide hK _ _ ?_; clear hK K)
  refine wpList_nil ?_
  replace hB := hide hB
  go_upto_region 3 with fail
  replace hB := unhide hB
  refine wp_region_lit ?_
  refine list_val (.pointer (some ⟨gr, 0, none⟩)) (by kernel_rfl) (by kernel_rfl) ?_
  simp only [nrm]
  refine list_call 86 #[P0 gr] (by kernel_rfl) (by kernel_rfl) ((ru32_ok gr p 51 c 0 B12 u3 (unhide hR) (by omega) (by omega)).mono ?_)
  rintro r u6 ⟨rfl, hR2, hbt⟩
  have hB2 := hB.but hbt 3 (x := ⟨gr, rdr 0 p 51 c, 152⟩) rfl rfl hR2.cel
  simp only [List.set_cons_zero, List.set_cons_succ] at hB2
  clear hB hR
  have hB : Bl w [⟨w.heap.size, kc b, 36⟩, ⟨w.heap.size + 1, mrv ZMr, 111⟩, ⟨gs, mrv ⟨t, k, 0, Z16⟩, 111⟩, ⟨gr, rdr 4 p 51 c, 152⟩] u6 := hB2
  rw [unhide t2]
  have hR : Hid (Rdr gr p 51 c 4 B12 u6) := hR2
  clear hB2 hR2 hbt
  refine ⟨_, rfl, ?_⟩
  simp only [nrm]
  refine list_val (.pointer (some ⟨gs, 2, none⟩)) (by kernel_rfl) (by kernel_rfl) ?_
  simp only [nrm]
  have hR2 := hide ((unhide hR).bt (Bt.setCell (g := gs) u6 2 (.int .u32 (m.n : Int))) hne1 hne2)
  clear hR
  have c4 := cell_of (hB.get 2 (x := ⟨gs, mrv ⟨t, k, 0, Z16⟩, 111⟩) rfl) (i := 2) rfl
  have fz := froz_of (i := 2) (hB.get 2 (x := ⟨gs, mrv ⟨t, k, 0, Z16⟩, 111⟩) rfl)
  have hB2 := hB.cell 2 (x := ⟨gs, mrv ⟨t, k, 0, Z16⟩, 111⟩) rfl 2 (.int .u32 (m.n : Int))
  simp only [List.set_cons_zero, List.set_cons_succ] at hB2
  replace hB2 : Bl w [⟨w.heap.size, kc b, 36⟩, ⟨w.heap.size + 1, mrv ZMr, 111⟩, ⟨gs, mrv ⟨t, k, m.n, Z16⟩, 111⟩, ⟨gr, rdr 4 p 51 c, 152⟩] _ := hB2
  clear hB
  replace hB2 := hide hB2
  dsimp only at c4 fz
  (refine wpList_step fun K hK => ?_; replace hK := hide hK; go_simp; refine unhide hK _ _ ?_; clear hK K)
  clear c4 fz
  have hB := unhide hB2
  clear hB2
  generalize World.setCell _ _ _ = u7 at *
  have hR := hR2
  clear hR2
  refine wpList_nil ?_
  replace hB := hide hB
  go_upto_region 4 with fail
  replace hB := unhide hB
  refine any_start (S := fun _ => True) (by kernel_rfl) ?_
  replace hB := hB.drew
  replace hR := hide ((unhide hR).gr (Gr.refl _).drew)
  generalize World.drew _ = x0 at *
  simp only [List.size_toArray, List.length_cons, List.length_nil, Array.replicate, List.replicate]
  refine any_take (i := 0) (v := (.pointer (some ⟨gs, 3, none⟩))) #[false, false, false, false, false] rfl (by kernel_rfl) (by kernel_rfl) (by kernel_rfl) (by kernel_rfl) (fun _ _ _ h => h) (.inl ⟨by kernel_rfl, fun x_ hu => by kernel_rfl⟩) trivial ?_
  simp only [nrm]
  refine any_take (i := 1) (v := (.slice (some ⟨gs, 3, none⟩) 16 16)) #[true, false, false, false, false] rfl (by kernel_rfl) (by kernel_rfl) (by kernel_rfl) (by kernel_rfl) (fun _ _ _ h => h) (.inl ⟨by kernel_rfl, fun x_ hu => by kernel_rfl⟩) trivial ?_
  simp only [nrm]
  refine any_take (i := 2) (v := (.pointer (some ⟨gr, 0, none⟩))) #[true, true, false, false, false] rfl (by kernel_rfl) (by kernel_rfl) (by kernel_rfl) (by kernel_rfl) (fun _ _ _ h => h) (.inl ⟨by kernel_rfl, fun x_ hu => by kernel_rfl⟩) trivial ?_
  simp only [nrm]
  refine any_one (i := 3) (by kernel_rfl) rfl (fun K_ hQ => ?_)
  refine step_callw (by kernel_rfl) 87 #[P0 gr, .int .i64 ((16 : Nat) : Int)] (by kernel_rfl) ((rraw_ok gr p 51 c 4 16 B12 x0 (unhide hR) (by omega) (by omega) (by omega)).mono ?_)
  rintro r u8 ⟨vr, rfl, hO, hR2, hbt⟩
  refine ⟨_, rfl, ?_⟩
  rw [unhide t3] at hO
  obtain ⟨ar, cr, rfl, hlr⟩ := ob_lb hO (unhide hok).hb hhl
  have hB2 := hB.but hbt 3 (x := ⟨gr, rdr 4 p 51 c, 152⟩) rfl rfl hR2.cel
  simp only [List.set_cons_zero, List.set_cons_succ] at hB2
  clear hB hR hO hbt hR2
  have hB : Bl w [⟨w.heap.size, kc b, 36⟩, ⟨w.heap.size + 1, mrv ZMr, 111⟩, ⟨gs, mrv ⟨t, k, m.n, Z16⟩, 111⟩, ⟨gr, rdr 20 p 51 c, 152⟩] u8 := hB2
  clear hB2
  refine hQ.out _ _ trivial (fun _ => ?_)
  clear hQ K_
  simp only [nrm]
  refine any_one (i := 4) (by kernel_rfl) rfl (fun K_ hQ => ?_)
  rw [if_pos (by kernel_rfl)]
  refine copy_wp (.tmp 20) (.tmp 22) rfl gs 3 16 16 ar 16 cr (by kernel_rfl) (by kernel_rfl) (mrl ⟨t, k, m.n, Z16⟩) 111 (hB.get 2 (x := ⟨gs, mrv ⟨t, k, m.n, Z16⟩, 111⟩) rfl) m.h (by rw [hhl]; rfl) hlr.sl (by have := mrl_len (m := ⟨t, k, m.n, Z16⟩) rfl; rw [hhl]; omega) ?_
  have hcell := setCells_heap (m.h.map (Value.int .u8)) u8 gs 3 (mrl ⟨t, k, m.n, Z16⟩) 111 (hB.get 2 (x := ⟨gs, mrv ⟨t, k, m.n, Z16⟩, 111⟩) rfl)
  rw [sp_mrl _ _ (by rw [hhl]; rfl)] at hcell
  have hB2 := hB.but (setCells_bt (m.h.map (Value.int .u8)) u8 gs 3) 2 (x := ⟨gs, mrv ⟨t, k, m.n, Z16⟩, 111⟩) rfl rfl hcell
  simp only [List.set_cons_zero, List.set_cons_succ] at hB2
  generalize World.setCells _ _ _ _ = u9 at *
  rw [hhl]
  have e9 : (⟨t, k, m.n, m.h⟩ : Mr) = m := by have h1 := unhide e1; have h2 := unhide e2; obtain ⟨a1, a2, a3, a4⟩ := m; dsimp only at h1 h2 ⊢; rw [h1, h2]
  rw [show mrl ⟨t, k, m.n, m.h⟩ = mrl m from congrArg mrl e9] at hB2
  clear hcell hB hlr e9
  have hB : Bl w [⟨w.heap.size, kc b, 36⟩, ⟨w.heap.size + 1, mrv ZMr, 111⟩, ⟨gs, mrv m, 111⟩, ⟨gr, rdr 20 p 51 c, 152⟩] u9 := hB2
  clear hB2
  refine hQ.out _ _ trivial (fun _ => ?_)
  clear hQ K_
  simp only [nrm]
  refine any_done (by kernel_rfl) ?_
  replace hB := hide hB
  go_upto_region 5 with fail
  replace hB := unhide hB
  refine any_start (S := fun (v : World) => v.heap[gs]? = some (.cells (mrv m) 111 (0, 0)) ∧ v.heap[w.heap.size]? = some (.cells (kc b) 36 (0, 0))) (by kernel_rfl) ?_
  replace hB := hB.drew
  generalize World.drew _ = x1 at *
  have hS : (fun (v : World) => v.heap[gs]? = some (.cells (mrv m) 111 (0, 0)) ∧ v.heap[w.heap.size]? = some (.cells (kc b) 36 (0, 0))) x1 := ⟨(hB.get 2 (x := ⟨gs, mrv m, 111⟩) rfl), (hB.get 0 (x := ⟨w.heap.size, kc b, 36⟩) rfl)⟩
  simp only [List.size_toArray, List.length_cons, List.length_nil, Array.replicate, List.replicate]
  refine any_take (i := 0) (v := (.agg (mrv m))) #[false, false, false, false, false, false, false] rfl (by kernel_rfl) (by kernel_rfl) (by kernel_rfl) (by kernel_rfl) (fun _ _ _ h => h) (.inl ⟨by kernel_rfl, fun x_ hu => exec_arr _ 111 (.tmp 8) rfl gs (by kernel_rfl) (mrv m) 111 _ hu.1 Tryz.underlying111 rfl (by rw [Tryz.infoMr, mrv_size hhl])⟩) hS ?_
  simp only [nrm]
  refine any_take (i := 1) (v := (.agg (mrv m))) #[true, false, false, false, false, false, false] rfl (by kernel_rfl) (by kernel_rfl) (by kernel_rfl) (by kernel_rfl) (fun _ _ _ h => h) (.inl ⟨by kernel_rfl, fun x_ hu => exec_arr _ 111 (.tmp 8) rfl gs (by kernel_rfl) (mrv m) 111 _ hu.1 Tryz.underlying111 rfl (by rw [Tryz.infoMr, mrv_size hhl])⟩) hS ?_
  simp only [nrm]
  refine any_take (i := 3) (v := (.agg (kc b))) #[true, true, false, false, false, false, false] rfl (by kernel_rfl) (by kernel_rfl) (by kernel_rfl) (by kernel_rfl) (fun _ _ _ h => h) (.inl ⟨by kernel_rfl, fun x_ hu => exec_arr _ 36 (.tmp 3) rfl (w.heap.size) (by kernel_rfl) (kc b) 36 _ hu.2 Tryz.underlying36 rfl (by rw [Tryz.infoB, kc_size, hbl])⟩) hS ?_
  simp only [nrm]
  refine any_one (i := 2) (by kernel_rfl) rfl (fun K_ hQ => ?_)
  refine step_callw (by kernel_rfl) 78 #[.agg (mrv m)] (by kernel_rfl) ((mblock_ok m (unhide hok) x1 ((unhide hf).gr hB.gr)).mono ?_)
  rintro r u11 ⟨rfl, hg⟩
  refine ⟨_, rfl, ?_⟩
  replace hB := hB.more hg
  have hKl := (Mr.blk_bb (unhide hok)).1
  obtain ⟨BK, hBK⟩ : ∃ x, x = m.blk := ⟨_, rfl⟩
  rw [← hBK] at hKl ⊢
  have hrq : rt = decide (BK = b) := by rw [hBK]; exact unhide hrt
  replace hrq := hide hrq
  replace hS : (fun (v : World) => v.heap[gs]? = some (.cells (mrv m) 111 (0, 0)) ∧ v.heap[w.heap.size]? = some (.cells (kc b) 36 (0, 0))) u11 := ⟨hg.blk hS.1, hg.blk hS.2⟩
  replace hBK := hide hBK
  clear hg
  refine hQ.out _ _ hS (fun _ => ?_)
  clear hQ K_
  simp only [nrm]
  refine any_take (i := 4) (v := (.bool rt)) #[true, true, true, true, false, false, false] rfl (by kernel_rfl) (by kernel_rfl) (by kernel_rfl) (by kernel_rfl) (fun _ _ _ h => h) (.inl ⟨by kernel_rfl, fun x_ hu => exec_eqB _ (.tmp 26) (.tmp 27) rfl BK b hKl hbl (by kernel_rfl) (by kernel_rfl) rt (unhide hrq)⟩) hS ?_
  simp only [nrm]
  refine any_one (i := 5) (by kernel_rfl) rfl (fun K_ hQ => ?_)
  rw [if_pos (by kernel_rfl)]
  refine wp_store_row 111 (.tmp 6) (.tmp 24) rfl (w.heap.size + 1) (mrv m) (by kernel_rfl) (by kernel_rfl) 111 (mrv ZMr) (hB.get 1 (x := ⟨w.heap.size + 1, mrv ZMr, 111⟩) rfl) (by rw [Tryz.infoMr, mrv_size hhl]) (by rw [mrv_size hhl]; rfl) (mrv_one _) ?_
  have hB2 := hB.set 1 (x := ⟨w.heap.size + 1, mrv ZMr, 111⟩) rfl (mrv m)
  simp only [List.set_cons_zero, List.set_cons_succ] at hB2
  generalize World.setRow _ _ _ = u12 at *
  clear hB hS
  have hB : Bl w [⟨w.heap.size, kc b, 36⟩, ⟨w.heap.size + 1, mrv m, 111⟩, ⟨gs, mrv m, 111⟩, ⟨gr, rdr 20 p 51 c, 152⟩] u12 := hB2
  clear hB2
  have hS : (fun (v : World) => v.heap[gs]? = some (.cells (mrv m) 111 (0, 0)) ∧ v.heap[w.heap.size]? = some (.cells (kc b) 36 (0, 0))) u12 := ⟨(hB.get 2 (x := ⟨gs, mrv m, 111⟩) rfl), (hB.get 0 (x := ⟨w.heap.size, kc b, 36⟩) rfl)⟩
  refine hQ.out _ _ hS (fun _ => ?_)
  clear hQ K_
  simp only [nrm]
  refine any_one (i := 6) (by kernel_rfl) rfl (fun K_ hQ => ?_)
  replace hQ := hide hQ
  go_simp
  refine (unhide hQ).out _ _ hS (fun _ => ?_)
  clear hQ K_
  refine any_done (by kernel_rfl) ?_
  replace hB := hide hB
  clear hS
  go_wp2_with fail
  replace hB := unhide hB
  rw [unhide hR0]
  exact bodyPost_ret (v := .tuple #[.agg (mrv m), .bool rt]) (results_cell_tmp Tryz.results60 _ _ (w.heap.size + 1) 111 (mrv m) (0, 0) _ rfl (.bool rt) rfl (hB.get 1 (x := ⟨w.heap.size + 1, mrv m, 111⟩) rfl) Tryz.underlying111 rfl (by rw [Tryz.infoMr, mrv_size hhl])) rfl ⟨rfl, hB.gr⟩
end Go.Proofs.YtaoiejgjdmakjaaGreatDoor
