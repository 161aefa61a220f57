/-
  FramePackets: packets are their bytes, where they may be.
-/
import Derived.Test.YtfmocneoffkmpaaFU
import Derived.Test.YtfmocneoffkmpaaFV
namespace Go.Proofs.Ytfmocneoffkmpaa
open Go.RowKit
set_option maxRecDepth 100000
set_option linter.unusedSimpArgs false
set_option linter.unusedVariables false
theorem pkB_len (k c s r : Int) {B : List Int} {n : Nat} (h : B.length = n) : (pkB k c s r B).length = 11 + n := by unfold pkB; simp [lowL_len, h]; omega
theorem pkB_isB {k c s r : Int} {B : List Int} (hb : IsB B) (hk : 0 ≤ k ∧ k < 256) (he : ends c s r = true) : IsB (pkB k c s r B) := by
  have h := ends_is he
  exact isB_append (isB_append (fun y hy => by simp only [List.mem_cons, List.not_mem_nil, or_false] at hy; omega) (lowL_isB _ _)) hb
set_option maxHeartbeats 4000000 in
theorem packets_ee (c0 s0 r0 : Int) (hr0 : 0 ≤ r0 ∧ r0 < 18446744073709551616) (a0 : Option Addr) (n0 k0 : Nat) (A0 : List Int) (c1 s1 r1 : Int) (hr1 : 0 ≤ r1 ∧ r1 < 18446744073709551616) (a1 : Option Addr) (n1 k1 : Nat) (A1 : List Int) (w : World) (lb0 : Lb w a0 n0 k0 A0) (lb1 : Lb w a1 n1 k1 A1) (hE0 : ends c0 s0 r0 = false) (hE1 : ends c1 s1 r1 = false) : Calls Try.prog 6 #[.agg #[.int .i64 c0, .int .i64 s0, .int .u64 r0, .slice a0 n0 k0], .agg #[.int .i64 c1, .int .i64 s1, .int .u64 r1, .slice a1 n1 k1]] w (Woke w) := by
  obtain ⟨T, hT⟩ : ∃ T, T = Woke w := ⟨_, rfl⟩
  rw [← hT]
  replace hT := hide hT
  obtain ⟨m0, hm0⟩ : ∃ m, m = min n0 1000 := ⟨_, rfl⟩
  obtain ⟨B0, hB0⟩ : ∃ B, B = A0.take m0 := ⟨_, rfl⟩
  have hm90 : m0 ≤ 1000 := by omega
  replace hm0 := hide hm0; replace hB0 := hide hB0; replace lb0 := hide lb0
  obtain ⟨m1, hm1⟩ : ∃ m, m = min n1 1000 := ⟨_, rfl⟩
  obtain ⟨B1, hB1⟩ : ∃ B, B = A1.take m1 := ⟨_, rfl⟩
  have hm91 : m1 ≤ 1000 := by omega
  replace hm1 := hide hm1; replace hB1 := hide hB1; replace lb1 := hide lb1
  go_enter Try.func6, Try.ntmps6
  go_upto_region 1 with fail
  have hW := (((Bl.nil w).new #[.int .i64 c0, .int .i64 s0, .int .u64 r0, .slice a0 n0 k0] 78).new #[.int .i64 c1, .int .i64 s1, .int .u64 r1, .slice a1 n1 k1] 80)
  simp only [size_alloc, List.nil_append, List.cons_append] at hW
  generalize World.alloc _ _ = u at *
  replace hW : Bl w [⟨w.heap.size, #[.int .i64 c0, .int .i64 s0, .int .u64 r0, .slice a0 n0 k0], 78⟩, ⟨w.heap.size + 1, #[.int .i64 c1, .int .i64 s1, .int .u64 r1, .slice a1 n1 k1], 80⟩] u := hW
  refine wp_region_lit ?_
  refine list_call 9 #[] (by kernel_rfl) (by kernel_rfl) ((jwakes_ok u).mono ?_)
  rintro r u1 ⟨rfl, hg⟩
  replace hW := hW.more hg
  clear hg
  refine ⟨_, rfl, ?_⟩
  simp only [Act.put, List.setIfInBounds_toArray, List.set_cons_zero, List.set_cons_succ, List.getElem_toArray, List.getElem_cons_zero, List.getElem_cons_succ]
  refine list_val (.bool false) (by kernel_rfl) (by kernel_rfl) ?_
  simp only [Act.put, List.setIfInBounds_toArray, List.set_cons_zero, List.set_cons_succ, List.getElem_toArray, List.getElem_cons_zero, List.getElem_cons_succ]
  refine wpList_nil ?_
  replace hW := hide hW
  go_upto_region 3 with fail
  replace hW := unhide hW
  refine anyC_start 5 (fun (v : World) => Bl w [⟨w.heap.size, #[.int .i64 c0, .int .i64 s0, .int .u64 r0, .slice a0 n0 k0], 78⟩, ⟨w.heap.size + 1, #[.int .i64 c1, .int .i64 s1, .int .u64 r1, .slice a1 n1 k1], 80⟩] v) (by kernel_rfl) ?_
  replace hW := hW.drew
  generalize World.drew _ = x0 at *
  have hS : (fun (v : World) => Bl w [⟨w.heap.size, #[.int .i64 c0, .int .i64 s0, .int .u64 r0, .slice a0 n0 k0], 78⟩, ⟨w.heap.size + 1, #[.int .i64 c1, .int .i64 s1, .int .u64 r1, .slice a1 n1 k1], 80⟩] v) x0 := hW
  clear hW
  simp only [List.size_toArray, List.length_cons, List.length_nil, Array.replicate, List.replicate]
  refine anyC_take (i := 0) (v := (.pointer (some ⟨w.heap.size, 3, none⟩))) (fun _ => True) (fun _ _ => trivial) (.inl (fun _ => trivial)) rfl (by kernel_rfl) (by kernel_rfl) (by kernel_rfl) (by decide) (by kernel_rfl) (by decide) (fun _ _ _ h => h) (.inl ⟨by kernel_rfl, fun x_ hu => by kernel_rfl⟩) hS ?_
  simp only [Act.put, List.setIfInBounds_toArray, List.set_cons_zero, List.set_cons_succ, List.getElem_toArray, List.getElem_cons_zero, List.getElem_cons_succ]
  refine anyC_take (i := 3) (v := (.pointer (some ⟨w.heap.size + 1, 3, none⟩))) (fun _ => True) (fun _ _ => trivial) (.inl (fun _ => trivial)) rfl (by kernel_rfl) (by kernel_rfl) (by kernel_rfl) (by decide) (by kernel_rfl) (by decide) (fun _ _ _ h => h) (.inl ⟨by kernel_rfl, fun x_ hu => by kernel_rfl⟩) hS ?_
  simp only [Act.put, List.setIfInBounds_toArray, List.set_cons_zero, List.set_cons_succ, List.getElem_toArray, List.getElem_cons_zero, List.getElem_cons_succ]
  refine anyC_take (i := 4) (v := (.slice a1 n1 k1)) (fun (v : World) => Bl w [⟨w.heap.size, #[.int .i64 c0, .int .i64 s0, .int .u64 r0, .slice a0 n0 k0], 78⟩, ⟨w.heap.size + 1, #[.int .i64 c1, .int .i64 s1, .int .u64 r1, .slice a1 n1 k1], 80⟩] v) (fun _ h_ => h_) (.inr (by kernel_rfl)) rfl (by kernel_rfl) (by kernel_rfl) (by kernel_rfl) (by decide) (by kernel_rfl) (by decide) (fun _ _ _ h => h) (.inl ⟨by kernel_rfl, fun x_ hu => exec_sby _ (.tmp 16) rfl (w.heap.size + 1) 3 (by kernel_rfl) a1 n1 k1 (cell_of (hu.get 1 (x := ⟨w.heap.size + 1, #[.int .i64 c1, .int .i64 s1, .int .u64 r1, .slice a1 n1 k1], 80⟩) rfl) (i := 3) rfl)⟩) hS ?_
  simp only [Act.put, List.setIfInBounds_toArray, List.set_cons_zero, List.set_cons_succ, List.getElem_toArray, List.getElem_cons_zero, List.getElem_cons_succ]
  refine anyC_one (i := 1) (by kernel_rfl) rfl (fun K hK => ?_)
  refine step_val (.slice a0 n0 k0) _ (by kernel_rfl) (exec_sby _ (.tmp 13) rfl (w.heap.size) 3 (by kernel_rfl) a0 n0 k0 (cell_of (hS.get 0 (x := ⟨w.heap.size, #[.int .i64 c0, .int .i64 s0, .int .u64 r0, .slice a0 n0 k0], 78⟩) rfl) (i := 3) rfl)) ?_
  refine hK.out _ _ hS (fun _ => ?_)
  clear hK K
  simp only [Act.put, List.setIfInBounds_toArray, List.set_cons_zero, List.set_cons_succ, List.getElem_toArray, List.getElem_cons_zero, List.getElem_cons_succ]
  refine anyC_one (i := 2) (by kernel_rfl) rfl (fun K hK => ?_)
  refine step_callw (by kernel_rfl) 10 #[.slice a0 n0 k0] (by kernel_rfl) ((jcut_ok A0 a0 n0 k0 x0 ((unhide lb0).gr hS.gr)).mono ?_)
  rintro r y0 ⟨t0, rfl, hc, rfl⟩
  refine ⟨_, rfl, ?_⟩
  have hl0 := hc w (unhide lb0)
  rw [← unhide hm0, ← unhide hB0] at hl0
  rw [← unhide hm0]
  replace hl0 := hide hl0
  clear hc lb0 hB0
  refine hK.out _ _ hS (fun _ => ?_)
  clear hK K
  simp only [Act.put, List.setIfInBounds_toArray, List.set_cons_zero, List.set_cons_succ, List.getElem_toArray, List.getElem_cons_zero, List.getElem_cons_succ]
  refine anyC_take (i := 6) (v := (.pointer (some ⟨w.heap.size, 3, none⟩))) (fun _ => True) (fun _ _ => trivial) (.inl (fun _ => trivial)) rfl (by kernel_rfl) (by kernel_rfl) (by kernel_rfl) (by decide) (by kernel_rfl) (by decide) (fun _ _ _ h => h) (.inl ⟨by kernel_rfl, fun x_ hu => by kernel_rfl⟩) hS ?_
  simp only [Act.put, List.setIfInBounds_toArray, List.set_cons_zero, List.set_cons_succ, List.getElem_toArray, List.getElem_cons_zero, List.getElem_cons_succ]
  refine anyC_last (by kernel_rfl) rfl (fun K hK => ?_)
  refine step_callw (by kernel_rfl) 10 #[.slice a1 n1 k1] (by kernel_rfl) ((jcut_ok A1 a1 n1 k1 _ ((unhide lb1).gr hS.gr)).mono ?_)
  rintro r y1 ⟨t1, rfl, hc, rfl⟩
  refine ⟨_, rfl, ?_⟩
  have hl1 := hc w (unhide lb1)
  rw [← unhide hm1, ← unhide hB1] at hl1
  rw [← unhide hm1]
  replace hl1 := hide hl1
  clear hc lb1 hB1
  refine hK.out _ _ ?_
  clear hK K
  simp only [Act.put, List.setIfInBounds_toArray, List.set_cons_zero, List.set_cons_succ, List.getElem_toArray, List.getElem_cons_zero, List.getElem_cons_succ]
  refine any_one (i := 7) (by kernel_rfl) rfl (fun K hK => ?_)
  have c4 := cell_of (hS.get 0 (x := ⟨w.heap.size, #[.int .i64 c0, .int .i64 s0, .int .u64 r0, .slice a0 n0 k0], 78⟩) rfl) (i := 3) rfl
  have fz := froz_of (i := 3) (hS.get 0 (x := ⟨w.heap.size, #[.int .i64 c0, .int .i64 s0, .int .u64 r0, .slice a0 n0 k0], 78⟩) rfl)
  have hB2 := hS.cell 0 (x := ⟨w.heap.size, #[.int .i64 c0, .int .i64 s0, .int .u64 r0, .slice a0 n0 k0], 78⟩) rfl 3 (.slice t0 m0 k0)
  simp only [List.set_cons_zero, List.set_cons_succ] at hB2
  replace hB2 : Bl w [⟨w.heap.size, #[.int .i64 c0, .int .i64 s0, .int .u64 r0, .slice t0 m0 k0], 78⟩, ⟨w.heap.size + 1, #[.int .i64 c1, .int .i64 s1, .int .u64 r1, .slice a1 n1 k1], 80⟩] _ := hB2
  clear hS
  replace hB2 := hide hB2
  replace hK := hide hK
  dsimp only at c4 fz
  go_simp
  refine (unhide hK).out _ _ trivial (fun _ => ?_)
  clear hK K c4 fz
  have hS := unhide hB2
  clear hB2
  generalize World.setCell _ _ _ = st0 at *
  replace hS : Bl w [⟨w.heap.size, #[.int .i64 c0, .int .i64 s0, .int .u64 r0, .slice t0 m0 k0], 78⟩, ⟨w.heap.size + 1, #[.int .i64 c1, .int .i64 s1, .int .u64 r1, .slice a1 n1 k1], 80⟩] st0 := hS
  simp only [Act.put, List.setIfInBounds_toArray, List.set_cons_zero, List.set_cons_succ, List.getElem_toArray, List.getElem_cons_zero, List.getElem_cons_succ]
  refine any_take (i := 8) (v := (.pointer (some ⟨w.heap.size + 1, 3, none⟩))) #[true, true, true, true, true, true, true, true, false, false] rfl (by kernel_rfl) (by kernel_rfl) (by kernel_rfl) (by kernel_rfl) (fun _ _ _ h => h) (.inl ⟨by kernel_rfl, fun x_ hu => by kernel_rfl⟩) trivial ?_
  simp only [Act.put, List.setIfInBounds_toArray, List.set_cons_zero, List.set_cons_succ, List.getElem_toArray, List.getElem_cons_zero, List.getElem_cons_succ]
  refine any_one (i := 9) (by kernel_rfl) rfl (fun K hK => ?_)
  have c4 := cell_of (hS.get 1 (x := ⟨w.heap.size + 1, #[.int .i64 c1, .int .i64 s1, .int .u64 r1, .slice a1 n1 k1], 80⟩) rfl) (i := 3) rfl
  have fz := froz_of (i := 3) (hS.get 1 (x := ⟨w.heap.size + 1, #[.int .i64 c1, .int .i64 s1, .int .u64 r1, .slice a1 n1 k1], 80⟩) rfl)
  have hB2 := hS.cell 1 (x := ⟨w.heap.size + 1, #[.int .i64 c1, .int .i64 s1, .int .u64 r1, .slice a1 n1 k1], 80⟩) rfl 3 (.slice t1 m1 k1)
  simp only [List.set_cons_zero, List.set_cons_succ] at hB2
  replace hB2 : Bl w [⟨w.heap.size, #[.int .i64 c0, .int .i64 s0, .int .u64 r0, .slice t0 m0 k0], 78⟩, ⟨w.heap.size + 1, #[.int .i64 c1, .int .i64 s1, .int .u64 r1, .slice t1 m1 k1], 80⟩] _ := hB2
  clear hS
  replace hB2 := hide hB2
  replace hK := hide hK
  dsimp only at c4 fz
  go_simp
  refine (unhide hK).out _ _ trivial (fun _ => ?_)
  clear hK K c4 fz
  have hS := unhide hB2
  clear hB2
  generalize World.setCell _ _ _ = st1 at *
  replace hS : Bl w [⟨w.heap.size, #[.int .i64 c0, .int .i64 s0, .int .u64 r0, .slice t0 m0 k0], 78⟩, ⟨w.heap.size + 1, #[.int .i64 c1, .int .i64 s1, .int .u64 r1, .slice t1 m1 k1], 80⟩] st1 := hS
  simp only [Act.put, List.setIfInBounds_toArray, List.set_cons_zero, List.set_cons_succ, List.getElem_toArray, List.getElem_cons_zero, List.getElem_cons_succ]
  refine any_done (by kernel_rfl) ?_
  have hW : Bl w [⟨w.heap.size, #[.int .i64 c0, .int .i64 s0, .int .u64 r0, .slice t0 m0 k0], 78⟩, ⟨w.heap.size + 1, #[.int .i64 c1, .int .i64 s1, .int .u64 r1, .slice t1 m1 k1], 80⟩] st1 := hS
  clear hS
  replace hW := hide hW
  go_upto_region 4 with fail
  replace hW := unhide hW
  refine any_start (S := fun (v : World) => Bl w [⟨w.heap.size, #[.int .i64 c0, .int .i64 s0, .int .u64 r0, .slice t0 m0 k0], 78⟩, ⟨w.heap.size + 1, #[.int .i64 c1, .int .i64 s1, .int .u64 r1, .slice t1 m1 k1], 80⟩] v) (by kernel_rfl) ?_
  replace hW := hW.drew
  generalize World.drew _ = x4 at *
  have hS : (fun (v : World) => Bl w [⟨w.heap.size, #[.int .i64 c0, .int .i64 s0, .int .u64 r0, .slice t0 m0 k0], 78⟩, ⟨w.heap.size + 1, #[.int .i64 c1, .int .i64 s1, .int .u64 r1, .slice t1 m1 k1], 80⟩] v) x4 := hW
  clear hW
  simp only [List.size_toArray, List.length_cons, List.length_nil, Array.replicate, List.replicate]
  refine any_take (i := 0) (v := (.pointer (some ⟨w.heap.size, 3, none⟩))) #[false, false, false, false, false, false, false, false] rfl (by kernel_rfl) (by kernel_rfl) (by kernel_rfl) (by kernel_rfl) (fun _ _ _ h => h) (.inl ⟨by kernel_rfl, fun x_ hu => by kernel_rfl⟩) hS ?_
  simp only [Act.put, List.setIfInBounds_toArray, List.set_cons_zero, List.set_cons_succ, List.getElem_toArray, List.getElem_cons_zero, List.getElem_cons_succ]
  refine any_take (i := 1) (v := (.slice t0 m0 k0)) #[true, false, false, false, false, false, false, false] rfl (by kernel_rfl) (by kernel_rfl) (by kernel_rfl) (by kernel_rfl) (fun _ _ _ h => h) (.inl ⟨by kernel_rfl, fun x_ hu => exec_sby _ (.tmp 21) rfl (w.heap.size) 3 (by kernel_rfl) t0 m0 k0 (cell_of (hu.get 0 (x := ⟨w.heap.size, #[.int .i64 c0, .int .i64 s0, .int .u64 r0, .slice t0 m0 k0], 78⟩) rfl) (i := 3) rfl)⟩) hS ?_
  simp only [Act.put, List.setIfInBounds_toArray, List.set_cons_zero, List.set_cons_succ, List.getElem_toArray, List.getElem_cons_zero, List.getElem_cons_succ]
  refine any_take (i := 3) (v := (.pointer (some ⟨w.heap.size + 1, 3, none⟩))) #[true, true, false, false, false, false, false, false] rfl (by kernel_rfl) (by kernel_rfl) (by kernel_rfl) (by kernel_rfl) (fun _ _ _ h => h) (.inl ⟨by kernel_rfl, fun x_ hu => by kernel_rfl⟩) hS ?_
  simp only [Act.put, List.setIfInBounds_toArray, List.set_cons_zero, List.set_cons_succ, List.getElem_toArray, List.getElem_cons_zero, List.getElem_cons_succ]
  refine any_take (i := 4) (v := (.slice t1 m1 k1)) #[true, true, false, true, false, false, false, false] rfl (by kernel_rfl) (by kernel_rfl) (by kernel_rfl) (by kernel_rfl) (fun _ _ _ h => h) (.inl ⟨by kernel_rfl, fun x_ hu => exec_sby _ (.tmp 24) rfl (w.heap.size + 1) 3 (by kernel_rfl) t1 m1 k1 (cell_of (hu.get 1 (x := ⟨w.heap.size + 1, #[.int .i64 c1, .int .i64 s1, .int .u64 r1, .slice t1 m1 k1], 80⟩) rfl) (i := 3) rfl)⟩) hS ?_
  simp only [Act.put, List.setIfInBounds_toArray, List.set_cons_zero, List.set_cons_succ, List.getElem_toArray, List.getElem_cons_zero, List.getElem_cons_succ]
  refine any_one (i := 2) (by kernel_rfl) rfl (fun K hK => ?_)
  refine step_callw (by kernel_rfl) 18 #[.slice t0 m0 k0] (by kernel_rfl) ((jroom_ok B0 t0 m0 k0 hm90 _ ((unhide hl0).gr hS.gr)).mono ?_)
  rintro r z0 ⟨q0, d0, rfl, hc1, hc2, hgo, hat, hg⟩
  refine ⟨_, rfl, ?_⟩
  rw [(unhide hl0).len] at hc1 ⊢
  have ho0 : Lb z0 (some ⟨q0, 0, none⟩) m0 d0 B0 := by
    have h9 := hat.take m0
    rw [List.take_append_of_le_length (by rw [(unhide hl0).len]; exact Nat.le_refl _), List.take_of_length_le (by rw [(unhide hl0).len]; exact Nat.le_refl _)] at h9
    exact ⟨(unhide hl0).len, (unhide hl0).isB, .inr ⟨q0, 0, rfl, h9⟩, by omega, hc2⟩
  replace hS : (fun (v : World) => Bl w [⟨w.heap.size, #[.int .i64 c0, .int .i64 s0, .int .u64 r0, .slice t0 m0 k0], 78⟩, ⟨w.heap.size + 1, #[.int .i64 c1, .int .i64 s1, .int .u64 r1, .slice t1 m1 k1], 80⟩] v) z0 := hS.more hg
  replace ho0 := hide ho0
  clear hg hat hc1 hc2 hgo
  refine hK.out _ _ hS (fun _ => ?_)
  clear hK K
  simp only [Act.put, List.setIfInBounds_toArray, List.set_cons_zero, List.set_cons_succ, List.getElem_toArray, List.getElem_cons_zero, List.getElem_cons_succ]
  refine any_one (i := 5) (by kernel_rfl) rfl (fun K hK => ?_)
  refine step_callw (by kernel_rfl) 18 #[.slice t1 m1 k1] (by kernel_rfl) ((jroom_ok B1 t1 m1 k1 hm91 _ ((unhide hl1).gr hS.gr)).mono ?_)
  rintro r z1 ⟨q1, d1, rfl, hc1, hc2, hgo, hat, hg⟩
  refine ⟨_, rfl, ?_⟩
  rw [(unhide hl1).len] at hc1 ⊢
  have ho1 : Lb z1 (some ⟨q1, 0, none⟩) m1 d1 B1 := by
    have h9 := hat.take m1
    rw [List.take_append_of_le_length (by rw [(unhide hl1).len]; exact Nat.le_refl _), List.take_of_length_le (by rw [(unhide hl1).len]; exact Nat.le_refl _)] at h9
    exact ⟨(unhide hl1).len, (unhide hl1).isB, .inr ⟨q1, 0, rfl, h9⟩, by omega, hc2⟩
  replace hS : (fun (v : World) => Bl w [⟨w.heap.size, #[.int .i64 c0, .int .i64 s0, .int .u64 r0, .slice t0 m0 k0], 78⟩, ⟨w.heap.size + 1, #[.int .i64 c1, .int .i64 s1, .int .u64 r1, .slice t1 m1 k1], 80⟩] v) z1 := hS.more hg
  replace ho0 := (unhide ho0).gr hg
  clear hg hat hc1 hc2 hgo
  refine hK.out _ _ hS (fun _ => ?_)
  clear hK K
  simp only [Act.put, List.setIfInBounds_toArray, List.set_cons_zero, List.set_cons_succ, List.getElem_toArray, List.getElem_cons_zero, List.getElem_cons_succ]
  refine any_one (i := 6) (by kernel_rfl) rfl (fun K hK => ?_)
  replace hK := hide hK
  go_simp
  refine (unhide hK).out _ _ hS (fun _ => ?_)
  clear hK K
  refine any_one (i := 7) (by kernel_rfl) rfl (fun K hK => ?_)
  replace hK := hide hK
  go_simp
  refine (unhide hK).out _ _ hS (fun _ => ?_)
  clear hK K
  refine any_done (by kernel_rfl) ?_
  have hb0 := hide (hS.get 0 (x := ⟨w.heap.size, #[.int .i64 c0, .int .i64 s0, .int .u64 r0, .slice t0 m0 k0], 78⟩) rfl)
  have hb1 := hide (hS.get 1 (x := ⟨w.heap.size + 1, #[.int .i64 c1, .int .i64 s1, .int .u64 r1, .slice t1 m1 k1], 80⟩) rfl)
  dsimp only at hb0 hb1
  have hWg := hide hS.gr
  replace hl0 := hide ((unhide hl0).gr hS.gr)
  replace hl1 := hide ((unhide hl1).gr hS.gr)
  replace ho0 := hide ho0; replace ho1 := hide ho1
  clear hS
  have hV := hide (Gr.refl z1)
  go_upto_region 5 with fail
  refine wp_region_lit ?_
  refine list_val (.pointer (some ⟨w.heap.size, 0, none⟩)) (by kernel_rfl) (by kernel_rfl) ?_
  simp only [Act.put, List.setIfInBounds_toArray, List.set_cons_zero, List.set_cons_succ, List.getElem_toArray, List.getElem_cons_zero, List.getElem_cons_succ]
  refine list_val (.int .i64 c0) (by kernel_rfl) (exec_i64 _ (.tmp 28) rfl (w.heap.size) 0 (by kernel_rfl) c0 (cell_of ((unhide hV).blk (unhide hb0)) (i := 0) rfl)) ?_
  simp only [Act.put, List.setIfInBounds_toArray, List.set_cons_zero, List.set_cons_succ, List.getElem_toArray, List.getElem_cons_zero, List.getElem_cons_succ]
  refine list_val (.pointer (some ⟨w.heap.size, 1, none⟩)) (by kernel_rfl) (by kernel_rfl) ?_
  simp only [Act.put, List.setIfInBounds_toArray, List.set_cons_zero, List.set_cons_succ, List.getElem_toArray, List.getElem_cons_zero, List.getElem_cons_succ]
  refine list_val (.int .i64 s0) (by kernel_rfl) (exec_i64 _ (.tmp 30) rfl (w.heap.size) 1 (by kernel_rfl) s0 (cell_of ((unhide hV).blk (unhide hb0)) (i := 1) rfl)) ?_
  simp only [Act.put, List.setIfInBounds_toArray, List.set_cons_zero, List.set_cons_succ, List.getElem_toArray, List.getElem_cons_zero, List.getElem_cons_succ]
  refine list_val (.pointer (some ⟨w.heap.size, 2, none⟩)) (by kernel_rfl) (by kernel_rfl) ?_
  simp only [Act.put, List.setIfInBounds_toArray, List.set_cons_zero, List.set_cons_succ, List.getElem_toArray, List.getElem_cons_zero, List.getElem_cons_succ]
  refine list_val (.int .u64 r0) (by kernel_rfl) (exec_u64 _ (.tmp 32) rfl (w.heap.size) 2 (by kernel_rfl) r0 (cell_of ((unhide hV).blk (unhide hb0)) (i := 2) rfl)) ?_
  simp only [Act.put, List.setIfInBounds_toArray, List.set_cons_zero, List.set_cons_succ, List.getElem_toArray, List.getElem_cons_zero, List.getElem_cons_succ]
  refine list_val (.slice (some ⟨q0, 0, none⟩) m0 d0) (by kernel_rfl) (by kernel_rfl) ?_
  simp only [Act.put, List.setIfInBounds_toArray, List.set_cons_zero, List.set_cons_succ, List.getElem_toArray, List.getElem_cons_zero, List.getElem_cons_succ]
  refine list_val (.agg #[.int .i64 c0, .int .i64 s0, .int .u64 r0, .slice (some ⟨q0, 0, none⟩) m0 d0]) (by kernel_rfl) (by kernel_rfl) ?_
  simp only [Act.put, List.setIfInBounds_toArray, List.set_cons_zero, List.set_cons_succ, List.getElem_toArray, List.getElem_cons_zero, List.getElem_cons_succ]
  refine list_call 36 #[.agg #[.int .i64 c0, .int .i64 s0, .int .u64 r0, .slice (some ⟨q0, 0, none⟩) m0 d0]] (by kernel_rfl) (by kernel_rfl) ((fputup_no c0 s0 r0 (some ⟨q0, 0, none⟩) m0 d0 (.inl hE0) z1).mono ?_)
  rintro r w1_ ⟨rfl, hg⟩
  replace hV := hide ((unhide hV).trans hg)
  clear hg
  refine ⟨_, rfl, ?_⟩
  simp only [Act.put, List.setIfInBounds_toArray, List.set_cons_zero, List.set_cons_succ, List.getElem_toArray, List.getElem_cons_zero, List.getElem_cons_succ]
  refine list_val (.tuple #[.slice none 0 0, .int .i64 241]) (by kernel_rfl) (by kernel_rfl) ?_
  simp only [Act.put, List.setIfInBounds_toArray, List.set_cons_zero, List.set_cons_succ, List.getElem_toArray, List.getElem_cons_zero, List.getElem_cons_succ]
  refine list_val (.slice none 0 0) (by kernel_rfl) (by kernel_rfl) ?_
  simp only [Act.put, List.setIfInBounds_toArray, List.set_cons_zero, List.set_cons_succ, List.getElem_toArray, List.getElem_cons_zero, List.getElem_cons_succ]
  refine list_val (.int .i64 241) (by kernel_rfl) (by kernel_rfl) ?_
  simp only [Act.put, List.setIfInBounds_toArray, List.set_cons_zero, List.set_cons_succ, List.getElem_toArray, List.getElem_cons_zero, List.getElem_cons_succ]
  (refine wpList_step fun K hK => ?_; replace hK := hide hK; go_simp; refine unhide hK _ _ ?_; clear hK K)
  (refine wpList_step fun K hK => ?_; replace hK := hide hK; go_simp; refine unhide hK _ _ ?_; clear hK K)
  refine wpList_nil ?_
  go_upto_region 6 with fail
  refine wp_region_lit ?_
  refine list_val (.pointer (some ⟨w.heap.size + 1, 0, none⟩)) (by kernel_rfl) (by kernel_rfl) ?_
  simp only [Act.put, List.setIfInBounds_toArray, List.set_cons_zero, List.set_cons_succ, List.getElem_toArray, List.getElem_cons_zero, List.getElem_cons_succ]
  refine list_val (.int .i64 c1) (by kernel_rfl) (exec_i64 _ (.tmp 40) rfl (w.heap.size + 1) 0 (by kernel_rfl) c1 (cell_of ((unhide hV).blk (unhide hb1)) (i := 0) rfl)) ?_
  simp only [Act.put, List.setIfInBounds_toArray, List.set_cons_zero, List.set_cons_succ, List.getElem_toArray, List.getElem_cons_zero, List.getElem_cons_succ]
  refine list_val (.pointer (some ⟨w.heap.size + 1, 1, none⟩)) (by kernel_rfl) (by kernel_rfl) ?_
  simp only [Act.put, List.setIfInBounds_toArray, List.set_cons_zero, List.set_cons_succ, List.getElem_toArray, List.getElem_cons_zero, List.getElem_cons_succ]
  refine list_val (.int .i64 s1) (by kernel_rfl) (exec_i64 _ (.tmp 42) rfl (w.heap.size + 1) 1 (by kernel_rfl) s1 (cell_of ((unhide hV).blk (unhide hb1)) (i := 1) rfl)) ?_
  simp only [Act.put, List.setIfInBounds_toArray, List.set_cons_zero, List.set_cons_succ, List.getElem_toArray, List.getElem_cons_zero, List.getElem_cons_succ]
  refine list_val (.pointer (some ⟨w.heap.size + 1, 2, none⟩)) (by kernel_rfl) (by kernel_rfl) ?_
  simp only [Act.put, List.setIfInBounds_toArray, List.set_cons_zero, List.set_cons_succ, List.getElem_toArray, List.getElem_cons_zero, List.getElem_cons_succ]
  refine list_val (.int .u64 r1) (by kernel_rfl) (exec_u64 _ (.tmp 44) rfl (w.heap.size + 1) 2 (by kernel_rfl) r1 (cell_of ((unhide hV).blk (unhide hb1)) (i := 2) rfl)) ?_
  simp only [Act.put, List.setIfInBounds_toArray, List.set_cons_zero, List.set_cons_succ, List.getElem_toArray, List.getElem_cons_zero, List.getElem_cons_succ]
  refine list_val (.slice (some ⟨q1, 0, none⟩) m1 d1) (by kernel_rfl) (by kernel_rfl) ?_
  simp only [Act.put, List.setIfInBounds_toArray, List.set_cons_zero, List.set_cons_succ, List.getElem_toArray, List.getElem_cons_zero, List.getElem_cons_succ]
  refine list_val (.agg #[.int .i64 c1, .int .i64 s1, .int .u64 r1, .slice (some ⟨q1, 0, none⟩) m1 d1]) (by kernel_rfl) (by kernel_rfl) ?_
  simp only [Act.put, List.setIfInBounds_toArray, List.set_cons_zero, List.set_cons_succ, List.getElem_toArray, List.getElem_cons_zero, List.getElem_cons_succ]
  refine list_call 37 #[.agg #[.int .i64 c1, .int .i64 s1, .int .u64 r1, .slice (some ⟨q1, 0, none⟩) m1 d1]] (by kernel_rfl) (by kernel_rfl) ((fputdn_no c1 s1 r1 (some ⟨q1, 0, none⟩) m1 d1 (.inl hE1) w1_).mono ?_)
  rintro r w2_ ⟨rfl, hg⟩
  replace hV := hide ((unhide hV).trans hg)
  clear hg
  refine ⟨_, rfl, ?_⟩
  simp only [Act.put, List.setIfInBounds_toArray, List.set_cons_zero, List.set_cons_succ, List.getElem_toArray, List.getElem_cons_zero, List.getElem_cons_succ]
  refine list_val (.tuple #[.slice none 0 0, .int .i64 241]) (by kernel_rfl) (by kernel_rfl) ?_
  simp only [Act.put, List.setIfInBounds_toArray, List.set_cons_zero, List.set_cons_succ, List.getElem_toArray, List.getElem_cons_zero, List.getElem_cons_succ]
  refine list_val (.slice none 0 0) (by kernel_rfl) (by kernel_rfl) ?_
  simp only [Act.put, List.setIfInBounds_toArray, List.set_cons_zero, List.set_cons_succ, List.getElem_toArray, List.getElem_cons_zero, List.getElem_cons_succ]
  refine list_val (.int .i64 241) (by kernel_rfl) (by kernel_rfl) ?_
  simp only [Act.put, List.setIfInBounds_toArray, List.set_cons_zero, List.set_cons_succ, List.getElem_toArray, List.getElem_cons_zero, List.getElem_cons_succ]
  (refine wpList_step fun K hK => ?_; replace hK := hide hK; go_simp; refine unhide hK _ _ ?_; clear hK K)
  (refine wpList_step fun K hK => ?_; replace hK := hide hK; go_simp; refine unhide hK _ _ ?_; clear hK K)
  refine wpList_nil ?_
  go_upto_region 7 with fail
  refine wp_region_lit ?_
  refine list_val (.slice (some ⟨q0, 0, none⟩) m0 d0) (by kernel_rfl) (by kernel_rfl) ?_
  simp only [Act.put, List.setIfInBounds_toArray, List.set_cons_zero, List.set_cons_succ, List.getElem_toArray, List.getElem_cons_zero, List.getElem_cons_succ]
  refine list_val (.pointer (some ⟨w.heap.size, 3, none⟩)) (by kernel_rfl) (by kernel_rfl) ?_
  simp only [Act.put, List.setIfInBounds_toArray, List.set_cons_zero, List.set_cons_succ, List.getElem_toArray, List.getElem_cons_zero, List.getElem_cons_succ]
  refine list_val (.slice t0 m0 k0) (by kernel_rfl) (exec_sby _ (.tmp 52) rfl (w.heap.size) 3 (by kernel_rfl) t0 m0 k0 (cell_of ((unhide hV).blk (unhide hb0)) (i := 3) rfl)) ?_
  simp only [Act.put, List.setIfInBounds_toArray, List.set_cons_zero, List.set_cons_succ, List.getElem_toArray, List.getElem_cons_zero, List.getElem_cons_succ]
  refine list_call 11 #[.slice (some ⟨q0, 0, none⟩) m0 d0, .slice t0 m0 k0] (by kernel_rfl) (by kernel_rfl) ((beq_ok B0 B0 (some ⟨q0, 0, none⟩) t0 m0 m0 d0 k0 w2_ ((unhide ho0).gr (unhide hV)) ((unhide hl0).gr (unhide hV))).mono ?_)
  rintro r w3_ ⟨rfl, hg⟩
  rw [decide_eq_true rfl]
  replace hV := hide ((unhide hV).trans hg)
  clear hg
  refine ⟨_, rfl, ?_⟩
  simp only [Act.put, List.setIfInBounds_toArray, List.set_cons_zero, List.set_cons_succ, List.getElem_toArray, List.getElem_cons_zero, List.getElem_cons_succ]
  refine list_val (.bool false) (by kernel_rfl) (by kernel_rfl) ?_
  simp only [Act.put, List.setIfInBounds_toArray, List.set_cons_zero, List.set_cons_succ, List.getElem_toArray, List.getElem_cons_zero, List.getElem_cons_succ]
  refine list_val (.bool false) (by kernel_rfl) (by kernel_rfl) ?_
  simp only [Act.put, List.setIfInBounds_toArray, List.set_cons_zero, List.set_cons_succ, List.getElem_toArray, List.getElem_cons_zero, List.getElem_cons_succ]
  refine list_val (.slice (some ⟨q1, 0, none⟩) m1 d1) (by kernel_rfl) (by kernel_rfl) ?_
  simp only [Act.put, List.setIfInBounds_toArray, List.set_cons_zero, List.set_cons_succ, List.getElem_toArray, List.getElem_cons_zero, List.getElem_cons_succ]
  refine list_val (.pointer (some ⟨w.heap.size + 1, 3, none⟩)) (by kernel_rfl) (by kernel_rfl) ?_
  simp only [Act.put, List.setIfInBounds_toArray, List.set_cons_zero, List.set_cons_succ, List.getElem_toArray, List.getElem_cons_zero, List.getElem_cons_succ]
  refine list_val (.slice t1 m1 k1) (by kernel_rfl) (exec_sby _ (.tmp 58) rfl (w.heap.size + 1) 3 (by kernel_rfl) t1 m1 k1 (cell_of ((unhide hV).blk (unhide hb1)) (i := 3) rfl)) ?_
  simp only [Act.put, List.setIfInBounds_toArray, List.set_cons_zero, List.set_cons_succ, List.getElem_toArray, List.getElem_cons_zero, List.getElem_cons_succ]
  refine list_call 11 #[.slice (some ⟨q1, 0, none⟩) m1 d1, .slice t1 m1 k1] (by kernel_rfl) (by kernel_rfl) ((beq_ok B1 B1 (some ⟨q1, 0, none⟩) t1 m1 m1 d1 k1 w3_ ((unhide ho1).gr (unhide hV)) ((unhide hl1).gr (unhide hV))).mono ?_)
  rintro r w4_ ⟨rfl, hg⟩
  rw [decide_eq_true rfl]
  replace hV := hide ((unhide hV).trans hg)
  clear hg
  refine ⟨_, rfl, ?_⟩
  simp only [Act.put, List.setIfInBounds_toArray, List.set_cons_zero, List.set_cons_succ, List.getElem_toArray, List.getElem_cons_zero, List.getElem_cons_succ]
  refine list_val (.bool false) (by kernel_rfl) (by kernel_rfl) ?_
  simp only [Act.put, List.setIfInBounds_toArray, List.set_cons_zero, List.set_cons_succ, List.getElem_toArray, List.getElem_cons_zero, List.getElem_cons_succ]
  refine list_val (.bool false) (by kernel_rfl) (by kernel_rfl) ?_
  simp only [Act.put, List.setIfInBounds_toArray, List.set_cons_zero, List.set_cons_succ, List.getElem_toArray, List.getElem_cons_zero, List.getElem_cons_succ]
  refine wpList_nil ?_
  go_upto_region 9 with fail
  refine wp_region_lit ?_
  refine list_val (.pointer (some ⟨w.heap.size, 0, none⟩)) (by kernel_rfl) (by kernel_rfl) ?_
  simp only [Act.put, List.setIfInBounds_toArray, List.set_cons_zero, List.set_cons_succ, List.getElem_toArray, List.getElem_cons_zero, List.getElem_cons_succ]
  refine list_val (.int .i64 c0) (by kernel_rfl) (exec_i64 _ (.tmp 63) rfl (w.heap.size) 0 (by kernel_rfl) c0 (cell_of ((unhide hV).blk (unhide hb0)) (i := 0) rfl)) ?_
  simp only [Act.put, List.setIfInBounds_toArray, List.set_cons_zero, List.set_cons_succ, List.getElem_toArray, List.getElem_cons_zero, List.getElem_cons_succ]
  refine list_val (.pointer (some ⟨w.heap.size, 1, none⟩)) (by kernel_rfl) (by kernel_rfl) ?_
  simp only [Act.put, List.setIfInBounds_toArray, List.set_cons_zero, List.set_cons_succ, List.getElem_toArray, List.getElem_cons_zero, List.getElem_cons_succ]
  refine list_val (.int .i64 s0) (by kernel_rfl) (exec_i64 _ (.tmp 65) rfl (w.heap.size) 1 (by kernel_rfl) s0 (cell_of ((unhide hV).blk (unhide hb0)) (i := 1) rfl)) ?_
  simp only [Act.put, List.setIfInBounds_toArray, List.set_cons_zero, List.set_cons_succ, List.getElem_toArray, List.getElem_cons_zero, List.getElem_cons_succ]
  refine list_val (.pointer (some ⟨w.heap.size, 2, none⟩)) (by kernel_rfl) (by kernel_rfl) ?_
  simp only [Act.put, List.setIfInBounds_toArray, List.set_cons_zero, List.set_cons_succ, List.getElem_toArray, List.getElem_cons_zero, List.getElem_cons_succ]
  refine list_val (.int .u64 r0) (by kernel_rfl) (exec_u64 _ (.tmp 67) rfl (w.heap.size) 2 (by kernel_rfl) r0 (cell_of ((unhide hV).blk (unhide hb0)) (i := 2) rfl)) ?_
  simp only [Act.put, List.setIfInBounds_toArray, List.set_cons_zero, List.set_cons_succ, List.getElem_toArray, List.getElem_cons_zero, List.getElem_cons_succ]
  refine list_call 38 #[.int .i64 c0, .int .i64 s0, .int .u64 r0] (by kernel_rfl) (by kernel_rfl) ((qends_ok c0 s0 r0 w4_).mono ?_)
  rintro r w5_ ⟨rfl, rfl⟩
  rw [hE0]
  refine ⟨_, rfl, ?_⟩
  simp only [Act.put, List.setIfInBounds_toArray, List.set_cons_zero, List.set_cons_succ, List.getElem_toArray, List.getElem_cons_zero, List.getElem_cons_succ]
  refine list_val_offs 5 (.bool false) (by kernel_rfl) (by kernel_rfl) (by kernel_rfl) ?_
  simp only [List.drop_succ_cons, List.drop_zero, List.take_succ_cons, List.take_zero, putU]
  simp only [Act.put, List.setIfInBounds_toArray, List.set_cons_zero, List.set_cons_succ, List.getElem_toArray, List.getElem_cons_zero, List.getElem_cons_succ]
  refine list_val (.bool false) (by kernel_rfl) (by kernel_rfl) ?_
  simp only [Act.put, List.setIfInBounds_toArray, List.set_cons_zero, List.set_cons_succ, List.getElem_toArray, List.getElem_cons_zero, List.getElem_cons_succ]
  refine wpList_nil ?_
  go_upto_region 12 with fail
  refine wp_region_lit ?_
  refine list_val (.int .i64 241) (by kernel_rfl) (by kernel_rfl) ?_
  simp only [Act.put, List.setIfInBounds_toArray, List.set_cons_zero, List.set_cons_succ, List.getElem_toArray, List.getElem_cons_zero, List.getElem_cons_succ]
  refine list_val (.bool false) (by kernel_rfl) (by kernel_rfl) ?_
  simp only [Act.put, List.setIfInBounds_toArray, List.set_cons_zero, List.set_cons_succ, List.getElem_toArray, List.getElem_cons_zero, List.getElem_cons_succ]
  refine list_val (.bool false) (by kernel_rfl) (by kernel_rfl) ?_
  simp only [Act.put, List.setIfInBounds_toArray, List.set_cons_zero, List.set_cons_succ, List.getElem_toArray, List.getElem_cons_zero, List.getElem_cons_succ]
  refine list_val (.slice none 0 0) (by kernel_rfl) (by kernel_rfl) ?_
  simp only [Act.put, List.setIfInBounds_toArray, List.set_cons_zero, List.set_cons_succ, List.getElem_toArray, List.getElem_cons_zero, List.getElem_cons_succ]
  refine list_val (.int .i64 0) (by kernel_rfl) (by kernel_rfl) ?_
  simp only [Act.put, List.setIfInBounds_toArray, List.set_cons_zero, List.set_cons_succ, List.getElem_toArray, List.getElem_cons_zero, List.getElem_cons_succ]
  refine list_val (.bool false) (by kernel_rfl) (by kernel_rfl) ?_
  simp only [Act.put, List.setIfInBounds_toArray, List.set_cons_zero, List.set_cons_succ, List.getElem_toArray, List.getElem_cons_zero, List.getElem_cons_succ]
  refine list_val (.bool false) (by kernel_rfl) (by kernel_rfl) ?_
  simp only [Act.put, List.setIfInBounds_toArray, List.set_cons_zero, List.set_cons_succ, List.getElem_toArray, List.getElem_cons_zero, List.getElem_cons_succ]
  refine wpList_nil ?_
  go_upto_region 14 with fail
  refine wp_region_lit ?_
  refine list_val (.pointer (some ⟨w.heap.size + 1, 0, none⟩)) (by kernel_rfl) (by kernel_rfl) ?_
  simp only [Act.put, List.setIfInBounds_toArray, List.set_cons_zero, List.set_cons_succ, List.getElem_toArray, List.getElem_cons_zero, List.getElem_cons_succ]
  refine list_val (.int .i64 c1) (by kernel_rfl) (exec_i64 _ (.tmp 100) rfl (w.heap.size + 1) 0 (by kernel_rfl) c1 (cell_of ((unhide hV).blk (unhide hb1)) (i := 0) rfl)) ?_
  simp only [Act.put, List.setIfInBounds_toArray, List.set_cons_zero, List.set_cons_succ, List.getElem_toArray, List.getElem_cons_zero, List.getElem_cons_succ]
  refine list_val (.pointer (some ⟨w.heap.size + 1, 1, none⟩)) (by kernel_rfl) (by kernel_rfl) ?_
  simp only [Act.put, List.setIfInBounds_toArray, List.set_cons_zero, List.set_cons_succ, List.getElem_toArray, List.getElem_cons_zero, List.getElem_cons_succ]
  refine list_val (.int .i64 s1) (by kernel_rfl) (exec_i64 _ (.tmp 102) rfl (w.heap.size + 1) 1 (by kernel_rfl) s1 (cell_of ((unhide hV).blk (unhide hb1)) (i := 1) rfl)) ?_
  simp only [Act.put, List.setIfInBounds_toArray, List.set_cons_zero, List.set_cons_succ, List.getElem_toArray, List.getElem_cons_zero, List.getElem_cons_succ]
  refine list_val (.pointer (some ⟨w.heap.size + 1, 2, none⟩)) (by kernel_rfl) (by kernel_rfl) ?_
  simp only [Act.put, List.setIfInBounds_toArray, List.set_cons_zero, List.set_cons_succ, List.getElem_toArray, List.getElem_cons_zero, List.getElem_cons_succ]
  refine list_val (.int .u64 r1) (by kernel_rfl) (exec_u64 _ (.tmp 104) rfl (w.heap.size + 1) 2 (by kernel_rfl) r1 (cell_of ((unhide hV).blk (unhide hb1)) (i := 2) rfl)) ?_
  simp only [Act.put, List.setIfInBounds_toArray, List.set_cons_zero, List.set_cons_succ, List.getElem_toArray, List.getElem_cons_zero, List.getElem_cons_succ]
  refine list_call 38 #[.int .i64 c1, .int .i64 s1, .int .u64 r1] (by kernel_rfl) (by kernel_rfl) ((qends_ok c1 s1 r1 w5_).mono ?_)
  rintro r w6_ ⟨rfl, rfl⟩
  rw [hE1]
  refine ⟨_, rfl, ?_⟩
  simp only [Act.put, List.setIfInBounds_toArray, List.set_cons_zero, List.set_cons_succ, List.getElem_toArray, List.getElem_cons_zero, List.getElem_cons_succ]
  refine list_val_offs 5 (.bool false) (by kernel_rfl) (by kernel_rfl) (by kernel_rfl) ?_
  simp only [List.drop_succ_cons, List.drop_zero, List.take_succ_cons, List.take_zero, putU]
  simp only [Act.put, List.setIfInBounds_toArray, List.set_cons_zero, List.set_cons_succ, List.getElem_toArray, List.getElem_cons_zero, List.getElem_cons_succ]
  refine list_val (.bool false) (by kernel_rfl) (by kernel_rfl) ?_
  simp only [Act.put, List.setIfInBounds_toArray, List.set_cons_zero, List.set_cons_succ, List.getElem_toArray, List.getElem_cons_zero, List.getElem_cons_succ]
  refine wpList_nil ?_
  go_upto_region 16 with fail
  refine wp_region_lit ?_
  refine list_val (.int .i64 241) (by kernel_rfl) (by kernel_rfl) ?_
  simp only [Act.put, List.setIfInBounds_toArray, List.set_cons_zero, List.set_cons_succ, List.getElem_toArray, List.getElem_cons_zero, List.getElem_cons_succ]
  refine list_val (.bool true) (by kernel_rfl) (by kernel_rfl) ?_
  simp only [Act.put, List.setIfInBounds_toArray, List.set_cons_zero, List.set_cons_succ, List.getElem_toArray, List.getElem_cons_zero, List.getElem_cons_succ]
  refine list_val (.bool true) (by kernel_rfl) (by kernel_rfl) ?_
  simp only [Act.put, List.setIfInBounds_toArray, List.set_cons_zero, List.set_cons_succ, List.getElem_toArray, List.getElem_cons_zero, List.getElem_cons_succ]
  refine list_val (.slice none 0 0) (by kernel_rfl) (by kernel_rfl) ?_
  simp only [Act.put, List.setIfInBounds_toArray, List.set_cons_zero, List.set_cons_succ, List.getElem_toArray, List.getElem_cons_zero, List.getElem_cons_succ]
  refine list_val (.int .i64 0) (by kernel_rfl) (by kernel_rfl) ?_
  simp only [Act.put, List.setIfInBounds_toArray, List.set_cons_zero, List.set_cons_succ, List.getElem_toArray, List.getElem_cons_zero, List.getElem_cons_succ]
  refine list_val (.bool true) (by kernel_rfl) (by kernel_rfl) ?_
  simp only [Act.put, List.setIfInBounds_toArray, List.set_cons_zero, List.set_cons_succ, List.getElem_toArray, List.getElem_cons_zero, List.getElem_cons_succ]
  refine list_val (.bool true) (by kernel_rfl) (by kernel_rfl) ?_
  simp only [Act.put, List.setIfInBounds_toArray, List.set_cons_zero, List.set_cons_succ, List.getElem_toArray, List.getElem_cons_zero, List.getElem_cons_succ]
  (refine wpList_step fun K hK => ?_; replace hK := hide hK; go_simp; refine unhide hK _ _ ?_; clear hK K)
  refine wpList_nil ?_
  have hZ : Hid (Woke w (.returned (.bool true)) w6_) := ⟨rfl, (unhide hWg).trans (unhide hV)⟩
  go_wp2_with fail
  rw [unhide hT]
  exact unhide hZ
set_option maxHeartbeats 4000000 in
theorem packets_es (c0 s0 r0 : Int) (hr0 : 0 ≤ r0 ∧ r0 < 18446744073709551616) (a0 : Option Addr) (n0 k0 : Nat) (A0 : List Int) (c1 s1 r1 : Int) (hr1 : 0 ≤ r1 ∧ r1 < 18446744073709551616) (a1 : Option Addr) (n1 k1 : Nat) (A1 : List Int) (w : World) (lb0 : Lb w a0 n0 k0 A0) (lb1 : Lb w a1 n1 k1 A1) (hE0 : ends c0 s0 r0 = false) (hE1 : ends c1 s1 r1 = true) (hS1 : rpS ((min n1 1000 : Nat) : Int) = false) : Calls Try.prog 6 #[.agg #[.int .i64 c0, .int .i64 s0, .int .u64 r0, .slice a0 n0 k0], .agg #[.int .i64 c1, .int .i64 s1, .int .u64 r1, .slice a1 n1 k1]] w (Woke w) := by
  obtain ⟨T, hT⟩ : ∃ T, T = Woke w := ⟨_, rfl⟩
  rw [← hT]
  replace hT := hide hT
  obtain ⟨m0, hm0⟩ : ∃ m, m = min n0 1000 := ⟨_, rfl⟩
  obtain ⟨B0, hB0⟩ : ∃ B, B = A0.take m0 := ⟨_, rfl⟩
  have hm90 : m0 ≤ 1000 := by omega
  replace hm0 := hide hm0; replace hB0 := hide hB0; replace lb0 := hide lb0
  obtain ⟨m1, hm1⟩ : ∃ m, m = min n1 1000 := ⟨_, rfl⟩
  obtain ⟨B1, hB1⟩ : ∃ B, B = A1.take m1 := ⟨_, rfl⟩
  have hm91 : m1 ≤ 1000 := by omega
  rw [← hm1] at hS1
  replace hm1 := hide hm1; replace hB1 := hide hB1; replace lb1 := hide lb1
  go_enter Try.func6, Try.ntmps6
  go_upto_region 1 with fail
  have hW := (((Bl.nil w).new #[.int .i64 c0, .int .i64 s0, .int .u64 r0, .slice a0 n0 k0] 78).new #[.int .i64 c1, .int .i64 s1, .int .u64 r1, .slice a1 n1 k1] 80)
  simp only [size_alloc, List.nil_append, List.cons_append] at hW
  generalize World.alloc _ _ = u at *
  replace hW : Bl w [⟨w.heap.size, #[.int .i64 c0, .int .i64 s0, .int .u64 r0, .slice a0 n0 k0], 78⟩, ⟨w.heap.size + 1, #[.int .i64 c1, .int .i64 s1, .int .u64 r1, .slice a1 n1 k1], 80⟩] u := hW
  refine wp_region_lit ?_
  refine list_call 9 #[] (by kernel_rfl) (by kernel_rfl) ((jwakes_ok u).mono ?_)
  rintro r u1 ⟨rfl, hg⟩
  replace hW := hW.more hg
  clear hg
  refine ⟨_, rfl, ?_⟩
  simp only [Act.put, List.setIfInBounds_toArray, List.set_cons_zero, List.set_cons_succ, List.getElem_toArray, List.getElem_cons_zero, List.getElem_cons_succ]
  refine list_val (.bool false) (by kernel_rfl) (by kernel_rfl) ?_
  simp only [Act.put, List.setIfInBounds_toArray, List.set_cons_zero, List.set_cons_succ, List.getElem_toArray, List.getElem_cons_zero, List.getElem_cons_succ]
  refine wpList_nil ?_
  replace hW := hide hW
  go_upto_region 3 with fail
  replace hW := unhide hW
  refine anyC_start 5 (fun (v : World) => Bl w [⟨w.heap.size, #[.int .i64 c0, .int .i64 s0, .int .u64 r0, .slice a0 n0 k0], 78⟩, ⟨w.heap.size + 1, #[.int .i64 c1, .int .i64 s1, .int .u64 r1, .slice a1 n1 k1], 80⟩] v) (by kernel_rfl) ?_
  replace hW := hW.drew
  generalize World.drew _ = x0 at *
  have hS : (fun (v : World) => Bl w [⟨w.heap.size, #[.int .i64 c0, .int .i64 s0, .int .u64 r0, .slice a0 n0 k0], 78⟩, ⟨w.heap.size + 1, #[.int .i64 c1, .int .i64 s1, .int .u64 r1, .slice a1 n1 k1], 80⟩] v) x0 := hW
  clear hW
  simp only [List.size_toArray, List.length_cons, List.length_nil, Array.replicate, List.replicate]
  refine anyC_take (i := 0) (v := (.pointer (some ⟨w.heap.size, 3, none⟩))) (fun _ => True) (fun _ _ => trivial) (.inl (fun _ => trivial)) rfl (by kernel_rfl) (by kernel_rfl) (by kernel_rfl) (by decide) (by kernel_rfl) (by decide) (fun _ _ _ h => h) (.inl ⟨by kernel_rfl, fun x_ hu => by kernel_rfl⟩) hS ?_
  simp only [Act.put, List.setIfInBounds_toArray, List.set_cons_zero, List.set_cons_succ, List.getElem_toArray, List.getElem_cons_zero, List.getElem_cons_succ]
  refine anyC_take (i := 3) (v := (.pointer (some ⟨w.heap.size + 1, 3, none⟩))) (fun _ => True) (fun _ _ => trivial) (.inl (fun _ => trivial)) rfl (by kernel_rfl) (by kernel_rfl) (by kernel_rfl) (by decide) (by kernel_rfl) (by decide) (fun _ _ _ h => h) (.inl ⟨by kernel_rfl, fun x_ hu => by kernel_rfl⟩) hS ?_
  simp only [Act.put, List.setIfInBounds_toArray, List.set_cons_zero, List.set_cons_succ, List.getElem_toArray, List.getElem_cons_zero, List.getElem_cons_succ]
  refine anyC_take (i := 4) (v := (.slice a1 n1 k1)) (fun (v : World) => Bl w [⟨w.heap.size, #[.int .i64 c0, .int .i64 s0, .int .u64 r0, .slice a0 n0 k0], 78⟩, ⟨w.heap.size + 1, #[.int .i64 c1, .int .i64 s1, .int .u64 r1, .slice a1 n1 k1], 80⟩] v) (fun _ h_ => h_) (.inr (by kernel_rfl)) rfl (by kernel_rfl) (by kernel_rfl) (by kernel_rfl) (by decide) (by kernel_rfl) (by decide) (fun _ _ _ h => h) (.inl ⟨by kernel_rfl, fun x_ hu => exec_sby _ (.tmp 16) rfl (w.heap.size + 1) 3 (by kernel_rfl) a1 n1 k1 (cell_of (hu.get 1 (x := ⟨w.heap.size + 1, #[.int .i64 c1, .int .i64 s1, .int .u64 r1, .slice a1 n1 k1], 80⟩) rfl) (i := 3) rfl)⟩) hS ?_
  simp only [Act.put, List.setIfInBounds_toArray, List.set_cons_zero, List.set_cons_succ, List.getElem_toArray, List.getElem_cons_zero, List.getElem_cons_succ]
  refine anyC_one (i := 1) (by kernel_rfl) rfl (fun K hK => ?_)
  refine step_val (.slice a0 n0 k0) _ (by kernel_rfl) (exec_sby _ (.tmp 13) rfl (w.heap.size) 3 (by kernel_rfl) a0 n0 k0 (cell_of (hS.get 0 (x := ⟨w.heap.size, #[.int .i64 c0, .int .i64 s0, .int .u64 r0, .slice a0 n0 k0], 78⟩) rfl) (i := 3) rfl)) ?_
  refine hK.out _ _ hS (fun _ => ?_)
  clear hK K
  simp only [Act.put, List.setIfInBounds_toArray, List.set_cons_zero, List.set_cons_succ, List.getElem_toArray, List.getElem_cons_zero, List.getElem_cons_succ]
  refine anyC_one (i := 2) (by kernel_rfl) rfl (fun K hK => ?_)
  refine step_callw (by kernel_rfl) 10 #[.slice a0 n0 k0] (by kernel_rfl) ((jcut_ok A0 a0 n0 k0 x0 ((unhide lb0).gr hS.gr)).mono ?_)
  rintro r y0 ⟨t0, rfl, hc, rfl⟩
  refine ⟨_, rfl, ?_⟩
  have hl0 := hc w (unhide lb0)
  rw [← unhide hm0, ← unhide hB0] at hl0
  rw [← unhide hm0]
  replace hl0 := hide hl0
  clear hc lb0 hB0
  refine hK.out _ _ hS (fun _ => ?_)
  clear hK K
  simp only [Act.put, List.setIfInBounds_toArray, List.set_cons_zero, List.set_cons_succ, List.getElem_toArray, List.getElem_cons_zero, List.getElem_cons_succ]
  refine anyC_take (i := 6) (v := (.pointer (some ⟨w.heap.size, 3, none⟩))) (fun _ => True) (fun _ _ => trivial) (.inl (fun _ => trivial)) rfl (by kernel_rfl) (by kernel_rfl) (by kernel_rfl) (by decide) (by kernel_rfl) (by decide) (fun _ _ _ h => h) (.inl ⟨by kernel_rfl, fun x_ hu => by kernel_rfl⟩) hS ?_
  simp only [Act.put, List.setIfInBounds_toArray, List.set_cons_zero, List.set_cons_succ, List.getElem_toArray, List.getElem_cons_zero, List.getElem_cons_succ]
  refine anyC_last (by kernel_rfl) rfl (fun K hK => ?_)
  refine step_callw (by kernel_rfl) 10 #[.slice a1 n1 k1] (by kernel_rfl) ((jcut_ok A1 a1 n1 k1 _ ((unhide lb1).gr hS.gr)).mono ?_)
  rintro r y1 ⟨t1, rfl, hc, rfl⟩
  refine ⟨_, rfl, ?_⟩
  have hl1 := hc w (unhide lb1)
  rw [← unhide hm1, ← unhide hB1] at hl1
  rw [← unhide hm1]
  replace hl1 := hide hl1
  clear hc lb1 hB1
  refine hK.out _ _ ?_
  clear hK K
  simp only [Act.put, List.setIfInBounds_toArray, List.set_cons_zero, List.set_cons_succ, List.getElem_toArray, List.getElem_cons_zero, List.getElem_cons_succ]
  refine any_one (i := 7) (by kernel_rfl) rfl (fun K hK => ?_)
  have c4 := cell_of (hS.get 0 (x := ⟨w.heap.size, #[.int .i64 c0, .int .i64 s0, .int .u64 r0, .slice a0 n0 k0], 78⟩) rfl) (i := 3) rfl
  have fz := froz_of (i := 3) (hS.get 0 (x := ⟨w.heap.size, #[.int .i64 c0, .int .i64 s0, .int .u64 r0, .slice a0 n0 k0], 78⟩) rfl)
  have hB2 := hS.cell 0 (x := ⟨w.heap.size, #[.int .i64 c0, .int .i64 s0, .int .u64 r0, .slice a0 n0 k0], 78⟩) rfl 3 (.slice t0 m0 k0)
  simp only [List.set_cons_zero, List.set_cons_succ] at hB2
  replace hB2 : Bl w [⟨w.heap.size, #[.int .i64 c0, .int .i64 s0, .int .u64 r0, .slice t0 m0 k0], 78⟩, ⟨w.heap.size + 1, #[.int .i64 c1, .int .i64 s1, .int .u64 r1, .slice a1 n1 k1], 80⟩] _ := hB2
  clear hS
  replace hB2 := hide hB2
  replace hK := hide hK
  dsimp only at c4 fz
  go_simp
  refine (unhide hK).out _ _ trivial (fun _ => ?_)
  clear hK K c4 fz
  have hS := unhide hB2
  clear hB2
  generalize World.setCell _ _ _ = st0 at *
  replace hS : Bl w [⟨w.heap.size, #[.int .i64 c0, .int .i64 s0, .int .u64 r0, .slice t0 m0 k0], 78⟩, ⟨w.heap.size + 1, #[.int .i64 c1, .int .i64 s1, .int .u64 r1, .slice a1 n1 k1], 80⟩] st0 := hS
  simp only [Act.put, List.setIfInBounds_toArray, List.set_cons_zero, List.set_cons_succ, List.getElem_toArray, List.getElem_cons_zero, List.getElem_cons_succ]
  refine any_take (i := 8) (v := (.pointer (some ⟨w.heap.size + 1, 3, none⟩))) #[true, true, true, true, true, true, true, true, false, false] rfl (by kernel_rfl) (by kernel_rfl) (by kernel_rfl) (by kernel_rfl) (fun _ _ _ h => h) (.inl ⟨by kernel_rfl, fun x_ hu => by kernel_rfl⟩) trivial ?_
  simp only [Act.put, List.setIfInBounds_toArray, List.set_cons_zero, List.set_cons_succ, List.getElem_toArray, List.getElem_cons_zero, List.getElem_cons_succ]
  refine any_one (i := 9) (by kernel_rfl) rfl (fun K hK => ?_)
  have c4 := cell_of (hS.get 1 (x := ⟨w.heap.size + 1, #[.int .i64 c1, .int .i64 s1, .int .u64 r1, .slice a1 n1 k1], 80⟩) rfl) (i := 3) rfl
  have fz := froz_of (i := 3) (hS.get 1 (x := ⟨w.heap.size + 1, #[.int .i64 c1, .int .i64 s1, .int .u64 r1, .slice a1 n1 k1], 80⟩) rfl)
  have hB2 := hS.cell 1 (x := ⟨w.heap.size + 1, #[.int .i64 c1, .int .i64 s1, .int .u64 r1, .slice a1 n1 k1], 80⟩) rfl 3 (.slice t1 m1 k1)
  simp only [List.set_cons_zero, List.set_cons_succ] at hB2
  replace hB2 : Bl w [⟨w.heap.size, #[.int .i64 c0, .int .i64 s0, .int .u64 r0, .slice t0 m0 k0], 78⟩, ⟨w.heap.size + 1, #[.int .i64 c1, .int .i64 s1, .int .u64 r1, .slice t1 m1 k1], 80⟩] _ := hB2
  clear hS
  replace hB2 := hide hB2
  replace hK := hide hK
  dsimp only at c4 fz
  go_simp
  refine (unhide hK).out _ _ trivial (fun _ => ?_)
  clear hK K c4 fz
  have hS := unhide hB2
  clear hB2
  generalize World.setCell _ _ _ = st1 at *
  replace hS : Bl w [⟨w.heap.size, #[.int .i64 c0, .int .i64 s0, .int .u64 r0, .slice t0 m0 k0], 78⟩, ⟨w.heap.size + 1, #[.int .i64 c1, .int .i64 s1, .int .u64 r1, .slice t1 m1 k1], 80⟩] st1 := hS
  simp only [Act.put, List.setIfInBounds_toArray, List.set_cons_zero, List.set_cons_succ, List.getElem_toArray, List.getElem_cons_zero, List.getElem_cons_succ]
  refine any_done (by kernel_rfl) ?_
  have hW : Bl w [⟨w.heap.size, #[.int .i64 c0, .int .i64 s0, .int .u64 r0, .slice t0 m0 k0], 78⟩, ⟨w.heap.size + 1, #[.int .i64 c1, .int .i64 s1, .int .u64 r1, .slice t1 m1 k1], 80⟩] st1 := hS
  clear hS
  replace hW := hide hW
  go_upto_region 4 with fail
  replace hW := unhide hW
  refine any_start (S := fun (v : World) => Bl w [⟨w.heap.size, #[.int .i64 c0, .int .i64 s0, .int .u64 r0, .slice t0 m0 k0], 78⟩, ⟨w.heap.size + 1, #[.int .i64 c1, .int .i64 s1, .int .u64 r1, .slice t1 m1 k1], 80⟩] v) (by kernel_rfl) ?_
  replace hW := hW.drew
  generalize World.drew _ = x4 at *
  have hS : (fun (v : World) => Bl w [⟨w.heap.size, #[.int .i64 c0, .int .i64 s0, .int .u64 r0, .slice t0 m0 k0], 78⟩, ⟨w.heap.size + 1, #[.int .i64 c1, .int .i64 s1, .int .u64 r1, .slice t1 m1 k1], 80⟩] v) x4 := hW
  clear hW
  simp only [List.size_toArray, List.length_cons, List.length_nil, Array.replicate, List.replicate]
  refine any_take (i := 0) (v := (.pointer (some ⟨w.heap.size, 3, none⟩))) #[false, false, false, false, false, false, false, false] rfl (by kernel_rfl) (by kernel_rfl) (by kernel_rfl) (by kernel_rfl) (fun _ _ _ h => h) (.inl ⟨by kernel_rfl, fun x_ hu => by kernel_rfl⟩) hS ?_
  simp only [Act.put, List.setIfInBounds_toArray, List.set_cons_zero, List.set_cons_succ, List.getElem_toArray, List.getElem_cons_zero, List.getElem_cons_succ]
  refine any_take (i := 1) (v := (.slice t0 m0 k0)) #[true, false, false, false, false, false, false, false] rfl (by kernel_rfl) (by kernel_rfl) (by kernel_rfl) (by kernel_rfl) (fun _ _ _ h => h) (.inl ⟨by kernel_rfl, fun x_ hu => exec_sby _ (.tmp 21) rfl (w.heap.size) 3 (by kernel_rfl) t0 m0 k0 (cell_of (hu.get 0 (x := ⟨w.heap.size, #[.int .i64 c0, .int .i64 s0, .int .u64 r0, .slice t0 m0 k0], 78⟩) rfl) (i := 3) rfl)⟩) hS ?_
  simp only [Act.put, List.setIfInBounds_toArray, List.set_cons_zero, List.set_cons_succ, List.getElem_toArray, List.getElem_cons_zero, List.getElem_cons_succ]
  refine any_take (i := 3) (v := (.pointer (some ⟨w.heap.size + 1, 3, none⟩))) #[true, true, false, false, false, false, false, false] rfl (by kernel_rfl) (by kernel_rfl) (by kernel_rfl) (by kernel_rfl) (fun _ _ _ h => h) (.inl ⟨by kernel_rfl, fun x_ hu => by kernel_rfl⟩) hS ?_
  simp only [Act.put, List.setIfInBounds_toArray, List.set_cons_zero, List.set_cons_succ, List.getElem_toArray, List.getElem_cons_zero, List.getElem_cons_succ]
  refine any_take (i := 4) (v := (.slice t1 m1 k1)) #[true, true, false, true, false, false, false, false] rfl (by kernel_rfl) (by kernel_rfl) (by kernel_rfl) (by kernel_rfl) (fun _ _ _ h => h) (.inl ⟨by kernel_rfl, fun x_ hu => exec_sby _ (.tmp 24) rfl (w.heap.size + 1) 3 (by kernel_rfl) t1 m1 k1 (cell_of (hu.get 1 (x := ⟨w.heap.size + 1, #[.int .i64 c1, .int .i64 s1, .int .u64 r1, .slice t1 m1 k1], 80⟩) rfl) (i := 3) rfl)⟩) hS ?_
  simp only [Act.put, List.setIfInBounds_toArray, List.set_cons_zero, List.set_cons_succ, List.getElem_toArray, List.getElem_cons_zero, List.getElem_cons_succ]
  refine any_one (i := 2) (by kernel_rfl) rfl (fun K hK => ?_)
  refine step_callw (by kernel_rfl) 18 #[.slice t0 m0 k0] (by kernel_rfl) ((jroom_ok B0 t0 m0 k0 hm90 _ ((unhide hl0).gr hS.gr)).mono ?_)
  rintro r z0 ⟨q0, d0, rfl, hc1, hc2, hgo, hat, hg⟩
  refine ⟨_, rfl, ?_⟩
  rw [(unhide hl0).len] at hc1 ⊢
  have ho0 : Lb z0 (some ⟨q0, 0, none⟩) m0 d0 B0 := by
    have h9 := hat.take m0
    rw [List.take_append_of_le_length (by rw [(unhide hl0).len]; exact Nat.le_refl _), List.take_of_length_le (by rw [(unhide hl0).len]; exact Nat.le_refl _)] at h9
    exact ⟨(unhide hl0).len, (unhide hl0).isB, .inr ⟨q0, 0, rfl, h9⟩, by omega, hc2⟩
  replace hS : (fun (v : World) => Bl w [⟨w.heap.size, #[.int .i64 c0, .int .i64 s0, .int .u64 r0, .slice t0 m0 k0], 78⟩, ⟨w.heap.size + 1, #[.int .i64 c1, .int .i64 s1, .int .u64 r1, .slice t1 m1 k1], 80⟩] v) z0 := hS.more hg
  replace ho0 := hide ho0
  clear hg hat hc1 hc2 hgo
  refine hK.out _ _ hS (fun _ => ?_)
  clear hK K
  simp only [Act.put, List.setIfInBounds_toArray, List.set_cons_zero, List.set_cons_succ, List.getElem_toArray, List.getElem_cons_zero, List.getElem_cons_succ]
  refine any_one (i := 5) (by kernel_rfl) rfl (fun K hK => ?_)
  refine step_callw (by kernel_rfl) 18 #[.slice t1 m1 k1] (by kernel_rfl) ((jroom_ok B1 t1 m1 k1 hm91 _ ((unhide hl1).gr hS.gr)).mono ?_)
  rintro r z1 ⟨q1, d1, rfl, hc1, hc2, hgo, hat, hg⟩
  refine ⟨_, rfl, ?_⟩
  rw [(unhide hl1).len] at hc1 ⊢
  have ho1 : Lb z1 (some ⟨q1, 0, none⟩) m1 d1 B1 := by
    have h9 := hat.take m1
    rw [List.take_append_of_le_length (by rw [(unhide hl1).len]; exact Nat.le_refl _), List.take_of_length_le (by rw [(unhide hl1).len]; exact Nat.le_refl _)] at h9
    exact ⟨(unhide hl1).len, (unhide hl1).isB, .inr ⟨q1, 0, rfl, h9⟩, by omega, hc2⟩
  replace hS : (fun (v : World) => Bl w [⟨w.heap.size, #[.int .i64 c0, .int .i64 s0, .int .u64 r0, .slice t0 m0 k0], 78⟩, ⟨w.heap.size + 1, #[.int .i64 c1, .int .i64 s1, .int .u64 r1, .slice t1 m1 k1], 80⟩] v) z1 := hS.more hg
  replace ho0 := (unhide ho0).gr hg
  clear hg hat hc1 hc2 hgo
  refine hK.out _ _ hS (fun _ => ?_)
  clear hK K
  simp only [Act.put, List.setIfInBounds_toArray, List.set_cons_zero, List.set_cons_succ, List.getElem_toArray, List.getElem_cons_zero, List.getElem_cons_succ]
  refine any_one (i := 6) (by kernel_rfl) rfl (fun K hK => ?_)
  replace hK := hide hK
  go_simp
  refine (unhide hK).out _ _ hS (fun _ => ?_)
  clear hK K
  refine any_one (i := 7) (by kernel_rfl) rfl (fun K hK => ?_)
  replace hK := hide hK
  go_simp
  refine (unhide hK).out _ _ hS (fun _ => ?_)
  clear hK K
  refine any_done (by kernel_rfl) ?_
  have hb0 := hide (hS.get 0 (x := ⟨w.heap.size, #[.int .i64 c0, .int .i64 s0, .int .u64 r0, .slice t0 m0 k0], 78⟩) rfl)
  have hb1 := hide (hS.get 1 (x := ⟨w.heap.size + 1, #[.int .i64 c1, .int .i64 s1, .int .u64 r1, .slice t1 m1 k1], 80⟩) rfl)
  dsimp only at hb0 hb1
  have hWg := hide hS.gr
  replace hl0 := hide ((unhide hl0).gr hS.gr)
  replace hl1 := hide ((unhide hl1).gr hS.gr)
  replace ho0 := hide ho0; replace ho1 := hide ho1
  clear hS
  have hV := hide (Gr.refl z1)
  go_upto_region 5 with fail
  refine wp_region_lit ?_
  refine list_val (.pointer (some ⟨w.heap.size, 0, none⟩)) (by kernel_rfl) (by kernel_rfl) ?_
  simp only [Act.put, List.setIfInBounds_toArray, List.set_cons_zero, List.set_cons_succ, List.getElem_toArray, List.getElem_cons_zero, List.getElem_cons_succ]
  refine list_val (.int .i64 c0) (by kernel_rfl) (exec_i64 _ (.tmp 28) rfl (w.heap.size) 0 (by kernel_rfl) c0 (cell_of ((unhide hV).blk (unhide hb0)) (i := 0) rfl)) ?_
  simp only [Act.put, List.setIfInBounds_toArray, List.set_cons_zero, List.set_cons_succ, List.getElem_toArray, List.getElem_cons_zero, List.getElem_cons_succ]
  refine list_val (.pointer (some ⟨w.heap.size, 1, none⟩)) (by kernel_rfl) (by kernel_rfl) ?_
  simp only [Act.put, List.setIfInBounds_toArray, List.set_cons_zero, List.set_cons_succ, List.getElem_toArray, List.getElem_cons_zero, List.getElem_cons_succ]
  refine list_val (.int .i64 s0) (by kernel_rfl) (exec_i64 _ (.tmp 30) rfl (w.heap.size) 1 (by kernel_rfl) s0 (cell_of ((unhide hV).blk (unhide hb0)) (i := 1) rfl)) ?_
  simp only [Act.put, List.setIfInBounds_toArray, List.set_cons_zero, List.set_cons_succ, List.getElem_toArray, List.getElem_cons_zero, List.getElem_cons_succ]
  refine list_val (.pointer (some ⟨w.heap.size, 2, none⟩)) (by kernel_rfl) (by kernel_rfl) ?_
  simp only [Act.put, List.setIfInBounds_toArray, List.set_cons_zero, List.set_cons_succ, List.getElem_toArray, List.getElem_cons_zero, List.getElem_cons_succ]
  refine list_val (.int .u64 r0) (by kernel_rfl) (exec_u64 _ (.tmp 32) rfl (w.heap.size) 2 (by kernel_rfl) r0 (cell_of ((unhide hV).blk (unhide hb0)) (i := 2) rfl)) ?_
  simp only [Act.put, List.setIfInBounds_toArray, List.set_cons_zero, List.set_cons_succ, List.getElem_toArray, List.getElem_cons_zero, List.getElem_cons_succ]
  refine list_val (.slice (some ⟨q0, 0, none⟩) m0 d0) (by kernel_rfl) (by kernel_rfl) ?_
  simp only [Act.put, List.setIfInBounds_toArray, List.set_cons_zero, List.set_cons_succ, List.getElem_toArray, List.getElem_cons_zero, List.getElem_cons_succ]
  refine list_val (.agg #[.int .i64 c0, .int .i64 s0, .int .u64 r0, .slice (some ⟨q0, 0, none⟩) m0 d0]) (by kernel_rfl) (by kernel_rfl) ?_
  simp only [Act.put, List.setIfInBounds_toArray, List.set_cons_zero, List.set_cons_succ, List.getElem_toArray, List.getElem_cons_zero, List.getElem_cons_succ]
  refine list_call 36 #[.agg #[.int .i64 c0, .int .i64 s0, .int .u64 r0, .slice (some ⟨q0, 0, none⟩) m0 d0]] (by kernel_rfl) (by kernel_rfl) ((fputup_no c0 s0 r0 (some ⟨q0, 0, none⟩) m0 d0 (.inl hE0) z1).mono ?_)
  rintro r w1_ ⟨rfl, hg⟩
  replace hV := hide ((unhide hV).trans hg)
  clear hg
  refine ⟨_, rfl, ?_⟩
  simp only [Act.put, List.setIfInBounds_toArray, List.set_cons_zero, List.set_cons_succ, List.getElem_toArray, List.getElem_cons_zero, List.getElem_cons_succ]
  refine list_val (.tuple #[.slice none 0 0, .int .i64 241]) (by kernel_rfl) (by kernel_rfl) ?_
  simp only [Act.put, List.setIfInBounds_toArray, List.set_cons_zero, List.set_cons_succ, List.getElem_toArray, List.getElem_cons_zero, List.getElem_cons_succ]
  refine list_val (.slice none 0 0) (by kernel_rfl) (by kernel_rfl) ?_
  simp only [Act.put, List.setIfInBounds_toArray, List.set_cons_zero, List.set_cons_succ, List.getElem_toArray, List.getElem_cons_zero, List.getElem_cons_succ]
  refine list_val (.int .i64 241) (by kernel_rfl) (by kernel_rfl) ?_
  simp only [Act.put, List.setIfInBounds_toArray, List.set_cons_zero, List.set_cons_succ, List.getElem_toArray, List.getElem_cons_zero, List.getElem_cons_succ]
  (refine wpList_step fun K hK => ?_; replace hK := hide hK; go_simp; refine unhide hK _ _ ?_; clear hK K)
  (refine wpList_step fun K hK => ?_; replace hK := hide hK; go_simp; refine unhide hK _ _ ?_; clear hK K)
  refine wpList_nil ?_
  go_upto_region 6 with fail
  refine wp_region_lit ?_
  refine list_val (.pointer (some ⟨w.heap.size + 1, 0, none⟩)) (by kernel_rfl) (by kernel_rfl) ?_
  simp only [Act.put, List.setIfInBounds_toArray, List.set_cons_zero, List.set_cons_succ, List.getElem_toArray, List.getElem_cons_zero, List.getElem_cons_succ]
  refine list_val (.int .i64 c1) (by kernel_rfl) (exec_i64 _ (.tmp 40) rfl (w.heap.size + 1) 0 (by kernel_rfl) c1 (cell_of ((unhide hV).blk (unhide hb1)) (i := 0) rfl)) ?_
  simp only [Act.put, List.setIfInBounds_toArray, List.set_cons_zero, List.set_cons_succ, List.getElem_toArray, List.getElem_cons_zero, List.getElem_cons_succ]
  refine list_val (.pointer (some ⟨w.heap.size + 1, 1, none⟩)) (by kernel_rfl) (by kernel_rfl) ?_
  simp only [Act.put, List.setIfInBounds_toArray, List.set_cons_zero, List.set_cons_succ, List.getElem_toArray, List.getElem_cons_zero, List.getElem_cons_succ]
  refine list_val (.int .i64 s1) (by kernel_rfl) (exec_i64 _ (.tmp 42) rfl (w.heap.size + 1) 1 (by kernel_rfl) s1 (cell_of ((unhide hV).blk (unhide hb1)) (i := 1) rfl)) ?_
  simp only [Act.put, List.setIfInBounds_toArray, List.set_cons_zero, List.set_cons_succ, List.getElem_toArray, List.getElem_cons_zero, List.getElem_cons_succ]
  refine list_val (.pointer (some ⟨w.heap.size + 1, 2, none⟩)) (by kernel_rfl) (by kernel_rfl) ?_
  simp only [Act.put, List.setIfInBounds_toArray, List.set_cons_zero, List.set_cons_succ, List.getElem_toArray, List.getElem_cons_zero, List.getElem_cons_succ]
  refine list_val (.int .u64 r1) (by kernel_rfl) (exec_u64 _ (.tmp 44) rfl (w.heap.size + 1) 2 (by kernel_rfl) r1 (cell_of ((unhide hV).blk (unhide hb1)) (i := 2) rfl)) ?_
  simp only [Act.put, List.setIfInBounds_toArray, List.set_cons_zero, List.set_cons_succ, List.getElem_toArray, List.getElem_cons_zero, List.getElem_cons_succ]
  refine list_val (.slice (some ⟨q1, 0, none⟩) m1 d1) (by kernel_rfl) (by kernel_rfl) ?_
  simp only [Act.put, List.setIfInBounds_toArray, List.set_cons_zero, List.set_cons_succ, List.getElem_toArray, List.getElem_cons_zero, List.getElem_cons_succ]
  refine list_val (.agg #[.int .i64 c1, .int .i64 s1, .int .u64 r1, .slice (some ⟨q1, 0, none⟩) m1 d1]) (by kernel_rfl) (by kernel_rfl) ?_
  simp only [Act.put, List.setIfInBounds_toArray, List.set_cons_zero, List.set_cons_succ, List.getElem_toArray, List.getElem_cons_zero, List.getElem_cons_succ]
  refine list_call 37 #[.agg #[.int .i64 c1, .int .i64 s1, .int .u64 r1, .slice (some ⟨q1, 0, none⟩) m1 d1]] (by kernel_rfl) (by kernel_rfl) ((fputdn_no c1 s1 r1 (some ⟨q1, 0, none⟩) m1 d1 (.inr hS1) w1_).mono ?_)
  rintro r w2_ ⟨rfl, hg⟩
  replace hV := hide ((unhide hV).trans hg)
  clear hg
  refine ⟨_, rfl, ?_⟩
  simp only [Act.put, List.setIfInBounds_toArray, List.set_cons_zero, List.set_cons_succ, List.getElem_toArray, List.getElem_cons_zero, List.getElem_cons_succ]
  refine list_val (.tuple #[.slice none 0 0, .int .i64 241]) (by kernel_rfl) (by kernel_rfl) ?_
  simp only [Act.put, List.setIfInBounds_toArray, List.set_cons_zero, List.set_cons_succ, List.getElem_toArray, List.getElem_cons_zero, List.getElem_cons_succ]
  refine list_val (.slice none 0 0) (by kernel_rfl) (by kernel_rfl) ?_
  simp only [Act.put, List.setIfInBounds_toArray, List.set_cons_zero, List.set_cons_succ, List.getElem_toArray, List.getElem_cons_zero, List.getElem_cons_succ]
  refine list_val (.int .i64 241) (by kernel_rfl) (by kernel_rfl) ?_
  simp only [Act.put, List.setIfInBounds_toArray, List.set_cons_zero, List.set_cons_succ, List.getElem_toArray, List.getElem_cons_zero, List.getElem_cons_succ]
  (refine wpList_step fun K hK => ?_; replace hK := hide hK; go_simp; refine unhide hK _ _ ?_; clear hK K)
  (refine wpList_step fun K hK => ?_; replace hK := hide hK; go_simp; refine unhide hK _ _ ?_; clear hK K)
  refine wpList_nil ?_
  go_upto_region 7 with fail
  refine wp_region_lit ?_
  refine list_val (.slice (some ⟨q0, 0, none⟩) m0 d0) (by kernel_rfl) (by kernel_rfl) ?_
  simp only [Act.put, List.setIfInBounds_toArray, List.set_cons_zero, List.set_cons_succ, List.getElem_toArray, List.getElem_cons_zero, List.getElem_cons_succ]
  refine list_val (.pointer (some ⟨w.heap.size, 3, none⟩)) (by kernel_rfl) (by kernel_rfl) ?_
  simp only [Act.put, List.setIfInBounds_toArray, List.set_cons_zero, List.set_cons_succ, List.getElem_toArray, List.getElem_cons_zero, List.getElem_cons_succ]
  refine list_val (.slice t0 m0 k0) (by kernel_rfl) (exec_sby _ (.tmp 52) rfl (w.heap.size) 3 (by kernel_rfl) t0 m0 k0 (cell_of ((unhide hV).blk (unhide hb0)) (i := 3) rfl)) ?_
  simp only [Act.put, List.setIfInBounds_toArray, List.set_cons_zero, List.set_cons_succ, List.getElem_toArray, List.getElem_cons_zero, List.getElem_cons_succ]
  refine list_call 11 #[.slice (some ⟨q0, 0, none⟩) m0 d0, .slice t0 m0 k0] (by kernel_rfl) (by kernel_rfl) ((beq_ok B0 B0 (some ⟨q0, 0, none⟩) t0 m0 m0 d0 k0 w2_ ((unhide ho0).gr (unhide hV)) ((unhide hl0).gr (unhide hV))).mono ?_)
  rintro r w3_ ⟨rfl, hg⟩
  rw [decide_eq_true rfl]
  replace hV := hide ((unhide hV).trans hg)
  clear hg
  refine ⟨_, rfl, ?_⟩
  simp only [Act.put, List.setIfInBounds_toArray, List.set_cons_zero, List.set_cons_succ, List.getElem_toArray, List.getElem_cons_zero, List.getElem_cons_succ]
  refine list_val (.bool false) (by kernel_rfl) (by kernel_rfl) ?_
  simp only [Act.put, List.setIfInBounds_toArray, List.set_cons_zero, List.set_cons_succ, List.getElem_toArray, List.getElem_cons_zero, List.getElem_cons_succ]
  refine list_val (.bool false) (by kernel_rfl) (by kernel_rfl) ?_
  simp only [Act.put, List.setIfInBounds_toArray, List.set_cons_zero, List.set_cons_succ, List.getElem_toArray, List.getElem_cons_zero, List.getElem_cons_succ]
  refine list_val (.slice (some ⟨q1, 0, none⟩) m1 d1) (by kernel_rfl) (by kernel_rfl) ?_
  simp only [Act.put, List.setIfInBounds_toArray, List.set_cons_zero, List.set_cons_succ, List.getElem_toArray, List.getElem_cons_zero, List.getElem_cons_succ]
  refine list_val (.pointer (some ⟨w.heap.size + 1, 3, none⟩)) (by kernel_rfl) (by kernel_rfl) ?_
  simp only [Act.put, List.setIfInBounds_toArray, List.set_cons_zero, List.set_cons_succ, List.getElem_toArray, List.getElem_cons_zero, List.getElem_cons_succ]
  refine list_val (.slice t1 m1 k1) (by kernel_rfl) (exec_sby _ (.tmp 58) rfl (w.heap.size + 1) 3 (by kernel_rfl) t1 m1 k1 (cell_of ((unhide hV).blk (unhide hb1)) (i := 3) rfl)) ?_
  simp only [Act.put, List.setIfInBounds_toArray, List.set_cons_zero, List.set_cons_succ, List.getElem_toArray, List.getElem_cons_zero, List.getElem_cons_succ]
  refine list_call 11 #[.slice (some ⟨q1, 0, none⟩) m1 d1, .slice t1 m1 k1] (by kernel_rfl) (by kernel_rfl) ((beq_ok B1 B1 (some ⟨q1, 0, none⟩) t1 m1 m1 d1 k1 w3_ ((unhide ho1).gr (unhide hV)) ((unhide hl1).gr (unhide hV))).mono ?_)
  rintro r w4_ ⟨rfl, hg⟩
  rw [decide_eq_true rfl]
  replace hV := hide ((unhide hV).trans hg)
  clear hg
  refine ⟨_, rfl, ?_⟩
  simp only [Act.put, List.setIfInBounds_toArray, List.set_cons_zero, List.set_cons_succ, List.getElem_toArray, List.getElem_cons_zero, List.getElem_cons_succ]
  refine list_val (.bool false) (by kernel_rfl) (by kernel_rfl) ?_
  simp only [Act.put, List.setIfInBounds_toArray, List.set_cons_zero, List.set_cons_succ, List.getElem_toArray, List.getElem_cons_zero, List.getElem_cons_succ]
  refine list_val (.bool false) (by kernel_rfl) (by kernel_rfl) ?_
  simp only [Act.put, List.setIfInBounds_toArray, List.set_cons_zero, List.set_cons_succ, List.getElem_toArray, List.getElem_cons_zero, List.getElem_cons_succ]
  refine wpList_nil ?_
  go_upto_region 9 with fail
  refine wp_region_lit ?_
  refine list_val (.pointer (some ⟨w.heap.size, 0, none⟩)) (by kernel_rfl) (by kernel_rfl) ?_
  simp only [Act.put, List.setIfInBounds_toArray, List.set_cons_zero, List.set_cons_succ, List.getElem_toArray, List.getElem_cons_zero, List.getElem_cons_succ]
  refine list_val (.int .i64 c0) (by kernel_rfl) (exec_i64 _ (.tmp 63) rfl (w.heap.size) 0 (by kernel_rfl) c0 (cell_of ((unhide hV).blk (unhide hb0)) (i := 0) rfl)) ?_
  simp only [Act.put, List.setIfInBounds_toArray, List.set_cons_zero, List.set_cons_succ, List.getElem_toArray, List.getElem_cons_zero, List.getElem_cons_succ]
  refine list_val (.pointer (some ⟨w.heap.size, 1, none⟩)) (by kernel_rfl) (by kernel_rfl) ?_
  simp only [Act.put, List.setIfInBounds_toArray, List.set_cons_zero, List.set_cons_succ, List.getElem_toArray, List.getElem_cons_zero, List.getElem_cons_succ]
  refine list_val (.int .i64 s0) (by kernel_rfl) (exec_i64 _ (.tmp 65) rfl (w.heap.size) 1 (by kernel_rfl) s0 (cell_of ((unhide hV).blk (unhide hb0)) (i := 1) rfl)) ?_
  simp only [Act.put, List.setIfInBounds_toArray, List.set_cons_zero, List.set_cons_succ, List.getElem_toArray, List.getElem_cons_zero, List.getElem_cons_succ]
  refine list_val (.pointer (some ⟨w.heap.size, 2, none⟩)) (by kernel_rfl) (by kernel_rfl) ?_
  simp only [Act.put, List.setIfInBounds_toArray, List.set_cons_zero, List.set_cons_succ, List.getElem_toArray, List.getElem_cons_zero, List.getElem_cons_succ]
  refine list_val (.int .u64 r0) (by kernel_rfl) (exec_u64 _ (.tmp 67) rfl (w.heap.size) 2 (by kernel_rfl) r0 (cell_of ((unhide hV).blk (unhide hb0)) (i := 2) rfl)) ?_
  simp only [Act.put, List.setIfInBounds_toArray, List.set_cons_zero, List.set_cons_succ, List.getElem_toArray, List.getElem_cons_zero, List.getElem_cons_succ]
  refine list_call 38 #[.int .i64 c0, .int .i64 s0, .int .u64 r0] (by kernel_rfl) (by kernel_rfl) ((qends_ok c0 s0 r0 w4_).mono ?_)
  rintro r w5_ ⟨rfl, rfl⟩
  rw [hE0]
  refine ⟨_, rfl, ?_⟩
  simp only [Act.put, List.setIfInBounds_toArray, List.set_cons_zero, List.set_cons_succ, List.getElem_toArray, List.getElem_cons_zero, List.getElem_cons_succ]
  refine list_val_offs 5 (.bool false) (by kernel_rfl) (by kernel_rfl) (by kernel_rfl) ?_
  simp only [List.drop_succ_cons, List.drop_zero, List.take_succ_cons, List.take_zero, putU]
  simp only [Act.put, List.setIfInBounds_toArray, List.set_cons_zero, List.set_cons_succ, List.getElem_toArray, List.getElem_cons_zero, List.getElem_cons_succ]
  refine list_val (.bool false) (by kernel_rfl) (by kernel_rfl) ?_
  simp only [Act.put, List.setIfInBounds_toArray, List.set_cons_zero, List.set_cons_succ, List.getElem_toArray, List.getElem_cons_zero, List.getElem_cons_succ]
  refine wpList_nil ?_
  go_upto_region 12 with fail
  refine wp_region_lit ?_
  refine list_val (.int .i64 241) (by kernel_rfl) (by kernel_rfl) ?_
  simp only [Act.put, List.setIfInBounds_toArray, List.set_cons_zero, List.set_cons_succ, List.getElem_toArray, List.getElem_cons_zero, List.getElem_cons_succ]
  refine list_val (.bool false) (by kernel_rfl) (by kernel_rfl) ?_
  simp only [Act.put, List.setIfInBounds_toArray, List.set_cons_zero, List.set_cons_succ, List.getElem_toArray, List.getElem_cons_zero, List.getElem_cons_succ]
  refine list_val (.bool false) (by kernel_rfl) (by kernel_rfl) ?_
  simp only [Act.put, List.setIfInBounds_toArray, List.set_cons_zero, List.set_cons_succ, List.getElem_toArray, List.getElem_cons_zero, List.getElem_cons_succ]
  refine list_val (.slice none 0 0) (by kernel_rfl) (by kernel_rfl) ?_
  simp only [Act.put, List.setIfInBounds_toArray, List.set_cons_zero, List.set_cons_succ, List.getElem_toArray, List.getElem_cons_zero, List.getElem_cons_succ]
  refine list_val (.int .i64 0) (by kernel_rfl) (by kernel_rfl) ?_
  simp only [Act.put, List.setIfInBounds_toArray, List.set_cons_zero, List.set_cons_succ, List.getElem_toArray, List.getElem_cons_zero, List.getElem_cons_succ]
  refine list_val (.bool false) (by kernel_rfl) (by kernel_rfl) ?_
  simp only [Act.put, List.setIfInBounds_toArray, List.set_cons_zero, List.set_cons_succ, List.getElem_toArray, List.getElem_cons_zero, List.getElem_cons_succ]
  refine list_val (.bool false) (by kernel_rfl) (by kernel_rfl) ?_
  simp only [Act.put, List.setIfInBounds_toArray, List.set_cons_zero, List.set_cons_succ, List.getElem_toArray, List.getElem_cons_zero, List.getElem_cons_succ]
  refine wpList_nil ?_
  go_upto_region 14 with fail
  refine wp_region_lit ?_
  refine list_val (.pointer (some ⟨w.heap.size + 1, 0, none⟩)) (by kernel_rfl) (by kernel_rfl) ?_
  simp only [Act.put, List.setIfInBounds_toArray, List.set_cons_zero, List.set_cons_succ, List.getElem_toArray, List.getElem_cons_zero, List.getElem_cons_succ]
  refine list_val (.int .i64 c1) (by kernel_rfl) (exec_i64 _ (.tmp 100) rfl (w.heap.size + 1) 0 (by kernel_rfl) c1 (cell_of ((unhide hV).blk (unhide hb1)) (i := 0) rfl)) ?_
  simp only [Act.put, List.setIfInBounds_toArray, List.set_cons_zero, List.set_cons_succ, List.getElem_toArray, List.getElem_cons_zero, List.getElem_cons_succ]
  refine list_val (.pointer (some ⟨w.heap.size + 1, 1, none⟩)) (by kernel_rfl) (by kernel_rfl) ?_
  simp only [Act.put, List.setIfInBounds_toArray, List.set_cons_zero, List.set_cons_succ, List.getElem_toArray, List.getElem_cons_zero, List.getElem_cons_succ]
  refine list_val (.int .i64 s1) (by kernel_rfl) (exec_i64 _ (.tmp 102) rfl (w.heap.size + 1) 1 (by kernel_rfl) s1 (cell_of ((unhide hV).blk (unhide hb1)) (i := 1) rfl)) ?_
  simp only [Act.put, List.setIfInBounds_toArray, List.set_cons_zero, List.set_cons_succ, List.getElem_toArray, List.getElem_cons_zero, List.getElem_cons_succ]
  refine list_val (.pointer (some ⟨w.heap.size + 1, 2, none⟩)) (by kernel_rfl) (by kernel_rfl) ?_
  simp only [Act.put, List.setIfInBounds_toArray, List.set_cons_zero, List.set_cons_succ, List.getElem_toArray, List.getElem_cons_zero, List.getElem_cons_succ]
  refine list_val (.int .u64 r1) (by kernel_rfl) (exec_u64 _ (.tmp 104) rfl (w.heap.size + 1) 2 (by kernel_rfl) r1 (cell_of ((unhide hV).blk (unhide hb1)) (i := 2) rfl)) ?_
  simp only [Act.put, List.setIfInBounds_toArray, List.set_cons_zero, List.set_cons_succ, List.getElem_toArray, List.getElem_cons_zero, List.getElem_cons_succ]
  refine list_call 38 #[.int .i64 c1, .int .i64 s1, .int .u64 r1] (by kernel_rfl) (by kernel_rfl) ((qends_ok c1 s1 r1 w5_).mono ?_)
  rintro r w6_ ⟨rfl, rfl⟩
  rw [hE1]
  refine ⟨_, rfl, ?_⟩
  simp only [Act.put, List.setIfInBounds_toArray, List.set_cons_zero, List.set_cons_succ, List.getElem_toArray, List.getElem_cons_zero, List.getElem_cons_succ]
  refine list_val (.bool true) (by kernel_rfl) (by kernel_rfl) ?_
  simp only [Act.put, List.setIfInBounds_toArray, List.set_cons_zero, List.set_cons_succ, List.getElem_toArray, List.getElem_cons_zero, List.getElem_cons_succ]
  refine list_val (.pointer (some ⟨w.heap.size + 1, 3, none⟩)) (by kernel_rfl) (by kernel_rfl) ?_
  simp only [Act.put, List.setIfInBounds_toArray, List.set_cons_zero, List.set_cons_succ, List.getElem_toArray, List.getElem_cons_zero, List.getElem_cons_succ]
  refine list_val (.slice t1 m1 k1) (by kernel_rfl) (exec_sby _ (.tmp 108) rfl (w.heap.size + 1) 3 (by kernel_rfl) t1 m1 k1 (cell_of ((unhide hV).blk (unhide hb1)) (i := 3) rfl)) ?_
  simp only [Act.put, List.setIfInBounds_toArray, List.set_cons_zero, List.set_cons_succ, List.getElem_toArray, List.getElem_cons_zero, List.getElem_cons_succ]
  refine list_val (.int .i64 (m1 : Int)) (by kernel_rfl) (by kernel_rfl) ?_
  simp only [Act.put, List.setIfInBounds_toArray, List.set_cons_zero, List.set_cons_succ, List.getElem_toArray, List.getElem_cons_zero, List.getElem_cons_succ]
  refine list_call 41 #[.int .i64 (m1 : Int)] (by kernel_rfl) (by kernel_rfl) ((qrp_ok (m1 : Int) w6_).mono ?_)
  rintro r w7_ ⟨h1, rfl, hh1, rfl⟩
  rw [hS1, decide_eq_false_iff_not] at hh1
  refine ⟨_, rfl, ?_⟩
  simp only [Act.put, List.setIfInBounds_toArray, List.set_cons_zero, List.set_cons_succ, List.getElem_toArray, List.getElem_cons_zero, List.getElem_cons_succ]
  refine list_val (.bool false) (by kernel_rfl) (by go_simp) ?_
  simp only [Act.put, List.setIfInBounds_toArray, List.set_cons_zero, List.set_cons_succ, List.getElem_toArray, List.getElem_cons_zero, List.getElem_cons_succ]
  refine list_val (.bool false) (by kernel_rfl) (by kernel_rfl) ?_
  simp only [Act.put, List.setIfInBounds_toArray, List.set_cons_zero, List.set_cons_succ, List.getElem_toArray, List.getElem_cons_zero, List.getElem_cons_succ]
  refine wpList_nil ?_
  go_upto_region 16 with fail
  refine wp_region_lit ?_
  refine list_val (.int .i64 241) (by kernel_rfl) (by kernel_rfl) ?_
  simp only [Act.put, List.setIfInBounds_toArray, List.set_cons_zero, List.set_cons_succ, List.getElem_toArray, List.getElem_cons_zero, List.getElem_cons_succ]
  refine list_val (.bool true) (by kernel_rfl) (by kernel_rfl) ?_
  simp only [Act.put, List.setIfInBounds_toArray, List.set_cons_zero, List.set_cons_succ, List.getElem_toArray, List.getElem_cons_zero, List.getElem_cons_succ]
  refine list_val (.bool true) (by kernel_rfl) (by kernel_rfl) ?_
  simp only [Act.put, List.setIfInBounds_toArray, List.set_cons_zero, List.set_cons_succ, List.getElem_toArray, List.getElem_cons_zero, List.getElem_cons_succ]
  refine list_val (.slice none 0 0) (by kernel_rfl) (by kernel_rfl) ?_
  simp only [Act.put, List.setIfInBounds_toArray, List.set_cons_zero, List.set_cons_succ, List.getElem_toArray, List.getElem_cons_zero, List.getElem_cons_succ]
  refine list_val (.int .i64 0) (by kernel_rfl) (by kernel_rfl) ?_
  simp only [Act.put, List.setIfInBounds_toArray, List.set_cons_zero, List.set_cons_succ, List.getElem_toArray, List.getElem_cons_zero, List.getElem_cons_succ]
  refine list_val (.bool true) (by kernel_rfl) (by kernel_rfl) ?_
  simp only [Act.put, List.setIfInBounds_toArray, List.set_cons_zero, List.set_cons_succ, List.getElem_toArray, List.getElem_cons_zero, List.getElem_cons_succ]
  refine list_val (.bool true) (by kernel_rfl) (by kernel_rfl) ?_
  simp only [Act.put, List.setIfInBounds_toArray, List.set_cons_zero, List.set_cons_succ, List.getElem_toArray, List.getElem_cons_zero, List.getElem_cons_succ]
  (refine wpList_step fun K hK => ?_; replace hK := hide hK; go_simp; refine unhide hK _ _ ?_; clear hK K)
  refine wpList_nil ?_
  have hZ : Hid (Woke w (.returned (.bool true)) w7_) := ⟨rfl, (unhide hWg).trans (unhide hV)⟩
  go_wp2_with fail
  rw [unhide hT]
  exact unhide hZ
set_option maxHeartbeats 4000000 in
theorem packets_eg (c0 s0 r0 : Int) (hr0 : 0 ≤ r0 ∧ r0 < 18446744073709551616) (a0 : Option Addr) (n0 k0 : Nat) (A0 : List Int) (c1 s1 r1 : Int) (hr1 : 0 ≤ r1 ∧ r1 < 18446744073709551616) (a1 : Option Addr) (n1 k1 : Nat) (A1 : List Int) (w : World) (lb0 : Lb w a0 n0 k0 A0) (lb1 : Lb w a1 n1 k1 A1) (hE0 : ends c0 s0 r0 = false) (hE1 : ends c1 s1 r1 = true) (hS1 : rpS ((min n1 1000 : Nat) : Int) = true) : Calls Try.prog 6 #[.agg #[.int .i64 c0, .int .i64 s0, .int .u64 r0, .slice a0 n0 k0], .agg #[.int .i64 c1, .int .i64 s1, .int .u64 r1, .slice a1 n1 k1]] w (Woke w) := by
  obtain ⟨T, hT⟩ : ∃ T, T = Woke w := ⟨_, rfl⟩
  rw [← hT]
  replace hT := hide hT
  obtain ⟨m0, hm0⟩ : ∃ m, m = min n0 1000 := ⟨_, rfl⟩
  obtain ⟨B0, hB0⟩ : ∃ B, B = A0.take m0 := ⟨_, rfl⟩
  have hm90 : m0 ≤ 1000 := by omega
  replace hm0 := hide hm0; replace hB0 := hide hB0; replace lb0 := hide lb0
  obtain ⟨m1, hm1⟩ : ∃ m, m = min n1 1000 := ⟨_, rfl⟩
  obtain ⟨B1, hB1⟩ : ∃ B, B = A1.take m1 := ⟨_, rfl⟩
  have hm91 : m1 ≤ 1000 := by omega
  rw [← hm1] at hS1
  replace hm1 := hide hm1; replace hB1 := hide hB1; replace lb1 := hide lb1
  go_enter Try.func6, Try.ntmps6
  go_upto_region 1 with fail
  have hW := (((Bl.nil w).new #[.int .i64 c0, .int .i64 s0, .int .u64 r0, .slice a0 n0 k0] 78).new #[.int .i64 c1, .int .i64 s1, .int .u64 r1, .slice a1 n1 k1] 80)
  simp only [size_alloc, List.nil_append, List.cons_append] at hW
  generalize World.alloc _ _ = u at *
  replace hW : Bl w [⟨w.heap.size, #[.int .i64 c0, .int .i64 s0, .int .u64 r0, .slice a0 n0 k0], 78⟩, ⟨w.heap.size + 1, #[.int .i64 c1, .int .i64 s1, .int .u64 r1, .slice a1 n1 k1], 80⟩] u := hW
  refine wp_region_lit ?_
  refine list_call 9 #[] (by kernel_rfl) (by kernel_rfl) ((jwakes_ok u).mono ?_)
  rintro r u1 ⟨rfl, hg⟩
  replace hW := hW.more hg
  clear hg
  refine ⟨_, rfl, ?_⟩
  simp only [Act.put, List.setIfInBounds_toArray, List.set_cons_zero, List.set_cons_succ, List.getElem_toArray, List.getElem_cons_zero, List.getElem_cons_succ]
  refine list_val (.bool false) (by kernel_rfl) (by kernel_rfl) ?_
  simp only [Act.put, List.setIfInBounds_toArray, List.set_cons_zero, List.set_cons_succ, List.getElem_toArray, List.getElem_cons_zero, List.getElem_cons_succ]
  refine wpList_nil ?_
  replace hW := hide hW
  go_upto_region 3 with fail
  replace hW := unhide hW
  refine anyC_start 5 (fun (v : World) => Bl w [⟨w.heap.size, #[.int .i64 c0, .int .i64 s0, .int .u64 r0, .slice a0 n0 k0], 78⟩, ⟨w.heap.size + 1, #[.int .i64 c1, .int .i64 s1, .int .u64 r1, .slice a1 n1 k1], 80⟩] v) (by kernel_rfl) ?_
  replace hW := hW.drew
  generalize World.drew _ = x0 at *
  have hS : (fun (v : World) => Bl w [⟨w.heap.size, #[.int .i64 c0, .int .i64 s0, .int .u64 r0, .slice a0 n0 k0], 78⟩, ⟨w.heap.size + 1, #[.int .i64 c1, .int .i64 s1, .int .u64 r1, .slice a1 n1 k1], 80⟩] v) x0 := hW
  clear hW
  simp only [List.size_toArray, List.length_cons, List.length_nil, Array.replicate, List.replicate]
  refine anyC_take (i := 0) (v := (.pointer (some ⟨w.heap.size, 3, none⟩))) (fun _ => True) (fun _ _ => trivial) (.inl (fun _ => trivial)) rfl (by kernel_rfl) (by kernel_rfl) (by kernel_rfl) (by decide) (by kernel_rfl) (by decide) (fun _ _ _ h => h) (.inl ⟨by kernel_rfl, fun x_ hu => by kernel_rfl⟩) hS ?_
  simp only [Act.put, List.setIfInBounds_toArray, List.set_cons_zero, List.set_cons_succ, List.getElem_toArray, List.getElem_cons_zero, List.getElem_cons_succ]
  refine anyC_take (i := 3) (v := (.pointer (some ⟨w.heap.size + 1, 3, none⟩))) (fun _ => True) (fun _ _ => trivial) (.inl (fun _ => trivial)) rfl (by kernel_rfl) (by kernel_rfl) (by kernel_rfl) (by decide) (by kernel_rfl) (by decide) (fun _ _ _ h => h) (.inl ⟨by kernel_rfl, fun x_ hu => by kernel_rfl⟩) hS ?_
  simp only [Act.put, List.setIfInBounds_toArray, List.set_cons_zero, List.set_cons_succ, List.getElem_toArray, List.getElem_cons_zero, List.getElem_cons_succ]
  refine anyC_take (i := 4) (v := (.slice a1 n1 k1)) (fun (v : World) => Bl w [⟨w.heap.size, #[.int .i64 c0, .int .i64 s0, .int .u64 r0, .slice a0 n0 k0], 78⟩, ⟨w.heap.size + 1, #[.int .i64 c1, .int .i64 s1, .int .u64 r1, .slice a1 n1 k1], 80⟩] v) (fun _ h_ => h_) (.inr (by kernel_rfl)) rfl (by kernel_rfl) (by kernel_rfl) (by kernel_rfl) (by decide) (by kernel_rfl) (by decide) (fun _ _ _ h => h) (.inl ⟨by kernel_rfl, fun x_ hu => exec_sby _ (.tmp 16) rfl (w.heap.size + 1) 3 (by kernel_rfl) a1 n1 k1 (cell_of (hu.get 1 (x := ⟨w.heap.size + 1, #[.int .i64 c1, .int .i64 s1, .int .u64 r1, .slice a1 n1 k1], 80⟩) rfl) (i := 3) rfl)⟩) hS ?_
  simp only [Act.put, List.setIfInBounds_toArray, List.set_cons_zero, List.set_cons_succ, List.getElem_toArray, List.getElem_cons_zero, List.getElem_cons_succ]
  refine anyC_one (i := 1) (by kernel_rfl) rfl (fun K hK => ?_)
  refine step_val (.slice a0 n0 k0) _ (by kernel_rfl) (exec_sby _ (.tmp 13) rfl (w.heap.size) 3 (by kernel_rfl) a0 n0 k0 (cell_of (hS.get 0 (x := ⟨w.heap.size, #[.int .i64 c0, .int .i64 s0, .int .u64 r0, .slice a0 n0 k0], 78⟩) rfl) (i := 3) rfl)) ?_
  refine hK.out _ _ hS (fun _ => ?_)
  clear hK K
  simp only [Act.put, List.setIfInBounds_toArray, List.set_cons_zero, List.set_cons_succ, List.getElem_toArray, List.getElem_cons_zero, List.getElem_cons_succ]
  refine anyC_one (i := 2) (by kernel_rfl) rfl (fun K hK => ?_)
  refine step_callw (by kernel_rfl) 10 #[.slice a0 n0 k0] (by kernel_rfl) ((jcut_ok A0 a0 n0 k0 x0 ((unhide lb0).gr hS.gr)).mono ?_)
  rintro r y0 ⟨t0, rfl, hc, rfl⟩
  refine ⟨_, rfl, ?_⟩
  have hl0 := hc w (unhide lb0)
  rw [← unhide hm0, ← unhide hB0] at hl0
  rw [← unhide hm0]
  replace hl0 := hide hl0
  clear hc lb0 hB0
  refine hK.out _ _ hS (fun _ => ?_)
  clear hK K
  simp only [Act.put, List.setIfInBounds_toArray, List.set_cons_zero, List.set_cons_succ, List.getElem_toArray, List.getElem_cons_zero, List.getElem_cons_succ]
  refine anyC_take (i := 6) (v := (.pointer (some ⟨w.heap.size, 3, none⟩))) (fun _ => True) (fun _ _ => trivial) (.inl (fun _ => trivial)) rfl (by kernel_rfl) (by kernel_rfl) (by kernel_rfl) (by decide) (by kernel_rfl) (by decide) (fun _ _ _ h => h) (.inl ⟨by kernel_rfl, fun x_ hu => by kernel_rfl⟩) hS ?_
  simp only [Act.put, List.setIfInBounds_toArray, List.set_cons_zero, List.set_cons_succ, List.getElem_toArray, List.getElem_cons_zero, List.getElem_cons_succ]
  refine anyC_last (by kernel_rfl) rfl (fun K hK => ?_)
  refine step_callw (by kernel_rfl) 10 #[.slice a1 n1 k1] (by kernel_rfl) ((jcut_ok A1 a1 n1 k1 _ ((unhide lb1).gr hS.gr)).mono ?_)
  rintro r y1 ⟨t1, rfl, hc, rfl⟩
  refine ⟨_, rfl, ?_⟩
  have hl1 := hc w (unhide lb1)
  rw [← unhide hm1, ← unhide hB1] at hl1
  rw [← unhide hm1]
  replace hl1 := hide hl1
  clear hc lb1 hB1
  refine hK.out _ _ ?_
  clear hK K
  simp only [Act.put, List.setIfInBounds_toArray, List.set_cons_zero, List.set_cons_succ, List.getElem_toArray, List.getElem_cons_zero, List.getElem_cons_succ]
  refine any_one (i := 7) (by kernel_rfl) rfl (fun K hK => ?_)
  have c4 := cell_of (hS.get 0 (x := ⟨w.heap.size, #[.int .i64 c0, .int .i64 s0, .int .u64 r0, .slice a0 n0 k0], 78⟩) rfl) (i := 3) rfl
  have fz := froz_of (i := 3) (hS.get 0 (x := ⟨w.heap.size, #[.int .i64 c0, .int .i64 s0, .int .u64 r0, .slice a0 n0 k0], 78⟩) rfl)
  have hB2 := hS.cell 0 (x := ⟨w.heap.size, #[.int .i64 c0, .int .i64 s0, .int .u64 r0, .slice a0 n0 k0], 78⟩) rfl 3 (.slice t0 m0 k0)
  simp only [List.set_cons_zero, List.set_cons_succ] at hB2
  replace hB2 : Bl w [⟨w.heap.size, #[.int .i64 c0, .int .i64 s0, .int .u64 r0, .slice t0 m0 k0], 78⟩, ⟨w.heap.size + 1, #[.int .i64 c1, .int .i64 s1, .int .u64 r1, .slice a1 n1 k1], 80⟩] _ := hB2
  clear hS
  replace hB2 := hide hB2
  replace hK := hide hK
  dsimp only at c4 fz
  go_simp
  refine (unhide hK).out _ _ trivial (fun _ => ?_)
  clear hK K c4 fz
  have hS := unhide hB2
  clear hB2
  generalize World.setCell _ _ _ = st0 at *
  replace hS : Bl w [⟨w.heap.size, #[.int .i64 c0, .int .i64 s0, .int .u64 r0, .slice t0 m0 k0], 78⟩, ⟨w.heap.size + 1, #[.int .i64 c1, .int .i64 s1, .int .u64 r1, .slice a1 n1 k1], 80⟩] st0 := hS
  simp only [Act.put, List.setIfInBounds_toArray, List.set_cons_zero, List.set_cons_succ, List.getElem_toArray, List.getElem_cons_zero, List.getElem_cons_succ]
  refine any_take (i := 8) (v := (.pointer (some ⟨w.heap.size + 1, 3, none⟩))) #[true, true, true, true, true, true, true, true, false, false] rfl (by kernel_rfl) (by kernel_rfl) (by kernel_rfl) (by kernel_rfl) (fun _ _ _ h => h) (.inl ⟨by kernel_rfl, fun x_ hu => by kernel_rfl⟩) trivial ?_
  simp only [Act.put, List.setIfInBounds_toArray, List.set_cons_zero, List.set_cons_succ, List.getElem_toArray, List.getElem_cons_zero, List.getElem_cons_succ]
  refine any_one (i := 9) (by kernel_rfl) rfl (fun K hK => ?_)
  have c4 := cell_of (hS.get 1 (x := ⟨w.heap.size + 1, #[.int .i64 c1, .int .i64 s1, .int .u64 r1, .slice a1 n1 k1], 80⟩) rfl) (i := 3) rfl
  have fz := froz_of (i := 3) (hS.get 1 (x := ⟨w.heap.size + 1, #[.int .i64 c1, .int .i64 s1, .int .u64 r1, .slice a1 n1 k1], 80⟩) rfl)
  have hB2 := hS.cell 1 (x := ⟨w.heap.size + 1, #[.int .i64 c1, .int .i64 s1, .int .u64 r1, .slice a1 n1 k1], 80⟩) rfl 3 (.slice t1 m1 k1)
  simp only [List.set_cons_zero, List.set_cons_succ] at hB2
  replace hB2 : Bl w [⟨w.heap.size, #[.int .i64 c0, .int .i64 s0, .int .u64 r0, .slice t0 m0 k0], 78⟩, ⟨w.heap.size + 1, #[.int .i64 c1, .int .i64 s1, .int .u64 r1, .slice t1 m1 k1], 80⟩] _ := hB2
  clear hS
  replace hB2 := hide hB2
  replace hK := hide hK
  dsimp only at c4 fz
  go_simp
  refine (unhide hK).out _ _ trivial (fun _ => ?_)
  clear hK K c4 fz
  have hS := unhide hB2
  clear hB2
  generalize World.setCell _ _ _ = st1 at *
  replace hS : Bl w [⟨w.heap.size, #[.int .i64 c0, .int .i64 s0, .int .u64 r0, .slice t0 m0 k0], 78⟩, ⟨w.heap.size + 1, #[.int .i64 c1, .int .i64 s1, .int .u64 r1, .slice t1 m1 k1], 80⟩] st1 := hS
  simp only [Act.put, List.setIfInBounds_toArray, List.set_cons_zero, List.set_cons_succ, List.getElem_toArray, List.getElem_cons_zero, List.getElem_cons_succ]
  refine any_done (by kernel_rfl) ?_
  have hW : Bl w [⟨w.heap.size, #[.int .i64 c0, .int .i64 s0, .int .u64 r0, .slice t0 m0 k0], 78⟩, ⟨w.heap.size + 1, #[.int .i64 c1, .int .i64 s1, .int .u64 r1, .slice t1 m1 k1], 80⟩] st1 := hS
  clear hS
  replace hW := hide hW
  go_upto_region 4 with fail
  replace hW := unhide hW
  refine any_start (S := fun (v : World) => Bl w [⟨w.heap.size, #[.int .i64 c0, .int .i64 s0, .int .u64 r0, .slice t0 m0 k0], 78⟩, ⟨w.heap.size + 1, #[.int .i64 c1, .int .i64 s1, .int .u64 r1, .slice t1 m1 k1], 80⟩] v) (by kernel_rfl) ?_
  replace hW := hW.drew
  generalize World.drew _ = x4 at *
  have hS : (fun (v : World) => Bl w [⟨w.heap.size, #[.int .i64 c0, .int .i64 s0, .int .u64 r0, .slice t0 m0 k0], 78⟩, ⟨w.heap.size + 1, #[.int .i64 c1, .int .i64 s1, .int .u64 r1, .slice t1 m1 k1], 80⟩] v) x4 := hW
  clear hW
  simp only [List.size_toArray, List.length_cons, List.length_nil, Array.replicate, List.replicate]
  refine any_take (i := 0) (v := (.pointer (some ⟨w.heap.size, 3, none⟩))) #[false, false, false, false, false, false, false, false] rfl (by kernel_rfl) (by kernel_rfl) (by kernel_rfl) (by kernel_rfl) (fun _ _ _ h => h) (.inl ⟨by kernel_rfl, fun x_ hu => by kernel_rfl⟩) hS ?_
  simp only [Act.put, List.setIfInBounds_toArray, List.set_cons_zero, List.set_cons_succ, List.getElem_toArray, List.getElem_cons_zero, List.getElem_cons_succ]
  refine any_take (i := 1) (v := (.slice t0 m0 k0)) #[true, false, false, false, false, false, false, false] rfl (by kernel_rfl) (by kernel_rfl) (by kernel_rfl) (by kernel_rfl) (fun _ _ _ h => h) (.inl ⟨by kernel_rfl, fun x_ hu => exec_sby _ (.tmp 21) rfl (w.heap.size) 3 (by kernel_rfl) t0 m0 k0 (cell_of (hu.get 0 (x := ⟨w.heap.size, #[.int .i64 c0, .int .i64 s0, .int .u64 r0, .slice t0 m0 k0], 78⟩) rfl) (i := 3) rfl)⟩) hS ?_
  simp only [Act.put, List.setIfInBounds_toArray, List.set_cons_zero, List.set_cons_succ, List.getElem_toArray, List.getElem_cons_zero, List.getElem_cons_succ]
  refine any_take (i := 3) (v := (.pointer (some ⟨w.heap.size + 1, 3, none⟩))) #[true, true, false, false, false, false, false, false] rfl (by kernel_rfl) (by kernel_rfl) (by kernel_rfl) (by kernel_rfl) (fun _ _ _ h => h) (.inl ⟨by kernel_rfl, fun x_ hu => by kernel_rfl⟩) hS ?_
  simp only [Act.put, List.setIfInBounds_toArray, List.set_cons_zero, List.set_cons_succ, List.getElem_toArray, List.getElem_cons_zero, List.getElem_cons_succ]
  refine any_take (i := 4) (v := (.slice t1 m1 k1)) #[true, true, false, true, false, false, false, false] rfl (by kernel_rfl) (by kernel_rfl) (by kernel_rfl) (by kernel_rfl) (fun _ _ _ h => h) (.inl ⟨by kernel_rfl, fun x_ hu => exec_sby _ (.tmp 24) rfl (w.heap.size + 1) 3 (by kernel_rfl) t1 m1 k1 (cell_of (hu.get 1 (x := ⟨w.heap.size + 1, #[.int .i64 c1, .int .i64 s1, .int .u64 r1, .slice t1 m1 k1], 80⟩) rfl) (i := 3) rfl)⟩) hS ?_
  simp only [Act.put, List.setIfInBounds_toArray, List.set_cons_zero, List.set_cons_succ, List.getElem_toArray, List.getElem_cons_zero, List.getElem_cons_succ]
  refine any_one (i := 2) (by kernel_rfl) rfl (fun K hK => ?_)
  refine step_callw (by kernel_rfl) 18 #[.slice t0 m0 k0] (by kernel_rfl) ((jroom_ok B0 t0 m0 k0 hm90 _ ((unhide hl0).gr hS.gr)).mono ?_)
  rintro r z0 ⟨q0, d0, rfl, hc1, hc2, hgo, hat, hg⟩
  refine ⟨_, rfl, ?_⟩
  rw [(unhide hl0).len] at hc1 ⊢
  have ho0 : Lb z0 (some ⟨q0, 0, none⟩) m0 d0 B0 := by
    have h9 := hat.take m0
    rw [List.take_append_of_le_length (by rw [(unhide hl0).len]; exact Nat.le_refl _), List.take_of_length_le (by rw [(unhide hl0).len]; exact Nat.le_refl _)] at h9
    exact ⟨(unhide hl0).len, (unhide hl0).isB, .inr ⟨q0, 0, rfl, h9⟩, by omega, hc2⟩
  replace hS : (fun (v : World) => Bl w [⟨w.heap.size, #[.int .i64 c0, .int .i64 s0, .int .u64 r0, .slice t0 m0 k0], 78⟩, ⟨w.heap.size + 1, #[.int .i64 c1, .int .i64 s1, .int .u64 r1, .slice t1 m1 k1], 80⟩] v) z0 := hS.more hg
  replace ho0 := hide ho0
  clear hg hat hc1 hc2 hgo
  refine hK.out _ _ hS (fun _ => ?_)
  clear hK K
  simp only [Act.put, List.setIfInBounds_toArray, List.set_cons_zero, List.set_cons_succ, List.getElem_toArray, List.getElem_cons_zero, List.getElem_cons_succ]
  refine any_one (i := 5) (by kernel_rfl) rfl (fun K hK => ?_)
  refine step_callw (by kernel_rfl) 18 #[.slice t1 m1 k1] (by kernel_rfl) ((jroom_ok B1 t1 m1 k1 hm91 _ ((unhide hl1).gr hS.gr)).mono ?_)
  rintro r z1 ⟨q1, d1, rfl, hc1, hc2, hgo, hat, hg⟩
  refine ⟨_, rfl, ?_⟩
  rw [(unhide hl1).len] at hc1 ⊢
  have ho1 : Lb z1 (some ⟨q1, 0, none⟩) m1 d1 B1 := by
    have h9 := hat.take m1
    rw [List.take_append_of_le_length (by rw [(unhide hl1).len]; exact Nat.le_refl _), List.take_of_length_le (by rw [(unhide hl1).len]; exact Nat.le_refl _)] at h9
    exact ⟨(unhide hl1).len, (unhide hl1).isB, .inr ⟨q1, 0, rfl, h9⟩, by omega, hc2⟩
  replace hS : (fun (v : World) => Bl w [⟨w.heap.size, #[.int .i64 c0, .int .i64 s0, .int .u64 r0, .slice t0 m0 k0], 78⟩, ⟨w.heap.size + 1, #[.int .i64 c1, .int .i64 s1, .int .u64 r1, .slice t1 m1 k1], 80⟩] v) z1 := hS.more hg
  replace ho0 := (unhide ho0).gr hg
  clear hg hat hc1 hc2 hgo
  refine hK.out _ _ hS (fun _ => ?_)
  clear hK K
  simp only [Act.put, List.setIfInBounds_toArray, List.set_cons_zero, List.set_cons_succ, List.getElem_toArray, List.getElem_cons_zero, List.getElem_cons_succ]
  refine any_one (i := 6) (by kernel_rfl) rfl (fun K hK => ?_)
  replace hK := hide hK
  go_simp
  refine (unhide hK).out _ _ hS (fun _ => ?_)
  clear hK K
  refine any_one (i := 7) (by kernel_rfl) rfl (fun K hK => ?_)
  replace hK := hide hK
  go_simp
  refine (unhide hK).out _ _ hS (fun _ => ?_)
  clear hK K
  refine any_done (by kernel_rfl) ?_
  have hb0 := hide (hS.get 0 (x := ⟨w.heap.size, #[.int .i64 c0, .int .i64 s0, .int .u64 r0, .slice t0 m0 k0], 78⟩) rfl)
  have hb1 := hide (hS.get 1 (x := ⟨w.heap.size + 1, #[.int .i64 c1, .int .i64 s1, .int .u64 r1, .slice t1 m1 k1], 80⟩) rfl)
  dsimp only at hb0 hb1
  have hWg := hide hS.gr
  replace hl0 := hide ((unhide hl0).gr hS.gr)
  replace hl1 := hide ((unhide hl1).gr hS.gr)
  replace ho0 := hide ho0; replace ho1 := hide ho1
  clear hS
  have hV := hide (Gr.refl z1)
  go_upto_region 5 with fail
  refine wp_region_lit ?_
  refine list_val (.pointer (some ⟨w.heap.size, 0, none⟩)) (by kernel_rfl) (by kernel_rfl) ?_
  simp only [Act.put, List.setIfInBounds_toArray, List.set_cons_zero, List.set_cons_succ, List.getElem_toArray, List.getElem_cons_zero, List.getElem_cons_succ]
  refine list_val (.int .i64 c0) (by kernel_rfl) (exec_i64 _ (.tmp 28) rfl (w.heap.size) 0 (by kernel_rfl) c0 (cell_of ((unhide hV).blk (unhide hb0)) (i := 0) rfl)) ?_
  simp only [Act.put, List.setIfInBounds_toArray, List.set_cons_zero, List.set_cons_succ, List.getElem_toArray, List.getElem_cons_zero, List.getElem_cons_succ]
  refine list_val (.pointer (some ⟨w.heap.size, 1, none⟩)) (by kernel_rfl) (by kernel_rfl) ?_
  simp only [Act.put, List.setIfInBounds_toArray, List.set_cons_zero, List.set_cons_succ, List.getElem_toArray, List.getElem_cons_zero, List.getElem_cons_succ]
  refine list_val (.int .i64 s0) (by kernel_rfl) (exec_i64 _ (.tmp 30) rfl (w.heap.size) 1 (by kernel_rfl) s0 (cell_of ((unhide hV).blk (unhide hb0)) (i := 1) rfl)) ?_
  simp only [Act.put, List.setIfInBounds_toArray, List.set_cons_zero, List.set_cons_succ, List.getElem_toArray, List.getElem_cons_zero, List.getElem_cons_succ]
  refine list_val (.pointer (some ⟨w.heap.size, 2, none⟩)) (by kernel_rfl) (by kernel_rfl) ?_
  simp only [Act.put, List.setIfInBounds_toArray, List.set_cons_zero, List.set_cons_succ, List.getElem_toArray, List.getElem_cons_zero, List.getElem_cons_succ]
  refine list_val (.int .u64 r0) (by kernel_rfl) (exec_u64 _ (.tmp 32) rfl (w.heap.size) 2 (by kernel_rfl) r0 (cell_of ((unhide hV).blk (unhide hb0)) (i := 2) rfl)) ?_
  simp only [Act.put, List.setIfInBounds_toArray, List.set_cons_zero, List.set_cons_succ, List.getElem_toArray, List.getElem_cons_zero, List.getElem_cons_succ]
  refine list_val (.slice (some ⟨q0, 0, none⟩) m0 d0) (by kernel_rfl) (by kernel_rfl) ?_
  simp only [Act.put, List.setIfInBounds_toArray, List.set_cons_zero, List.set_cons_succ, List.getElem_toArray, List.getElem_cons_zero, List.getElem_cons_succ]
  refine list_val (.agg #[.int .i64 c0, .int .i64 s0, .int .u64 r0, .slice (some ⟨q0, 0, none⟩) m0 d0]) (by kernel_rfl) (by kernel_rfl) ?_
  simp only [Act.put, List.setIfInBounds_toArray, List.set_cons_zero, List.set_cons_succ, List.getElem_toArray, List.getElem_cons_zero, List.getElem_cons_succ]
  refine list_call 36 #[.agg #[.int .i64 c0, .int .i64 s0, .int .u64 r0, .slice (some ⟨q0, 0, none⟩) m0 d0]] (by kernel_rfl) (by kernel_rfl) ((fputup_no c0 s0 r0 (some ⟨q0, 0, none⟩) m0 d0 (.inl hE0) z1).mono ?_)
  rintro r w1_ ⟨rfl, hg⟩
  replace hV := hide ((unhide hV).trans hg)
  clear hg
  refine ⟨_, rfl, ?_⟩
  simp only [Act.put, List.setIfInBounds_toArray, List.set_cons_zero, List.set_cons_succ, List.getElem_toArray, List.getElem_cons_zero, List.getElem_cons_succ]
  refine list_val (.tuple #[.slice none 0 0, .int .i64 241]) (by kernel_rfl) (by kernel_rfl) ?_
  simp only [Act.put, List.setIfInBounds_toArray, List.set_cons_zero, List.set_cons_succ, List.getElem_toArray, List.getElem_cons_zero, List.getElem_cons_succ]
  refine list_val (.slice none 0 0) (by kernel_rfl) (by kernel_rfl) ?_
  simp only [Act.put, List.setIfInBounds_toArray, List.set_cons_zero, List.set_cons_succ, List.getElem_toArray, List.getElem_cons_zero, List.getElem_cons_succ]
  refine list_val (.int .i64 241) (by kernel_rfl) (by kernel_rfl) ?_
  simp only [Act.put, List.setIfInBounds_toArray, List.set_cons_zero, List.set_cons_succ, List.getElem_toArray, List.getElem_cons_zero, List.getElem_cons_succ]
  (refine wpList_step fun K hK => ?_; replace hK := hide hK; go_simp; refine unhide hK _ _ ?_; clear hK K)
  (refine wpList_step fun K hK => ?_; replace hK := hide hK; go_simp; refine unhide hK _ _ ?_; clear hK K)
  refine wpList_nil ?_
  go_upto_region 6 with fail
  refine wp_region_lit ?_
  refine list_val (.pointer (some ⟨w.heap.size + 1, 0, none⟩)) (by kernel_rfl) (by kernel_rfl) ?_
  simp only [Act.put, List.setIfInBounds_toArray, List.set_cons_zero, List.set_cons_succ, List.getElem_toArray, List.getElem_cons_zero, List.getElem_cons_succ]
  refine list_val (.int .i64 c1) (by kernel_rfl) (exec_i64 _ (.tmp 40) rfl (w.heap.size + 1) 0 (by kernel_rfl) c1 (cell_of ((unhide hV).blk (unhide hb1)) (i := 0) rfl)) ?_
  simp only [Act.put, List.setIfInBounds_toArray, List.set_cons_zero, List.set_cons_succ, List.getElem_toArray, List.getElem_cons_zero, List.getElem_cons_succ]
  refine list_val (.pointer (some ⟨w.heap.size + 1, 1, none⟩)) (by kernel_rfl) (by kernel_rfl) ?_
  simp only [Act.put, List.setIfInBounds_toArray, List.set_cons_zero, List.set_cons_succ, List.getElem_toArray, List.getElem_cons_zero, List.getElem_cons_succ]
  refine list_val (.int .i64 s1) (by kernel_rfl) (exec_i64 _ (.tmp 42) rfl (w.heap.size + 1) 1 (by kernel_rfl) s1 (cell_of ((unhide hV).blk (unhide hb1)) (i := 1) rfl)) ?_
  simp only [Act.put, List.setIfInBounds_toArray, List.set_cons_zero, List.set_cons_succ, List.getElem_toArray, List.getElem_cons_zero, List.getElem_cons_succ]
  refine list_val (.pointer (some ⟨w.heap.size + 1, 2, none⟩)) (by kernel_rfl) (by kernel_rfl) ?_
  simp only [Act.put, List.setIfInBounds_toArray, List.set_cons_zero, List.set_cons_succ, List.getElem_toArray, List.getElem_cons_zero, List.getElem_cons_succ]
  refine list_val (.int .u64 r1) (by kernel_rfl) (exec_u64 _ (.tmp 44) rfl (w.heap.size + 1) 2 (by kernel_rfl) r1 (cell_of ((unhide hV).blk (unhide hb1)) (i := 2) rfl)) ?_
  simp only [Act.put, List.setIfInBounds_toArray, List.set_cons_zero, List.set_cons_succ, List.getElem_toArray, List.getElem_cons_zero, List.getElem_cons_succ]
  refine list_val (.slice (some ⟨q1, 0, none⟩) m1 d1) (by kernel_rfl) (by kernel_rfl) ?_
  simp only [Act.put, List.setIfInBounds_toArray, List.set_cons_zero, List.set_cons_succ, List.getElem_toArray, List.getElem_cons_zero, List.getElem_cons_succ]
  refine list_val (.agg #[.int .i64 c1, .int .i64 s1, .int .u64 r1, .slice (some ⟨q1, 0, none⟩) m1 d1]) (by kernel_rfl) (by kernel_rfl) ?_
  simp only [Act.put, List.setIfInBounds_toArray, List.set_cons_zero, List.set_cons_succ, List.getElem_toArray, List.getElem_cons_zero, List.getElem_cons_succ]
  refine list_call 37 #[.agg #[.int .i64 c1, .int .i64 s1, .int .u64 r1, .slice (some ⟨q1, 0, none⟩) m1 d1]] (by kernel_rfl) (by kernel_rfl) ((fputdn_ok c1 s1 r1 (some ⟨q1, 0, none⟩) m1 d1 B1 hE1 hS1 hr1.2 w1_ ((unhide ho1).gr (unhide hV))).mono ?_)
  rintro r w2_ ⟨vp1, rfl, hO, hg⟩
  obtain ⟨pa1, pc1, rfl, hp1⟩ := ob_lb hO (pkB_isB (unhide hl1).isB (by omega) hE1) (n := 11 + m1) (pkB_len 3 c1 s1 r1 (unhide hl1).len)
  replace hp1 := hide hp1
  clear hO
  replace hV := hide ((unhide hV).trans hg)
  clear hg
  refine ⟨_, rfl, ?_⟩
  simp only [Act.put, List.setIfInBounds_toArray, List.set_cons_zero, List.set_cons_succ, List.getElem_toArray, List.getElem_cons_zero, List.getElem_cons_succ]
  refine list_val (.tuple #[.slice pa1 (11 + m1) pc1, .int .i64 0]) (by kernel_rfl) (by kernel_rfl) ?_
  simp only [Act.put, List.setIfInBounds_toArray, List.set_cons_zero, List.set_cons_succ, List.getElem_toArray, List.getElem_cons_zero, List.getElem_cons_succ]
  refine list_val (.slice pa1 (11 + m1) pc1) (by kernel_rfl) (by kernel_rfl) ?_
  simp only [Act.put, List.setIfInBounds_toArray, List.set_cons_zero, List.set_cons_succ, List.getElem_toArray, List.getElem_cons_zero, List.getElem_cons_succ]
  refine list_val (.int .i64 0) (by kernel_rfl) (by kernel_rfl) ?_
  simp only [Act.put, List.setIfInBounds_toArray, List.set_cons_zero, List.set_cons_succ, List.getElem_toArray, List.getElem_cons_zero, List.getElem_cons_succ]
  (refine wpList_step fun K hK => ?_; replace hK := hide hK; go_simp; refine unhide hK _ _ ?_; clear hK K)
  (refine wpList_step fun K hK => ?_; replace hK := hide hK; go_simp; refine unhide hK _ _ ?_; clear hK K)
  refine wpList_nil ?_
  go_upto_region 7 with fail
  refine wp_region_lit ?_
  refine list_val (.slice (some ⟨q0, 0, none⟩) m0 d0) (by kernel_rfl) (by kernel_rfl) ?_
  simp only [Act.put, List.setIfInBounds_toArray, List.set_cons_zero, List.set_cons_succ, List.getElem_toArray, List.getElem_cons_zero, List.getElem_cons_succ]
  refine list_val (.pointer (some ⟨w.heap.size, 3, none⟩)) (by kernel_rfl) (by kernel_rfl) ?_
  simp only [Act.put, List.setIfInBounds_toArray, List.set_cons_zero, List.set_cons_succ, List.getElem_toArray, List.getElem_cons_zero, List.getElem_cons_succ]
  refine list_val (.slice t0 m0 k0) (by kernel_rfl) (exec_sby _ (.tmp 52) rfl (w.heap.size) 3 (by kernel_rfl) t0 m0 k0 (cell_of ((unhide hV).blk (unhide hb0)) (i := 3) rfl)) ?_
  simp only [Act.put, List.setIfInBounds_toArray, List.set_cons_zero, List.set_cons_succ, List.getElem_toArray, List.getElem_cons_zero, List.getElem_cons_succ]
  refine list_call 11 #[.slice (some ⟨q0, 0, none⟩) m0 d0, .slice t0 m0 k0] (by kernel_rfl) (by kernel_rfl) ((beq_ok B0 B0 (some ⟨q0, 0, none⟩) t0 m0 m0 d0 k0 w2_ ((unhide ho0).gr (unhide hV)) ((unhide hl0).gr (unhide hV))).mono ?_)
  rintro r w3_ ⟨rfl, hg⟩
  rw [decide_eq_true rfl]
  replace hp1 := hide ((unhide hp1).gr hg)
  replace hV := hide ((unhide hV).trans hg)
  clear hg
  refine ⟨_, rfl, ?_⟩
  simp only [Act.put, List.setIfInBounds_toArray, List.set_cons_zero, List.set_cons_succ, List.getElem_toArray, List.getElem_cons_zero, List.getElem_cons_succ]
  refine list_val (.bool false) (by kernel_rfl) (by kernel_rfl) ?_
  simp only [Act.put, List.setIfInBounds_toArray, List.set_cons_zero, List.set_cons_succ, List.getElem_toArray, List.getElem_cons_zero, List.getElem_cons_succ]
  refine list_val (.bool false) (by kernel_rfl) (by kernel_rfl) ?_
  simp only [Act.put, List.setIfInBounds_toArray, List.set_cons_zero, List.set_cons_succ, List.getElem_toArray, List.getElem_cons_zero, List.getElem_cons_succ]
  refine list_val (.slice (some ⟨q1, 0, none⟩) m1 d1) (by kernel_rfl) (by kernel_rfl) ?_
  simp only [Act.put, List.setIfInBounds_toArray, List.set_cons_zero, List.set_cons_succ, List.getElem_toArray, List.getElem_cons_zero, List.getElem_cons_succ]
  refine list_val (.pointer (some ⟨w.heap.size + 1, 3, none⟩)) (by kernel_rfl) (by kernel_rfl) ?_
  simp only [Act.put, List.setIfInBounds_toArray, List.set_cons_zero, List.set_cons_succ, List.getElem_toArray, List.getElem_cons_zero, List.getElem_cons_succ]
  refine list_val (.slice t1 m1 k1) (by kernel_rfl) (exec_sby _ (.tmp 58) rfl (w.heap.size + 1) 3 (by kernel_rfl) t1 m1 k1 (cell_of ((unhide hV).blk (unhide hb1)) (i := 3) rfl)) ?_
  simp only [Act.put, List.setIfInBounds_toArray, List.set_cons_zero, List.set_cons_succ, List.getElem_toArray, List.getElem_cons_zero, List.getElem_cons_succ]
  refine list_call 11 #[.slice (some ⟨q1, 0, none⟩) m1 d1, .slice t1 m1 k1] (by kernel_rfl) (by kernel_rfl) ((beq_ok B1 B1 (some ⟨q1, 0, none⟩) t1 m1 m1 d1 k1 w3_ ((unhide ho1).gr (unhide hV)) ((unhide hl1).gr (unhide hV))).mono ?_)
  rintro r w4_ ⟨rfl, hg⟩
  rw [decide_eq_true rfl]
  replace hp1 := hide ((unhide hp1).gr hg)
  replace hV := hide ((unhide hV).trans hg)
  clear hg
  refine ⟨_, rfl, ?_⟩
  simp only [Act.put, List.setIfInBounds_toArray, List.set_cons_zero, List.set_cons_succ, List.getElem_toArray, List.getElem_cons_zero, List.getElem_cons_succ]
  refine list_val (.bool false) (by kernel_rfl) (by kernel_rfl) ?_
  simp only [Act.put, List.setIfInBounds_toArray, List.set_cons_zero, List.set_cons_succ, List.getElem_toArray, List.getElem_cons_zero, List.getElem_cons_succ]
  refine list_val (.bool false) (by kernel_rfl) (by kernel_rfl) ?_
  simp only [Act.put, List.setIfInBounds_toArray, List.set_cons_zero, List.set_cons_succ, List.getElem_toArray, List.getElem_cons_zero, List.getElem_cons_succ]
  refine wpList_nil ?_
  go_upto_region 9 with fail
  refine wp_region_lit ?_
  refine list_val (.pointer (some ⟨w.heap.size, 0, none⟩)) (by kernel_rfl) (by kernel_rfl) ?_
  simp only [Act.put, List.setIfInBounds_toArray, List.set_cons_zero, List.set_cons_succ, List.getElem_toArray, List.getElem_cons_zero, List.getElem_cons_succ]
  refine list_val (.int .i64 c0) (by kernel_rfl) (exec_i64 _ (.tmp 63) rfl (w.heap.size) 0 (by kernel_rfl) c0 (cell_of ((unhide hV).blk (unhide hb0)) (i := 0) rfl)) ?_
  simp only [Act.put, List.setIfInBounds_toArray, List.set_cons_zero, List.set_cons_succ, List.getElem_toArray, List.getElem_cons_zero, List.getElem_cons_succ]
  refine list_val (.pointer (some ⟨w.heap.size, 1, none⟩)) (by kernel_rfl) (by kernel_rfl) ?_
  simp only [Act.put, List.setIfInBounds_toArray, List.set_cons_zero, List.set_cons_succ, List.getElem_toArray, List.getElem_cons_zero, List.getElem_cons_succ]
  refine list_val (.int .i64 s0) (by kernel_rfl) (exec_i64 _ (.tmp 65) rfl (w.heap.size) 1 (by kernel_rfl) s0 (cell_of ((unhide hV).blk (unhide hb0)) (i := 1) rfl)) ?_
  simp only [Act.put, List.setIfInBounds_toArray, List.set_cons_zero, List.set_cons_succ, List.getElem_toArray, List.getElem_cons_zero, List.getElem_cons_succ]
  refine list_val (.pointer (some ⟨w.heap.size, 2, none⟩)) (by kernel_rfl) (by kernel_rfl) ?_
  simp only [Act.put, List.setIfInBounds_toArray, List.set_cons_zero, List.set_cons_succ, List.getElem_toArray, List.getElem_cons_zero, List.getElem_cons_succ]
  refine list_val (.int .u64 r0) (by kernel_rfl) (exec_u64 _ (.tmp 67) rfl (w.heap.size) 2 (by kernel_rfl) r0 (cell_of ((unhide hV).blk (unhide hb0)) (i := 2) rfl)) ?_
  simp only [Act.put, List.setIfInBounds_toArray, List.set_cons_zero, List.set_cons_succ, List.getElem_toArray, List.getElem_cons_zero, List.getElem_cons_succ]
  refine list_call 38 #[.int .i64 c0, .int .i64 s0, .int .u64 r0] (by kernel_rfl) (by kernel_rfl) ((qends_ok c0 s0 r0 w4_).mono ?_)
  rintro r w5_ ⟨rfl, rfl⟩
  rw [hE0]
  refine ⟨_, rfl, ?_⟩
  simp only [Act.put, List.setIfInBounds_toArray, List.set_cons_zero, List.set_cons_succ, List.getElem_toArray, List.getElem_cons_zero, List.getElem_cons_succ]
  refine list_val_offs 5 (.bool false) (by kernel_rfl) (by kernel_rfl) (by kernel_rfl) ?_
  simp only [List.drop_succ_cons, List.drop_zero, List.take_succ_cons, List.take_zero, putU]
  simp only [Act.put, List.setIfInBounds_toArray, List.set_cons_zero, List.set_cons_succ, List.getElem_toArray, List.getElem_cons_zero, List.getElem_cons_succ]
  refine list_val (.bool false) (by kernel_rfl) (by kernel_rfl) ?_
  simp only [Act.put, List.setIfInBounds_toArray, List.set_cons_zero, List.set_cons_succ, List.getElem_toArray, List.getElem_cons_zero, List.getElem_cons_succ]
  refine wpList_nil ?_
  go_upto_region 12 with fail
  refine wp_region_lit ?_
  refine list_val (.int .i64 241) (by kernel_rfl) (by kernel_rfl) ?_
  simp only [Act.put, List.setIfInBounds_toArray, List.set_cons_zero, List.set_cons_succ, List.getElem_toArray, List.getElem_cons_zero, List.getElem_cons_succ]
  refine list_val (.bool false) (by kernel_rfl) (by kernel_rfl) ?_
  simp only [Act.put, List.setIfInBounds_toArray, List.set_cons_zero, List.set_cons_succ, List.getElem_toArray, List.getElem_cons_zero, List.getElem_cons_succ]
  refine list_val (.bool false) (by kernel_rfl) (by kernel_rfl) ?_
  simp only [Act.put, List.setIfInBounds_toArray, List.set_cons_zero, List.set_cons_succ, List.getElem_toArray, List.getElem_cons_zero, List.getElem_cons_succ]
  refine list_val (.slice none 0 0) (by kernel_rfl) (by kernel_rfl) ?_
  simp only [Act.put, List.setIfInBounds_toArray, List.set_cons_zero, List.set_cons_succ, List.getElem_toArray, List.getElem_cons_zero, List.getElem_cons_succ]
  refine list_val (.int .i64 0) (by kernel_rfl) (by kernel_rfl) ?_
  simp only [Act.put, List.setIfInBounds_toArray, List.set_cons_zero, List.set_cons_succ, List.getElem_toArray, List.getElem_cons_zero, List.getElem_cons_succ]
  refine list_val (.bool false) (by kernel_rfl) (by kernel_rfl) ?_
  simp only [Act.put, List.setIfInBounds_toArray, List.set_cons_zero, List.set_cons_succ, List.getElem_toArray, List.getElem_cons_zero, List.getElem_cons_succ]
  refine list_val (.bool false) (by kernel_rfl) (by kernel_rfl) ?_
  simp only [Act.put, List.setIfInBounds_toArray, List.set_cons_zero, List.set_cons_succ, List.getElem_toArray, List.getElem_cons_zero, List.getElem_cons_succ]
  refine wpList_nil ?_
  go_upto_region 14 with fail
  refine wp_region_lit ?_
  refine list_val (.pointer (some ⟨w.heap.size + 1, 0, none⟩)) (by kernel_rfl) (by kernel_rfl) ?_
  simp only [Act.put, List.setIfInBounds_toArray, List.set_cons_zero, List.set_cons_succ, List.getElem_toArray, List.getElem_cons_zero, List.getElem_cons_succ]
  refine list_val (.int .i64 c1) (by kernel_rfl) (exec_i64 _ (.tmp 100) rfl (w.heap.size + 1) 0 (by kernel_rfl) c1 (cell_of ((unhide hV).blk (unhide hb1)) (i := 0) rfl)) ?_
  simp only [Act.put, List.setIfInBounds_toArray, List.set_cons_zero, List.set_cons_succ, List.getElem_toArray, List.getElem_cons_zero, List.getElem_cons_succ]
  refine list_val (.pointer (some ⟨w.heap.size + 1, 1, none⟩)) (by kernel_rfl) (by kernel_rfl) ?_
  simp only [Act.put, List.setIfInBounds_toArray, List.set_cons_zero, List.set_cons_succ, List.getElem_toArray, List.getElem_cons_zero, List.getElem_cons_succ]
  refine list_val (.int .i64 s1) (by kernel_rfl) (exec_i64 _ (.tmp 102) rfl (w.heap.size + 1) 1 (by kernel_rfl) s1 (cell_of ((unhide hV).blk (unhide hb1)) (i := 1) rfl)) ?_
  simp only [Act.put, List.setIfInBounds_toArray, List.set_cons_zero, List.set_cons_succ, List.getElem_toArray, List.getElem_cons_zero, List.getElem_cons_succ]
  refine list_val (.pointer (some ⟨w.heap.size + 1, 2, none⟩)) (by kernel_rfl) (by kernel_rfl) ?_
  simp only [Act.put, List.setIfInBounds_toArray, List.set_cons_zero, List.set_cons_succ, List.getElem_toArray, List.getElem_cons_zero, List.getElem_cons_succ]
  refine list_val (.int .u64 r1) (by kernel_rfl) (exec_u64 _ (.tmp 104) rfl (w.heap.size + 1) 2 (by kernel_rfl) r1 (cell_of ((unhide hV).blk (unhide hb1)) (i := 2) rfl)) ?_
  simp only [Act.put, List.setIfInBounds_toArray, List.set_cons_zero, List.set_cons_succ, List.getElem_toArray, List.getElem_cons_zero, List.getElem_cons_succ]
  refine list_call 38 #[.int .i64 c1, .int .i64 s1, .int .u64 r1] (by kernel_rfl) (by kernel_rfl) ((qends_ok c1 s1 r1 w5_).mono ?_)
  rintro r w6_ ⟨rfl, rfl⟩
  rw [hE1]
  refine ⟨_, rfl, ?_⟩
  simp only [Act.put, List.setIfInBounds_toArray, List.set_cons_zero, List.set_cons_succ, List.getElem_toArray, List.getElem_cons_zero, List.getElem_cons_succ]
  refine list_val (.bool true) (by kernel_rfl) (by kernel_rfl) ?_
  simp only [Act.put, List.setIfInBounds_toArray, List.set_cons_zero, List.set_cons_succ, List.getElem_toArray, List.getElem_cons_zero, List.getElem_cons_succ]
  refine list_val (.pointer (some ⟨w.heap.size + 1, 3, none⟩)) (by kernel_rfl) (by kernel_rfl) ?_
  simp only [Act.put, List.setIfInBounds_toArray, List.set_cons_zero, List.set_cons_succ, List.getElem_toArray, List.getElem_cons_zero, List.getElem_cons_succ]
  refine list_val (.slice t1 m1 k1) (by kernel_rfl) (exec_sby _ (.tmp 108) rfl (w.heap.size + 1) 3 (by kernel_rfl) t1 m1 k1 (cell_of ((unhide hV).blk (unhide hb1)) (i := 3) rfl)) ?_
  simp only [Act.put, List.setIfInBounds_toArray, List.set_cons_zero, List.set_cons_succ, List.getElem_toArray, List.getElem_cons_zero, List.getElem_cons_succ]
  refine list_val (.int .i64 (m1 : Int)) (by kernel_rfl) (by kernel_rfl) ?_
  simp only [Act.put, List.setIfInBounds_toArray, List.set_cons_zero, List.set_cons_succ, List.getElem_toArray, List.getElem_cons_zero, List.getElem_cons_succ]
  refine list_call 41 #[.int .i64 (m1 : Int)] (by kernel_rfl) (by kernel_rfl) ((qrp_ok (m1 : Int) w6_).mono ?_)
  rintro r w7_ ⟨h1, rfl, hh1, rfl⟩
  rw [hS1, decide_eq_true_iff] at hh1
  refine ⟨_, rfl, ?_⟩
  simp only [Act.put, List.setIfInBounds_toArray, List.set_cons_zero, List.set_cons_succ, List.getElem_toArray, List.getElem_cons_zero, List.getElem_cons_succ]
  refine list_val (.bool true) (by kernel_rfl) (by go_simp) ?_
  simp only [Act.put, List.setIfInBounds_toArray, List.set_cons_zero, List.set_cons_succ, List.getElem_toArray, List.getElem_cons_zero, List.getElem_cons_succ]
  refine list_val (.bool true) (by kernel_rfl) (by kernel_rfl) ?_
  simp only [Act.put, List.setIfInBounds_toArray, List.set_cons_zero, List.set_cons_succ, List.getElem_toArray, List.getElem_cons_zero, List.getElem_cons_succ]
  refine wpList_nil ?_
  go_upto_region 15 with fail
  refine wp_region_lit ?_
  refine list_val (.int .i64 0) (by kernel_rfl) (by kernel_rfl) ?_
  simp only [Act.put, List.setIfInBounds_toArray, List.set_cons_zero, List.set_cons_succ, List.getElem_toArray, List.getElem_cons_zero, List.getElem_cons_succ]
  refine list_val (.bool true) (by kernel_rfl) (by kernel_rfl) ?_
  simp only [Act.put, List.setIfInBounds_toArray, List.set_cons_zero, List.set_cons_succ, List.getElem_toArray, List.getElem_cons_zero, List.getElem_cons_succ]
  refine list_val (.bool true) (by kernel_rfl) (by kernel_rfl) ?_
  simp only [Act.put, List.setIfInBounds_toArray, List.set_cons_zero, List.set_cons_succ, List.getElem_toArray, List.getElem_cons_zero, List.getElem_cons_succ]
  refine list_val (.slice pa1 (11 + m1) pc1) (by kernel_rfl) (by kernel_rfl) ?_
  simp only [Act.put, List.setIfInBounds_toArray, List.set_cons_zero, List.set_cons_succ, List.getElem_toArray, List.getElem_cons_zero, List.getElem_cons_succ]
  refine list_val (.pointer (some ⟨w.heap.size + 1, 0, none⟩)) (by kernel_rfl) (by kernel_rfl) ?_
  simp only [Act.put, List.setIfInBounds_toArray, List.set_cons_zero, List.set_cons_succ, List.getElem_toArray, List.getElem_cons_zero, List.getElem_cons_succ]
  refine list_val (.int .i64 c1) (by kernel_rfl) (exec_i64 _ (.tmp 118) rfl (w.heap.size + 1) 0 (by kernel_rfl) c1 (cell_of ((unhide hV).blk (unhide hb1)) (i := 0) rfl)) ?_
  simp only [Act.put, List.setIfInBounds_toArray, List.set_cons_zero, List.set_cons_succ, List.getElem_toArray, List.getElem_cons_zero, List.getElem_cons_succ]
  refine list_val (.pointer (some ⟨w.heap.size + 1, 1, none⟩)) (by kernel_rfl) (by kernel_rfl) ?_
  simp only [Act.put, List.setIfInBounds_toArray, List.set_cons_zero, List.set_cons_succ, List.getElem_toArray, List.getElem_cons_zero, List.getElem_cons_succ]
  refine list_val (.int .i64 s1) (by kernel_rfl) (exec_i64 _ (.tmp 120) rfl (w.heap.size + 1) 1 (by kernel_rfl) s1 (cell_of ((unhide hV).blk (unhide hb1)) (i := 1) rfl)) ?_
  simp only [Act.put, List.setIfInBounds_toArray, List.set_cons_zero, List.set_cons_succ, List.getElem_toArray, List.getElem_cons_zero, List.getElem_cons_succ]
  refine list_val (.pointer (some ⟨w.heap.size + 1, 2, none⟩)) (by kernel_rfl) (by kernel_rfl) ?_
  simp only [Act.put, List.setIfInBounds_toArray, List.set_cons_zero, List.set_cons_succ, List.getElem_toArray, List.getElem_cons_zero, List.getElem_cons_succ]
  refine list_val (.int .u64 r1) (by kernel_rfl) (exec_u64 _ (.tmp 122) rfl (w.heap.size + 1) 2 (by kernel_rfl) r1 (cell_of ((unhide hV).blk (unhide hb1)) (i := 2) rfl)) ?_
  simp only [Act.put, List.setIfInBounds_toArray, List.set_cons_zero, List.set_cons_succ, List.getElem_toArray, List.getElem_cons_zero, List.getElem_cons_succ]
  refine list_val (.pointer (some ⟨w.heap.size + 1, 3, none⟩)) (by kernel_rfl) (by kernel_rfl) ?_
  simp only [Act.put, List.setIfInBounds_toArray, List.set_cons_zero, List.set_cons_succ, List.getElem_toArray, List.getElem_cons_zero, List.getElem_cons_succ]
  refine list_val (.slice t1 m1 k1) (by kernel_rfl) (exec_sby _ (.tmp 124) rfl (w.heap.size + 1) 3 (by kernel_rfl) t1 m1 k1 (cell_of ((unhide hV).blk (unhide hb1)) (i := 3) rfl)) ?_
  simp only [Act.put, List.setIfInBounds_toArray, List.set_cons_zero, List.set_cons_succ, List.getElem_toArray, List.getElem_cons_zero, List.getElem_cons_succ]
  refine list_call 40 #[.int .u8 3, .int .i64 c1, .int .i64 s1, .int .u64 r1, .slice t1 m1 k1] (by kernel_rfl) (by kernel_rfl) ((qpac_ok 3 c1 s1 r1 t1 m1 k1 B1 (by omega) (by have := ends_is hE1; omega) (by have := ends_is hE1; omega) hr1.1 hm91 w7_ ((unhide hl1).gr (unhide hV))).mono ?_)
  rintro r w8_ ⟨vq1, rfl, hO, hg⟩
  obtain ⟨qa1, qc1, rfl, hqq⟩ := ob_lb hO (pkB_isB (unhide hl1).isB (by omega) hE1) (n := 11 + m1) (pkB_len 3 c1 s1 r1 (unhide hl1).len)
  clear hO
  replace hp1 := hide ((unhide hp1).gr hg)
  replace hV := hide ((unhide hV).trans hg)
  clear hg
  refine ⟨_, rfl, ?_⟩
  simp only [Act.put, List.setIfInBounds_toArray, List.set_cons_zero, List.set_cons_succ, List.getElem_toArray, List.getElem_cons_zero, List.getElem_cons_succ]
  refine list_call 11 #[.slice pa1 (11 + m1) pc1, .slice qa1 (11 + m1) qc1] (by kernel_rfl) (by kernel_rfl) ((beq_ok (pkB 3 c1 s1 r1 B1) (pkB 3 c1 s1 r1 B1) pa1 qa1 (11 + m1) (11 + m1) pc1 qc1 w8_ (unhide hp1) hqq).mono ?_)
  rintro r w9_ ⟨rfl, hg⟩
  rw [decide_eq_true rfl]
  replace hp1 := hide ((unhide hp1).gr hg)
  replace hV := hide ((unhide hV).trans hg)
  clear hg
  clear hqq
  refine ⟨_, rfl, ?_⟩
  simp only [Act.put, List.setIfInBounds_toArray, List.set_cons_zero, List.set_cons_succ, List.getElem_toArray, List.getElem_cons_zero, List.getElem_cons_succ]
  refine list_val (.bool true) (by kernel_rfl) (by kernel_rfl) ?_
  simp only [Act.put, List.setIfInBounds_toArray, List.set_cons_zero, List.set_cons_succ, List.getElem_toArray, List.getElem_cons_zero, List.getElem_cons_succ]
  (refine wpList_step fun K hK => ?_; replace hK := hide hK; go_simp; refine unhide hK _ _ ?_; clear hK K)
  refine wpList_nil ?_
  have hZ : Hid (Woke w (.returned (.bool true)) w9_) := ⟨rfl, (unhide hWg).trans (unhide hV)⟩
  go_wp2_with fail
  rw [unhide hT]
  exact unhide hZ
set_option maxHeartbeats 4000000 in
theorem packets_se (c0 s0 r0 : Int) (hr0 : 0 ≤ r0 ∧ r0 < 18446744073709551616) (a0 : Option Addr) (n0 k0 : Nat) (A0 : List Int) (c1 s1 r1 : Int) (hr1 : 0 ≤ r1 ∧ r1 < 18446744073709551616) (a1 : Option Addr) (n1 k1 : Nat) (A1 : List Int) (w : World) (lb0 : Lb w a0 n0 k0 A0) (lb1 : Lb w a1 n1 k1 A1) (hE0 : ends c0 s0 r0 = true) (hS0 : onS ((min n0 1000 : Nat) : Int) = false) (hE1 : ends c1 s1 r1 = false) : Calls Try.prog 6 #[.agg #[.int .i64 c0, .int .i64 s0, .int .u64 r0, .slice a0 n0 k0], .agg #[.int .i64 c1, .int .i64 s1, .int .u64 r1, .slice a1 n1 k1]] w (Woke w) := by
  obtain ⟨T, hT⟩ : ∃ T, T = Woke w := ⟨_, rfl⟩
  rw [← hT]
  replace hT := hide hT
  obtain ⟨m0, hm0⟩ : ∃ m, m = min n0 1000 := ⟨_, rfl⟩
  obtain ⟨B0, hB0⟩ : ∃ B, B = A0.take m0 := ⟨_, rfl⟩
  have hm90 : m0 ≤ 1000 := by omega
  rw [← hm0] at hS0
  replace hm0 := hide hm0; replace hB0 := hide hB0; replace lb0 := hide lb0
  obtain ⟨m1, hm1⟩ : ∃ m, m = min n1 1000 := ⟨_, rfl⟩
  obtain ⟨B1, hB1⟩ : ∃ B, B = A1.take m1 := ⟨_, rfl⟩
  have hm91 : m1 ≤ 1000 := by omega
  replace hm1 := hide hm1; replace hB1 := hide hB1; replace lb1 := hide lb1
  go_enter Try.func6, Try.ntmps6
  go_upto_region 1 with fail
  have hW := (((Bl.nil w).new #[.int .i64 c0, .int .i64 s0, .int .u64 r0, .slice a0 n0 k0] 78).new #[.int .i64 c1, .int .i64 s1, .int .u64 r1, .slice a1 n1 k1] 80)
  simp only [size_alloc, List.nil_append, List.cons_append] at hW
  generalize World.alloc _ _ = u at *
  replace hW : Bl w [⟨w.heap.size, #[.int .i64 c0, .int .i64 s0, .int .u64 r0, .slice a0 n0 k0], 78⟩, ⟨w.heap.size + 1, #[.int .i64 c1, .int .i64 s1, .int .u64 r1, .slice a1 n1 k1], 80⟩] u := hW
  refine wp_region_lit ?_
  refine list_call 9 #[] (by kernel_rfl) (by kernel_rfl) ((jwakes_ok u).mono ?_)
  rintro r u1 ⟨rfl, hg⟩
  replace hW := hW.more hg
  clear hg
  refine ⟨_, rfl, ?_⟩
  simp only [Act.put, List.setIfInBounds_toArray, List.set_cons_zero, List.set_cons_succ, List.getElem_toArray, List.getElem_cons_zero, List.getElem_cons_succ]
  refine list_val (.bool false) (by kernel_rfl) (by kernel_rfl) ?_
  simp only [Act.put, List.setIfInBounds_toArray, List.set_cons_zero, List.set_cons_succ, List.getElem_toArray, List.getElem_cons_zero, List.getElem_cons_succ]
  refine wpList_nil ?_
  replace hW := hide hW
  go_upto_region 3 with fail
  replace hW := unhide hW
  refine anyC_start 5 (fun (v : World) => Bl w [⟨w.heap.size, #[.int .i64 c0, .int .i64 s0, .int .u64 r0, .slice a0 n0 k0], 78⟩, ⟨w.heap.size + 1, #[.int .i64 c1, .int .i64 s1, .int .u64 r1, .slice a1 n1 k1], 80⟩] v) (by kernel_rfl) ?_
  replace hW := hW.drew
  generalize World.drew _ = x0 at *
  have hS : (fun (v : World) => Bl w [⟨w.heap.size, #[.int .i64 c0, .int .i64 s0, .int .u64 r0, .slice a0 n0 k0], 78⟩, ⟨w.heap.size + 1, #[.int .i64 c1, .int .i64 s1, .int .u64 r1, .slice a1 n1 k1], 80⟩] v) x0 := hW
  clear hW
  simp only [List.size_toArray, List.length_cons, List.length_nil, Array.replicate, List.replicate]
  refine anyC_take (i := 0) (v := (.pointer (some ⟨w.heap.size, 3, none⟩))) (fun _ => True) (fun _ _ => trivial) (.inl (fun _ => trivial)) rfl (by kernel_rfl) (by kernel_rfl) (by kernel_rfl) (by decide) (by kernel_rfl) (by decide) (fun _ _ _ h => h) (.inl ⟨by kernel_rfl, fun x_ hu => by kernel_rfl⟩) hS ?_
  simp only [Act.put, List.setIfInBounds_toArray, List.set_cons_zero, List.set_cons_succ, List.getElem_toArray, List.getElem_cons_zero, List.getElem_cons_succ]
  refine anyC_take (i := 3) (v := (.pointer (some ⟨w.heap.size + 1, 3, none⟩))) (fun _ => True) (fun _ _ => trivial) (.inl (fun _ => trivial)) rfl (by kernel_rfl) (by kernel_rfl) (by kernel_rfl) (by decide) (by kernel_rfl) (by decide) (fun _ _ _ h => h) (.inl ⟨by kernel_rfl, fun x_ hu => by kernel_rfl⟩) hS ?_
  simp only [Act.put, List.setIfInBounds_toArray, List.set_cons_zero, List.set_cons_succ, List.getElem_toArray, List.getElem_cons_zero, List.getElem_cons_succ]
  refine anyC_take (i := 4) (v := (.slice a1 n1 k1)) (fun (v : World) => Bl w [⟨w.heap.size, #[.int .i64 c0, .int .i64 s0, .int .u64 r0, .slice a0 n0 k0], 78⟩, ⟨w.heap.size + 1, #[.int .i64 c1, .int .i64 s1, .int .u64 r1, .slice a1 n1 k1], 80⟩] v) (fun _ h_ => h_) (.inr (by kernel_rfl)) rfl (by kernel_rfl) (by kernel_rfl) (by kernel_rfl) (by decide) (by kernel_rfl) (by decide) (fun _ _ _ h => h) (.inl ⟨by kernel_rfl, fun x_ hu => exec_sby _ (.tmp 16) rfl (w.heap.size + 1) 3 (by kernel_rfl) a1 n1 k1 (cell_of (hu.get 1 (x := ⟨w.heap.size + 1, #[.int .i64 c1, .int .i64 s1, .int .u64 r1, .slice a1 n1 k1], 80⟩) rfl) (i := 3) rfl)⟩) hS ?_
  simp only [Act.put, List.setIfInBounds_toArray, List.set_cons_zero, List.set_cons_succ, List.getElem_toArray, List.getElem_cons_zero, List.getElem_cons_succ]
  refine anyC_one (i := 1) (by kernel_rfl) rfl (fun K hK => ?_)
  refine step_val (.slice a0 n0 k0) _ (by kernel_rfl) (exec_sby _ (.tmp 13) rfl (w.heap.size) 3 (by kernel_rfl) a0 n0 k0 (cell_of (hS.get 0 (x := ⟨w.heap.size, #[.int .i64 c0, .int .i64 s0, .int .u64 r0, .slice a0 n0 k0], 78⟩) rfl) (i := 3) rfl)) ?_
  refine hK.out _ _ hS (fun _ => ?_)
  clear hK K
  simp only [Act.put, List.setIfInBounds_toArray, List.set_cons_zero, List.set_cons_succ, List.getElem_toArray, List.getElem_cons_zero, List.getElem_cons_succ]
  refine anyC_one (i := 2) (by kernel_rfl) rfl (fun K hK => ?_)
  refine step_callw (by kernel_rfl) 10 #[.slice a0 n0 k0] (by kernel_rfl) ((jcut_ok A0 a0 n0 k0 x0 ((unhide lb0).gr hS.gr)).mono ?_)
  rintro r y0 ⟨t0, rfl, hc, rfl⟩
  refine ⟨_, rfl, ?_⟩
  have hl0 := hc w (unhide lb0)
  rw [← unhide hm0, ← unhide hB0] at hl0
  rw [← unhide hm0]
  replace hl0 := hide hl0
  clear hc lb0 hB0
  refine hK.out _ _ hS (fun _ => ?_)
  clear hK K
  simp only [Act.put, List.setIfInBounds_toArray, List.set_cons_zero, List.set_cons_succ, List.getElem_toArray, List.getElem_cons_zero, List.getElem_cons_succ]
  refine anyC_take (i := 6) (v := (.pointer (some ⟨w.heap.size, 3, none⟩))) (fun _ => True) (fun _ _ => trivial) (.inl (fun _ => trivial)) rfl (by kernel_rfl) (by kernel_rfl) (by kernel_rfl) (by decide) (by kernel_rfl) (by decide) (fun _ _ _ h => h) (.inl ⟨by kernel_rfl, fun x_ hu => by kernel_rfl⟩) hS ?_
  simp only [Act.put, List.setIfInBounds_toArray, List.set_cons_zero, List.set_cons_succ, List.getElem_toArray, List.getElem_cons_zero, List.getElem_cons_succ]
  refine anyC_last (by kernel_rfl) rfl (fun K hK => ?_)
  refine step_callw (by kernel_rfl) 10 #[.slice a1 n1 k1] (by kernel_rfl) ((jcut_ok A1 a1 n1 k1 _ ((unhide lb1).gr hS.gr)).mono ?_)
  rintro r y1 ⟨t1, rfl, hc, rfl⟩
  refine ⟨_, rfl, ?_⟩
  have hl1 := hc w (unhide lb1)
  rw [← unhide hm1, ← unhide hB1] at hl1
  rw [← unhide hm1]
  replace hl1 := hide hl1
  clear hc lb1 hB1
  refine hK.out _ _ ?_
  clear hK K
  simp only [Act.put, List.setIfInBounds_toArray, List.set_cons_zero, List.set_cons_succ, List.getElem_toArray, List.getElem_cons_zero, List.getElem_cons_succ]
  refine any_one (i := 7) (by kernel_rfl) rfl (fun K hK => ?_)
  have c4 := cell_of (hS.get 0 (x := ⟨w.heap.size, #[.int .i64 c0, .int .i64 s0, .int .u64 r0, .slice a0 n0 k0], 78⟩) rfl) (i := 3) rfl
  have fz := froz_of (i := 3) (hS.get 0 (x := ⟨w.heap.size, #[.int .i64 c0, .int .i64 s0, .int .u64 r0, .slice a0 n0 k0], 78⟩) rfl)
  have hB2 := hS.cell 0 (x := ⟨w.heap.size, #[.int .i64 c0, .int .i64 s0, .int .u64 r0, .slice a0 n0 k0], 78⟩) rfl 3 (.slice t0 m0 k0)
  simp only [List.set_cons_zero, List.set_cons_succ] at hB2
  replace hB2 : Bl w [⟨w.heap.size, #[.int .i64 c0, .int .i64 s0, .int .u64 r0, .slice t0 m0 k0], 78⟩, ⟨w.heap.size + 1, #[.int .i64 c1, .int .i64 s1, .int .u64 r1, .slice a1 n1 k1], 80⟩] _ := hB2
  clear hS
  replace hB2 := hide hB2
  replace hK := hide hK
  dsimp only at c4 fz
  go_simp
  refine (unhide hK).out _ _ trivial (fun _ => ?_)
  clear hK K c4 fz
  have hS := unhide hB2
  clear hB2
  generalize World.setCell _ _ _ = st0 at *
  replace hS : Bl w [⟨w.heap.size, #[.int .i64 c0, .int .i64 s0, .int .u64 r0, .slice t0 m0 k0], 78⟩, ⟨w.heap.size + 1, #[.int .i64 c1, .int .i64 s1, .int .u64 r1, .slice a1 n1 k1], 80⟩] st0 := hS
  simp only [Act.put, List.setIfInBounds_toArray, List.set_cons_zero, List.set_cons_succ, List.getElem_toArray, List.getElem_cons_zero, List.getElem_cons_succ]
  refine any_take (i := 8) (v := (.pointer (some ⟨w.heap.size + 1, 3, none⟩))) #[true, true, true, true, true, true, true, true, false, false] rfl (by kernel_rfl) (by kernel_rfl) (by kernel_rfl) (by kernel_rfl) (fun _ _ _ h => h) (.inl ⟨by kernel_rfl, fun x_ hu => by kernel_rfl⟩) trivial ?_
  simp only [Act.put, List.setIfInBounds_toArray, List.set_cons_zero, List.set_cons_succ, List.getElem_toArray, List.getElem_cons_zero, List.getElem_cons_succ]
  refine any_one (i := 9) (by kernel_rfl) rfl (fun K hK => ?_)
  have c4 := cell_of (hS.get 1 (x := ⟨w.heap.size + 1, #[.int .i64 c1, .int .i64 s1, .int .u64 r1, .slice a1 n1 k1], 80⟩) rfl) (i := 3) rfl
  have fz := froz_of (i := 3) (hS.get 1 (x := ⟨w.heap.size + 1, #[.int .i64 c1, .int .i64 s1, .int .u64 r1, .slice a1 n1 k1], 80⟩) rfl)
  have hB2 := hS.cell 1 (x := ⟨w.heap.size + 1, #[.int .i64 c1, .int .i64 s1, .int .u64 r1, .slice a1 n1 k1], 80⟩) rfl 3 (.slice t1 m1 k1)
  simp only [List.set_cons_zero, List.set_cons_succ] at hB2
  replace hB2 : Bl w [⟨w.heap.size, #[.int .i64 c0, .int .i64 s0, .int .u64 r0, .slice t0 m0 k0], 78⟩, ⟨w.heap.size + 1, #[.int .i64 c1, .int .i64 s1, .int .u64 r1, .slice t1 m1 k1], 80⟩] _ := hB2
  clear hS
  replace hB2 := hide hB2
  replace hK := hide hK
  dsimp only at c4 fz
  go_simp
  refine (unhide hK).out _ _ trivial (fun _ => ?_)
  clear hK K c4 fz
  have hS := unhide hB2
  clear hB2
  generalize World.setCell _ _ _ = st1 at *
  replace hS : Bl w [⟨w.heap.size, #[.int .i64 c0, .int .i64 s0, .int .u64 r0, .slice t0 m0 k0], 78⟩, ⟨w.heap.size + 1, #[.int .i64 c1, .int .i64 s1, .int .u64 r1, .slice t1 m1 k1], 80⟩] st1 := hS
  simp only [Act.put, List.setIfInBounds_toArray, List.set_cons_zero, List.set_cons_succ, List.getElem_toArray, List.getElem_cons_zero, List.getElem_cons_succ]
  refine any_done (by kernel_rfl) ?_
  have hW : Bl w [⟨w.heap.size, #[.int .i64 c0, .int .i64 s0, .int .u64 r0, .slice t0 m0 k0], 78⟩, ⟨w.heap.size + 1, #[.int .i64 c1, .int .i64 s1, .int .u64 r1, .slice t1 m1 k1], 80⟩] st1 := hS
  clear hS
  replace hW := hide hW
  go_upto_region 4 with fail
  replace hW := unhide hW
  refine any_start (S := fun (v : World) => Bl w [⟨w.heap.size, #[.int .i64 c0, .int .i64 s0, .int .u64 r0, .slice t0 m0 k0], 78⟩, ⟨w.heap.size + 1, #[.int .i64 c1, .int .i64 s1, .int .u64 r1, .slice t1 m1 k1], 80⟩] v) (by kernel_rfl) ?_
  replace hW := hW.drew
  generalize World.drew _ = x4 at *
  have hS : (fun (v : World) => Bl w [⟨w.heap.size, #[.int .i64 c0, .int .i64 s0, .int .u64 r0, .slice t0 m0 k0], 78⟩, ⟨w.heap.size + 1, #[.int .i64 c1, .int .i64 s1, .int .u64 r1, .slice t1 m1 k1], 80⟩] v) x4 := hW
  clear hW
  simp only [List.size_toArray, List.length_cons, List.length_nil, Array.replicate, List.replicate]
  refine any_take (i := 0) (v := (.pointer (some ⟨w.heap.size, 3, none⟩))) #[false, false, false, false, false, false, false, false] rfl (by kernel_rfl) (by kernel_rfl) (by kernel_rfl) (by kernel_rfl) (fun _ _ _ h => h) (.inl ⟨by kernel_rfl, fun x_ hu => by kernel_rfl⟩) hS ?_
  simp only [Act.put, List.setIfInBounds_toArray, List.set_cons_zero, List.set_cons_succ, List.getElem_toArray, List.getElem_cons_zero, List.getElem_cons_succ]
  refine any_take (i := 1) (v := (.slice t0 m0 k0)) #[true, false, false, false, false, false, false, false] rfl (by kernel_rfl) (by kernel_rfl) (by kernel_rfl) (by kernel_rfl) (fun _ _ _ h => h) (.inl ⟨by kernel_rfl, fun x_ hu => exec_sby _ (.tmp 21) rfl (w.heap.size) 3 (by kernel_rfl) t0 m0 k0 (cell_of (hu.get 0 (x := ⟨w.heap.size, #[.int .i64 c0, .int .i64 s0, .int .u64 r0, .slice t0 m0 k0], 78⟩) rfl) (i := 3) rfl)⟩) hS ?_
  simp only [Act.put, List.setIfInBounds_toArray, List.set_cons_zero, List.set_cons_succ, List.getElem_toArray, List.getElem_cons_zero, List.getElem_cons_succ]
  refine any_take (i := 3) (v := (.pointer (some ⟨w.heap.size + 1, 3, none⟩))) #[true, true, false, false, false, false, false, false] rfl (by kernel_rfl) (by kernel_rfl) (by kernel_rfl) (by kernel_rfl) (fun _ _ _ h => h) (.inl ⟨by kernel_rfl, fun x_ hu => by kernel_rfl⟩) hS ?_
  simp only [Act.put, List.setIfInBounds_toArray, List.set_cons_zero, List.set_cons_succ, List.getElem_toArray, List.getElem_cons_zero, List.getElem_cons_succ]
  refine any_take (i := 4) (v := (.slice t1 m1 k1)) #[true, true, false, true, false, false, false, false] rfl (by kernel_rfl) (by kernel_rfl) (by kernel_rfl) (by kernel_rfl) (fun _ _ _ h => h) (.inl ⟨by kernel_rfl, fun x_ hu => exec_sby _ (.tmp 24) rfl (w.heap.size + 1) 3 (by kernel_rfl) t1 m1 k1 (cell_of (hu.get 1 (x := ⟨w.heap.size + 1, #[.int .i64 c1, .int .i64 s1, .int .u64 r1, .slice t1 m1 k1], 80⟩) rfl) (i := 3) rfl)⟩) hS ?_
  simp only [Act.put, List.setIfInBounds_toArray, List.set_cons_zero, List.set_cons_succ, List.getElem_toArray, List.getElem_cons_zero, List.getElem_cons_succ]
  refine any_one (i := 2) (by kernel_rfl) rfl (fun K hK => ?_)
  refine step_callw (by kernel_rfl) 18 #[.slice t0 m0 k0] (by kernel_rfl) ((jroom_ok B0 t0 m0 k0 hm90 _ ((unhide hl0).gr hS.gr)).mono ?_)
  rintro r z0 ⟨q0, d0, rfl, hc1, hc2, hgo, hat, hg⟩
  refine ⟨_, rfl, ?_⟩
  rw [(unhide hl0).len] at hc1 ⊢
  have ho0 : Lb z0 (some ⟨q0, 0, none⟩) m0 d0 B0 := by
    have h9 := hat.take m0
    rw [List.take_append_of_le_length (by rw [(unhide hl0).len]; exact Nat.le_refl _), List.take_of_length_le (by rw [(unhide hl0).len]; exact Nat.le_refl _)] at h9
    exact ⟨(unhide hl0).len, (unhide hl0).isB, .inr ⟨q0, 0, rfl, h9⟩, by omega, hc2⟩
  replace hS : (fun (v : World) => Bl w [⟨w.heap.size, #[.int .i64 c0, .int .i64 s0, .int .u64 r0, .slice t0 m0 k0], 78⟩, ⟨w.heap.size + 1, #[.int .i64 c1, .int .i64 s1, .int .u64 r1, .slice t1 m1 k1], 80⟩] v) z0 := hS.more hg
  replace ho0 := hide ho0
  clear hg hat hc1 hc2 hgo
  refine hK.out _ _ hS (fun _ => ?_)
  clear hK K
  simp only [Act.put, List.setIfInBounds_toArray, List.set_cons_zero, List.set_cons_succ, List.getElem_toArray, List.getElem_cons_zero, List.getElem_cons_succ]
  refine any_one (i := 5) (by kernel_rfl) rfl (fun K hK => ?_)
  refine step_callw (by kernel_rfl) 18 #[.slice t1 m1 k1] (by kernel_rfl) ((jroom_ok B1 t1 m1 k1 hm91 _ ((unhide hl1).gr hS.gr)).mono ?_)
  rintro r z1 ⟨q1, d1, rfl, hc1, hc2, hgo, hat, hg⟩
  refine ⟨_, rfl, ?_⟩
  rw [(unhide hl1).len] at hc1 ⊢
  have ho1 : Lb z1 (some ⟨q1, 0, none⟩) m1 d1 B1 := by
    have h9 := hat.take m1
    rw [List.take_append_of_le_length (by rw [(unhide hl1).len]; exact Nat.le_refl _), List.take_of_length_le (by rw [(unhide hl1).len]; exact Nat.le_refl _)] at h9
    exact ⟨(unhide hl1).len, (unhide hl1).isB, .inr ⟨q1, 0, rfl, h9⟩, by omega, hc2⟩
  replace hS : (fun (v : World) => Bl w [⟨w.heap.size, #[.int .i64 c0, .int .i64 s0, .int .u64 r0, .slice t0 m0 k0], 78⟩, ⟨w.heap.size + 1, #[.int .i64 c1, .int .i64 s1, .int .u64 r1, .slice t1 m1 k1], 80⟩] v) z1 := hS.more hg
  replace ho0 := (unhide ho0).gr hg
  clear hg hat hc1 hc2 hgo
  refine hK.out _ _ hS (fun _ => ?_)
  clear hK K
  simp only [Act.put, List.setIfInBounds_toArray, List.set_cons_zero, List.set_cons_succ, List.getElem_toArray, List.getElem_cons_zero, List.getElem_cons_succ]
  refine any_one (i := 6) (by kernel_rfl) rfl (fun K hK => ?_)
  replace hK := hide hK
  go_simp
  refine (unhide hK).out _ _ hS (fun _ => ?_)
  clear hK K
  refine any_one (i := 7) (by kernel_rfl) rfl (fun K hK => ?_)
  replace hK := hide hK
  go_simp
  refine (unhide hK).out _ _ hS (fun _ => ?_)
  clear hK K
  refine any_done (by kernel_rfl) ?_
  have hb0 := hide (hS.get 0 (x := ⟨w.heap.size, #[.int .i64 c0, .int .i64 s0, .int .u64 r0, .slice t0 m0 k0], 78⟩) rfl)
  have hb1 := hide (hS.get 1 (x := ⟨w.heap.size + 1, #[.int .i64 c1, .int .i64 s1, .int .u64 r1, .slice t1 m1 k1], 80⟩) rfl)
  dsimp only at hb0 hb1
  have hWg := hide hS.gr
  replace hl0 := hide ((unhide hl0).gr hS.gr)
  replace hl1 := hide ((unhide hl1).gr hS.gr)
  replace ho0 := hide ho0; replace ho1 := hide ho1
  clear hS
  have hV := hide (Gr.refl z1)
  go_upto_region 5 with fail
  refine wp_region_lit ?_
  refine list_val (.pointer (some ⟨w.heap.size, 0, none⟩)) (by kernel_rfl) (by kernel_rfl) ?_
  simp only [Act.put, List.setIfInBounds_toArray, List.set_cons_zero, List.set_cons_succ, List.getElem_toArray, List.getElem_cons_zero, List.getElem_cons_succ]
  refine list_val (.int .i64 c0) (by kernel_rfl) (exec_i64 _ (.tmp 28) rfl (w.heap.size) 0 (by kernel_rfl) c0 (cell_of ((unhide hV).blk (unhide hb0)) (i := 0) rfl)) ?_
  simp only [Act.put, List.setIfInBounds_toArray, List.set_cons_zero, List.set_cons_succ, List.getElem_toArray, List.getElem_cons_zero, List.getElem_cons_succ]
  refine list_val (.pointer (some ⟨w.heap.size, 1, none⟩)) (by kernel_rfl) (by kernel_rfl) ?_
  simp only [Act.put, List.setIfInBounds_toArray, List.set_cons_zero, List.set_cons_succ, List.getElem_toArray, List.getElem_cons_zero, List.getElem_cons_succ]
  refine list_val (.int .i64 s0) (by kernel_rfl) (exec_i64 _ (.tmp 30) rfl (w.heap.size) 1 (by kernel_rfl) s0 (cell_of ((unhide hV).blk (unhide hb0)) (i := 1) rfl)) ?_
  simp only [Act.put, List.setIfInBounds_toArray, List.set_cons_zero, List.set_cons_succ, List.getElem_toArray, List.getElem_cons_zero, List.getElem_cons_succ]
  refine list_val (.pointer (some ⟨w.heap.size, 2, none⟩)) (by kernel_rfl) (by kernel_rfl) ?_
  simp only [Act.put, List.setIfInBounds_toArray, List.set_cons_zero, List.set_cons_succ, List.getElem_toArray, List.getElem_cons_zero, List.getElem_cons_succ]
  refine list_val (.int .u64 r0) (by kernel_rfl) (exec_u64 _ (.tmp 32) rfl (w.heap.size) 2 (by kernel_rfl) r0 (cell_of ((unhide hV).blk (unhide hb0)) (i := 2) rfl)) ?_
  simp only [Act.put, List.setIfInBounds_toArray, List.set_cons_zero, List.set_cons_succ, List.getElem_toArray, List.getElem_cons_zero, List.getElem_cons_succ]
  refine list_val (.slice (some ⟨q0, 0, none⟩) m0 d0) (by kernel_rfl) (by kernel_rfl) ?_
  simp only [Act.put, List.setIfInBounds_toArray, List.set_cons_zero, List.set_cons_succ, List.getElem_toArray, List.getElem_cons_zero, List.getElem_cons_succ]
  refine list_val (.agg #[.int .i64 c0, .int .i64 s0, .int .u64 r0, .slice (some ⟨q0, 0, none⟩) m0 d0]) (by kernel_rfl) (by kernel_rfl) ?_
  simp only [Act.put, List.setIfInBounds_toArray, List.set_cons_zero, List.set_cons_succ, List.getElem_toArray, List.getElem_cons_zero, List.getElem_cons_succ]
  refine list_call 36 #[.agg #[.int .i64 c0, .int .i64 s0, .int .u64 r0, .slice (some ⟨q0, 0, none⟩) m0 d0]] (by kernel_rfl) (by kernel_rfl) ((fputup_no c0 s0 r0 (some ⟨q0, 0, none⟩) m0 d0 (.inr hS0) z1).mono ?_)
  rintro r w1_ ⟨rfl, hg⟩
  replace hV := hide ((unhide hV).trans hg)
  clear hg
  refine ⟨_, rfl, ?_⟩
  simp only [Act.put, List.setIfInBounds_toArray, List.set_cons_zero, List.set_cons_succ, List.getElem_toArray, List.getElem_cons_zero, List.getElem_cons_succ]
  refine list_val (.tuple #[.slice none 0 0, .int .i64 241]) (by kernel_rfl) (by kernel_rfl) ?_
  simp only [Act.put, List.setIfInBounds_toArray, List.set_cons_zero, List.set_cons_succ, List.getElem_toArray, List.getElem_cons_zero, List.getElem_cons_succ]
  refine list_val (.slice none 0 0) (by kernel_rfl) (by kernel_rfl) ?_
  simp only [Act.put, List.setIfInBounds_toArray, List.set_cons_zero, List.set_cons_succ, List.getElem_toArray, List.getElem_cons_zero, List.getElem_cons_succ]
  refine list_val (.int .i64 241) (by kernel_rfl) (by kernel_rfl) ?_
  simp only [Act.put, List.setIfInBounds_toArray, List.set_cons_zero, List.set_cons_succ, List.getElem_toArray, List.getElem_cons_zero, List.getElem_cons_succ]
  (refine wpList_step fun K hK => ?_; replace hK := hide hK; go_simp; refine unhide hK _ _ ?_; clear hK K)
  (refine wpList_step fun K hK => ?_; replace hK := hide hK; go_simp; refine unhide hK _ _ ?_; clear hK K)
  refine wpList_nil ?_
  go_upto_region 6 with fail
  refine wp_region_lit ?_
  refine list_val (.pointer (some ⟨w.heap.size + 1, 0, none⟩)) (by kernel_rfl) (by kernel_rfl) ?_
  simp only [Act.put, List.setIfInBounds_toArray, List.set_cons_zero, List.set_cons_succ, List.getElem_toArray, List.getElem_cons_zero, List.getElem_cons_succ]
  refine list_val (.int .i64 c1) (by kernel_rfl) (exec_i64 _ (.tmp 40) rfl (w.heap.size + 1) 0 (by kernel_rfl) c1 (cell_of ((unhide hV).blk (unhide hb1)) (i := 0) rfl)) ?_
  simp only [Act.put, List.setIfInBounds_toArray, List.set_cons_zero, List.set_cons_succ, List.getElem_toArray, List.getElem_cons_zero, List.getElem_cons_succ]
  refine list_val (.pointer (some ⟨w.heap.size + 1, 1, none⟩)) (by kernel_rfl) (by kernel_rfl) ?_
  simp only [Act.put, List.setIfInBounds_toArray, List.set_cons_zero, List.set_cons_succ, List.getElem_toArray, List.getElem_cons_zero, List.getElem_cons_succ]
  refine list_val (.int .i64 s1) (by kernel_rfl) (exec_i64 _ (.tmp 42) rfl (w.heap.size + 1) 1 (by kernel_rfl) s1 (cell_of ((unhide hV).blk (unhide hb1)) (i := 1) rfl)) ?_
  simp only [Act.put, List.setIfInBounds_toArray, List.set_cons_zero, List.set_cons_succ, List.getElem_toArray, List.getElem_cons_zero, List.getElem_cons_succ]
  refine list_val (.pointer (some ⟨w.heap.size + 1, 2, none⟩)) (by kernel_rfl) (by kernel_rfl) ?_
  simp only [Act.put, List.setIfInBounds_toArray, List.set_cons_zero, List.set_cons_succ, List.getElem_toArray, List.getElem_cons_zero, List.getElem_cons_succ]
  refine list_val (.int .u64 r1) (by kernel_rfl) (exec_u64 _ (.tmp 44) rfl (w.heap.size + 1) 2 (by kernel_rfl) r1 (cell_of ((unhide hV).blk (unhide hb1)) (i := 2) rfl)) ?_
  simp only [Act.put, List.setIfInBounds_toArray, List.set_cons_zero, List.set_cons_succ, List.getElem_toArray, List.getElem_cons_zero, List.getElem_cons_succ]
  refine list_val (.slice (some ⟨q1, 0, none⟩) m1 d1) (by kernel_rfl) (by kernel_rfl) ?_
  simp only [Act.put, List.setIfInBounds_toArray, List.set_cons_zero, List.set_cons_succ, List.getElem_toArray, List.getElem_cons_zero, List.getElem_cons_succ]
  refine list_val (.agg #[.int .i64 c1, .int .i64 s1, .int .u64 r1, .slice (some ⟨q1, 0, none⟩) m1 d1]) (by kernel_rfl) (by kernel_rfl) ?_
  simp only [Act.put, List.setIfInBounds_toArray, List.set_cons_zero, List.set_cons_succ, List.getElem_toArray, List.getElem_cons_zero, List.getElem_cons_succ]
  refine list_call 37 #[.agg #[.int .i64 c1, .int .i64 s1, .int .u64 r1, .slice (some ⟨q1, 0, none⟩) m1 d1]] (by kernel_rfl) (by kernel_rfl) ((fputdn_no c1 s1 r1 (some ⟨q1, 0, none⟩) m1 d1 (.inl hE1) w1_).mono ?_)
  rintro r w2_ ⟨rfl, hg⟩
  replace hV := hide ((unhide hV).trans hg)
  clear hg
  refine ⟨_, rfl, ?_⟩
  simp only [Act.put, List.setIfInBounds_toArray, List.set_cons_zero, List.set_cons_succ, List.getElem_toArray, List.getElem_cons_zero, List.getElem_cons_succ]
  refine list_val (.tuple #[.slice none 0 0, .int .i64 241]) (by kernel_rfl) (by kernel_rfl) ?_
  simp only [Act.put, List.setIfInBounds_toArray, List.set_cons_zero, List.set_cons_succ, List.getElem_toArray, List.getElem_cons_zero, List.getElem_cons_succ]
  refine list_val (.slice none 0 0) (by kernel_rfl) (by kernel_rfl) ?_
  simp only [Act.put, List.setIfInBounds_toArray, List.set_cons_zero, List.set_cons_succ, List.getElem_toArray, List.getElem_cons_zero, List.getElem_cons_succ]
  refine list_val (.int .i64 241) (by kernel_rfl) (by kernel_rfl) ?_
  simp only [Act.put, List.setIfInBounds_toArray, List.set_cons_zero, List.set_cons_succ, List.getElem_toArray, List.getElem_cons_zero, List.getElem_cons_succ]
  (refine wpList_step fun K hK => ?_; replace hK := hide hK; go_simp; refine unhide hK _ _ ?_; clear hK K)
  (refine wpList_step fun K hK => ?_; replace hK := hide hK; go_simp; refine unhide hK _ _ ?_; clear hK K)
  refine wpList_nil ?_
  go_upto_region 7 with fail
  refine wp_region_lit ?_
  refine list_val (.slice (some ⟨q0, 0, none⟩) m0 d0) (by kernel_rfl) (by kernel_rfl) ?_
  simp only [Act.put, List.setIfInBounds_toArray, List.set_cons_zero, List.set_cons_succ, List.getElem_toArray, List.getElem_cons_zero, List.getElem_cons_succ]
  refine list_val (.pointer (some ⟨w.heap.size, 3, none⟩)) (by kernel_rfl) (by kernel_rfl) ?_
  simp only [Act.put, List.setIfInBounds_toArray, List.set_cons_zero, List.set_cons_succ, List.getElem_toArray, List.getElem_cons_zero, List.getElem_cons_succ]
  refine list_val (.slice t0 m0 k0) (by kernel_rfl) (exec_sby _ (.tmp 52) rfl (w.heap.size) 3 (by kernel_rfl) t0 m0 k0 (cell_of ((unhide hV).blk (unhide hb0)) (i := 3) rfl)) ?_
  simp only [Act.put, List.setIfInBounds_toArray, List.set_cons_zero, List.set_cons_succ, List.getElem_toArray, List.getElem_cons_zero, List.getElem_cons_succ]
  refine list_call 11 #[.slice (some ⟨q0, 0, none⟩) m0 d0, .slice t0 m0 k0] (by kernel_rfl) (by kernel_rfl) ((beq_ok B0 B0 (some ⟨q0, 0, none⟩) t0 m0 m0 d0 k0 w2_ ((unhide ho0).gr (unhide hV)) ((unhide hl0).gr (unhide hV))).mono ?_)
  rintro r w3_ ⟨rfl, hg⟩
  rw [decide_eq_true rfl]
  replace hV := hide ((unhide hV).trans hg)
  clear hg
  refine ⟨_, rfl, ?_⟩
  simp only [Act.put, List.setIfInBounds_toArray, List.set_cons_zero, List.set_cons_succ, List.getElem_toArray, List.getElem_cons_zero, List.getElem_cons_succ]
  refine list_val (.bool false) (by kernel_rfl) (by kernel_rfl) ?_
  simp only [Act.put, List.setIfInBounds_toArray, List.set_cons_zero, List.set_cons_succ, List.getElem_toArray, List.getElem_cons_zero, List.getElem_cons_succ]
  refine list_val (.bool false) (by kernel_rfl) (by kernel_rfl) ?_
  simp only [Act.put, List.setIfInBounds_toArray, List.set_cons_zero, List.set_cons_succ, List.getElem_toArray, List.getElem_cons_zero, List.getElem_cons_succ]
  refine list_val (.slice (some ⟨q1, 0, none⟩) m1 d1) (by kernel_rfl) (by kernel_rfl) ?_
  simp only [Act.put, List.setIfInBounds_toArray, List.set_cons_zero, List.set_cons_succ, List.getElem_toArray, List.getElem_cons_zero, List.getElem_cons_succ]
  refine list_val (.pointer (some ⟨w.heap.size + 1, 3, none⟩)) (by kernel_rfl) (by kernel_rfl) ?_
  simp only [Act.put, List.setIfInBounds_toArray, List.set_cons_zero, List.set_cons_succ, List.getElem_toArray, List.getElem_cons_zero, List.getElem_cons_succ]
  refine list_val (.slice t1 m1 k1) (by kernel_rfl) (exec_sby _ (.tmp 58) rfl (w.heap.size + 1) 3 (by kernel_rfl) t1 m1 k1 (cell_of ((unhide hV).blk (unhide hb1)) (i := 3) rfl)) ?_
  simp only [Act.put, List.setIfInBounds_toArray, List.set_cons_zero, List.set_cons_succ, List.getElem_toArray, List.getElem_cons_zero, List.getElem_cons_succ]
  refine list_call 11 #[.slice (some ⟨q1, 0, none⟩) m1 d1, .slice t1 m1 k1] (by kernel_rfl) (by kernel_rfl) ((beq_ok B1 B1 (some ⟨q1, 0, none⟩) t1 m1 m1 d1 k1 w3_ ((unhide ho1).gr (unhide hV)) ((unhide hl1).gr (unhide hV))).mono ?_)
  rintro r w4_ ⟨rfl, hg⟩
  rw [decide_eq_true rfl]
  replace hV := hide ((unhide hV).trans hg)
  clear hg
  refine ⟨_, rfl, ?_⟩
  simp only [Act.put, List.setIfInBounds_toArray, List.set_cons_zero, List.set_cons_succ, List.getElem_toArray, List.getElem_cons_zero, List.getElem_cons_succ]
  refine list_val (.bool false) (by kernel_rfl) (by kernel_rfl) ?_
  simp only [Act.put, List.setIfInBounds_toArray, List.set_cons_zero, List.set_cons_succ, List.getElem_toArray, List.getElem_cons_zero, List.getElem_cons_succ]
  refine list_val (.bool false) (by kernel_rfl) (by kernel_rfl) ?_
  simp only [Act.put, List.setIfInBounds_toArray, List.set_cons_zero, List.set_cons_succ, List.getElem_toArray, List.getElem_cons_zero, List.getElem_cons_succ]
  refine wpList_nil ?_
  go_upto_region 9 with fail
  refine wp_region_lit ?_
  refine list_val (.pointer (some ⟨w.heap.size, 0, none⟩)) (by kernel_rfl) (by kernel_rfl) ?_
  simp only [Act.put, List.setIfInBounds_toArray, List.set_cons_zero, List.set_cons_succ, List.getElem_toArray, List.getElem_cons_zero, List.getElem_cons_succ]
  refine list_val (.int .i64 c0) (by kernel_rfl) (exec_i64 _ (.tmp 63) rfl (w.heap.size) 0 (by kernel_rfl) c0 (cell_of ((unhide hV).blk (unhide hb0)) (i := 0) rfl)) ?_
  simp only [Act.put, List.setIfInBounds_toArray, List.set_cons_zero, List.set_cons_succ, List.getElem_toArray, List.getElem_cons_zero, List.getElem_cons_succ]
  refine list_val (.pointer (some ⟨w.heap.size, 1, none⟩)) (by kernel_rfl) (by kernel_rfl) ?_
  simp only [Act.put, List.setIfInBounds_toArray, List.set_cons_zero, List.set_cons_succ, List.getElem_toArray, List.getElem_cons_zero, List.getElem_cons_succ]
  refine list_val (.int .i64 s0) (by kernel_rfl) (exec_i64 _ (.tmp 65) rfl (w.heap.size) 1 (by kernel_rfl) s0 (cell_of ((unhide hV).blk (unhide hb0)) (i := 1) rfl)) ?_
  simp only [Act.put, List.setIfInBounds_toArray, List.set_cons_zero, List.set_cons_succ, List.getElem_toArray, List.getElem_cons_zero, List.getElem_cons_succ]
  refine list_val (.pointer (some ⟨w.heap.size, 2, none⟩)) (by kernel_rfl) (by kernel_rfl) ?_
  simp only [Act.put, List.setIfInBounds_toArray, List.set_cons_zero, List.set_cons_succ, List.getElem_toArray, List.getElem_cons_zero, List.getElem_cons_succ]
  refine list_val (.int .u64 r0) (by kernel_rfl) (exec_u64 _ (.tmp 67) rfl (w.heap.size) 2 (by kernel_rfl) r0 (cell_of ((unhide hV).blk (unhide hb0)) (i := 2) rfl)) ?_
  simp only [Act.put, List.setIfInBounds_toArray, List.set_cons_zero, List.set_cons_succ, List.getElem_toArray, List.getElem_cons_zero, List.getElem_cons_succ]
  refine list_call 38 #[.int .i64 c0, .int .i64 s0, .int .u64 r0] (by kernel_rfl) (by kernel_rfl) ((qends_ok c0 s0 r0 w4_).mono ?_)
  rintro r w5_ ⟨rfl, rfl⟩
  rw [hE0]
  refine ⟨_, rfl, ?_⟩
  simp only [Act.put, List.setIfInBounds_toArray, List.set_cons_zero, List.set_cons_succ, List.getElem_toArray, List.getElem_cons_zero, List.getElem_cons_succ]
  refine list_val (.bool true) (by kernel_rfl) (by kernel_rfl) ?_
  simp only [Act.put, List.setIfInBounds_toArray, List.set_cons_zero, List.set_cons_succ, List.getElem_toArray, List.getElem_cons_zero, List.getElem_cons_succ]
  refine list_val (.pointer (some ⟨w.heap.size, 3, none⟩)) (by kernel_rfl) (by kernel_rfl) ?_
  simp only [Act.put, List.setIfInBounds_toArray, List.set_cons_zero, List.set_cons_succ, List.getElem_toArray, List.getElem_cons_zero, List.getElem_cons_succ]
  refine list_val (.slice t0 m0 k0) (by kernel_rfl) (exec_sby _ (.tmp 71) rfl (w.heap.size) 3 (by kernel_rfl) t0 m0 k0 (cell_of ((unhide hV).blk (unhide hb0)) (i := 3) rfl)) ?_
  simp only [Act.put, List.setIfInBounds_toArray, List.set_cons_zero, List.set_cons_succ, List.getElem_toArray, List.getElem_cons_zero, List.getElem_cons_succ]
  refine list_val (.int .i64 (m0 : Int)) (by kernel_rfl) (by kernel_rfl) ?_
  simp only [Act.put, List.setIfInBounds_toArray, List.set_cons_zero, List.set_cons_succ, List.getElem_toArray, List.getElem_cons_zero, List.getElem_cons_succ]
  refine list_call 39 #[.int .i64 (m0 : Int)] (by kernel_rfl) (by kernel_rfl) ((qon_ok (m0 : Int) w5_).mono ?_)
  rintro r w6_ ⟨h0, rfl, hh0, rfl⟩
  rw [hS0, decide_eq_false_iff_not] at hh0
  refine ⟨_, rfl, ?_⟩
  simp only [Act.put, List.setIfInBounds_toArray, List.set_cons_zero, List.set_cons_succ, List.getElem_toArray, List.getElem_cons_zero, List.getElem_cons_succ]
  refine list_val (.bool false) (by kernel_rfl) (by go_simp) ?_
  simp only [Act.put, List.setIfInBounds_toArray, List.set_cons_zero, List.set_cons_succ, List.getElem_toArray, List.getElem_cons_zero, List.getElem_cons_succ]
  refine list_val (.bool false) (by kernel_rfl) (by kernel_rfl) ?_
  simp only [Act.put, List.setIfInBounds_toArray, List.set_cons_zero, List.set_cons_succ, List.getElem_toArray, List.getElem_cons_zero, List.getElem_cons_succ]
  refine wpList_nil ?_
  go_upto_region 12 with fail
  refine wp_region_lit ?_
  refine list_val (.int .i64 241) (by kernel_rfl) (by kernel_rfl) ?_
  simp only [Act.put, List.setIfInBounds_toArray, List.set_cons_zero, List.set_cons_succ, List.getElem_toArray, List.getElem_cons_zero, List.getElem_cons_succ]
  refine list_val (.bool false) (by kernel_rfl) (by kernel_rfl) ?_
  simp only [Act.put, List.setIfInBounds_toArray, List.set_cons_zero, List.set_cons_succ, List.getElem_toArray, List.getElem_cons_zero, List.getElem_cons_succ]
  refine list_val (.bool false) (by kernel_rfl) (by kernel_rfl) ?_
  simp only [Act.put, List.setIfInBounds_toArray, List.set_cons_zero, List.set_cons_succ, List.getElem_toArray, List.getElem_cons_zero, List.getElem_cons_succ]
  refine list_val (.slice none 0 0) (by kernel_rfl) (by kernel_rfl) ?_
  simp only [Act.put, List.setIfInBounds_toArray, List.set_cons_zero, List.set_cons_succ, List.getElem_toArray, List.getElem_cons_zero, List.getElem_cons_succ]
  refine list_val (.int .i64 0) (by kernel_rfl) (by kernel_rfl) ?_
  simp only [Act.put, List.setIfInBounds_toArray, List.set_cons_zero, List.set_cons_succ, List.getElem_toArray, List.getElem_cons_zero, List.getElem_cons_succ]
  refine list_val (.bool false) (by kernel_rfl) (by kernel_rfl) ?_
  simp only [Act.put, List.setIfInBounds_toArray, List.set_cons_zero, List.set_cons_succ, List.getElem_toArray, List.getElem_cons_zero, List.getElem_cons_succ]
  refine list_val (.bool false) (by kernel_rfl) (by kernel_rfl) ?_
  simp only [Act.put, List.setIfInBounds_toArray, List.set_cons_zero, List.set_cons_succ, List.getElem_toArray, List.getElem_cons_zero, List.getElem_cons_succ]
  refine wpList_nil ?_
  go_upto_region 14 with fail
  refine wp_region_lit ?_
  refine list_val (.pointer (some ⟨w.heap.size + 1, 0, none⟩)) (by kernel_rfl) (by kernel_rfl) ?_
  simp only [Act.put, List.setIfInBounds_toArray, List.set_cons_zero, List.set_cons_succ, List.getElem_toArray, List.getElem_cons_zero, List.getElem_cons_succ]
  refine list_val (.int .i64 c1) (by kernel_rfl) (exec_i64 _ (.tmp 100) rfl (w.heap.size + 1) 0 (by kernel_rfl) c1 (cell_of ((unhide hV).blk (unhide hb1)) (i := 0) rfl)) ?_
  simp only [Act.put, List.setIfInBounds_toArray, List.set_cons_zero, List.set_cons_succ, List.getElem_toArray, List.getElem_cons_zero, List.getElem_cons_succ]
  refine list_val (.pointer (some ⟨w.heap.size + 1, 1, none⟩)) (by kernel_rfl) (by kernel_rfl) ?_
  simp only [Act.put, List.setIfInBounds_toArray, List.set_cons_zero, List.set_cons_succ, List.getElem_toArray, List.getElem_cons_zero, List.getElem_cons_succ]
  refine list_val (.int .i64 s1) (by kernel_rfl) (exec_i64 _ (.tmp 102) rfl (w.heap.size + 1) 1 (by kernel_rfl) s1 (cell_of ((unhide hV).blk (unhide hb1)) (i := 1) rfl)) ?_
  simp only [Act.put, List.setIfInBounds_toArray, List.set_cons_zero, List.set_cons_succ, List.getElem_toArray, List.getElem_cons_zero, List.getElem_cons_succ]
  refine list_val (.pointer (some ⟨w.heap.size + 1, 2, none⟩)) (by kernel_rfl) (by kernel_rfl) ?_
  simp only [Act.put, List.setIfInBounds_toArray, List.set_cons_zero, List.set_cons_succ, List.getElem_toArray, List.getElem_cons_zero, List.getElem_cons_succ]
  refine list_val (.int .u64 r1) (by kernel_rfl) (exec_u64 _ (.tmp 104) rfl (w.heap.size + 1) 2 (by kernel_rfl) r1 (cell_of ((unhide hV).blk (unhide hb1)) (i := 2) rfl)) ?_
  simp only [Act.put, List.setIfInBounds_toArray, List.set_cons_zero, List.set_cons_succ, List.getElem_toArray, List.getElem_cons_zero, List.getElem_cons_succ]
  refine list_call 38 #[.int .i64 c1, .int .i64 s1, .int .u64 r1] (by kernel_rfl) (by kernel_rfl) ((qends_ok c1 s1 r1 w6_).mono ?_)
  rintro r w7_ ⟨rfl, rfl⟩
  rw [hE1]
  refine ⟨_, rfl, ?_⟩
  simp only [Act.put, List.setIfInBounds_toArray, List.set_cons_zero, List.set_cons_succ, List.getElem_toArray, List.getElem_cons_zero, List.getElem_cons_succ]
  refine list_val_offs 5 (.bool false) (by kernel_rfl) (by kernel_rfl) (by kernel_rfl) ?_
  simp only [List.drop_succ_cons, List.drop_zero, List.take_succ_cons, List.take_zero, putU]
  simp only [Act.put, List.setIfInBounds_toArray, List.set_cons_zero, List.set_cons_succ, List.getElem_toArray, List.getElem_cons_zero, List.getElem_cons_succ]
  refine list_val (.bool false) (by kernel_rfl) (by kernel_rfl) ?_
  simp only [Act.put, List.setIfInBounds_toArray, List.set_cons_zero, List.set_cons_succ, List.getElem_toArray, List.getElem_cons_zero, List.getElem_cons_succ]
  refine wpList_nil ?_
  go_upto_region 16 with fail
  refine wp_region_lit ?_
  refine list_val (.int .i64 241) (by kernel_rfl) (by kernel_rfl) ?_
  simp only [Act.put, List.setIfInBounds_toArray, List.set_cons_zero, List.set_cons_succ, List.getElem_toArray, List.getElem_cons_zero, List.getElem_cons_succ]
  refine list_val (.bool true) (by kernel_rfl) (by kernel_rfl) ?_
  simp only [Act.put, List.setIfInBounds_toArray, List.set_cons_zero, List.set_cons_succ, List.getElem_toArray, List.getElem_cons_zero, List.getElem_cons_succ]
  refine list_val (.bool true) (by kernel_rfl) (by kernel_rfl) ?_
  simp only [Act.put, List.setIfInBounds_toArray, List.set_cons_zero, List.set_cons_succ, List.getElem_toArray, List.getElem_cons_zero, List.getElem_cons_succ]
  refine list_val (.slice none 0 0) (by kernel_rfl) (by kernel_rfl) ?_
  simp only [Act.put, List.setIfInBounds_toArray, List.set_cons_zero, List.set_cons_succ, List.getElem_toArray, List.getElem_cons_zero, List.getElem_cons_succ]
  refine list_val (.int .i64 0) (by kernel_rfl) (by kernel_rfl) ?_
  simp only [Act.put, List.setIfInBounds_toArray, List.set_cons_zero, List.set_cons_succ, List.getElem_toArray, List.getElem_cons_zero, List.getElem_cons_succ]
  refine list_val (.bool true) (by kernel_rfl) (by kernel_rfl) ?_
  simp only [Act.put, List.setIfInBounds_toArray, List.set_cons_zero, List.set_cons_succ, List.getElem_toArray, List.getElem_cons_zero, List.getElem_cons_succ]
  refine list_val (.bool true) (by kernel_rfl) (by kernel_rfl) ?_
  simp only [Act.put, List.setIfInBounds_toArray, List.set_cons_zero, List.set_cons_succ, List.getElem_toArray, List.getElem_cons_zero, List.getElem_cons_succ]
  (refine wpList_step fun K hK => ?_; replace hK := hide hK; go_simp; refine unhide hK _ _ ?_; clear hK K)
  refine wpList_nil ?_
  have hZ : Hid (Woke w (.returned (.bool true)) w7_) := ⟨rfl, (unhide hWg).trans (unhide hV)⟩
  go_wp2_with fail
  rw [unhide hT]
  exact unhide hZ
set_option maxHeartbeats 4000000 in
theorem packets_ss (c0 s0 r0 : Int) (hr0 : 0 ≤ r0 ∧ r0 < 18446744073709551616) (a0 : Option Addr) (n0 k0 : Nat) (A0 : List Int) (c1 s1 r1 : Int) (hr1 : 0 ≤ r1 ∧ r1 < 18446744073709551616) (a1 : Option Addr) (n1 k1 : Nat) (A1 : List Int) (w : World) (lb0 : Lb w a0 n0 k0 A0) (lb1 : Lb w a1 n1 k1 A1) (hE0 : ends c0 s0 r0 = true) (hS0 : onS ((min n0 1000 : Nat) : Int) = false) (hE1 : ends c1 s1 r1 = true) (hS1 : rpS ((min n1 1000 : Nat) : Int) = false) : Calls Try.prog 6 #[.agg #[.int .i64 c0, .int .i64 s0, .int .u64 r0, .slice a0 n0 k0], .agg #[.int .i64 c1, .int .i64 s1, .int .u64 r1, .slice a1 n1 k1]] w (Woke w) := by
  obtain ⟨T, hT⟩ : ∃ T, T = Woke w := ⟨_, rfl⟩
  rw [← hT]
  replace hT := hide hT
  obtain ⟨m0, hm0⟩ : ∃ m, m = min n0 1000 := ⟨_, rfl⟩
  obtain ⟨B0, hB0⟩ : ∃ B, B = A0.take m0 := ⟨_, rfl⟩
  have hm90 : m0 ≤ 1000 := by omega
  rw [← hm0] at hS0
  replace hm0 := hide hm0; replace hB0 := hide hB0; replace lb0 := hide lb0
  obtain ⟨m1, hm1⟩ : ∃ m, m = min n1 1000 := ⟨_, rfl⟩
  obtain ⟨B1, hB1⟩ : ∃ B, B = A1.take m1 := ⟨_, rfl⟩
  have hm91 : m1 ≤ 1000 := by omega
  rw [← hm1] at hS1
  replace hm1 := hide hm1; replace hB1 := hide hB1; replace lb1 := hide lb1
  go_enter Try.func6, Try.ntmps6
  go_upto_region 1 with fail
  have hW := (((Bl.nil w).new #[.int .i64 c0, .int .i64 s0, .int .u64 r0, .slice a0 n0 k0] 78).new #[.int .i64 c1, .int .i64 s1, .int .u64 r1, .slice a1 n1 k1] 80)
  simp only [size_alloc, List.nil_append, List.cons_append] at hW
  generalize World.alloc _ _ = u at *
  replace hW : Bl w [⟨w.heap.size, #[.int .i64 c0, .int .i64 s0, .int .u64 r0, .slice a0 n0 k0], 78⟩, ⟨w.heap.size + 1, #[.int .i64 c1, .int .i64 s1, .int .u64 r1, .slice a1 n1 k1], 80⟩] u := hW
  refine wp_region_lit ?_
  refine list_call 9 #[] (by kernel_rfl) (by kernel_rfl) ((jwakes_ok u).mono ?_)
  rintro r u1 ⟨rfl, hg⟩
  replace hW := hW.more hg
  clear hg
  refine ⟨_, rfl, ?_⟩
  simp only [Act.put, List.setIfInBounds_toArray, List.set_cons_zero, List.set_cons_succ, List.getElem_toArray, List.getElem_cons_zero, List.getElem_cons_succ]
  refine list_val (.bool false) (by kernel_rfl) (by kernel_rfl) ?_
  simp only [Act.put, List.setIfInBounds_toArray, List.set_cons_zero, List.set_cons_succ, List.getElem_toArray, List.getElem_cons_zero, List.getElem_cons_succ]
  refine wpList_nil ?_
  replace hW := hide hW
  go_upto_region 3 with fail
  replace hW := unhide hW
  refine anyC_start 5 (fun (v : World) => Bl w [⟨w.heap.size, #[.int .i64 c0, .int .i64 s0, .int .u64 r0, .slice a0 n0 k0], 78⟩, ⟨w.heap.size + 1, #[.int .i64 c1, .int .i64 s1, .int .u64 r1, .slice a1 n1 k1], 80⟩] v) (by kernel_rfl) ?_
  replace hW := hW.drew
  generalize World.drew _ = x0 at *
  have hS : (fun (v : World) => Bl w [⟨w.heap.size, #[.int .i64 c0, .int .i64 s0, .int .u64 r0, .slice a0 n0 k0], 78⟩, ⟨w.heap.size + 1, #[.int .i64 c1, .int .i64 s1, .int .u64 r1, .slice a1 n1 k1], 80⟩] v) x0 := hW
  clear hW
  simp only [List.size_toArray, List.length_cons, List.length_nil, Array.replicate, List.replicate]
  refine anyC_take (i := 0) (v := (.pointer (some ⟨w.heap.size, 3, none⟩))) (fun _ => True) (fun _ _ => trivial) (.inl (fun _ => trivial)) rfl (by kernel_rfl) (by kernel_rfl) (by kernel_rfl) (by decide) (by kernel_rfl) (by decide) (fun _ _ _ h => h) (.inl ⟨by kernel_rfl, fun x_ hu => by kernel_rfl⟩) hS ?_
  simp only [Act.put, List.setIfInBounds_toArray, List.set_cons_zero, List.set_cons_succ, List.getElem_toArray, List.getElem_cons_zero, List.getElem_cons_succ]
  refine anyC_take (i := 3) (v := (.pointer (some ⟨w.heap.size + 1, 3, none⟩))) (fun _ => True) (fun _ _ => trivial) (.inl (fun _ => trivial)) rfl (by kernel_rfl) (by kernel_rfl) (by kernel_rfl) (by decide) (by kernel_rfl) (by decide) (fun _ _ _ h => h) (.inl ⟨by kernel_rfl, fun x_ hu => by kernel_rfl⟩) hS ?_
  simp only [Act.put, List.setIfInBounds_toArray, List.set_cons_zero, List.set_cons_succ, List.getElem_toArray, List.getElem_cons_zero, List.getElem_cons_succ]
  refine anyC_take (i := 4) (v := (.slice a1 n1 k1)) (fun (v : World) => Bl w [⟨w.heap.size, #[.int .i64 c0, .int .i64 s0, .int .u64 r0, .slice a0 n0 k0], 78⟩, ⟨w.heap.size + 1, #[.int .i64 c1, .int .i64 s1, .int .u64 r1, .slice a1 n1 k1], 80⟩] v) (fun _ h_ => h_) (.inr (by kernel_rfl)) rfl (by kernel_rfl) (by kernel_rfl) (by kernel_rfl) (by decide) (by kernel_rfl) (by decide) (fun _ _ _ h => h) (.inl ⟨by kernel_rfl, fun x_ hu => exec_sby _ (.tmp 16) rfl (w.heap.size + 1) 3 (by kernel_rfl) a1 n1 k1 (cell_of (hu.get 1 (x := ⟨w.heap.size + 1, #[.int .i64 c1, .int .i64 s1, .int .u64 r1, .slice a1 n1 k1], 80⟩) rfl) (i := 3) rfl)⟩) hS ?_
  simp only [Act.put, List.setIfInBounds_toArray, List.set_cons_zero, List.set_cons_succ, List.getElem_toArray, List.getElem_cons_zero, List.getElem_cons_succ]
  refine anyC_one (i := 1) (by kernel_rfl) rfl (fun K hK => ?_)
  refine step_val (.slice a0 n0 k0) _ (by kernel_rfl) (exec_sby _ (.tmp 13) rfl (w.heap.size) 3 (by kernel_rfl) a0 n0 k0 (cell_of (hS.get 0 (x := ⟨w.heap.size, #[.int .i64 c0, .int .i64 s0, .int .u64 r0, .slice a0 n0 k0], 78⟩) rfl) (i := 3) rfl)) ?_
  refine hK.out _ _ hS (fun _ => ?_)
  clear hK K
  simp only [Act.put, List.setIfInBounds_toArray, List.set_cons_zero, List.set_cons_succ, List.getElem_toArray, List.getElem_cons_zero, List.getElem_cons_succ]
  refine anyC_one (i := 2) (by kernel_rfl) rfl (fun K hK => ?_)
  refine step_callw (by kernel_rfl) 10 #[.slice a0 n0 k0] (by kernel_rfl) ((jcut_ok A0 a0 n0 k0 x0 ((unhide lb0).gr hS.gr)).mono ?_)
  rintro r y0 ⟨t0, rfl, hc, rfl⟩
  refine ⟨_, rfl, ?_⟩
  have hl0 := hc w (unhide lb0)
  rw [← unhide hm0, ← unhide hB0] at hl0
  rw [← unhide hm0]
  replace hl0 := hide hl0
  clear hc lb0 hB0
  refine hK.out _ _ hS (fun _ => ?_)
  clear hK K
  simp only [Act.put, List.setIfInBounds_toArray, List.set_cons_zero, List.set_cons_succ, List.getElem_toArray, List.getElem_cons_zero, List.getElem_cons_succ]
  refine anyC_take (i := 6) (v := (.pointer (some ⟨w.heap.size, 3, none⟩))) (fun _ => True) (fun _ _ => trivial) (.inl (fun _ => trivial)) rfl (by kernel_rfl) (by kernel_rfl) (by kernel_rfl) (by decide) (by kernel_rfl) (by decide) (fun _ _ _ h => h) (.inl ⟨by kernel_rfl, fun x_ hu => by kernel_rfl⟩) hS ?_
  simp only [Act.put, List.setIfInBounds_toArray, List.set_cons_zero, List.set_cons_succ, List.getElem_toArray, List.getElem_cons_zero, List.getElem_cons_succ]
  refine anyC_last (by kernel_rfl) rfl (fun K hK => ?_)
  refine step_callw (by kernel_rfl) 10 #[.slice a1 n1 k1] (by kernel_rfl) ((jcut_ok A1 a1 n1 k1 _ ((unhide lb1).gr hS.gr)).mono ?_)
  rintro r y1 ⟨t1, rfl, hc, rfl⟩
  refine ⟨_, rfl, ?_⟩
  have hl1 := hc w (unhide lb1)
  rw [← unhide hm1, ← unhide hB1] at hl1
  rw [← unhide hm1]
  replace hl1 := hide hl1
  clear hc lb1 hB1
  refine hK.out _ _ ?_
  clear hK K
  simp only [Act.put, List.setIfInBounds_toArray, List.set_cons_zero, List.set_cons_succ, List.getElem_toArray, List.getElem_cons_zero, List.getElem_cons_succ]
  refine any_one (i := 7) (by kernel_rfl) rfl (fun K hK => ?_)
  have c4 := cell_of (hS.get 0 (x := ⟨w.heap.size, #[.int .i64 c0, .int .i64 s0, .int .u64 r0, .slice a0 n0 k0], 78⟩) rfl) (i := 3) rfl
  have fz := froz_of (i := 3) (hS.get 0 (x := ⟨w.heap.size, #[.int .i64 c0, .int .i64 s0, .int .u64 r0, .slice a0 n0 k0], 78⟩) rfl)
  have hB2 := hS.cell 0 (x := ⟨w.heap.size, #[.int .i64 c0, .int .i64 s0, .int .u64 r0, .slice a0 n0 k0], 78⟩) rfl 3 (.slice t0 m0 k0)
  simp only [List.set_cons_zero, List.set_cons_succ] at hB2
  replace hB2 : Bl w [⟨w.heap.size, #[.int .i64 c0, .int .i64 s0, .int .u64 r0, .slice t0 m0 k0], 78⟩, ⟨w.heap.size + 1, #[.int .i64 c1, .int .i64 s1, .int .u64 r1, .slice a1 n1 k1], 80⟩] _ := hB2
  clear hS
  replace hB2 := hide hB2
  replace hK := hide hK
  dsimp only at c4 fz
  go_simp
  refine (unhide hK).out _ _ trivial (fun _ => ?_)
  clear hK K c4 fz
  have hS := unhide hB2
  clear hB2
  generalize World.setCell _ _ _ = st0 at *
  replace hS : Bl w [⟨w.heap.size, #[.int .i64 c0, .int .i64 s0, .int .u64 r0, .slice t0 m0 k0], 78⟩, ⟨w.heap.size + 1, #[.int .i64 c1, .int .i64 s1, .int .u64 r1, .slice a1 n1 k1], 80⟩] st0 := hS
  simp only [Act.put, List.setIfInBounds_toArray, List.set_cons_zero, List.set_cons_succ, List.getElem_toArray, List.getElem_cons_zero, List.getElem_cons_succ]
  refine any_take (i := 8) (v := (.pointer (some ⟨w.heap.size + 1, 3, none⟩))) #[true, true, true, true, true, true, true, true, false, false] rfl (by kernel_rfl) (by kernel_rfl) (by kernel_rfl) (by kernel_rfl) (fun _ _ _ h => h) (.inl ⟨by kernel_rfl, fun x_ hu => by kernel_rfl⟩) trivial ?_
  simp only [Act.put, List.setIfInBounds_toArray, List.set_cons_zero, List.set_cons_succ, List.getElem_toArray, List.getElem_cons_zero, List.getElem_cons_succ]
  refine any_one (i := 9) (by kernel_rfl) rfl (fun K hK => ?_)
  have c4 := cell_of (hS.get 1 (x := ⟨w.heap.size + 1, #[.int .i64 c1, .int .i64 s1, .int .u64 r1, .slice a1 n1 k1], 80⟩) rfl) (i := 3) rfl
  have fz := froz_of (i := 3) (hS.get 1 (x := ⟨w.heap.size + 1, #[.int .i64 c1, .int .i64 s1, .int .u64 r1, .slice a1 n1 k1], 80⟩) rfl)
  have hB2 := hS.cell 1 (x := ⟨w.heap.size + 1, #[.int .i64 c1, .int .i64 s1, .int .u64 r1, .slice a1 n1 k1], 80⟩) rfl 3 (.slice t1 m1 k1)
  simp only [List.set_cons_zero, List.set_cons_succ] at hB2
  replace hB2 : Bl w [⟨w.heap.size, #[.int .i64 c0, .int .i64 s0, .int .u64 r0, .slice t0 m0 k0], 78⟩, ⟨w.heap.size + 1, #[.int .i64 c1, .int .i64 s1, .int .u64 r1, .slice t1 m1 k1], 80⟩] _ := hB2
  clear hS
  replace hB2 := hide hB2
  replace hK := hide hK
  dsimp only at c4 fz
  go_simp
  refine (unhide hK).out _ _ trivial (fun _ => ?_)
  clear hK K c4 fz
  have hS := unhide hB2
  clear hB2
  generalize World.setCell _ _ _ = st1 at *
  replace hS : Bl w [⟨w.heap.size, #[.int .i64 c0, .int .i64 s0, .int .u64 r0, .slice t0 m0 k0], 78⟩, ⟨w.heap.size + 1, #[.int .i64 c1, .int .i64 s1, .int .u64 r1, .slice t1 m1 k1], 80⟩] st1 := hS
  simp only [Act.put, List.setIfInBounds_toArray, List.set_cons_zero, List.set_cons_succ, List.getElem_toArray, List.getElem_cons_zero, List.getElem_cons_succ]
  refine any_done (by kernel_rfl) ?_
  have hW : Bl w [⟨w.heap.size, #[.int .i64 c0, .int .i64 s0, .int .u64 r0, .slice t0 m0 k0], 78⟩, ⟨w.heap.size + 1, #[.int .i64 c1, .int .i64 s1, .int .u64 r1, .slice t1 m1 k1], 80⟩] st1 := hS
  clear hS
  replace hW := hide hW
  go_upto_region 4 with fail
  replace hW := unhide hW
  refine any_start (S := fun (v : World) => Bl w [⟨w.heap.size, #[.int .i64 c0, .int .i64 s0, .int .u64 r0, .slice t0 m0 k0], 78⟩, ⟨w.heap.size + 1, #[.int .i64 c1, .int .i64 s1, .int .u64 r1, .slice t1 m1 k1], 80⟩] v) (by kernel_rfl) ?_
  replace hW := hW.drew
  generalize World.drew _ = x4 at *
  have hS : (fun (v : World) => Bl w [⟨w.heap.size, #[.int .i64 c0, .int .i64 s0, .int .u64 r0, .slice t0 m0 k0], 78⟩, ⟨w.heap.size + 1, #[.int .i64 c1, .int .i64 s1, .int .u64 r1, .slice t1 m1 k1], 80⟩] v) x4 := hW
  clear hW
  simp only [List.size_toArray, List.length_cons, List.length_nil, Array.replicate, List.replicate]
  refine any_take (i := 0) (v := (.pointer (some ⟨w.heap.size, 3, none⟩))) #[false, false, false, false, false, false, false, false] rfl (by kernel_rfl) (by kernel_rfl) (by kernel_rfl) (by kernel_rfl) (fun _ _ _ h => h) (.inl ⟨by kernel_rfl, fun x_ hu => by kernel_rfl⟩) hS ?_
  simp only [Act.put, List.setIfInBounds_toArray, List.set_cons_zero, List.set_cons_succ, List.getElem_toArray, List.getElem_cons_zero, List.getElem_cons_succ]
  refine any_take (i := 1) (v := (.slice t0 m0 k0)) #[true, false, false, false, false, false, false, false] rfl (by kernel_rfl) (by kernel_rfl) (by kernel_rfl) (by kernel_rfl) (fun _ _ _ h => h) (.inl ⟨by kernel_rfl, fun x_ hu => exec_sby _ (.tmp 21) rfl (w.heap.size) 3 (by kernel_rfl) t0 m0 k0 (cell_of (hu.get 0 (x := ⟨w.heap.size, #[.int .i64 c0, .int .i64 s0, .int .u64 r0, .slice t0 m0 k0], 78⟩) rfl) (i := 3) rfl)⟩) hS ?_
  simp only [Act.put, List.setIfInBounds_toArray, List.set_cons_zero, List.set_cons_succ, List.getElem_toArray, List.getElem_cons_zero, List.getElem_cons_succ]
  refine any_take (i := 3) (v := (.pointer (some ⟨w.heap.size + 1, 3, none⟩))) #[true, true, false, false, false, false, false, false] rfl (by kernel_rfl) (by kernel_rfl) (by kernel_rfl) (by kernel_rfl) (fun _ _ _ h => h) (.inl ⟨by kernel_rfl, fun x_ hu => by kernel_rfl⟩) hS ?_
  simp only [Act.put, List.setIfInBounds_toArray, List.set_cons_zero, List.set_cons_succ, List.getElem_toArray, List.getElem_cons_zero, List.getElem_cons_succ]
  refine any_take (i := 4) (v := (.slice t1 m1 k1)) #[true, true, false, true, false, false, false, false] rfl (by kernel_rfl) (by kernel_rfl) (by kernel_rfl) (by kernel_rfl) (fun _ _ _ h => h) (.inl ⟨by kernel_rfl, fun x_ hu => exec_sby _ (.tmp 24) rfl (w.heap.size + 1) 3 (by kernel_rfl) t1 m1 k1 (cell_of (hu.get 1 (x := ⟨w.heap.size + 1, #[.int .i64 c1, .int .i64 s1, .int .u64 r1, .slice t1 m1 k1], 80⟩) rfl) (i := 3) rfl)⟩) hS ?_
  simp only [Act.put, List.setIfInBounds_toArray, List.set_cons_zero, List.set_cons_succ, List.getElem_toArray, List.getElem_cons_zero, List.getElem_cons_succ]
  refine any_one (i := 2) (by kernel_rfl) rfl (fun K hK => ?_)
  refine step_callw (by kernel_rfl) 18 #[.slice t0 m0 k0] (by kernel_rfl) ((jroom_ok B0 t0 m0 k0 hm90 _ ((unhide hl0).gr hS.gr)).mono ?_)
  rintro r z0 ⟨q0, d0, rfl, hc1, hc2, hgo, hat, hg⟩
  refine ⟨_, rfl, ?_⟩
  rw [(unhide hl0).len] at hc1 ⊢
  have ho0 : Lb z0 (some ⟨q0, 0, none⟩) m0 d0 B0 := by
    have h9 := hat.take m0
    rw [List.take_append_of_le_length (by rw [(unhide hl0).len]; exact Nat.le_refl _), List.take_of_length_le (by rw [(unhide hl0).len]; exact Nat.le_refl _)] at h9
    exact ⟨(unhide hl0).len, (unhide hl0).isB, .inr ⟨q0, 0, rfl, h9⟩, by omega, hc2⟩
  replace hS : (fun (v : World) => Bl w [⟨w.heap.size, #[.int .i64 c0, .int .i64 s0, .int .u64 r0, .slice t0 m0 k0], 78⟩, ⟨w.heap.size + 1, #[.int .i64 c1, .int .i64 s1, .int .u64 r1, .slice t1 m1 k1], 80⟩] v) z0 := hS.more hg
  replace ho0 := hide ho0
  clear hg hat hc1 hc2 hgo
  refine hK.out _ _ hS (fun _ => ?_)
  clear hK K
  simp only [Act.put, List.setIfInBounds_toArray, List.set_cons_zero, List.set_cons_succ, List.getElem_toArray, List.getElem_cons_zero, List.getElem_cons_succ]
  refine any_one (i := 5) (by kernel_rfl) rfl (fun K hK => ?_)
  refine step_callw (by kernel_rfl) 18 #[.slice t1 m1 k1] (by kernel_rfl) ((jroom_ok B1 t1 m1 k1 hm91 _ ((unhide hl1).gr hS.gr)).mono ?_)
  rintro r z1 ⟨q1, d1, rfl, hc1, hc2, hgo, hat, hg⟩
  refine ⟨_, rfl, ?_⟩
  rw [(unhide hl1).len] at hc1 ⊢
  have ho1 : Lb z1 (some ⟨q1, 0, none⟩) m1 d1 B1 := by
    have h9 := hat.take m1
    rw [List.take_append_of_le_length (by rw [(unhide hl1).len]; exact Nat.le_refl _), List.take_of_length_le (by rw [(unhide hl1).len]; exact Nat.le_refl _)] at h9
    exact ⟨(unhide hl1).len, (unhide hl1).isB, .inr ⟨q1, 0, rfl, h9⟩, by omega, hc2⟩
  replace hS : (fun (v : World) => Bl w [⟨w.heap.size, #[.int .i64 c0, .int .i64 s0, .int .u64 r0, .slice t0 m0 k0], 78⟩, ⟨w.heap.size + 1, #[.int .i64 c1, .int .i64 s1, .int .u64 r1, .slice t1 m1 k1], 80⟩] v) z1 := hS.more hg
  replace ho0 := (unhide ho0).gr hg
  clear hg hat hc1 hc2 hgo
  refine hK.out _ _ hS (fun _ => ?_)
  clear hK K
  simp only [Act.put, List.setIfInBounds_toArray, List.set_cons_zero, List.set_cons_succ, List.getElem_toArray, List.getElem_cons_zero, List.getElem_cons_succ]
  refine any_one (i := 6) (by kernel_rfl) rfl (fun K hK => ?_)
  replace hK := hide hK
  go_simp
  refine (unhide hK).out _ _ hS (fun _ => ?_)
  clear hK K
  refine any_one (i := 7) (by kernel_rfl) rfl (fun K hK => ?_)
  replace hK := hide hK
  go_simp
  refine (unhide hK).out _ _ hS (fun _ => ?_)
  clear hK K
  refine any_done (by kernel_rfl) ?_
  have hb0 := hide (hS.get 0 (x := ⟨w.heap.size, #[.int .i64 c0, .int .i64 s0, .int .u64 r0, .slice t0 m0 k0], 78⟩) rfl)
  have hb1 := hide (hS.get 1 (x := ⟨w.heap.size + 1, #[.int .i64 c1, .int .i64 s1, .int .u64 r1, .slice t1 m1 k1], 80⟩) rfl)
  dsimp only at hb0 hb1
  have hWg := hide hS.gr
  replace hl0 := hide ((unhide hl0).gr hS.gr)
  replace hl1 := hide ((unhide hl1).gr hS.gr)
  replace ho0 := hide ho0; replace ho1 := hide ho1
  clear hS
  have hV := hide (Gr.refl z1)
  go_upto_region 5 with fail
  refine wp_region_lit ?_
  refine list_val (.pointer (some ⟨w.heap.size, 0, none⟩)) (by kernel_rfl) (by kernel_rfl) ?_
  simp only [Act.put, List.setIfInBounds_toArray, List.set_cons_zero, List.set_cons_succ, List.getElem_toArray, List.getElem_cons_zero, List.getElem_cons_succ]
  refine list_val (.int .i64 c0) (by kernel_rfl) (exec_i64 _ (.tmp 28) rfl (w.heap.size) 0 (by kernel_rfl) c0 (cell_of ((unhide hV).blk (unhide hb0)) (i := 0) rfl)) ?_
  simp only [Act.put, List.setIfInBounds_toArray, List.set_cons_zero, List.set_cons_succ, List.getElem_toArray, List.getElem_cons_zero, List.getElem_cons_succ]
  refine list_val (.pointer (some ⟨w.heap.size, 1, none⟩)) (by kernel_rfl) (by kernel_rfl) ?_
  simp only [Act.put, List.setIfInBounds_toArray, List.set_cons_zero, List.set_cons_succ, List.getElem_toArray, List.getElem_cons_zero, List.getElem_cons_succ]
  refine list_val (.int .i64 s0) (by kernel_rfl) (exec_i64 _ (.tmp 30) rfl (w.heap.size) 1 (by kernel_rfl) s0 (cell_of ((unhide hV).blk (unhide hb0)) (i := 1) rfl)) ?_
  simp only [Act.put, List.setIfInBounds_toArray, List.set_cons_zero, List.set_cons_succ, List.getElem_toArray, List.getElem_cons_zero, List.getElem_cons_succ]
  refine list_val (.pointer (some ⟨w.heap.size, 2, none⟩)) (by kernel_rfl) (by kernel_rfl) ?_
  simp only [Act.put, List.setIfInBounds_toArray, List.set_cons_zero, List.set_cons_succ, List.getElem_toArray, List.getElem_cons_zero, List.getElem_cons_succ]
  refine list_val (.int .u64 r0) (by kernel_rfl) (exec_u64 _ (.tmp 32) rfl (w.heap.size) 2 (by kernel_rfl) r0 (cell_of ((unhide hV).blk (unhide hb0)) (i := 2) rfl)) ?_
  simp only [Act.put, List.setIfInBounds_toArray, List.set_cons_zero, List.set_cons_succ, List.getElem_toArray, List.getElem_cons_zero, List.getElem_cons_succ]
  refine list_val (.slice (some ⟨q0, 0, none⟩) m0 d0) (by kernel_rfl) (by kernel_rfl) ?_
  simp only [Act.put, List.setIfInBounds_toArray, List.set_cons_zero, List.set_cons_succ, List.getElem_toArray, List.getElem_cons_zero, List.getElem_cons_succ]
  refine list_val (.agg #[.int .i64 c0, .int .i64 s0, .int .u64 r0, .slice (some ⟨q0, 0, none⟩) m0 d0]) (by kernel_rfl) (by kernel_rfl) ?_
  simp only [Act.put, List.setIfInBounds_toArray, List.set_cons_zero, List.set_cons_succ, List.getElem_toArray, List.getElem_cons_zero, List.getElem_cons_succ]
  refine list_call 36 #[.agg #[.int .i64 c0, .int .i64 s0, .int .u64 r0, .slice (some ⟨q0, 0, none⟩) m0 d0]] (by kernel_rfl) (by kernel_rfl) ((fputup_no c0 s0 r0 (some ⟨q0, 0, none⟩) m0 d0 (.inr hS0) z1).mono ?_)
  rintro r w1_ ⟨rfl, hg⟩
  replace hV := hide ((unhide hV).trans hg)
  clear hg
  refine ⟨_, rfl, ?_⟩
  simp only [Act.put, List.setIfInBounds_toArray, List.set_cons_zero, List.set_cons_succ, List.getElem_toArray, List.getElem_cons_zero, List.getElem_cons_succ]
  refine list_val (.tuple #[.slice none 0 0, .int .i64 241]) (by kernel_rfl) (by kernel_rfl) ?_
  simp only [Act.put, List.setIfInBounds_toArray, List.set_cons_zero, List.set_cons_succ, List.getElem_toArray, List.getElem_cons_zero, List.getElem_cons_succ]
  refine list_val (.slice none 0 0) (by kernel_rfl) (by kernel_rfl) ?_
  simp only [Act.put, List.setIfInBounds_toArray, List.set_cons_zero, List.set_cons_succ, List.getElem_toArray, List.getElem_cons_zero, List.getElem_cons_succ]
  refine list_val (.int .i64 241) (by kernel_rfl) (by kernel_rfl) ?_
  simp only [Act.put, List.setIfInBounds_toArray, List.set_cons_zero, List.set_cons_succ, List.getElem_toArray, List.getElem_cons_zero, List.getElem_cons_succ]
  (refine wpList_step fun K hK => ?_; replace hK := hide hK; go_simp; refine unhide hK _ _ ?_; clear hK K)
  (refine wpList_step fun K hK => ?_; replace hK := hide hK; go_simp; refine unhide hK _ _ ?_; clear hK K)
  refine wpList_nil ?_
  go_upto_region 6 with fail
  refine wp_region_lit ?_
  refine list_val (.pointer (some ⟨w.heap.size + 1, 0, none⟩)) (by kernel_rfl) (by kernel_rfl) ?_
  simp only [Act.put, List.setIfInBounds_toArray, List.set_cons_zero, List.set_cons_succ, List.getElem_toArray, List.getElem_cons_zero, List.getElem_cons_succ]
  refine list_val (.int .i64 c1) (by kernel_rfl) (exec_i64 _ (.tmp 40) rfl (w.heap.size + 1) 0 (by kernel_rfl) c1 (cell_of ((unhide hV).blk (unhide hb1)) (i := 0) rfl)) ?_
  simp only [Act.put, List.setIfInBounds_toArray, List.set_cons_zero, List.set_cons_succ, List.getElem_toArray, List.getElem_cons_zero, List.getElem_cons_succ]
  refine list_val (.pointer (some ⟨w.heap.size + 1, 1, none⟩)) (by kernel_rfl) (by kernel_rfl) ?_
  simp only [Act.put, List.setIfInBounds_toArray, List.set_cons_zero, List.set_cons_succ, List.getElem_toArray, List.getElem_cons_zero, List.getElem_cons_succ]
  refine list_val (.int .i64 s1) (by kernel_rfl) (exec_i64 _ (.tmp 42) rfl (w.heap.size + 1) 1 (by kernel_rfl) s1 (cell_of ((unhide hV).blk (unhide hb1)) (i := 1) rfl)) ?_
  simp only [Act.put, List.setIfInBounds_toArray, List.set_cons_zero, List.set_cons_succ, List.getElem_toArray, List.getElem_cons_zero, List.getElem_cons_succ]
  refine list_val (.pointer (some ⟨w.heap.size + 1, 2, none⟩)) (by kernel_rfl) (by kernel_rfl) ?_
  simp only [Act.put, List.setIfInBounds_toArray, List.set_cons_zero, List.set_cons_succ, List.getElem_toArray, List.getElem_cons_zero, List.getElem_cons_succ]
  refine list_val (.int .u64 r1) (by kernel_rfl) (exec_u64 _ (.tmp 44) rfl (w.heap.size + 1) 2 (by kernel_rfl) r1 (cell_of ((unhide hV).blk (unhide hb1)) (i := 2) rfl)) ?_
  simp only [Act.put, List.setIfInBounds_toArray, List.set_cons_zero, List.set_cons_succ, List.getElem_toArray, List.getElem_cons_zero, List.getElem_cons_succ]
  refine list_val (.slice (some ⟨q1, 0, none⟩) m1 d1) (by kernel_rfl) (by kernel_rfl) ?_
  simp only [Act.put, List.setIfInBounds_toArray, List.set_cons_zero, List.set_cons_succ, List.getElem_toArray, List.getElem_cons_zero, List.getElem_cons_succ]
  refine list_val (.agg #[.int .i64 c1, .int .i64 s1, .int .u64 r1, .slice (some ⟨q1, 0, none⟩) m1 d1]) (by kernel_rfl) (by kernel_rfl) ?_
  simp only [Act.put, List.setIfInBounds_toArray, List.set_cons_zero, List.set_cons_succ, List.getElem_toArray, List.getElem_cons_zero, List.getElem_cons_succ]
  refine list_call 37 #[.agg #[.int .i64 c1, .int .i64 s1, .int .u64 r1, .slice (some ⟨q1, 0, none⟩) m1 d1]] (by kernel_rfl) (by kernel_rfl) ((fputdn_no c1 s1 r1 (some ⟨q1, 0, none⟩) m1 d1 (.inr hS1) w1_).mono ?_)
  rintro r w2_ ⟨rfl, hg⟩
  replace hV := hide ((unhide hV).trans hg)
  clear hg
  refine ⟨_, rfl, ?_⟩
  simp only [Act.put, List.setIfInBounds_toArray, List.set_cons_zero, List.set_cons_succ, List.getElem_toArray, List.getElem_cons_zero, List.getElem_cons_succ]
  refine list_val (.tuple #[.slice none 0 0, .int .i64 241]) (by kernel_rfl) (by kernel_rfl) ?_
  simp only [Act.put, List.setIfInBounds_toArray, List.set_cons_zero, List.set_cons_succ, List.getElem_toArray, List.getElem_cons_zero, List.getElem_cons_succ]
  refine list_val (.slice none 0 0) (by kernel_rfl) (by kernel_rfl) ?_
  simp only [Act.put, List.setIfInBounds_toArray, List.set_cons_zero, List.set_cons_succ, List.getElem_toArray, List.getElem_cons_zero, List.getElem_cons_succ]
  refine list_val (.int .i64 241) (by kernel_rfl) (by kernel_rfl) ?_
  simp only [Act.put, List.setIfInBounds_toArray, List.set_cons_zero, List.set_cons_succ, List.getElem_toArray, List.getElem_cons_zero, List.getElem_cons_succ]
  (refine wpList_step fun K hK => ?_; replace hK := hide hK; go_simp; refine unhide hK _ _ ?_; clear hK K)
  (refine wpList_step fun K hK => ?_; replace hK := hide hK; go_simp; refine unhide hK _ _ ?_; clear hK K)
  refine wpList_nil ?_
  go_upto_region 7 with fail
  refine wp_region_lit ?_
  refine list_val (.slice (some ⟨q0, 0, none⟩) m0 d0) (by kernel_rfl) (by kernel_rfl) ?_
  simp only [Act.put, List.setIfInBounds_toArray, List.set_cons_zero, List.set_cons_succ, List.getElem_toArray, List.getElem_cons_zero, List.getElem_cons_succ]
  refine list_val (.pointer (some ⟨w.heap.size, 3, none⟩)) (by kernel_rfl) (by kernel_rfl) ?_
  simp only [Act.put, List.setIfInBounds_toArray, List.set_cons_zero, List.set_cons_succ, List.getElem_toArray, List.getElem_cons_zero, List.getElem_cons_succ]
  refine list_val (.slice t0 m0 k0) (by kernel_rfl) (exec_sby _ (.tmp 52) rfl (w.heap.size) 3 (by kernel_rfl) t0 m0 k0 (cell_of ((unhide hV).blk (unhide hb0)) (i := 3) rfl)) ?_
  simp only [Act.put, List.setIfInBounds_toArray, List.set_cons_zero, List.set_cons_succ, List.getElem_toArray, List.getElem_cons_zero, List.getElem_cons_succ]
  refine list_call 11 #[.slice (some ⟨q0, 0, none⟩) m0 d0, .slice t0 m0 k0] (by kernel_rfl) (by kernel_rfl) ((beq_ok B0 B0 (some ⟨q0, 0, none⟩) t0 m0 m0 d0 k0 w2_ ((unhide ho0).gr (unhide hV)) ((unhide hl0).gr (unhide hV))).mono ?_)
  rintro r w3_ ⟨rfl, hg⟩
  rw [decide_eq_true rfl]
  replace hV := hide ((unhide hV).trans hg)
  clear hg
  refine ⟨_, rfl, ?_⟩
  simp only [Act.put, List.setIfInBounds_toArray, List.set_cons_zero, List.set_cons_succ, List.getElem_toArray, List.getElem_cons_zero, List.getElem_cons_succ]
  refine list_val (.bool false) (by kernel_rfl) (by kernel_rfl) ?_
  simp only [Act.put, List.setIfInBounds_toArray, List.set_cons_zero, List.set_cons_succ, List.getElem_toArray, List.getElem_cons_zero, List.getElem_cons_succ]
  refine list_val (.bool false) (by kernel_rfl) (by kernel_rfl) ?_
  simp only [Act.put, List.setIfInBounds_toArray, List.set_cons_zero, List.set_cons_succ, List.getElem_toArray, List.getElem_cons_zero, List.getElem_cons_succ]
  refine list_val (.slice (some ⟨q1, 0, none⟩) m1 d1) (by kernel_rfl) (by kernel_rfl) ?_
  simp only [Act.put, List.setIfInBounds_toArray, List.set_cons_zero, List.set_cons_succ, List.getElem_toArray, List.getElem_cons_zero, List.getElem_cons_succ]
  refine list_val (.pointer (some ⟨w.heap.size + 1, 3, none⟩)) (by kernel_rfl) (by kernel_rfl) ?_
  simp only [Act.put, List.setIfInBounds_toArray, List.set_cons_zero, List.set_cons_succ, List.getElem_toArray, List.getElem_cons_zero, List.getElem_cons_succ]
  refine list_val (.slice t1 m1 k1) (by kernel_rfl) (exec_sby _ (.tmp 58) rfl (w.heap.size + 1) 3 (by kernel_rfl) t1 m1 k1 (cell_of ((unhide hV).blk (unhide hb1)) (i := 3) rfl)) ?_
  simp only [Act.put, List.setIfInBounds_toArray, List.set_cons_zero, List.set_cons_succ, List.getElem_toArray, List.getElem_cons_zero, List.getElem_cons_succ]
  refine list_call 11 #[.slice (some ⟨q1, 0, none⟩) m1 d1, .slice t1 m1 k1] (by kernel_rfl) (by kernel_rfl) ((beq_ok B1 B1 (some ⟨q1, 0, none⟩) t1 m1 m1 d1 k1 w3_ ((unhide ho1).gr (unhide hV)) ((unhide hl1).gr (unhide hV))).mono ?_)
  rintro r w4_ ⟨rfl, hg⟩
  rw [decide_eq_true rfl]
  replace hV := hide ((unhide hV).trans hg)
  clear hg
  refine ⟨_, rfl, ?_⟩
  simp only [Act.put, List.setIfInBounds_toArray, List.set_cons_zero, List.set_cons_succ, List.getElem_toArray, List.getElem_cons_zero, List.getElem_cons_succ]
  refine list_val (.bool false) (by kernel_rfl) (by kernel_rfl) ?_
  simp only [Act.put, List.setIfInBounds_toArray, List.set_cons_zero, List.set_cons_succ, List.getElem_toArray, List.getElem_cons_zero, List.getElem_cons_succ]
  refine list_val (.bool false) (by kernel_rfl) (by kernel_rfl) ?_
  simp only [Act.put, List.setIfInBounds_toArray, List.set_cons_zero, List.set_cons_succ, List.getElem_toArray, List.getElem_cons_zero, List.getElem_cons_succ]
  refine wpList_nil ?_
  go_upto_region 9 with fail
  refine wp_region_lit ?_
  refine list_val (.pointer (some ⟨w.heap.size, 0, none⟩)) (by kernel_rfl) (by kernel_rfl) ?_
  simp only [Act.put, List.setIfInBounds_toArray, List.set_cons_zero, List.set_cons_succ, List.getElem_toArray, List.getElem_cons_zero, List.getElem_cons_succ]
  refine list_val (.int .i64 c0) (by kernel_rfl) (exec_i64 _ (.tmp 63) rfl (w.heap.size) 0 (by kernel_rfl) c0 (cell_of ((unhide hV).blk (unhide hb0)) (i := 0) rfl)) ?_
  simp only [Act.put, List.setIfInBounds_toArray, List.set_cons_zero, List.set_cons_succ, List.getElem_toArray, List.getElem_cons_zero, List.getElem_cons_succ]
  refine list_val (.pointer (some ⟨w.heap.size, 1, none⟩)) (by kernel_rfl) (by kernel_rfl) ?_
  simp only [Act.put, List.setIfInBounds_toArray, List.set_cons_zero, List.set_cons_succ, List.getElem_toArray, List.getElem_cons_zero, List.getElem_cons_succ]
  refine list_val (.int .i64 s0) (by kernel_rfl) (exec_i64 _ (.tmp 65) rfl (w.heap.size) 1 (by kernel_rfl) s0 (cell_of ((unhide hV).blk (unhide hb0)) (i := 1) rfl)) ?_
  simp only [Act.put, List.setIfInBounds_toArray, List.set_cons_zero, List.set_cons_succ, List.getElem_toArray, List.getElem_cons_zero, List.getElem_cons_succ]
  refine list_val (.pointer (some ⟨w.heap.size, 2, none⟩)) (by kernel_rfl) (by kernel_rfl) ?_
  simp only [Act.put, List.setIfInBounds_toArray, List.set_cons_zero, List.set_cons_succ, List.getElem_toArray, List.getElem_cons_zero, List.getElem_cons_succ]
  refine list_val (.int .u64 r0) (by kernel_rfl) (exec_u64 _ (.tmp 67) rfl (w.heap.size) 2 (by kernel_rfl) r0 (cell_of ((unhide hV).blk (unhide hb0)) (i := 2) rfl)) ?_
  simp only [Act.put, List.setIfInBounds_toArray, List.set_cons_zero, List.set_cons_succ, List.getElem_toArray, List.getElem_cons_zero, List.getElem_cons_succ]
  refine list_call 38 #[.int .i64 c0, .int .i64 s0, .int .u64 r0] (by kernel_rfl) (by kernel_rfl) ((qends_ok c0 s0 r0 w4_).mono ?_)
  rintro r w5_ ⟨rfl, rfl⟩
  rw [hE0]
  refine ⟨_, rfl, ?_⟩
  simp only [Act.put, List.setIfInBounds_toArray, List.set_cons_zero, List.set_cons_succ, List.getElem_toArray, List.getElem_cons_zero, List.getElem_cons_succ]
  refine list_val (.bool true) (by kernel_rfl) (by kernel_rfl) ?_
  simp only [Act.put, List.setIfInBounds_toArray, List.set_cons_zero, List.set_cons_succ, List.getElem_toArray, List.getElem_cons_zero, List.getElem_cons_succ]
  refine list_val (.pointer (some ⟨w.heap.size, 3, none⟩)) (by kernel_rfl) (by kernel_rfl) ?_
  simp only [Act.put, List.setIfInBounds_toArray, List.set_cons_zero, List.set_cons_succ, List.getElem_toArray, List.getElem_cons_zero, List.getElem_cons_succ]
  refine list_val (.slice t0 m0 k0) (by kernel_rfl) (exec_sby _ (.tmp 71) rfl (w.heap.size) 3 (by kernel_rfl) t0 m0 k0 (cell_of ((unhide hV).blk (unhide hb0)) (i := 3) rfl)) ?_
  simp only [Act.put, List.setIfInBounds_toArray, List.set_cons_zero, List.set_cons_succ, List.getElem_toArray, List.getElem_cons_zero, List.getElem_cons_succ]
  refine list_val (.int .i64 (m0 : Int)) (by kernel_rfl) (by kernel_rfl) ?_
  simp only [Act.put, List.setIfInBounds_toArray, List.set_cons_zero, List.set_cons_succ, List.getElem_toArray, List.getElem_cons_zero, List.getElem_cons_succ]
  refine list_call 39 #[.int .i64 (m0 : Int)] (by kernel_rfl) (by kernel_rfl) ((qon_ok (m0 : Int) w5_).mono ?_)
  rintro r w6_ ⟨h0, rfl, hh0, rfl⟩
  rw [hS0, decide_eq_false_iff_not] at hh0
  refine ⟨_, rfl, ?_⟩
  simp only [Act.put, List.setIfInBounds_toArray, List.set_cons_zero, List.set_cons_succ, List.getElem_toArray, List.getElem_cons_zero, List.getElem_cons_succ]
  refine list_val (.bool false) (by kernel_rfl) (by go_simp) ?_
  simp only [Act.put, List.setIfInBounds_toArray, List.set_cons_zero, List.set_cons_succ, List.getElem_toArray, List.getElem_cons_zero, List.getElem_cons_succ]
  refine list_val (.bool false) (by kernel_rfl) (by kernel_rfl) ?_
  simp only [Act.put, List.setIfInBounds_toArray, List.set_cons_zero, List.set_cons_succ, List.getElem_toArray, List.getElem_cons_zero, List.getElem_cons_succ]
  refine wpList_nil ?_
  go_upto_region 12 with fail
  refine wp_region_lit ?_
  refine list_val (.int .i64 241) (by kernel_rfl) (by kernel_rfl) ?_
  simp only [Act.put, List.setIfInBounds_toArray, List.set_cons_zero, List.set_cons_succ, List.getElem_toArray, List.getElem_cons_zero, List.getElem_cons_succ]
  refine list_val (.bool false) (by kernel_rfl) (by kernel_rfl) ?_
  simp only [Act.put, List.setIfInBounds_toArray, List.set_cons_zero, List.set_cons_succ, List.getElem_toArray, List.getElem_cons_zero, List.getElem_cons_succ]
  refine list_val (.bool false) (by kernel_rfl) (by kernel_rfl) ?_
  simp only [Act.put, List.setIfInBounds_toArray, List.set_cons_zero, List.set_cons_succ, List.getElem_toArray, List.getElem_cons_zero, List.getElem_cons_succ]
  refine list_val (.slice none 0 0) (by kernel_rfl) (by kernel_rfl) ?_
  simp only [Act.put, List.setIfInBounds_toArray, List.set_cons_zero, List.set_cons_succ, List.getElem_toArray, List.getElem_cons_zero, List.getElem_cons_succ]
  refine list_val (.int .i64 0) (by kernel_rfl) (by kernel_rfl) ?_
  simp only [Act.put, List.setIfInBounds_toArray, List.set_cons_zero, List.set_cons_succ, List.getElem_toArray, List.getElem_cons_zero, List.getElem_cons_succ]
  refine list_val (.bool false) (by kernel_rfl) (by kernel_rfl) ?_
  simp only [Act.put, List.setIfInBounds_toArray, List.set_cons_zero, List.set_cons_succ, List.getElem_toArray, List.getElem_cons_zero, List.getElem_cons_succ]
  refine list_val (.bool false) (by kernel_rfl) (by kernel_rfl) ?_
  simp only [Act.put, List.setIfInBounds_toArray, List.set_cons_zero, List.set_cons_succ, List.getElem_toArray, List.getElem_cons_zero, List.getElem_cons_succ]
  refine wpList_nil ?_
  go_upto_region 14 with fail
  refine wp_region_lit ?_
  refine list_val (.pointer (some ⟨w.heap.size + 1, 0, none⟩)) (by kernel_rfl) (by kernel_rfl) ?_
  simp only [Act.put, List.setIfInBounds_toArray, List.set_cons_zero, List.set_cons_succ, List.getElem_toArray, List.getElem_cons_zero, List.getElem_cons_succ]
  refine list_val (.int .i64 c1) (by kernel_rfl) (exec_i64 _ (.tmp 100) rfl (w.heap.size + 1) 0 (by kernel_rfl) c1 (cell_of ((unhide hV).blk (unhide hb1)) (i := 0) rfl)) ?_
  simp only [Act.put, List.setIfInBounds_toArray, List.set_cons_zero, List.set_cons_succ, List.getElem_toArray, List.getElem_cons_zero, List.getElem_cons_succ]
  refine list_val (.pointer (some ⟨w.heap.size + 1, 1, none⟩)) (by kernel_rfl) (by kernel_rfl) ?_
  simp only [Act.put, List.setIfInBounds_toArray, List.set_cons_zero, List.set_cons_succ, List.getElem_toArray, List.getElem_cons_zero, List.getElem_cons_succ]
  refine list_val (.int .i64 s1) (by kernel_rfl) (exec_i64 _ (.tmp 102) rfl (w.heap.size + 1) 1 (by kernel_rfl) s1 (cell_of ((unhide hV).blk (unhide hb1)) (i := 1) rfl)) ?_
  simp only [Act.put, List.setIfInBounds_toArray, List.set_cons_zero, List.set_cons_succ, List.getElem_toArray, List.getElem_cons_zero, List.getElem_cons_succ]
  refine list_val (.pointer (some ⟨w.heap.size + 1, 2, none⟩)) (by kernel_rfl) (by kernel_rfl) ?_
  simp only [Act.put, List.setIfInBounds_toArray, List.set_cons_zero, List.set_cons_succ, List.getElem_toArray, List.getElem_cons_zero, List.getElem_cons_succ]
  refine list_val (.int .u64 r1) (by kernel_rfl) (exec_u64 _ (.tmp 104) rfl (w.heap.size + 1) 2 (by kernel_rfl) r1 (cell_of ((unhide hV).blk (unhide hb1)) (i := 2) rfl)) ?_
  simp only [Act.put, List.setIfInBounds_toArray, List.set_cons_zero, List.set_cons_succ, List.getElem_toArray, List.getElem_cons_zero, List.getElem_cons_succ]
  refine list_call 38 #[.int .i64 c1, .int .i64 s1, .int .u64 r1] (by kernel_rfl) (by kernel_rfl) ((qends_ok c1 s1 r1 w6_).mono ?_)
  rintro r w7_ ⟨rfl, rfl⟩
  rw [hE1]
  refine ⟨_, rfl, ?_⟩
  simp only [Act.put, List.setIfInBounds_toArray, List.set_cons_zero, List.set_cons_succ, List.getElem_toArray, List.getElem_cons_zero, List.getElem_cons_succ]
  refine list_val (.bool true) (by kernel_rfl) (by kernel_rfl) ?_
  simp only [Act.put, List.setIfInBounds_toArray, List.set_cons_zero, List.set_cons_succ, List.getElem_toArray, List.getElem_cons_zero, List.getElem_cons_succ]
  refine list_val (.pointer (some ⟨w.heap.size + 1, 3, none⟩)) (by kernel_rfl) (by kernel_rfl) ?_
  simp only [Act.put, List.setIfInBounds_toArray, List.set_cons_zero, List.set_cons_succ, List.getElem_toArray, List.getElem_cons_zero, List.getElem_cons_succ]
  refine list_val (.slice t1 m1 k1) (by kernel_rfl) (exec_sby _ (.tmp 108) rfl (w.heap.size + 1) 3 (by kernel_rfl) t1 m1 k1 (cell_of ((unhide hV).blk (unhide hb1)) (i := 3) rfl)) ?_
  simp only [Act.put, List.setIfInBounds_toArray, List.set_cons_zero, List.set_cons_succ, List.getElem_toArray, List.getElem_cons_zero, List.getElem_cons_succ]
  refine list_val (.int .i64 (m1 : Int)) (by kernel_rfl) (by kernel_rfl) ?_
  simp only [Act.put, List.setIfInBounds_toArray, List.set_cons_zero, List.set_cons_succ, List.getElem_toArray, List.getElem_cons_zero, List.getElem_cons_succ]
  refine list_call 41 #[.int .i64 (m1 : Int)] (by kernel_rfl) (by kernel_rfl) ((qrp_ok (m1 : Int) w7_).mono ?_)
  rintro r w8_ ⟨h1, rfl, hh1, rfl⟩
  rw [hS1, decide_eq_false_iff_not] at hh1
  refine ⟨_, rfl, ?_⟩
  simp only [Act.put, List.setIfInBounds_toArray, List.set_cons_zero, List.set_cons_succ, List.getElem_toArray, List.getElem_cons_zero, List.getElem_cons_succ]
  refine list_val (.bool false) (by kernel_rfl) (by go_simp) ?_
  simp only [Act.put, List.setIfInBounds_toArray, List.set_cons_zero, List.set_cons_succ, List.getElem_toArray, List.getElem_cons_zero, List.getElem_cons_succ]
  refine list_val (.bool false) (by kernel_rfl) (by kernel_rfl) ?_
  simp only [Act.put, List.setIfInBounds_toArray, List.set_cons_zero, List.set_cons_succ, List.getElem_toArray, List.getElem_cons_zero, List.getElem_cons_succ]
  refine wpList_nil ?_
  go_upto_region 16 with fail
  refine wp_region_lit ?_
  refine list_val (.int .i64 241) (by kernel_rfl) (by kernel_rfl) ?_
  simp only [Act.put, List.setIfInBounds_toArray, List.set_cons_zero, List.set_cons_succ, List.getElem_toArray, List.getElem_cons_zero, List.getElem_cons_succ]
  refine list_val (.bool true) (by kernel_rfl) (by kernel_rfl) ?_
  simp only [Act.put, List.setIfInBounds_toArray, List.set_cons_zero, List.set_cons_succ, List.getElem_toArray, List.getElem_cons_zero, List.getElem_cons_succ]
  refine list_val (.bool true) (by kernel_rfl) (by kernel_rfl) ?_
  simp only [Act.put, List.setIfInBounds_toArray, List.set_cons_zero, List.set_cons_succ, List.getElem_toArray, List.getElem_cons_zero, List.getElem_cons_succ]
  refine list_val (.slice none 0 0) (by kernel_rfl) (by kernel_rfl) ?_
  simp only [Act.put, List.setIfInBounds_toArray, List.set_cons_zero, List.set_cons_succ, List.getElem_toArray, List.getElem_cons_zero, List.getElem_cons_succ]
  refine list_val (.int .i64 0) (by kernel_rfl) (by kernel_rfl) ?_
  simp only [Act.put, List.setIfInBounds_toArray, List.set_cons_zero, List.set_cons_succ, List.getElem_toArray, List.getElem_cons_zero, List.getElem_cons_succ]
  refine list_val (.bool true) (by kernel_rfl) (by kernel_rfl) ?_
  simp only [Act.put, List.setIfInBounds_toArray, List.set_cons_zero, List.set_cons_succ, List.getElem_toArray, List.getElem_cons_zero, List.getElem_cons_succ]
  refine list_val (.bool true) (by kernel_rfl) (by kernel_rfl) ?_
  simp only [Act.put, List.setIfInBounds_toArray, List.set_cons_zero, List.set_cons_succ, List.getElem_toArray, List.getElem_cons_zero, List.getElem_cons_succ]
  (refine wpList_step fun K hK => ?_; replace hK := hide hK; go_simp; refine unhide hK _ _ ?_; clear hK K)
  refine wpList_nil ?_
  have hZ : Hid (Woke w (.returned (.bool true)) w8_) := ⟨rfl, (unhide hWg).trans (unhide hV)⟩
  go_wp2_with fail
  rw [unhide hT]
  exact unhide hZ
end Go.Proofs.Ytfmocneoffkmpaa
