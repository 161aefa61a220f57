/-
  FrameMessages: headers, messages and exchanges are their bytes, and are read of them.
-/
import Derived.Test.YtfmocneoffkmpaaFS
import Derived.Test.YtfmocneoffkmpaaFV
namespace Go.Proofs.Ytfmocneoffkmpaa
open Go.RowKit
set_option maxRecDepth 100000
set_option linter.unusedSimpArgs false
set_option linter.unusedVariables false
theorem msO_len {L : List Int} (h : L.length = 105) : (msO L).length = 99 := msl_len (sub_len h (by omega)) _ _ (sub_len h (by omega))
theorem xcO_len {L : List Int} (h : L.length = 146) : (xcO L).length = 146 := xcl_len (sub_len h (by omega)) (sub_len h (by omega))
set_option maxHeartbeats 4000000 in
theorem messages_at40 (K : List Int) (hK : K.length = 32) (bK : IsB K) (p q : Int) (hp : U4 p) (hq : U4 q) (B : List Int) (hB : B.length = 65) (bB : IsB B) (D : List Int) (hD : D.length = 16) (bD : IsB D) (X : List Int) (hX : X.length = 130) (bX : IsB X) (l : List Int) (s : Option Addr) (len cap : Nat) (w : World) (lb : Lb w s len cap l) (hN : min len 1000 = 40) : Calls Try.prog 3 #[.agg (msl K p q B).toArray, .agg (xcl D X).toArray, .slice s len cap] w (Woke w) := by
  obtain ⟨T, hT⟩ : ∃ T, T = Woke w := ⟨_, rfl⟩
  rw [← hT]
  replace hT := hide hT
  obtain ⟨C0, hC0⟩ : ∃ C, C = (msl K p q B).toArray := ⟨_, rfl⟩
  obtain ⟨C1, hC1⟩ : ∃ C, C = (xcl D X).toArray := ⟨_, rfl⟩
  rw [← hC0, ← hC1]
  replace hC0 := hide hC0; replace hC1 := hide hC1
  replace bK := hide bK; replace bB := hide bB; replace bD := hide bD; replace bX := hide bX; replace lb := hide lb
  obtain ⟨n, hn0⟩ : ∃ n, n = min len 1000 := ⟨_, rfl⟩
  obtain ⟨L, hL0⟩ : ∃ L, L = l.take n := ⟨_, rfl⟩
  have hn9 : n ≤ 1000 := by omega
  rw [← hn0] at hN
  obtain rfl : n = 40 := hN
  replace hn0 := hide hn0; replace hL0 := hide hL0
  go_enter Try.func3, Try.ntmps3
  go_upto_region 1 with fail
  have hW := (((Bl.nil w).new C0 29).new C1 34)
  simp only [size_alloc, List.nil_append, List.cons_append] at hW
  generalize World.alloc _ _ = u at *
  rw [unhide hC0, unhide hC1] at hW
  clear hC0 hC1
  replace hW : Bl w [⟨w.heap.size, (msl K p q B).toArray, 29⟩, ⟨w.heap.size + 1, (xcl D X).toArray, 34⟩] u := hW
  refine wp_region_lit ?_
  refine list_call 9 #[] (by kernel_rfl) (by kernel_rfl) ((jwakes_ok u).mono ?_)
  rintro r u1 ⟨rfl, hg⟩
  replace hW := hW.more hg
  clear hg
  refine ⟨_, rfl, ?_⟩
  simp only [Act.put, List.setIfInBounds_toArray, List.set_cons_zero, List.set_cons_succ, List.getElem_toArray, List.getElem_cons_zero, List.getElem_cons_succ]
  refine list_val (.bool false) (by kernel_rfl) (by kernel_rfl) ?_
  simp only [Act.put, List.setIfInBounds_toArray, List.set_cons_zero, List.set_cons_succ, List.getElem_toArray, List.getElem_cons_zero, List.getElem_cons_succ]
  refine wpList_nil ?_
  replace hW := hide hW
  go_upto_region 3 with fail
  replace hW := unhide hW
  refine wp_region_lit ?_
  refine list_val (.slice s len cap) (by kernel_rfl) (by kernel_rfl) ?_
  simp only [Act.put, List.setIfInBounds_toArray, List.set_cons_zero, List.set_cons_succ, List.getElem_toArray, List.getElem_cons_zero, List.getElem_cons_succ]
  refine list_call 10 #[.slice s len cap] (by kernel_rfl) (by kernel_rfl) ((jcut_ok l s len cap u1 ((unhide lb).gr hW.gr)).mono ?_)
  rintro r u2 ⟨s1, rfl, hs1, rfl⟩
  have hl := hs1 w (unhide lb)
  rw [← unhide hn0, ← unhide hL0] at hl
  rw [← unhide hn0]
  clear hs1 lb hL0 hn0
  have hLl := hl.len
  have hLb := hide hl.isB
  obtain ⟨p0, q0, rfl, hl⟩ := hl.some (by omega)
  replace hl := hide hl
  refine ⟨_, rfl, ?_⟩
  simp only [Act.put, List.setIfInBounds_toArray, List.set_cons_zero, List.set_cons_succ, List.getElem_toArray, List.getElem_cons_zero, List.getElem_cons_succ]
  (refine wpList_step fun K hK => ?_; replace hK := hide hK; go_simp; refine unhide hK _ _ ?_; clear hK K)
  refine wpList_nil ?_
  replace hW := hide hW
  go_upto_region 4 with fail
  replace hW := unhide hW
  refine any_start (S := fun (v : World) => Bl w [⟨w.heap.size, (msl K p q B).toArray, 29⟩, ⟨w.heap.size + 1, (xcl D X).toArray, 34⟩] v) (by kernel_rfl) ?_
  replace hW := hW.drew
  generalize World.drew _ = x0 at *
  have hS : (fun (v : World) => Bl w [⟨w.heap.size, (msl K p q B).toArray, 29⟩, ⟨w.heap.size + 1, (xcl D X).toArray, 34⟩] v) x0 := hW
  clear hW
  simp only [List.size_toArray, List.length_cons, List.length_nil, Array.replicate, List.replicate]
  refine any_take (i := 0) (v := (.pointer (some ⟨w.heap.size, 0, none⟩))) #[false, false, false, false, false, false, false, false, false, false, false, false, false, false, false, false, false, false, false, false, false, false, false, false] rfl (by kernel_rfl) (by kernel_rfl) (by kernel_rfl) (by kernel_rfl) (fun _ _ _ h => h) (.inl ⟨by kernel_rfl, fun x_ hu => by kernel_rfl⟩) hS ?_
  simp only [Act.put, List.setIfInBounds_toArray, List.set_cons_zero, List.set_cons_succ, List.getElem_toArray, List.getElem_cons_zero, List.getElem_cons_succ]
  refine any_take (i := 1) (v := (.agg (hdl K p q).toArray)) #[true, false, false, false, false, false, false, false, false, false, false, false, false, false, false, false, false, false, false, false, false, false, false, false] rfl (by kernel_rfl) (by kernel_rfl) (by kernel_rfl) (by kernel_rfl) (fun _ _ _ h => h) (.inl ⟨by kernel_rfl, fun x_ hu => exec_row _ 26 (.tmp 18) rfl (w.heap.size) 0 (by kernel_rfl) (hdl K p q) _ (range_mid (hu.get 0 (x := ⟨w.heap.size, (msl K p q B).toArray, 29⟩) rfl) (msl_hd0 K p q B) rfl) Try.underlying26 rfl (by rw [Try.infoH, hdl_len hK])⟩) hS ?_
  simp only [Act.put, List.setIfInBounds_toArray, List.set_cons_zero, List.set_cons_succ, List.getElem_toArray, List.getElem_cons_zero, List.getElem_cons_succ]
  refine any_take (i := 3) (v := (.pointer (some ⟨w.heap.size, 0, none⟩))) #[true, true, false, false, false, false, false, false, false, false, false, false, false, false, false, false, false, false, false, false, false, false, false, false] rfl (by kernel_rfl) (by kernel_rfl) (by kernel_rfl) (by kernel_rfl) (fun _ _ _ h => h) (.inl ⟨by kernel_rfl, fun x_ hu => by kernel_rfl⟩) hS ?_
  simp only [Act.put, List.setIfInBounds_toArray, List.set_cons_zero, List.set_cons_succ, List.getElem_toArray, List.getElem_cons_zero, List.getElem_cons_succ]
  refine any_take (i := 4) (v := (.agg (hdl K p q).toArray)) #[true, true, false, true, false, false, false, false, false, false, false, false, false, false, false, false, false, false, false, false, false, false, false, false] rfl (by kernel_rfl) (by kernel_rfl) (by kernel_rfl) (by kernel_rfl) (fun _ _ _ h => h) (.inl ⟨by kernel_rfl, fun x_ hu => exec_row _ 26 (.tmp 21) rfl (w.heap.size) 0 (by kernel_rfl) (hdl K p q) _ (range_mid (hu.get 0 (x := ⟨w.heap.size, (msl K p q B).toArray, 29⟩) rfl) (msl_hd0 K p q B) rfl) Try.underlying26 rfl (by rw [Try.infoH, hdl_len hK])⟩) hS ?_
  simp only [Act.put, List.setIfInBounds_toArray, List.set_cons_zero, List.set_cons_succ, List.getElem_toArray, List.getElem_cons_zero, List.getElem_cons_succ]
  refine any_one (i := 2) (by kernel_rfl) rfl (fun K_ hQ => ?_)
  refine step_callw (by kernel_rfl) 12 #[.agg (hdl K p q).toArray] (by kernel_rfl) ((fputh_ok K hK (unhide bK) p q hp hq x0).mono ?_)
  rintro r z2 ⟨vH0, rfl, hO, hg⟩
  refine ⟨_, rfl, ?_⟩
  obtain ⟨aH0, cH0, rfl, hH0⟩ := ob_lb hO (hdB_isB (unhide bK) p q) (n := 40) (hdB_len hK p q)
  replace hS : (fun (v : World) => Bl w [⟨w.heap.size, (msl K p q B).toArray, 29⟩, ⟨w.heap.size + 1, (xcl D X).toArray, 34⟩] v) z2 := hS.more hg
  clear hO hg
  refine hQ.out _ _ hS (fun _ => ?_)
  clear hQ K_
  simp only [Act.put, List.setIfInBounds_toArray, List.set_cons_zero, List.set_cons_succ, List.getElem_toArray, List.getElem_cons_zero, List.getElem_cons_succ]
  refine any_one (i := 5) (by kernel_rfl) rfl (fun K_ hQ => ?_)
  refine step_callw (by kernel_rfl) 13 #[.agg (hdl K p q).toArray] (by kernel_rfl) ((qhead_ok K hK (unhide bK) p q hp hq z2).mono ?_)
  rintro r z5 ⟨vH1, rfl, hO, hg⟩
  refine ⟨_, rfl, ?_⟩
  obtain ⟨aH1, cH1, rfl, hH1⟩ := ob_lb hO (hdB_isB (unhide bK) p q) (n := 40) (hdB_len hK p q)
  replace hS : (fun (v : World) => Bl w [⟨w.heap.size, (msl K p q B).toArray, 29⟩, ⟨w.heap.size + 1, (xcl D X).toArray, 34⟩] v) z5 := hS.more hg
  replace hH0 := hH0.gr hg
  clear hO hg
  refine hQ.out _ _ hS (fun _ => ?_)
  clear hQ K_
  simp only [Act.put, List.setIfInBounds_toArray, List.set_cons_zero, List.set_cons_succ, List.getElem_toArray, List.getElem_cons_zero, List.getElem_cons_succ]
  refine any_one (i := 6) (by kernel_rfl) rfl (fun K_ hQ => ?_)
  refine step_callw (by kernel_rfl) 11 #[.slice aH0 40 cH0, .slice aH1 40 cH1] (by kernel_rfl) ((beq_ok (hdB K p q) (hdB K p q) aH0 aH1 40 40 cH0 cH1 z5 hH0 hH1).mono ?_)
  rintro r z6 ⟨rfl, hg⟩
  refine ⟨_, rfl, ?_⟩
  rw [decide_eq_true rfl]
  replace hS : (fun (v : World) => Bl w [⟨w.heap.size, (msl K p q B).toArray, 29⟩, ⟨w.heap.size + 1, (xcl D X).toArray, 34⟩] v) z6 := hS.more hg
  clear hg hH0 hH1
  refine hQ.out _ _ hS (fun _ => ?_)
  clear hQ K_
  simp only [Act.put, List.setIfInBounds_toArray, List.set_cons_zero, List.set_cons_succ, List.getElem_toArray, List.getElem_cons_zero, List.getElem_cons_succ]
  refine any_take (i := 7) (v := (.bool false)) #[true, true, true, true, true, true, true, false, false, false, false, false, false, false, false, false, false, false, false, false, false, false, false, false] rfl (by kernel_rfl) (by kernel_rfl) (by kernel_rfl) (by kernel_rfl) (fun _ _ _ h => h) (.inl ⟨by kernel_rfl, fun x_ hu => by kernel_rfl⟩) hS ?_
  simp only [Act.put, List.setIfInBounds_toArray, List.set_cons_zero, List.set_cons_succ, List.getElem_toArray, List.getElem_cons_zero, List.getElem_cons_succ]
  refine any_take (i := 8) (v := (.bool false)) #[true, true, true, true, true, true, true, true, false, false, false, false, false, false, false, false, false, false, false, false, false, false, false, false] rfl (by kernel_rfl) (by kernel_rfl) (by kernel_rfl) (by kernel_rfl) (fun _ _ _ h => h) (.inl ⟨by kernel_rfl, fun x_ hu => by kernel_rfl⟩) hS ?_
  simp only [Act.put, List.setIfInBounds_toArray, List.set_cons_zero, List.set_cons_succ, List.getElem_toArray, List.getElem_cons_zero, List.getElem_cons_succ]
  refine any_take (i := 9) (v := (.agg (msl K p q B).toArray)) #[true, true, true, true, true, true, true, true, true, false, false, false, false, false, false, false, false, false, false, false, false, false, false, false] rfl (by kernel_rfl) (by kernel_rfl) (by kernel_rfl) (by kernel_rfl) (fun _ _ _ h => h) (.inl ⟨by kernel_rfl, fun x_ hu => exec_arr _ 29 (.tmp 3) rfl (w.heap.size) (by kernel_rfl) (msl K p q B).toArray 29 _ (hu.get 0 (x := ⟨w.heap.size, (msl K p q B).toArray, 29⟩) rfl) Try.underlying29 rfl (by rw [Try.infoM, List.size_toArray, msl_len hK _ _ hB])⟩) hS ?_
  simp only [Act.put, List.setIfInBounds_toArray, List.set_cons_zero, List.set_cons_succ, List.getElem_toArray, List.getElem_cons_zero, List.getElem_cons_succ]
  refine any_take (i := 11) (v := (.agg (msl K p q B).toArray)) #[true, true, true, true, true, true, true, true, true, true, false, false, false, false, false, false, false, false, false, false, false, false, false, false] rfl (by kernel_rfl) (by kernel_rfl) (by kernel_rfl) (by kernel_rfl) (fun _ _ _ h => h) (.inl ⟨by kernel_rfl, fun x_ hu => exec_arr _ 29 (.tmp 3) rfl (w.heap.size) (by kernel_rfl) (msl K p q B).toArray 29 _ (hu.get 0 (x := ⟨w.heap.size, (msl K p q B).toArray, 29⟩) rfl) Try.underlying29 rfl (by rw [Try.infoM, List.size_toArray, msl_len hK _ _ hB])⟩) hS ?_
  simp only [Act.put, List.setIfInBounds_toArray, List.set_cons_zero, List.set_cons_succ, List.getElem_toArray, List.getElem_cons_zero, List.getElem_cons_succ]
  refine any_one (i := 10) (by kernel_rfl) rfl (fun K_ hQ => ?_)
  refine step_callw (by kernel_rfl) 14 #[.agg (msl K p q B).toArray] (by kernel_rfl) ((fputm_ok K hK (unhide bK) p q hp hq B hB (unhide bB) z6).mono ?_)
  rintro r z10 ⟨vM0, rfl, hO, hg⟩
  refine ⟨_, rfl, ?_⟩
  obtain ⟨aM0, cM0, rfl, hM0⟩ := ob_lb hO (isB_append (hdB_isB (unhide bK) p q) (unhide bB)) (n := 105) (by rw [List.length_append, hdB_len hK, hB])
  replace hS : (fun (v : World) => Bl w [⟨w.heap.size, (msl K p q B).toArray, 29⟩, ⟨w.heap.size + 1, (xcl D X).toArray, 34⟩] v) z10 := hS.more hg
  clear hO hg
  refine hQ.out _ _ hS (fun _ => ?_)
  clear hQ K_
  simp only [Act.put, List.setIfInBounds_toArray, List.set_cons_zero, List.set_cons_succ, List.getElem_toArray, List.getElem_cons_zero, List.getElem_cons_succ]
  refine any_one (i := 12) (by kernel_rfl) rfl (fun K_ hQ => ?_)
  refine step_callw (by kernel_rfl) 15 #[.agg (msl K p q B).toArray] (by kernel_rfl) ((qmes_ok K hK (unhide bK) p q hp hq B hB (unhide bB) z10).mono ?_)
  rintro r z12 ⟨vM1, rfl, hO, hg⟩
  refine ⟨_, rfl, ?_⟩
  obtain ⟨aM1, cM1, rfl, hM1⟩ := ob_lb hO (isB_append (hdB_isB (unhide bK) p q) (unhide bB)) (n := 105) (by rw [List.length_append, hdB_len hK, hB])
  replace hS : (fun (v : World) => Bl w [⟨w.heap.size, (msl K p q B).toArray, 29⟩, ⟨w.heap.size + 1, (xcl D X).toArray, 34⟩] v) z12 := hS.more hg
  replace hM0 := hM0.gr hg
  clear hO hg
  refine hQ.out _ _ hS (fun _ => ?_)
  clear hQ K_
  simp only [Act.put, List.setIfInBounds_toArray, List.set_cons_zero, List.set_cons_succ, List.getElem_toArray, List.getElem_cons_zero, List.getElem_cons_succ]
  refine any_one (i := 13) (by kernel_rfl) rfl (fun K_ hQ => ?_)
  refine step_callw (by kernel_rfl) 11 #[.slice aM0 105 cM0, .slice aM1 105 cM1] (by kernel_rfl) ((beq_ok (hdB K p q ++ B) (hdB K p q ++ B) aM0 aM1 105 105 cM0 cM1 z12 hM0 hM1).mono ?_)
  rintro r z13 ⟨rfl, hg⟩
  refine ⟨_, rfl, ?_⟩
  rw [decide_eq_true rfl]
  replace hS : (fun (v : World) => Bl w [⟨w.heap.size, (msl K p q B).toArray, 29⟩, ⟨w.heap.size + 1, (xcl D X).toArray, 34⟩] v) z13 := hS.more hg
  clear hg hM0 hM1
  refine hQ.out _ _ hS (fun _ => ?_)
  clear hQ K_
  simp only [Act.put, List.setIfInBounds_toArray, List.set_cons_zero, List.set_cons_succ, List.getElem_toArray, List.getElem_cons_zero, List.getElem_cons_succ]
  refine any_take (i := 14) (v := (.bool false)) #[true, true, true, true, true, true, true, true, true, true, true, true, true, true, false, false, false, false, false, false, false, false, false, false] rfl (by kernel_rfl) (by kernel_rfl) (by kernel_rfl) (by kernel_rfl) (fun _ _ _ h => h) (.inl ⟨by kernel_rfl, fun x_ hu => by kernel_rfl⟩) hS ?_
  simp only [Act.put, List.setIfInBounds_toArray, List.set_cons_zero, List.set_cons_succ, List.getElem_toArray, List.getElem_cons_zero, List.getElem_cons_succ]
  refine any_take (i := 15) (v := (.bool false)) #[true, true, true, true, true, true, true, true, true, true, true, true, true, true, true, false, false, false, false, false, false, false, false, false] rfl (by kernel_rfl) (by kernel_rfl) (by kernel_rfl) (by kernel_rfl) (fun _ _ _ h => h) (.inl ⟨by kernel_rfl, fun x_ hu => by kernel_rfl⟩) hS ?_
  simp only [Act.put, List.setIfInBounds_toArray, List.set_cons_zero, List.set_cons_succ, List.getElem_toArray, List.getElem_cons_zero, List.getElem_cons_succ]
  refine any_take (i := 16) (v := (.bool false)) #[true, true, true, true, true, true, true, true, true, true, true, true, true, true, true, true, false, false, false, false, false, false, false, false] rfl (by kernel_rfl) (by kernel_rfl) (by kernel_rfl) (by kernel_rfl) (fun _ _ _ h => h) (.inl ⟨by kernel_rfl, fun x_ hu => by kernel_rfl⟩) hS ?_
  simp only [Act.put, List.setIfInBounds_toArray, List.set_cons_zero, List.set_cons_succ, List.getElem_toArray, List.getElem_cons_zero, List.getElem_cons_succ]
  refine any_take (i := 17) (v := (.agg (xcl D X).toArray)) #[true, true, true, true, true, true, true, true, true, true, true, true, true, true, true, true, true, false, false, false, false, false, false, false] rfl (by kernel_rfl) (by kernel_rfl) (by kernel_rfl) (by kernel_rfl) (fun _ _ _ h => h) (.inl ⟨by kernel_rfl, fun x_ hu => exec_arr _ 34 (.tmp 4) rfl (w.heap.size + 1) (by kernel_rfl) (xcl D X).toArray 34 _ (hu.get 1 (x := ⟨w.heap.size + 1, (xcl D X).toArray, 34⟩) rfl) Try.underlying34 rfl (by rw [Try.infoX, List.size_toArray, xcl_len hD hX])⟩) hS ?_
  simp only [Act.put, List.setIfInBounds_toArray, List.set_cons_zero, List.set_cons_succ, List.getElem_toArray, List.getElem_cons_zero, List.getElem_cons_succ]
  refine any_take (i := 19) (v := (.agg (xcl D X).toArray)) #[true, true, true, true, true, true, true, true, true, true, true, true, true, true, true, true, true, true, false, false, false, false, false, false] rfl (by kernel_rfl) (by kernel_rfl) (by kernel_rfl) (by kernel_rfl) (fun _ _ _ h => h) (.inl ⟨by kernel_rfl, fun x_ hu => exec_arr _ 34 (.tmp 4) rfl (w.heap.size + 1) (by kernel_rfl) (xcl D X).toArray 34 _ (hu.get 1 (x := ⟨w.heap.size + 1, (xcl D X).toArray, 34⟩) rfl) Try.underlying34 rfl (by rw [Try.infoX, List.size_toArray, xcl_len hD hX])⟩) hS ?_
  simp only [Act.put, List.setIfInBounds_toArray, List.set_cons_zero, List.set_cons_succ, List.getElem_toArray, List.getElem_cons_zero, List.getElem_cons_succ]
  refine any_one (i := 18) (by kernel_rfl) rfl (fun K_ hQ => ?_)
  refine step_callw (by kernel_rfl) 16 #[.agg (xcl D X).toArray] (by kernel_rfl) ((fputx_ok D hD (unhide bD) X hX (unhide bX) z13).mono ?_)
  rintro r z18 ⟨vX0, rfl, hO, hg⟩
  refine ⟨_, rfl, ?_⟩
  obtain ⟨aX0, cX0, rfl, hX0⟩ := ob_lb hO (isB_append (unhide bD) (unhide bX)) (n := 146) (by rw [List.length_append, hD, hX])
  replace hS : (fun (v : World) => Bl w [⟨w.heap.size, (msl K p q B).toArray, 29⟩, ⟨w.heap.size + 1, (xcl D X).toArray, 34⟩] v) z18 := hS.more hg
  clear hO hg
  refine hQ.out _ _ hS (fun _ => ?_)
  clear hQ K_
  simp only [Act.put, List.setIfInBounds_toArray, List.set_cons_zero, List.set_cons_succ, List.getElem_toArray, List.getElem_cons_zero, List.getElem_cons_succ]
  refine any_one (i := 20) (by kernel_rfl) rfl (fun K_ hQ => ?_)
  refine step_callw (by kernel_rfl) 17 #[.agg (xcl D X).toArray] (by kernel_rfl) ((qexc_ok D hD (unhide bD) X hX (unhide bX) z18).mono ?_)
  rintro r z20 ⟨vX1, rfl, hO, hg⟩
  refine ⟨_, rfl, ?_⟩
  obtain ⟨aX1, cX1, rfl, hX1⟩ := ob_lb hO (isB_append (unhide bD) (unhide bX)) (n := 146) (by rw [List.length_append, hD, hX])
  replace hS : (fun (v : World) => Bl w [⟨w.heap.size, (msl K p q B).toArray, 29⟩, ⟨w.heap.size + 1, (xcl D X).toArray, 34⟩] v) z20 := hS.more hg
  replace hX0 := hX0.gr hg
  clear hO hg
  refine hQ.out _ _ hS (fun _ => ?_)
  clear hQ K_
  simp only [Act.put, List.setIfInBounds_toArray, List.set_cons_zero, List.set_cons_succ, List.getElem_toArray, List.getElem_cons_zero, List.getElem_cons_succ]
  refine any_one (i := 21) (by kernel_rfl) rfl (fun K_ hQ => ?_)
  refine step_callw (by kernel_rfl) 11 #[.slice aX0 146 cX0, .slice aX1 146 cX1] (by kernel_rfl) ((beq_ok (D ++ X) (D ++ X) aX0 aX1 146 146 cX0 cX1 z20 hX0 hX1).mono ?_)
  rintro r z21 ⟨rfl, hg⟩
  refine ⟨_, rfl, ?_⟩
  rw [decide_eq_true rfl]
  replace hS : (fun (v : World) => Bl w [⟨w.heap.size, (msl K p q B).toArray, 29⟩, ⟨w.heap.size + 1, (xcl D X).toArray, 34⟩] v) z21 := hS.more hg
  clear hg hX0 hX1
  refine hQ.out _ _ hS (fun _ => ?_)
  clear hQ K_
  simp only [Act.put, List.setIfInBounds_toArray, List.set_cons_zero, List.set_cons_succ, List.getElem_toArray, List.getElem_cons_zero, List.getElem_cons_succ]
  refine any_take (i := 22) (v := (.bool false)) #[true, true, true, true, true, true, true, true, true, true, true, true, true, true, true, true, true, true, true, true, true, true, false, false] rfl (by kernel_rfl) (by kernel_rfl) (by kernel_rfl) (by kernel_rfl) (fun _ _ _ h => h) (.inl ⟨by kernel_rfl, fun x_ hu => by kernel_rfl⟩) hS ?_
  simp only [Act.put, List.setIfInBounds_toArray, List.set_cons_zero, List.set_cons_succ, List.getElem_toArray, List.getElem_cons_zero, List.getElem_cons_succ]
  refine any_take (i := 23) (v := (.bool false)) #[true, true, true, true, true, true, true, true, true, true, true, true, true, true, true, true, true, true, true, true, true, true, true, false] rfl (by kernel_rfl) (by kernel_rfl) (by kernel_rfl) (by kernel_rfl) (fun _ _ _ h => h) (.inl ⟨by kernel_rfl, fun x_ hu => by kernel_rfl⟩) hS ?_
  simp only [Act.put, List.setIfInBounds_toArray, List.set_cons_zero, List.set_cons_succ, List.getElem_toArray, List.getElem_cons_zero, List.getElem_cons_succ]
  refine any_done (by kernel_rfl) ?_
  have hW : Bl w [⟨w.heap.size, (msl K p q B).toArray, 29⟩, ⟨w.heap.size + 1, (xcl D X).toArray, 34⟩] z21 := hS
  clear hS
  replace hW := hide hW
  go_upto_region 6 with fail
  replace hW := unhide hW
  refine wp_region_lit ?_
  refine list_val (.slice (some ⟨p0, q0, none⟩) 40 cap) (by kernel_rfl) (by kernel_rfl) ?_
  simp only [Act.put, List.setIfInBounds_toArray, List.set_cons_zero, List.set_cons_succ, List.getElem_toArray, List.getElem_cons_zero, List.getElem_cons_succ]
  refine list_call 18 #[.slice (some ⟨p0, q0, none⟩) 40 cap] (by kernel_rfl) (by kernel_rfl) ((jroom_ok L (some ⟨p0, q0, none⟩) 40 cap (by omega) z21 ((unhide hl).gr hW.gr)).mono ?_)
  rintro r u6 ⟨go, co, rfl, hc1, hc2, hgo, hat, hg⟩
  rw [hLl] at hc1 ⊢
  have hlo : Lb u6 (some ⟨go, 0, none⟩) 40 co L := by
    have h9 := hat.take 40
    rw [List.take_append_of_le_length (by rw [hLl]; exact Nat.le_refl _), List.take_of_length_le (by rw [hLl]; exact Nat.le_refl _)] at h9
    exact ⟨hLl, unhide hLb, .inr ⟨go, 0, rfl, h9⟩, by omega, hc2⟩
  replace hlo := hide hlo
  have hWg := hide (hW.gr.trans hg)
  replace hl := hide ((unhide hl).gr (unhide hWg))
  clear hW hg hat hc1 hc2 hgo
  have hW := Bl.nil u6
  refine ⟨_, rfl, ?_⟩
  simp only [Act.put, List.setIfInBounds_toArray, List.set_cons_zero, List.set_cons_succ, List.getElem_toArray, List.getElem_cons_zero, List.getElem_cons_succ]
  (refine wpList_step fun K hK => ?_; replace hK := hide hK; go_simp; refine unhide hK _ _ ?_; clear hK K)
  refine wpList_nil ?_
  replace hW := hide hW
  go_upto_region 7 with fail
  replace hW := unhide hW
  refine wp_region_lit ?_
  refine list_val (.slice (some ⟨go, 0, none⟩) 40 co) (by kernel_rfl) (by kernel_rfl) ?_
  simp only [Act.put, List.setIfInBounds_toArray, List.set_cons_zero, List.set_cons_succ, List.getElem_toArray, List.getElem_cons_zero, List.getElem_cons_succ]
  refine list_call 19 #[.slice (some ⟨go, 0, none⟩) 40 co] (by kernel_rfl) (by kernel_rfl) ((fgeth_ok L (some ⟨go, 0, none⟩) co u6 ((unhide hlo).gr hW.gr)).mono ?_)
  rintro r h1 ⟨rfl, hg⟩
  replace hW := hW.more hg
  clear hg
  refine ⟨_, rfl, ?_⟩
  simp only [Act.put, List.setIfInBounds_toArray, List.set_cons_zero, List.set_cons_succ, List.getElem_toArray, List.getElem_cons_zero, List.getElem_cons_succ]
  refine list_val (.tuple #[.agg (hdO L 0).toArray, .int .i64 0]) (by kernel_rfl) (by kernel_rfl) ?_
  simp only [Act.put, List.setIfInBounds_toArray, List.set_cons_zero, List.set_cons_succ, List.getElem_toArray, List.getElem_cons_zero, List.getElem_cons_succ]
  refine list_val (.agg (hdO L 0).toArray) (by kernel_rfl) (by kernel_rfl) ?_
  simp only [Act.put, List.setIfInBounds_toArray, List.set_cons_zero, List.set_cons_succ, List.getElem_toArray, List.getElem_cons_zero, List.getElem_cons_succ]
  refine list_val (.int .i64 0) (by kernel_rfl) (by kernel_rfl) ?_
  simp only [Act.put, List.setIfInBounds_toArray, List.set_cons_zero, List.set_cons_succ, List.getElem_toArray, List.getElem_cons_zero, List.getElem_cons_succ]
  refine list_valw (.pointer (some ⟨h1.heap.size, 0, none⟩)) (h1.alloc (.cells (hdl Z32 0 0).toArray 26 (0, 0))) (by kernel_rfl) (by kernel_rfl) ?_
  replace hW := hW.new (hdl Z32 0 0).toArray 26
  simp only [List.nil_append, List.cons_append] at hW
  generalize World.alloc _ _ = h2 at *
  generalize h1.heap.size = qh at *
  replace hW : Bl u6 [⟨qh, (hdl Z32 0 0).toArray, 26⟩] h2 := hW
  simp only [Act.put, List.setIfInBounds_toArray, List.set_cons_zero, List.set_cons_succ, List.getElem_toArray, List.getElem_cons_zero, List.getElem_cons_succ]
  refine list_store 26 (.tmp 8) (.tmp 47) qh (hdO L 0).toArray 26 (hdl Z32 0 0).toArray (by kernel_rfl) rfl (by kernel_rfl) (by kernel_rfl) (hW.get 0 (x := ⟨qh, (hdl Z32 0 0).toArray, 26⟩) rfl) (by rw [Try.infoH, List.size_toArray, hdO_len hLl (by omega)]) (by rw [List.size_toArray, List.size_toArray, hdO_len hLl (by omega)]; rfl) (hdl_one ..) ?_
  replace hW := hW.set 0 (x := ⟨qh, (hdl Z32 0 0).toArray, 26⟩) rfl (hdO L 0).toArray
  simp only [List.set_cons_zero, List.set_cons_succ] at hW
  generalize World.setRow _ _ _ = h3 at *
  replace hW : Bl u6 [⟨qh, (hdO L 0).toArray, 26⟩] h3 := hW
  simp only [Act.put, List.setIfInBounds_toArray, List.set_cons_zero, List.set_cons_succ, List.getElem_toArray, List.getElem_cons_zero, List.getElem_cons_succ]
  (refine wpList_step fun K hK => ?_; replace hK := hide hK; go_simp; refine unhide hK _ _ ?_; clear hK K)
  refine wpList_nil ?_
  replace hW := hide hW
  go_upto_region 8 with fail
  replace hW := unhide hW
  refine wp_region_lit ?_
  refine list_val (.slice (some ⟨go, 0, none⟩) 40 co) (by kernel_rfl) (by kernel_rfl) ?_
  simp only [Act.put, List.setIfInBounds_toArray, List.set_cons_zero, List.set_cons_succ, List.getElem_toArray, List.getElem_cons_zero, List.getElem_cons_succ]
  refine list_call 20 #[.slice (some ⟨go, 0, none⟩) 40 co] (by kernel_rfl) (by kernel_rfl) ((fgetm_no (some ⟨go, 0, none⟩) 40 co (by omega) h3).mono ?_)
  rintro r m1 ⟨rfl, hg⟩
  replace hW := hW.more hg
  clear hg
  refine ⟨_, rfl, ?_⟩
  simp only [Act.put, List.setIfInBounds_toArray, List.set_cons_zero, List.set_cons_succ, List.getElem_toArray, List.getElem_cons_zero, List.getElem_cons_succ]
  refine list_val (.tuple #[.agg (msl Z32 0 0 Z65).toArray, .int .i64 240]) (by kernel_rfl) (by kernel_rfl) ?_
  simp only [Act.put, List.setIfInBounds_toArray, List.set_cons_zero, List.set_cons_succ, List.getElem_toArray, List.getElem_cons_zero, List.getElem_cons_succ]
  refine list_val (.agg (msl Z32 0 0 Z65).toArray) (by kernel_rfl) (by kernel_rfl) ?_
  simp only [Act.put, List.setIfInBounds_toArray, List.set_cons_zero, List.set_cons_succ, List.getElem_toArray, List.getElem_cons_zero, List.getElem_cons_succ]
  refine list_val (.int .i64 240) (by kernel_rfl) (by kernel_rfl) ?_
  simp only [Act.put, List.setIfInBounds_toArray, List.set_cons_zero, List.set_cons_succ, List.getElem_toArray, List.getElem_cons_zero, List.getElem_cons_succ]
  refine list_valw (.pointer (some ⟨m1.heap.size, 0, none⟩)) (m1.alloc (.cells (msl Z32 0 0 Z65).toArray 29 (0, 0))) (by kernel_rfl) (by kernel_rfl) ?_
  replace hW := hW.new (msl Z32 0 0 Z65).toArray 29
  simp only [List.nil_append, List.cons_append] at hW
  generalize World.alloc _ _ = m2 at *
  generalize m1.heap.size = qm at *
  replace hW : Bl u6 [⟨qh, (hdO L 0).toArray, 26⟩, ⟨qm, (msl Z32 0 0 Z65).toArray, 29⟩] m2 := hW
  simp only [Act.put, List.setIfInBounds_toArray, List.set_cons_zero, List.set_cons_succ, List.getElem_toArray, List.getElem_cons_zero, List.getElem_cons_succ]
  refine list_store 29 (.tmp 10) (.tmp 52) qm (msl Z32 0 0 Z65).toArray 29 (msl Z32 0 0 Z65).toArray (by kernel_rfl) rfl (by kernel_rfl) (by kernel_rfl) (hW.get 1 (x := ⟨qm, (msl Z32 0 0 Z65).toArray, 29⟩) rfl) (by rw [Try.infoM]; rfl) (rfl) (msl_one ..) ?_
  replace hW := hW.set 1 (x := ⟨qm, (msl Z32 0 0 Z65).toArray, 29⟩) rfl (msl Z32 0 0 Z65).toArray
  simp only [List.set_cons_zero, List.set_cons_succ] at hW
  generalize World.setRow _ _ _ = m3 at *
  replace hW : Bl u6 [⟨qh, (hdO L 0).toArray, 26⟩, ⟨qm, (msl Z32 0 0 Z65).toArray, 29⟩] m3 := hW
  simp only [Act.put, List.setIfInBounds_toArray, List.set_cons_zero, List.set_cons_succ, List.getElem_toArray, List.getElem_cons_zero, List.getElem_cons_succ]
  (refine wpList_step fun K hK => ?_; replace hK := hide hK; go_simp; refine unhide hK _ _ ?_; clear hK K)
  refine wpList_nil ?_
  replace hW := hide hW
  go_upto_region 9 with fail
  replace hW := unhide hW
  refine wp_region_lit ?_
  refine list_val (.slice (some ⟨go, 0, none⟩) 40 co) (by kernel_rfl) (by kernel_rfl) ?_
  simp only [Act.put, List.setIfInBounds_toArray, List.set_cons_zero, List.set_cons_succ, List.getElem_toArray, List.getElem_cons_zero, List.getElem_cons_succ]
  refine list_call 21 #[.slice (some ⟨go, 0, none⟩) 40 co] (by kernel_rfl) (by kernel_rfl) ((fgetx_no (some ⟨go, 0, none⟩) 40 co (by omega) m3).mono ?_)
  rintro r x1 ⟨rfl, hg⟩
  replace hW := hW.more hg
  clear hg
  refine ⟨_, rfl, ?_⟩
  simp only [Act.put, List.setIfInBounds_toArray, List.set_cons_zero, List.set_cons_succ, List.getElem_toArray, List.getElem_cons_zero, List.getElem_cons_succ]
  refine list_val (.tuple #[.agg (xcl Z16 Z130).toArray, .int .i64 240]) (by kernel_rfl) (by kernel_rfl) ?_
  simp only [Act.put, List.setIfInBounds_toArray, List.set_cons_zero, List.set_cons_succ, List.getElem_toArray, List.getElem_cons_zero, List.getElem_cons_succ]
  refine list_val (.agg (xcl Z16 Z130).toArray) (by kernel_rfl) (by kernel_rfl) ?_
  simp only [Act.put, List.setIfInBounds_toArray, List.set_cons_zero, List.set_cons_succ, List.getElem_toArray, List.getElem_cons_zero, List.getElem_cons_succ]
  refine list_val (.int .i64 240) (by kernel_rfl) (by kernel_rfl) ?_
  simp only [Act.put, List.setIfInBounds_toArray, List.set_cons_zero, List.set_cons_succ, List.getElem_toArray, List.getElem_cons_zero, List.getElem_cons_succ]
  refine list_valw (.pointer (some ⟨x1.heap.size, 0, none⟩)) (x1.alloc (.cells (xcl Z16 Z130).toArray 34 (0, 0))) (by kernel_rfl) (by kernel_rfl) ?_
  replace hW := hW.new (xcl Z16 Z130).toArray 34
  simp only [List.nil_append, List.cons_append] at hW
  generalize World.alloc _ _ = x2 at *
  generalize x1.heap.size = qx at *
  replace hW : Bl u6 [⟨qh, (hdO L 0).toArray, 26⟩, ⟨qm, (msl Z32 0 0 Z65).toArray, 29⟩, ⟨qx, (xcl Z16 Z130).toArray, 34⟩] x2 := hW
  simp only [Act.put, List.setIfInBounds_toArray, List.set_cons_zero, List.set_cons_succ, List.getElem_toArray, List.getElem_cons_zero, List.getElem_cons_succ]
  refine list_store 34 (.tmp 12) (.tmp 57) qx (xcl Z16 Z130).toArray 34 (xcl Z16 Z130).toArray (by kernel_rfl) rfl (by kernel_rfl) (by kernel_rfl) (hW.get 2 (x := ⟨qx, (xcl Z16 Z130).toArray, 34⟩) rfl) (by rw [Try.infoX]; rfl) (rfl) (xcl_one ..) ?_
  replace hW := hW.set 2 (x := ⟨qx, (xcl Z16 Z130).toArray, 34⟩) rfl (xcl Z16 Z130).toArray
  simp only [List.set_cons_zero, List.set_cons_succ] at hW
  generalize World.setRow _ _ _ = x3 at *
  replace hW : Bl u6 [⟨qh, (hdO L 0).toArray, 26⟩, ⟨qm, (msl Z32 0 0 Z65).toArray, 29⟩, ⟨qx, (xcl Z16 Z130).toArray, 34⟩] x3 := hW
  simp only [Act.put, List.setIfInBounds_toArray, List.set_cons_zero, List.set_cons_succ, List.getElem_toArray, List.getElem_cons_zero, List.getElem_cons_succ]
  (refine wpList_step fun K hK => ?_; replace hK := hide hK; go_simp; refine unhide hK _ _ ?_; clear hK K)
  refine wpList_nil ?_
  replace hW := hide hW
  go_upto_region 10 with fail
  replace hW := unhide hW
  refine wp_region_lit ?_
  refine list_val (.slice (some ⟨p0, q0, none⟩) 40 cap) (by kernel_rfl) (by kernel_rfl) ?_
  simp only [Act.put, List.setIfInBounds_toArray, List.set_cons_zero, List.set_cons_succ, List.getElem_toArray, List.getElem_cons_zero, List.getElem_cons_succ]
  refine list_val (.int .i64 40) (by kernel_rfl) (by kernel_rfl) ?_
  simp only [Act.put, List.setIfInBounds_toArray, List.set_cons_zero, List.set_cons_succ, List.getElem_toArray, List.getElem_cons_zero, List.getElem_cons_succ]
  refine list_val (.bool true) (by kernel_rfl) (by kernel_rfl) ?_
  simp only [Act.put, List.setIfInBounds_toArray, List.set_cons_zero, List.set_cons_succ, List.getElem_toArray, List.getElem_cons_zero, List.getElem_cons_succ]
  refine wpList_nil ?_
  replace hW := hide hW
  go_upto_region 11 with fail
  replace hW := unhide hW
  refine any_start (S := fun (v : World) => Bl u6 [⟨qh, (hdO L 0).toArray, 26⟩, ⟨qm, (msl Z32 0 0 Z65).toArray, 29⟩, ⟨qx, (xcl Z16 Z130).toArray, 34⟩] v) (by kernel_rfl) ?_
  replace hW := hW.drew
  generalize World.drew _ = y11 at *
  have hS : (fun (v : World) => Bl u6 [⟨qh, (hdO L 0).toArray, 26⟩, ⟨qm, (msl Z32 0 0 Z65).toArray, 29⟩, ⟨qx, (xcl Z16 Z130).toArray, 34⟩] v) y11 := hW
  clear hW
  simp only [List.size_toArray, List.length_cons, List.length_nil, Array.replicate, List.replicate]
  refine any_take (i := 0) (v := (.int .i64 0)) #[false, false, false, false, false, false, false, false] rfl (by kernel_rfl) (by kernel_rfl) (by kernel_rfl) (by kernel_rfl) (fun _ _ _ h => h) (.inl ⟨by kernel_rfl, fun x_ hu => by kernel_rfl⟩) hS ?_
  simp only [Act.put, List.setIfInBounds_toArray, List.set_cons_zero, List.set_cons_succ, List.getElem_toArray, List.getElem_cons_zero, List.getElem_cons_succ]
  refine any_take (i := 1) (v := (.bool false)) #[true, false, false, false, false, false, false, false] rfl (by kernel_rfl) (by kernel_rfl) (by kernel_rfl) (by kernel_rfl) (fun _ _ _ h => h) (.inl ⟨by kernel_rfl, fun x_ hu => by kernel_rfl⟩) hS ?_
  simp only [Act.put, List.setIfInBounds_toArray, List.set_cons_zero, List.set_cons_succ, List.getElem_toArray, List.getElem_cons_zero, List.getElem_cons_succ]
  refine any_take (i := 2) (v := (.bool false)) #[true, true, false, false, false, false, false, false] rfl (by kernel_rfl) (by kernel_rfl) (by kernel_rfl) (by kernel_rfl) (fun _ _ _ h => h) (.inl ⟨by kernel_rfl, fun x_ hu => by kernel_rfl⟩) hS ?_
  simp only [Act.put, List.setIfInBounds_toArray, List.set_cons_zero, List.set_cons_succ, List.getElem_toArray, List.getElem_cons_zero, List.getElem_cons_succ]
  refine any_take (i := 3) (v := (.agg (hdO L 0).toArray)) #[true, true, true, false, false, false, false, false] rfl (by kernel_rfl) (by kernel_rfl) (by kernel_rfl) (by kernel_rfl) (fun _ _ _ h => h) (.inl ⟨by kernel_rfl, fun x_ hu => exec_arr _ 26 (.tmp 8) rfl qh (by kernel_rfl) (hdO L 0).toArray 26 _ (hu.get 0 (x := ⟨qh, (hdO L 0).toArray, 26⟩) rfl) Try.underlying26 rfl (by rw [Try.infoH, List.size_toArray, hdO_len hLl (by omega)])⟩) hS ?_
  simp only [Act.put, List.setIfInBounds_toArray, List.set_cons_zero, List.set_cons_succ, List.getElem_toArray, List.getElem_cons_zero, List.getElem_cons_succ]
  refine any_take (i := 4) (v := (.slice (some ⟨p0, q0, none⟩) 40 cap)) #[true, true, true, true, false, false, false, false] rfl (by kernel_rfl) (by kernel_rfl) (by kernel_rfl) (by kernel_rfl) (fun _ _ _ h => h) (.inl ⟨by kernel_rfl, fun x_ hu => by kernel_rfl⟩) hS ?_
  simp only [Act.put, List.setIfInBounds_toArray, List.set_cons_zero, List.set_cons_succ, List.getElem_toArray, List.getElem_cons_zero, List.getElem_cons_succ]
  refine any_one (i := 5) (by kernel_rfl) rfl (fun K_ hQ => ?_)
  refine step_callw (by kernel_rfl) 22 #[.slice (some ⟨p0, q0, none⟩) 40 cap] (by kernel_rfl) ((qgeth_ok L p0 q0 40 cap (by omega) y11 ((unhide hl).gr hS.gr)).mono ?_)
  rintro r d11 ⟨rfl, hg⟩
  refine ⟨_, rfl, ?_⟩
  replace hS : (fun (v : World) => Bl u6 [⟨qh, (hdO L 0).toArray, 26⟩, ⟨qm, (msl Z32 0 0 Z65).toArray, 29⟩, ⟨qx, (xcl Z16 Z130).toArray, 34⟩] v) d11 := hS.more hg
  clear hg
  refine hQ.out _ _ hS (fun _ => ?_)
  clear hQ K_
  simp only [Act.put, List.setIfInBounds_toArray, List.set_cons_zero, List.set_cons_succ, List.getElem_toArray, List.getElem_cons_zero, List.getElem_cons_succ]
  refine any_take (i := 6) (v := (.bool false)) #[true, true, true, true, true, true, false, false] rfl (by kernel_rfl) (by kernel_rfl) (by kernel_rfl) (by kernel_rfl) (fun _ _ _ h => h) (.inl ⟨by kernel_rfl, fun x_ hu => exec_neq_h _ (.tmp 65) (.tmp 67) rfl (hdO L 0).toArray (by kernel_rfl) (by kernel_rfl) (eq_hdl (sub_len hLl (by omega)) _ _ _)⟩) hS ?_
  simp only [Act.put, List.setIfInBounds_toArray, List.set_cons_zero, List.set_cons_succ, List.getElem_toArray, List.getElem_cons_zero, List.getElem_cons_succ]
  refine any_take (i := 7) (v := (.bool false)) #[true, true, true, true, true, true, true, false] rfl (by kernel_rfl) (by kernel_rfl) (by kernel_rfl) (by kernel_rfl) (fun _ _ _ h => h) (.inl ⟨by kernel_rfl, fun x_ hu => by kernel_rfl⟩) hS ?_
  simp only [Act.put, List.setIfInBounds_toArray, List.set_cons_zero, List.set_cons_succ, List.getElem_toArray, List.getElem_cons_zero, List.getElem_cons_succ]
  refine any_done (by kernel_rfl) ?_
  have hW : Bl u6 [⟨qh, (hdO L 0).toArray, 26⟩, ⟨qm, (msl Z32 0 0 Z65).toArray, 29⟩, ⟨qx, (xcl Z16 Z130).toArray, 34⟩] d11 := hS
  clear hS
  replace hW := hide hW
  go_upto_region 15 with fail
  replace hW := unhide hW
  refine wp_region_lit ?_
  refine list_val (.slice (some ⟨p0, q0, none⟩) 40 cap) (by kernel_rfl) (by kernel_rfl) ?_
  simp only [Act.put, List.setIfInBounds_toArray, List.set_cons_zero, List.set_cons_succ, List.getElem_toArray, List.getElem_cons_zero, List.getElem_cons_succ]
  refine list_val (.int .i64 40) (by kernel_rfl) (by kernel_rfl) ?_
  simp only [Act.put, List.setIfInBounds_toArray, List.set_cons_zero, List.set_cons_succ, List.getElem_toArray, List.getElem_cons_zero, List.getElem_cons_succ]
  refine list_val (.bool false) (by kernel_rfl) (by kernel_rfl) ?_
  simp only [Act.put, List.setIfInBounds_toArray, List.set_cons_zero, List.set_cons_succ, List.getElem_toArray, List.getElem_cons_zero, List.getElem_cons_succ]
  refine wpList_nil ?_
  replace hW := hide hW
  go_upto_region 18 with fail
  replace hW := unhide hW
  refine wp_region_lit ?_
  refine list_val (.int .i64 240) (by kernel_rfl) (by kernel_rfl) ?_
  simp only [Act.put, List.setIfInBounds_toArray, List.set_cons_zero, List.set_cons_succ, List.getElem_toArray, List.getElem_cons_zero, List.getElem_cons_succ]
  refine list_val (.bool false) (by kernel_rfl) (by kernel_rfl) ?_
  simp only [Act.put, List.setIfInBounds_toArray, List.set_cons_zero, List.set_cons_succ, List.getElem_toArray, List.getElem_cons_zero, List.getElem_cons_succ]
  refine list_val (.bool false) (by kernel_rfl) (by kernel_rfl) ?_
  simp only [Act.put, List.setIfInBounds_toArray, List.set_cons_zero, List.set_cons_succ, List.getElem_toArray, List.getElem_cons_zero, List.getElem_cons_succ]
  refine list_val (.agg (msl Z32 0 0 Z65).toArray) (by kernel_rfl) (exec_arr _ 29 (.tmp 10) rfl qm (by kernel_rfl) (msl Z32 0 0 Z65).toArray 29 _ (hW.get 1 (x := ⟨qm, (msl Z32 0 0 Z65).toArray, 29⟩) rfl) Try.underlying29 rfl (by rw [Try.infoM]; rfl)) ?_
  simp only [Act.put, List.setIfInBounds_toArray, List.set_cons_zero, List.set_cons_succ, List.getElem_toArray, List.getElem_cons_zero, List.getElem_cons_succ]
  refine list_val (.agg (msl Z32 0 0 Z65).toArray) (by kernel_rfl) (by kernel_rfl) ?_
  simp only [Act.put, List.setIfInBounds_toArray, List.set_cons_zero, List.set_cons_succ, List.getElem_toArray, List.getElem_cons_zero, List.getElem_cons_succ]
  refine list_val (.bool false) (by kernel_rfl) (exec_neq_m _ (.tmp 91) (.tmp 92) rfl (msl Z32 0 0 Z65).toArray (by kernel_rfl) (by kernel_rfl) (eq_msl (K := Z32) rfl 0 0 (B := Z65) rfl _)) ?_
  simp only [Act.put, List.setIfInBounds_toArray, List.set_cons_zero, List.set_cons_succ, List.getElem_toArray, List.getElem_cons_zero, List.getElem_cons_succ]
  refine list_val (.bool false) (by kernel_rfl) (by kernel_rfl) ?_
  simp only [Act.put, List.setIfInBounds_toArray, List.set_cons_zero, List.set_cons_succ, List.getElem_toArray, List.getElem_cons_zero, List.getElem_cons_succ]
  refine wpList_nil ?_
  replace hW := hide hW
  go_upto_region 20 with fail
  replace hW := unhide hW
  refine wp_region_lit ?_
  refine list_val (.slice (some ⟨p0, q0, none⟩) 40 cap) (by kernel_rfl) (by kernel_rfl) ?_
  simp only [Act.put, List.setIfInBounds_toArray, List.set_cons_zero, List.set_cons_succ, List.getElem_toArray, List.getElem_cons_zero, List.getElem_cons_succ]
  refine list_val (.int .i64 40) (by kernel_rfl) (by kernel_rfl) ?_
  simp only [Act.put, List.setIfInBounds_toArray, List.set_cons_zero, List.set_cons_succ, List.getElem_toArray, List.getElem_cons_zero, List.getElem_cons_succ]
  refine list_val (.bool false) (by kernel_rfl) (by kernel_rfl) ?_
  simp only [Act.put, List.setIfInBounds_toArray, List.set_cons_zero, List.set_cons_succ, List.getElem_toArray, List.getElem_cons_zero, List.getElem_cons_succ]
  refine wpList_nil ?_
  replace hW := hide hW
  go_upto_region 22 with fail
  replace hW := unhide hW
  refine wp_region_lit ?_
  refine list_val (.int .i64 240) (by kernel_rfl) (by kernel_rfl) ?_
  simp only [Act.put, List.setIfInBounds_toArray, List.set_cons_zero, List.set_cons_succ, List.getElem_toArray, List.getElem_cons_zero, List.getElem_cons_succ]
  refine list_val (.bool true) (by kernel_rfl) (by kernel_rfl) ?_
  simp only [Act.put, List.setIfInBounds_toArray, List.set_cons_zero, List.set_cons_succ, List.getElem_toArray, List.getElem_cons_zero, List.getElem_cons_succ]
  refine list_val (.bool true) (by kernel_rfl) (by kernel_rfl) ?_
  simp only [Act.put, List.setIfInBounds_toArray, List.set_cons_zero, List.set_cons_succ, List.getElem_toArray, List.getElem_cons_zero, List.getElem_cons_succ]
  refine list_val (.agg (xcl Z16 Z130).toArray) (by kernel_rfl) (exec_arr _ 34 (.tmp 12) rfl qx (by kernel_rfl) (xcl Z16 Z130).toArray 34 _ (hW.get 2 (x := ⟨qx, (xcl Z16 Z130).toArray, 34⟩) rfl) Try.underlying34 rfl (by rw [Try.infoX]; rfl)) ?_
  simp only [Act.put, List.setIfInBounds_toArray, List.set_cons_zero, List.set_cons_succ, List.getElem_toArray, List.getElem_cons_zero, List.getElem_cons_succ]
  refine list_val (.agg (xcl Z16 Z130).toArray) (by kernel_rfl) (by kernel_rfl) ?_
  simp only [Act.put, List.setIfInBounds_toArray, List.set_cons_zero, List.set_cons_succ, List.getElem_toArray, List.getElem_cons_zero, List.getElem_cons_succ]
  refine list_val (.bool true) (by kernel_rfl) (exec_eql_x _ (.tmp 109) (.tmp 110) rfl (xcl Z16 Z130).toArray (by kernel_rfl) (by kernel_rfl) (eq_xcl (D := Z16) rfl (B := Z130) rfl _)) ?_
  simp only [Act.put, List.setIfInBounds_toArray, List.set_cons_zero, List.set_cons_succ, List.getElem_toArray, List.getElem_cons_zero, List.getElem_cons_succ]
  refine list_val (.bool true) (by kernel_rfl) (by kernel_rfl) ?_
  simp only [Act.put, List.setIfInBounds_toArray, List.set_cons_zero, List.set_cons_succ, List.getElem_toArray, List.getElem_cons_zero, List.getElem_cons_succ]
  refine list_val (.bool true) (by kernel_rfl) (by kernel_rfl) ?_
  simp only [Act.put, List.setIfInBounds_toArray, List.set_cons_zero, List.set_cons_succ, List.getElem_toArray, List.getElem_cons_zero, List.getElem_cons_succ]
  refine list_val (.slice (some ⟨go, 0, none⟩) 40 co) (by kernel_rfl) (by kernel_rfl) ?_
  simp only [Act.put, List.setIfInBounds_toArray, List.set_cons_zero, List.set_cons_succ, List.getElem_toArray, List.getElem_cons_zero, List.getElem_cons_succ]
  refine list_val (.slice (some ⟨p0, q0, none⟩) 40 cap) (by kernel_rfl) (by kernel_rfl) ?_
  simp only [Act.put, List.setIfInBounds_toArray, List.set_cons_zero, List.set_cons_succ, List.getElem_toArray, List.getElem_cons_zero, List.getElem_cons_succ]
  refine list_call 11 #[.slice (some ⟨go, 0, none⟩) 40 co, .slice (some ⟨p0, q0, none⟩) 40 cap] (by kernel_rfl) (by kernel_rfl) ((beq_ok L L (some ⟨go, 0, none⟩) (some ⟨p0, q0, none⟩) 40 40 co cap d11 ((unhide hlo).gr hW.gr) ((unhide hl).gr hW.gr)).mono ?_)
  rintro r v9 ⟨rfl, hg⟩
  rw [decide_eq_true rfl]
  have hZ : Hid (Woke w (.returned (.bool true)) v9) := ⟨rfl, (unhide hWg).trans (hW.gr.trans hg)⟩
  clear hW hg
  refine ⟨_, rfl, ?_⟩
  simp only [Act.put, List.setIfInBounds_toArray, List.set_cons_zero, List.set_cons_succ, List.getElem_toArray, List.getElem_cons_zero, List.getElem_cons_succ]
  refine list_val (.bool true) (by kernel_rfl) (by kernel_rfl) ?_
  simp only [Act.put, List.setIfInBounds_toArray, List.set_cons_zero, List.set_cons_succ, List.getElem_toArray, List.getElem_cons_zero, List.getElem_cons_succ]
  (refine wpList_step fun K hK => ?_; replace hK := hide hK; go_simp; refine unhide hK _ _ ?_; clear hK K)
  refine wpList_nil ?_
  go_wp2_with fail
  rw [unhide hT]
  exact unhide hZ
set_option maxHeartbeats 4000000 in
theorem messages_at105 (K : List Int) (hK : K.length = 32) (bK : IsB K) (p q : Int) (hp : U4 p) (hq : U4 q) (B : List Int) (hB : B.length = 65) (bB : IsB B) (D : List Int) (hD : D.length = 16) (bD : IsB D) (X : List Int) (hX : X.length = 130) (bX : IsB X) (l : List Int) (s : Option Addr) (len cap : Nat) (w : World) (lb : Lb w s len cap l) (hN : min len 1000 = 105) : Calls Try.prog 3 #[.agg (msl K p q B).toArray, .agg (xcl D X).toArray, .slice s len cap] w (Woke w) := by
  obtain ⟨T, hT⟩ : ∃ T, T = Woke w := ⟨_, rfl⟩
  rw [← hT]
  replace hT := hide hT
  obtain ⟨C0, hC0⟩ : ∃ C, C = (msl K p q B).toArray := ⟨_, rfl⟩
  obtain ⟨C1, hC1⟩ : ∃ C, C = (xcl D X).toArray := ⟨_, rfl⟩
  rw [← hC0, ← hC1]
  replace hC0 := hide hC0; replace hC1 := hide hC1
  replace bK := hide bK; replace bB := hide bB; replace bD := hide bD; replace bX := hide bX; replace lb := hide lb
  obtain ⟨n, hn0⟩ : ∃ n, n = min len 1000 := ⟨_, rfl⟩
  obtain ⟨L, hL0⟩ : ∃ L, L = l.take n := ⟨_, rfl⟩
  have hn9 : n ≤ 1000 := by omega
  rw [← hn0] at hN
  obtain rfl : n = 105 := hN
  replace hn0 := hide hn0; replace hL0 := hide hL0
  go_enter Try.func3, Try.ntmps3
  go_upto_region 1 with fail
  have hW := (((Bl.nil w).new C0 29).new C1 34)
  simp only [size_alloc, List.nil_append, List.cons_append] at hW
  generalize World.alloc _ _ = u at *
  rw [unhide hC0, unhide hC1] at hW
  clear hC0 hC1
  replace hW : Bl w [⟨w.heap.size, (msl K p q B).toArray, 29⟩, ⟨w.heap.size + 1, (xcl D X).toArray, 34⟩] u := hW
  refine wp_region_lit ?_
  refine list_call 9 #[] (by kernel_rfl) (by kernel_rfl) ((jwakes_ok u).mono ?_)
  rintro r u1 ⟨rfl, hg⟩
  replace hW := hW.more hg
  clear hg
  refine ⟨_, rfl, ?_⟩
  simp only [Act.put, List.setIfInBounds_toArray, List.set_cons_zero, List.set_cons_succ, List.getElem_toArray, List.getElem_cons_zero, List.getElem_cons_succ]
  refine list_val (.bool false) (by kernel_rfl) (by kernel_rfl) ?_
  simp only [Act.put, List.setIfInBounds_toArray, List.set_cons_zero, List.set_cons_succ, List.getElem_toArray, List.getElem_cons_zero, List.getElem_cons_succ]
  refine wpList_nil ?_
  replace hW := hide hW
  go_upto_region 3 with fail
  replace hW := unhide hW
  refine wp_region_lit ?_
  refine list_val (.slice s len cap) (by kernel_rfl) (by kernel_rfl) ?_
  simp only [Act.put, List.setIfInBounds_toArray, List.set_cons_zero, List.set_cons_succ, List.getElem_toArray, List.getElem_cons_zero, List.getElem_cons_succ]
  refine list_call 10 #[.slice s len cap] (by kernel_rfl) (by kernel_rfl) ((jcut_ok l s len cap u1 ((unhide lb).gr hW.gr)).mono ?_)
  rintro r u2 ⟨s1, rfl, hs1, rfl⟩
  have hl := hs1 w (unhide lb)
  rw [← unhide hn0, ← unhide hL0] at hl
  rw [← unhide hn0]
  clear hs1 lb hL0 hn0
  have hLl := hl.len
  have hLb := hide hl.isB
  obtain ⟨p0, q0, rfl, hl⟩ := hl.some (by omega)
  replace hl := hide hl
  refine ⟨_, rfl, ?_⟩
  simp only [Act.put, List.setIfInBounds_toArray, List.set_cons_zero, List.set_cons_succ, List.getElem_toArray, List.getElem_cons_zero, List.getElem_cons_succ]
  (refine wpList_step fun K hK => ?_; replace hK := hide hK; go_simp; refine unhide hK _ _ ?_; clear hK K)
  refine wpList_nil ?_
  replace hW := hide hW
  go_upto_region 4 with fail
  replace hW := unhide hW
  refine any_start (S := fun (v : World) => Bl w [⟨w.heap.size, (msl K p q B).toArray, 29⟩, ⟨w.heap.size + 1, (xcl D X).toArray, 34⟩] v) (by kernel_rfl) ?_
  replace hW := hW.drew
  generalize World.drew _ = x0 at *
  have hS : (fun (v : World) => Bl w [⟨w.heap.size, (msl K p q B).toArray, 29⟩, ⟨w.heap.size + 1, (xcl D X).toArray, 34⟩] v) x0 := hW
  clear hW
  simp only [List.size_toArray, List.length_cons, List.length_nil, Array.replicate, List.replicate]
  refine any_take (i := 0) (v := (.pointer (some ⟨w.heap.size, 0, none⟩))) #[false, false, false, false, false, false, false, false, false, false, false, false, false, false, false, false, false, false, false, false, false, false, false, false] rfl (by kernel_rfl) (by kernel_rfl) (by kernel_rfl) (by kernel_rfl) (fun _ _ _ h => h) (.inl ⟨by kernel_rfl, fun x_ hu => by kernel_rfl⟩) hS ?_
  simp only [Act.put, List.setIfInBounds_toArray, List.set_cons_zero, List.set_cons_succ, List.getElem_toArray, List.getElem_cons_zero, List.getElem_cons_succ]
  refine any_take (i := 1) (v := (.agg (hdl K p q).toArray)) #[true, false, false, false, false, false, false, false, false, false, false, false, false, false, false, false, false, false, false, false, false, false, false, false] rfl (by kernel_rfl) (by kernel_rfl) (by kernel_rfl) (by kernel_rfl) (fun _ _ _ h => h) (.inl ⟨by kernel_rfl, fun x_ hu => exec_row _ 26 (.tmp 18) rfl (w.heap.size) 0 (by kernel_rfl) (hdl K p q) _ (range_mid (hu.get 0 (x := ⟨w.heap.size, (msl K p q B).toArray, 29⟩) rfl) (msl_hd0 K p q B) rfl) Try.underlying26 rfl (by rw [Try.infoH, hdl_len hK])⟩) hS ?_
  simp only [Act.put, List.setIfInBounds_toArray, List.set_cons_zero, List.set_cons_succ, List.getElem_toArray, List.getElem_cons_zero, List.getElem_cons_succ]
  refine any_take (i := 3) (v := (.pointer (some ⟨w.heap.size, 0, none⟩))) #[true, true, false, false, false, false, false, false, false, false, false, false, false, false, false, false, false, false, false, false, false, false, false, false] rfl (by kernel_rfl) (by kernel_rfl) (by kernel_rfl) (by kernel_rfl) (fun _ _ _ h => h) (.inl ⟨by kernel_rfl, fun x_ hu => by kernel_rfl⟩) hS ?_
  simp only [Act.put, List.setIfInBounds_toArray, List.set_cons_zero, List.set_cons_succ, List.getElem_toArray, List.getElem_cons_zero, List.getElem_cons_succ]
  refine any_take (i := 4) (v := (.agg (hdl K p q).toArray)) #[true, true, false, true, false, false, false, false, false, false, false, false, false, false, false, false, false, false, false, false, false, false, false, false] rfl (by kernel_rfl) (by kernel_rfl) (by kernel_rfl) (by kernel_rfl) (fun _ _ _ h => h) (.inl ⟨by kernel_rfl, fun x_ hu => exec_row _ 26 (.tmp 21) rfl (w.heap.size) 0 (by kernel_rfl) (hdl K p q) _ (range_mid (hu.get 0 (x := ⟨w.heap.size, (msl K p q B).toArray, 29⟩) rfl) (msl_hd0 K p q B) rfl) Try.underlying26 rfl (by rw [Try.infoH, hdl_len hK])⟩) hS ?_
  simp only [Act.put, List.setIfInBounds_toArray, List.set_cons_zero, List.set_cons_succ, List.getElem_toArray, List.getElem_cons_zero, List.getElem_cons_succ]
  refine any_one (i := 2) (by kernel_rfl) rfl (fun K_ hQ => ?_)
  refine step_callw (by kernel_rfl) 12 #[.agg (hdl K p q).toArray] (by kernel_rfl) ((fputh_ok K hK (unhide bK) p q hp hq x0).mono ?_)
  rintro r z2 ⟨vH0, rfl, hO, hg⟩
  refine ⟨_, rfl, ?_⟩
  obtain ⟨aH0, cH0, rfl, hH0⟩ := ob_lb hO (hdB_isB (unhide bK) p q) (n := 40) (hdB_len hK p q)
  replace hS : (fun (v : World) => Bl w [⟨w.heap.size, (msl K p q B).toArray, 29⟩, ⟨w.heap.size + 1, (xcl D X).toArray, 34⟩] v) z2 := hS.more hg
  clear hO hg
  refine hQ.out _ _ hS (fun _ => ?_)
  clear hQ K_
  simp only [Act.put, List.setIfInBounds_toArray, List.set_cons_zero, List.set_cons_succ, List.getElem_toArray, List.getElem_cons_zero, List.getElem_cons_succ]
  refine any_one (i := 5) (by kernel_rfl) rfl (fun K_ hQ => ?_)
  refine step_callw (by kernel_rfl) 13 #[.agg (hdl K p q).toArray] (by kernel_rfl) ((qhead_ok K hK (unhide bK) p q hp hq z2).mono ?_)
  rintro r z5 ⟨vH1, rfl, hO, hg⟩
  refine ⟨_, rfl, ?_⟩
  obtain ⟨aH1, cH1, rfl, hH1⟩ := ob_lb hO (hdB_isB (unhide bK) p q) (n := 40) (hdB_len hK p q)
  replace hS : (fun (v : World) => Bl w [⟨w.heap.size, (msl K p q B).toArray, 29⟩, ⟨w.heap.size + 1, (xcl D X).toArray, 34⟩] v) z5 := hS.more hg
  replace hH0 := hH0.gr hg
  clear hO hg
  refine hQ.out _ _ hS (fun _ => ?_)
  clear hQ K_
  simp only [Act.put, List.setIfInBounds_toArray, List.set_cons_zero, List.set_cons_succ, List.getElem_toArray, List.getElem_cons_zero, List.getElem_cons_succ]
  refine any_one (i := 6) (by kernel_rfl) rfl (fun K_ hQ => ?_)
  refine step_callw (by kernel_rfl) 11 #[.slice aH0 40 cH0, .slice aH1 40 cH1] (by kernel_rfl) ((beq_ok (hdB K p q) (hdB K p q) aH0 aH1 40 40 cH0 cH1 z5 hH0 hH1).mono ?_)
  rintro r z6 ⟨rfl, hg⟩
  refine ⟨_, rfl, ?_⟩
  rw [decide_eq_true rfl]
  replace hS : (fun (v : World) => Bl w [⟨w.heap.size, (msl K p q B).toArray, 29⟩, ⟨w.heap.size + 1, (xcl D X).toArray, 34⟩] v) z6 := hS.more hg
  clear hg hH0 hH1
  refine hQ.out _ _ hS (fun _ => ?_)
  clear hQ K_
  simp only [Act.put, List.setIfInBounds_toArray, List.set_cons_zero, List.set_cons_succ, List.getElem_toArray, List.getElem_cons_zero, List.getElem_cons_succ]
  refine any_take (i := 7) (v := (.bool false)) #[true, true, true, true, true, true, true, false, false, false, false, false, false, false, false, false, false, false, false, false, false, false, false, false] rfl (by kernel_rfl) (by kernel_rfl) (by kernel_rfl) (by kernel_rfl) (fun _ _ _ h => h) (.inl ⟨by kernel_rfl, fun x_ hu => by kernel_rfl⟩) hS ?_
  simp only [Act.put, List.setIfInBounds_toArray, List.set_cons_zero, List.set_cons_succ, List.getElem_toArray, List.getElem_cons_zero, List.getElem_cons_succ]
  refine any_take (i := 8) (v := (.bool false)) #[true, true, true, true, true, true, true, true, false, false, false, false, false, false, false, false, false, false, false, false, false, false, false, false] rfl (by kernel_rfl) (by kernel_rfl) (by kernel_rfl) (by kernel_rfl) (fun _ _ _ h => h) (.inl ⟨by kernel_rfl, fun x_ hu => by kernel_rfl⟩) hS ?_
  simp only [Act.put, List.setIfInBounds_toArray, List.set_cons_zero, List.set_cons_succ, List.getElem_toArray, List.getElem_cons_zero, List.getElem_cons_succ]
  refine any_take (i := 9) (v := (.agg (msl K p q B).toArray)) #[true, true, true, true, true, true, true, true, true, false, false, false, false, false, false, false, false, false, false, false, false, false, false, false] rfl (by kernel_rfl) (by kernel_rfl) (by kernel_rfl) (by kernel_rfl) (fun _ _ _ h => h) (.inl ⟨by kernel_rfl, fun x_ hu => exec_arr _ 29 (.tmp 3) rfl (w.heap.size) (by kernel_rfl) (msl K p q B).toArray 29 _ (hu.get 0 (x := ⟨w.heap.size, (msl K p q B).toArray, 29⟩) rfl) Try.underlying29 rfl (by rw [Try.infoM, List.size_toArray, msl_len hK _ _ hB])⟩) hS ?_
  simp only [Act.put, List.setIfInBounds_toArray, List.set_cons_zero, List.set_cons_succ, List.getElem_toArray, List.getElem_cons_zero, List.getElem_cons_succ]
  refine any_take (i := 11) (v := (.agg (msl K p q B).toArray)) #[true, true, true, true, true, true, true, true, true, true, false, false, false, false, false, false, false, false, false, false, false, false, false, false] rfl (by kernel_rfl) (by kernel_rfl) (by kernel_rfl) (by kernel_rfl) (fun _ _ _ h => h) (.inl ⟨by kernel_rfl, fun x_ hu => exec_arr _ 29 (.tmp 3) rfl (w.heap.size) (by kernel_rfl) (msl K p q B).toArray 29 _ (hu.get 0 (x := ⟨w.heap.size, (msl K p q B).toArray, 29⟩) rfl) Try.underlying29 rfl (by rw [Try.infoM, List.size_toArray, msl_len hK _ _ hB])⟩) hS ?_
  simp only [Act.put, List.setIfInBounds_toArray, List.set_cons_zero, List.set_cons_succ, List.getElem_toArray, List.getElem_cons_zero, List.getElem_cons_succ]
  refine any_one (i := 10) (by kernel_rfl) rfl (fun K_ hQ => ?_)
  refine step_callw (by kernel_rfl) 14 #[.agg (msl K p q B).toArray] (by kernel_rfl) ((fputm_ok K hK (unhide bK) p q hp hq B hB (unhide bB) z6).mono ?_)
  rintro r z10 ⟨vM0, rfl, hO, hg⟩
  refine ⟨_, rfl, ?_⟩
  obtain ⟨aM0, cM0, rfl, hM0⟩ := ob_lb hO (isB_append (hdB_isB (unhide bK) p q) (unhide bB)) (n := 105) (by rw [List.length_append, hdB_len hK, hB])
  replace hS : (fun (v : World) => Bl w [⟨w.heap.size, (msl K p q B).toArray, 29⟩, ⟨w.heap.size + 1, (xcl D X).toArray, 34⟩] v) z10 := hS.more hg
  clear hO hg
  refine hQ.out _ _ hS (fun _ => ?_)
  clear hQ K_
  simp only [Act.put, List.setIfInBounds_toArray, List.set_cons_zero, List.set_cons_succ, List.getElem_toArray, List.getElem_cons_zero, List.getElem_cons_succ]
  refine any_one (i := 12) (by kernel_rfl) rfl (fun K_ hQ => ?_)
  refine step_callw (by kernel_rfl) 15 #[.agg (msl K p q B).toArray] (by kernel_rfl) ((qmes_ok K hK (unhide bK) p q hp hq B hB (unhide bB) z10).mono ?_)
  rintro r z12 ⟨vM1, rfl, hO, hg⟩
  refine ⟨_, rfl, ?_⟩
  obtain ⟨aM1, cM1, rfl, hM1⟩ := ob_lb hO (isB_append (hdB_isB (unhide bK) p q) (unhide bB)) (n := 105) (by rw [List.length_append, hdB_len hK, hB])
  replace hS : (fun (v : World) => Bl w [⟨w.heap.size, (msl K p q B).toArray, 29⟩, ⟨w.heap.size + 1, (xcl D X).toArray, 34⟩] v) z12 := hS.more hg
  replace hM0 := hM0.gr hg
  clear hO hg
  refine hQ.out _ _ hS (fun _ => ?_)
  clear hQ K_
  simp only [Act.put, List.setIfInBounds_toArray, List.set_cons_zero, List.set_cons_succ, List.getElem_toArray, List.getElem_cons_zero, List.getElem_cons_succ]
  refine any_one (i := 13) (by kernel_rfl) rfl (fun K_ hQ => ?_)
  refine step_callw (by kernel_rfl) 11 #[.slice aM0 105 cM0, .slice aM1 105 cM1] (by kernel_rfl) ((beq_ok (hdB K p q ++ B) (hdB K p q ++ B) aM0 aM1 105 105 cM0 cM1 z12 hM0 hM1).mono ?_)
  rintro r z13 ⟨rfl, hg⟩
  refine ⟨_, rfl, ?_⟩
  rw [decide_eq_true rfl]
  replace hS : (fun (v : World) => Bl w [⟨w.heap.size, (msl K p q B).toArray, 29⟩, ⟨w.heap.size + 1, (xcl D X).toArray, 34⟩] v) z13 := hS.more hg
  clear hg hM0 hM1
  refine hQ.out _ _ hS (fun _ => ?_)
  clear hQ K_
  simp only [Act.put, List.setIfInBounds_toArray, List.set_cons_zero, List.set_cons_succ, List.getElem_toArray, List.getElem_cons_zero, List.getElem_cons_succ]
  refine any_take (i := 14) (v := (.bool false)) #[true, true, true, true, true, true, true, true, true, true, true, true, true, true, false, false, false, false, false, false, false, false, false, false] rfl (by kernel_rfl) (by kernel_rfl) (by kernel_rfl) (by kernel_rfl) (fun _ _ _ h => h) (.inl ⟨by kernel_rfl, fun x_ hu => by kernel_rfl⟩) hS ?_
  simp only [Act.put, List.setIfInBounds_toArray, List.set_cons_zero, List.set_cons_succ, List.getElem_toArray, List.getElem_cons_zero, List.getElem_cons_succ]
  refine any_take (i := 15) (v := (.bool false)) #[true, true, true, true, true, true, true, true, true, true, true, true, true, true, true, false, false, false, false, false, false, false, false, false] rfl (by kernel_rfl) (by kernel_rfl) (by kernel_rfl) (by kernel_rfl) (fun _ _ _ h => h) (.inl ⟨by kernel_rfl, fun x_ hu => by kernel_rfl⟩) hS ?_
  simp only [Act.put, List.setIfInBounds_toArray, List.set_cons_zero, List.set_cons_succ, List.getElem_toArray, List.getElem_cons_zero, List.getElem_cons_succ]
  refine any_take (i := 16) (v := (.bool false)) #[true, true, true, true, true, true, true, true, true, true, true, true, true, true, true, true, false, false, false, false, false, false, false, false] rfl (by kernel_rfl) (by kernel_rfl) (by kernel_rfl) (by kernel_rfl) (fun _ _ _ h => h) (.inl ⟨by kernel_rfl, fun x_ hu => by kernel_rfl⟩) hS ?_
  simp only [Act.put, List.setIfInBounds_toArray, List.set_cons_zero, List.set_cons_succ, List.getElem_toArray, List.getElem_cons_zero, List.getElem_cons_succ]
  refine any_take (i := 17) (v := (.agg (xcl D X).toArray)) #[true, true, true, true, true, true, true, true, true, true, true, true, true, true, true, true, true, false, false, false, false, false, false, false] rfl (by kernel_rfl) (by kernel_rfl) (by kernel_rfl) (by kernel_rfl) (fun _ _ _ h => h) (.inl ⟨by kernel_rfl, fun x_ hu => exec_arr _ 34 (.tmp 4) rfl (w.heap.size + 1) (by kernel_rfl) (xcl D X).toArray 34 _ (hu.get 1 (x := ⟨w.heap.size + 1, (xcl D X).toArray, 34⟩) rfl) Try.underlying34 rfl (by rw [Try.infoX, List.size_toArray, xcl_len hD hX])⟩) hS ?_
  simp only [Act.put, List.setIfInBounds_toArray, List.set_cons_zero, List.set_cons_succ, List.getElem_toArray, List.getElem_cons_zero, List.getElem_cons_succ]
  refine any_take (i := 19) (v := (.agg (xcl D X).toArray)) #[true, true, true, true, true, true, true, true, true, true, true, true, true, true, true, true, true, true, false, false, false, false, false, false] rfl (by kernel_rfl) (by kernel_rfl) (by kernel_rfl) (by kernel_rfl) (fun _ _ _ h => h) (.inl ⟨by kernel_rfl, fun x_ hu => exec_arr _ 34 (.tmp 4) rfl (w.heap.size + 1) (by kernel_rfl) (xcl D X).toArray 34 _ (hu.get 1 (x := ⟨w.heap.size + 1, (xcl D X).toArray, 34⟩) rfl) Try.underlying34 rfl (by rw [Try.infoX, List.size_toArray, xcl_len hD hX])⟩) hS ?_
  simp only [Act.put, List.setIfInBounds_toArray, List.set_cons_zero, List.set_cons_succ, List.getElem_toArray, List.getElem_cons_zero, List.getElem_cons_succ]
  refine any_one (i := 18) (by kernel_rfl) rfl (fun K_ hQ => ?_)
  refine step_callw (by kernel_rfl) 16 #[.agg (xcl D X).toArray] (by kernel_rfl) ((fputx_ok D hD (unhide bD) X hX (unhide bX) z13).mono ?_)
  rintro r z18 ⟨vX0, rfl, hO, hg⟩
  refine ⟨_, rfl, ?_⟩
  obtain ⟨aX0, cX0, rfl, hX0⟩ := ob_lb hO (isB_append (unhide bD) (unhide bX)) (n := 146) (by rw [List.length_append, hD, hX])
  replace hS : (fun (v : World) => Bl w [⟨w.heap.size, (msl K p q B).toArray, 29⟩, ⟨w.heap.size + 1, (xcl D X).toArray, 34⟩] v) z18 := hS.more hg
  clear hO hg
  refine hQ.out _ _ hS (fun _ => ?_)
  clear hQ K_
  simp only [Act.put, List.setIfInBounds_toArray, List.set_cons_zero, List.set_cons_succ, List.getElem_toArray, List.getElem_cons_zero, List.getElem_cons_succ]
  refine any_one (i := 20) (by kernel_rfl) rfl (fun K_ hQ => ?_)
  refine step_callw (by kernel_rfl) 17 #[.agg (xcl D X).toArray] (by kernel_rfl) ((qexc_ok D hD (unhide bD) X hX (unhide bX) z18).mono ?_)
  rintro r z20 ⟨vX1, rfl, hO, hg⟩
  refine ⟨_, rfl, ?_⟩
  obtain ⟨aX1, cX1, rfl, hX1⟩ := ob_lb hO (isB_append (unhide bD) (unhide bX)) (n := 146) (by rw [List.length_append, hD, hX])
  replace hS : (fun (v : World) => Bl w [⟨w.heap.size, (msl K p q B).toArray, 29⟩, ⟨w.heap.size + 1, (xcl D X).toArray, 34⟩] v) z20 := hS.more hg
  replace hX0 := hX0.gr hg
  clear hO hg
  refine hQ.out _ _ hS (fun _ => ?_)
  clear hQ K_
  simp only [Act.put, List.setIfInBounds_toArray, List.set_cons_zero, List.set_cons_succ, List.getElem_toArray, List.getElem_cons_zero, List.getElem_cons_succ]
  refine any_one (i := 21) (by kernel_rfl) rfl (fun K_ hQ => ?_)
  refine step_callw (by kernel_rfl) 11 #[.slice aX0 146 cX0, .slice aX1 146 cX1] (by kernel_rfl) ((beq_ok (D ++ X) (D ++ X) aX0 aX1 146 146 cX0 cX1 z20 hX0 hX1).mono ?_)
  rintro r z21 ⟨rfl, hg⟩
  refine ⟨_, rfl, ?_⟩
  rw [decide_eq_true rfl]
  replace hS : (fun (v : World) => Bl w [⟨w.heap.size, (msl K p q B).toArray, 29⟩, ⟨w.heap.size + 1, (xcl D X).toArray, 34⟩] v) z21 := hS.more hg
  clear hg hX0 hX1
  refine hQ.out _ _ hS (fun _ => ?_)
  clear hQ K_
  simp only [Act.put, List.setIfInBounds_toArray, List.set_cons_zero, List.set_cons_succ, List.getElem_toArray, List.getElem_cons_zero, List.getElem_cons_succ]
  refine any_take (i := 22) (v := (.bool false)) #[true, true, true, true, true, true, true, true, true, true, true, true, true, true, true, true, true, true, true, true, true, true, false, false] rfl (by kernel_rfl) (by kernel_rfl) (by kernel_rfl) (by kernel_rfl) (fun _ _ _ h => h) (.inl ⟨by kernel_rfl, fun x_ hu => by kernel_rfl⟩) hS ?_
  simp only [Act.put, List.setIfInBounds_toArray, List.set_cons_zero, List.set_cons_succ, List.getElem_toArray, List.getElem_cons_zero, List.getElem_cons_succ]
  refine any_take (i := 23) (v := (.bool false)) #[true, true, true, true, true, true, true, true, true, true, true, true, true, true, true, true, true, true, true, true, true, true, true, false] rfl (by kernel_rfl) (by kernel_rfl) (by kernel_rfl) (by kernel_rfl) (fun _ _ _ h => h) (.inl ⟨by kernel_rfl, fun x_ hu => by kernel_rfl⟩) hS ?_
  simp only [Act.put, List.setIfInBounds_toArray, List.set_cons_zero, List.set_cons_succ, List.getElem_toArray, List.getElem_cons_zero, List.getElem_cons_succ]
  refine any_done (by kernel_rfl) ?_
  have hW : Bl w [⟨w.heap.size, (msl K p q B).toArray, 29⟩, ⟨w.heap.size + 1, (xcl D X).toArray, 34⟩] z21 := hS
  clear hS
  replace hW := hide hW
  go_upto_region 6 with fail
  replace hW := unhide hW
  refine wp_region_lit ?_
  refine list_val (.slice (some ⟨p0, q0, none⟩) 105 cap) (by kernel_rfl) (by kernel_rfl) ?_
  simp only [Act.put, List.setIfInBounds_toArray, List.set_cons_zero, List.set_cons_succ, List.getElem_toArray, List.getElem_cons_zero, List.getElem_cons_succ]
  refine list_call 18 #[.slice (some ⟨p0, q0, none⟩) 105 cap] (by kernel_rfl) (by kernel_rfl) ((jroom_ok L (some ⟨p0, q0, none⟩) 105 cap (by omega) z21 ((unhide hl).gr hW.gr)).mono ?_)
  rintro r u6 ⟨go, co, rfl, hc1, hc2, hgo, hat, hg⟩
  rw [hLl] at hc1 ⊢
  have hlo : Lb u6 (some ⟨go, 0, none⟩) 105 co L := by
    have h9 := hat.take 105
    rw [List.take_append_of_le_length (by rw [hLl]; exact Nat.le_refl _), List.take_of_length_le (by rw [hLl]; exact Nat.le_refl _)] at h9
    exact ⟨hLl, unhide hLb, .inr ⟨go, 0, rfl, h9⟩, by omega, hc2⟩
  replace hlo := hide hlo
  have hWg := hide (hW.gr.trans hg)
  replace hl := hide ((unhide hl).gr (unhide hWg))
  clear hW hg hat hc1 hc2 hgo
  have hW := Bl.nil u6
  refine ⟨_, rfl, ?_⟩
  simp only [Act.put, List.setIfInBounds_toArray, List.set_cons_zero, List.set_cons_succ, List.getElem_toArray, List.getElem_cons_zero, List.getElem_cons_succ]
  (refine wpList_step fun K hK => ?_; replace hK := hide hK; go_simp; refine unhide hK _ _ ?_; clear hK K)
  refine wpList_nil ?_
  replace hW := hide hW
  go_upto_region 7 with fail
  replace hW := unhide hW
  refine wp_region_lit ?_
  refine list_val (.slice (some ⟨go, 0, none⟩) 105 co) (by kernel_rfl) (by kernel_rfl) ?_
  simp only [Act.put, List.setIfInBounds_toArray, List.set_cons_zero, List.set_cons_succ, List.getElem_toArray, List.getElem_cons_zero, List.getElem_cons_succ]
  refine list_call 19 #[.slice (some ⟨go, 0, none⟩) 105 co] (by kernel_rfl) (by kernel_rfl) ((fgeth_no (some ⟨go, 0, none⟩) 105 co (by omega) u6).mono ?_)
  rintro r h1 ⟨rfl, hg⟩
  replace hW := hW.more hg
  clear hg
  refine ⟨_, rfl, ?_⟩
  simp only [Act.put, List.setIfInBounds_toArray, List.set_cons_zero, List.set_cons_succ, List.getElem_toArray, List.getElem_cons_zero, List.getElem_cons_succ]
  refine list_val (.tuple #[.agg (hdl Z32 0 0).toArray, .int .i64 240]) (by kernel_rfl) (by kernel_rfl) ?_
  simp only [Act.put, List.setIfInBounds_toArray, List.set_cons_zero, List.set_cons_succ, List.getElem_toArray, List.getElem_cons_zero, List.getElem_cons_succ]
  refine list_val (.agg (hdl Z32 0 0).toArray) (by kernel_rfl) (by kernel_rfl) ?_
  simp only [Act.put, List.setIfInBounds_toArray, List.set_cons_zero, List.set_cons_succ, List.getElem_toArray, List.getElem_cons_zero, List.getElem_cons_succ]
  refine list_val (.int .i64 240) (by kernel_rfl) (by kernel_rfl) ?_
  simp only [Act.put, List.setIfInBounds_toArray, List.set_cons_zero, List.set_cons_succ, List.getElem_toArray, List.getElem_cons_zero, List.getElem_cons_succ]
  refine list_valw (.pointer (some ⟨h1.heap.size, 0, none⟩)) (h1.alloc (.cells (hdl Z32 0 0).toArray 26 (0, 0))) (by kernel_rfl) (by kernel_rfl) ?_
  replace hW := hW.new (hdl Z32 0 0).toArray 26
  simp only [List.nil_append, List.cons_append] at hW
  generalize World.alloc _ _ = h2 at *
  generalize h1.heap.size = qh at *
  replace hW : Bl u6 [⟨qh, (hdl Z32 0 0).toArray, 26⟩] h2 := hW
  simp only [Act.put, List.setIfInBounds_toArray, List.set_cons_zero, List.set_cons_succ, List.getElem_toArray, List.getElem_cons_zero, List.getElem_cons_succ]
  refine list_store 26 (.tmp 8) (.tmp 47) qh (hdl Z32 0 0).toArray 26 (hdl Z32 0 0).toArray (by kernel_rfl) rfl (by kernel_rfl) (by kernel_rfl) (hW.get 0 (x := ⟨qh, (hdl Z32 0 0).toArray, 26⟩) rfl) (by rw [Try.infoH]; rfl) (rfl) (hdl_one ..) ?_
  replace hW := hW.set 0 (x := ⟨qh, (hdl Z32 0 0).toArray, 26⟩) rfl (hdl Z32 0 0).toArray
  simp only [List.set_cons_zero, List.set_cons_succ] at hW
  generalize World.setRow _ _ _ = h3 at *
  replace hW : Bl u6 [⟨qh, (hdl Z32 0 0).toArray, 26⟩] h3 := hW
  simp only [Act.put, List.setIfInBounds_toArray, List.set_cons_zero, List.set_cons_succ, List.getElem_toArray, List.getElem_cons_zero, List.getElem_cons_succ]
  (refine wpList_step fun K hK => ?_; replace hK := hide hK; go_simp; refine unhide hK _ _ ?_; clear hK K)
  refine wpList_nil ?_
  replace hW := hide hW
  go_upto_region 8 with fail
  replace hW := unhide hW
  refine wp_region_lit ?_
  refine list_val (.slice (some ⟨go, 0, none⟩) 105 co) (by kernel_rfl) (by kernel_rfl) ?_
  simp only [Act.put, List.setIfInBounds_toArray, List.set_cons_zero, List.set_cons_succ, List.getElem_toArray, List.getElem_cons_zero, List.getElem_cons_succ]
  refine list_call 20 #[.slice (some ⟨go, 0, none⟩) 105 co] (by kernel_rfl) (by kernel_rfl) ((fgetm_ok L (some ⟨go, 0, none⟩) co h3 ((unhide hlo).gr hW.gr)).mono ?_)
  rintro r m1 ⟨rfl, hg⟩
  replace hW := hW.more hg
  clear hg
  refine ⟨_, rfl, ?_⟩
  simp only [Act.put, List.setIfInBounds_toArray, List.set_cons_zero, List.set_cons_succ, List.getElem_toArray, List.getElem_cons_zero, List.getElem_cons_succ]
  refine list_val (.tuple #[.agg (msO L).toArray, .int .i64 0]) (by kernel_rfl) (by kernel_rfl) ?_
  simp only [Act.put, List.setIfInBounds_toArray, List.set_cons_zero, List.set_cons_succ, List.getElem_toArray, List.getElem_cons_zero, List.getElem_cons_succ]
  refine list_val (.agg (msO L).toArray) (by kernel_rfl) (by kernel_rfl) ?_
  simp only [Act.put, List.setIfInBounds_toArray, List.set_cons_zero, List.set_cons_succ, List.getElem_toArray, List.getElem_cons_zero, List.getElem_cons_succ]
  refine list_val (.int .i64 0) (by kernel_rfl) (by kernel_rfl) ?_
  simp only [Act.put, List.setIfInBounds_toArray, List.set_cons_zero, List.set_cons_succ, List.getElem_toArray, List.getElem_cons_zero, List.getElem_cons_succ]
  refine list_valw (.pointer (some ⟨m1.heap.size, 0, none⟩)) (m1.alloc (.cells (msl Z32 0 0 Z65).toArray 29 (0, 0))) (by kernel_rfl) (by kernel_rfl) ?_
  replace hW := hW.new (msl Z32 0 0 Z65).toArray 29
  simp only [List.nil_append, List.cons_append] at hW
  generalize World.alloc _ _ = m2 at *
  generalize m1.heap.size = qm at *
  replace hW : Bl u6 [⟨qh, (hdl Z32 0 0).toArray, 26⟩, ⟨qm, (msl Z32 0 0 Z65).toArray, 29⟩] m2 := hW
  simp only [Act.put, List.setIfInBounds_toArray, List.set_cons_zero, List.set_cons_succ, List.getElem_toArray, List.getElem_cons_zero, List.getElem_cons_succ]
  refine list_store 29 (.tmp 10) (.tmp 52) qm (msO L).toArray 29 (msl Z32 0 0 Z65).toArray (by kernel_rfl) rfl (by kernel_rfl) (by kernel_rfl) (hW.get 1 (x := ⟨qm, (msl Z32 0 0 Z65).toArray, 29⟩) rfl) (by rw [Try.infoM, List.size_toArray, msO_len hLl]) (by rw [List.size_toArray, List.size_toArray, msO_len hLl]; rfl) (msl_one ..) ?_
  replace hW := hW.set 1 (x := ⟨qm, (msl Z32 0 0 Z65).toArray, 29⟩) rfl (msO L).toArray
  simp only [List.set_cons_zero, List.set_cons_succ] at hW
  generalize World.setRow _ _ _ = m3 at *
  replace hW : Bl u6 [⟨qh, (hdl Z32 0 0).toArray, 26⟩, ⟨qm, (msO L).toArray, 29⟩] m3 := hW
  simp only [Act.put, List.setIfInBounds_toArray, List.set_cons_zero, List.set_cons_succ, List.getElem_toArray, List.getElem_cons_zero, List.getElem_cons_succ]
  (refine wpList_step fun K hK => ?_; replace hK := hide hK; go_simp; refine unhide hK _ _ ?_; clear hK K)
  refine wpList_nil ?_
  replace hW := hide hW
  go_upto_region 9 with fail
  replace hW := unhide hW
  refine wp_region_lit ?_
  refine list_val (.slice (some ⟨go, 0, none⟩) 105 co) (by kernel_rfl) (by kernel_rfl) ?_
  simp only [Act.put, List.setIfInBounds_toArray, List.set_cons_zero, List.set_cons_succ, List.getElem_toArray, List.getElem_cons_zero, List.getElem_cons_succ]
  refine list_call 21 #[.slice (some ⟨go, 0, none⟩) 105 co] (by kernel_rfl) (by kernel_rfl) ((fgetx_no (some ⟨go, 0, none⟩) 105 co (by omega) m3).mono ?_)
  rintro r x1 ⟨rfl, hg⟩
  replace hW := hW.more hg
  clear hg
  refine ⟨_, rfl, ?_⟩
  simp only [Act.put, List.setIfInBounds_toArray, List.set_cons_zero, List.set_cons_succ, List.getElem_toArray, List.getElem_cons_zero, List.getElem_cons_succ]
  refine list_val (.tuple #[.agg (xcl Z16 Z130).toArray, .int .i64 240]) (by kernel_rfl) (by kernel_rfl) ?_
  simp only [Act.put, List.setIfInBounds_toArray, List.set_cons_zero, List.set_cons_succ, List.getElem_toArray, List.getElem_cons_zero, List.getElem_cons_succ]
  refine list_val (.agg (xcl Z16 Z130).toArray) (by kernel_rfl) (by kernel_rfl) ?_
  simp only [Act.put, List.setIfInBounds_toArray, List.set_cons_zero, List.set_cons_succ, List.getElem_toArray, List.getElem_cons_zero, List.getElem_cons_succ]
  refine list_val (.int .i64 240) (by kernel_rfl) (by kernel_rfl) ?_
  simp only [Act.put, List.setIfInBounds_toArray, List.set_cons_zero, List.set_cons_succ, List.getElem_toArray, List.getElem_cons_zero, List.getElem_cons_succ]
  refine list_valw (.pointer (some ⟨x1.heap.size, 0, none⟩)) (x1.alloc (.cells (xcl Z16 Z130).toArray 34 (0, 0))) (by kernel_rfl) (by kernel_rfl) ?_
  replace hW := hW.new (xcl Z16 Z130).toArray 34
  simp only [List.nil_append, List.cons_append] at hW
  generalize World.alloc _ _ = x2 at *
  generalize x1.heap.size = qx at *
  replace hW : Bl u6 [⟨qh, (hdl Z32 0 0).toArray, 26⟩, ⟨qm, (msO L).toArray, 29⟩, ⟨qx, (xcl Z16 Z130).toArray, 34⟩] x2 := hW
  simp only [Act.put, List.setIfInBounds_toArray, List.set_cons_zero, List.set_cons_succ, List.getElem_toArray, List.getElem_cons_zero, List.getElem_cons_succ]
  refine list_store 34 (.tmp 12) (.tmp 57) qx (xcl Z16 Z130).toArray 34 (xcl Z16 Z130).toArray (by kernel_rfl) rfl (by kernel_rfl) (by kernel_rfl) (hW.get 2 (x := ⟨qx, (xcl Z16 Z130).toArray, 34⟩) rfl) (by rw [Try.infoX]; rfl) (rfl) (xcl_one ..) ?_
  replace hW := hW.set 2 (x := ⟨qx, (xcl Z16 Z130).toArray, 34⟩) rfl (xcl Z16 Z130).toArray
  simp only [List.set_cons_zero, List.set_cons_succ] at hW
  generalize World.setRow _ _ _ = x3 at *
  replace hW : Bl u6 [⟨qh, (hdl Z32 0 0).toArray, 26⟩, ⟨qm, (msO L).toArray, 29⟩, ⟨qx, (xcl Z16 Z130).toArray, 34⟩] x3 := hW
  simp only [Act.put, List.setIfInBounds_toArray, List.set_cons_zero, List.set_cons_succ, List.getElem_toArray, List.getElem_cons_zero, List.getElem_cons_succ]
  (refine wpList_step fun K hK => ?_; replace hK := hide hK; go_simp; refine unhide hK _ _ ?_; clear hK K)
  refine wpList_nil ?_
  replace hW := hide hW
  go_upto_region 10 with fail
  replace hW := unhide hW
  refine wp_region_lit ?_
  refine list_val (.slice (some ⟨p0, q0, none⟩) 105 cap) (by kernel_rfl) (by kernel_rfl) ?_
  simp only [Act.put, List.setIfInBounds_toArray, List.set_cons_zero, List.set_cons_succ, List.getElem_toArray, List.getElem_cons_zero, List.getElem_cons_succ]
  refine list_val (.int .i64 105) (by kernel_rfl) (by kernel_rfl) ?_
  simp only [Act.put, List.setIfInBounds_toArray, List.set_cons_zero, List.set_cons_succ, List.getElem_toArray, List.getElem_cons_zero, List.getElem_cons_succ]
  refine list_val (.bool false) (by kernel_rfl) (by kernel_rfl) ?_
  simp only [Act.put, List.setIfInBounds_toArray, List.set_cons_zero, List.set_cons_succ, List.getElem_toArray, List.getElem_cons_zero, List.getElem_cons_succ]
  refine wpList_nil ?_
  replace hW := hide hW
  go_upto_region 13 with fail
  replace hW := unhide hW
  refine wp_region_lit ?_
  refine list_val (.int .i64 240) (by kernel_rfl) (by kernel_rfl) ?_
  simp only [Act.put, List.setIfInBounds_toArray, List.set_cons_zero, List.set_cons_succ, List.getElem_toArray, List.getElem_cons_zero, List.getElem_cons_succ]
  refine list_val (.bool false) (by kernel_rfl) (by kernel_rfl) ?_
  simp only [Act.put, List.setIfInBounds_toArray, List.set_cons_zero, List.set_cons_succ, List.getElem_toArray, List.getElem_cons_zero, List.getElem_cons_succ]
  refine list_val (.bool false) (by kernel_rfl) (by kernel_rfl) ?_
  simp only [Act.put, List.setIfInBounds_toArray, List.set_cons_zero, List.set_cons_succ, List.getElem_toArray, List.getElem_cons_zero, List.getElem_cons_succ]
  refine list_val (.agg (hdl Z32 0 0).toArray) (by kernel_rfl) (exec_arr _ 26 (.tmp 8) rfl qh (by kernel_rfl) (hdl Z32 0 0).toArray 26 _ (hW.get 0 (x := ⟨qh, (hdl Z32 0 0).toArray, 26⟩) rfl) Try.underlying26 rfl (by rw [Try.infoH]; rfl)) ?_
  simp only [Act.put, List.setIfInBounds_toArray, List.set_cons_zero, List.set_cons_succ, List.getElem_toArray, List.getElem_cons_zero, List.getElem_cons_succ]
  refine list_val (.agg (hdl Z32 0 0).toArray) (by kernel_rfl) (by kernel_rfl) ?_
  simp only [Act.put, List.setIfInBounds_toArray, List.set_cons_zero, List.set_cons_succ, List.getElem_toArray, List.getElem_cons_zero, List.getElem_cons_succ]
  refine list_val (.bool false) (by kernel_rfl) (exec_neq_h _ (.tmp 73) (.tmp 74) rfl (hdl Z32 0 0).toArray (by kernel_rfl) (by kernel_rfl) (eq_hdl (K := Z32) rfl 0 0 _)) ?_
  simp only [Act.put, List.setIfInBounds_toArray, List.set_cons_zero, List.set_cons_succ, List.getElem_toArray, List.getElem_cons_zero, List.getElem_cons_succ]
  refine list_val (.bool false) (by kernel_rfl) (by kernel_rfl) ?_
  simp only [Act.put, List.setIfInBounds_toArray, List.set_cons_zero, List.set_cons_succ, List.getElem_toArray, List.getElem_cons_zero, List.getElem_cons_succ]
  refine wpList_nil ?_
  replace hW := hide hW
  go_upto_region 15 with fail
  replace hW := unhide hW
  refine wp_region_lit ?_
  refine list_val (.slice (some ⟨p0, q0, none⟩) 105 cap) (by kernel_rfl) (by kernel_rfl) ?_
  simp only [Act.put, List.setIfInBounds_toArray, List.set_cons_zero, List.set_cons_succ, List.getElem_toArray, List.getElem_cons_zero, List.getElem_cons_succ]
  refine list_val (.int .i64 105) (by kernel_rfl) (by kernel_rfl) ?_
  simp only [Act.put, List.setIfInBounds_toArray, List.set_cons_zero, List.set_cons_succ, List.getElem_toArray, List.getElem_cons_zero, List.getElem_cons_succ]
  refine list_val (.bool true) (by kernel_rfl) (by kernel_rfl) ?_
  simp only [Act.put, List.setIfInBounds_toArray, List.set_cons_zero, List.set_cons_succ, List.getElem_toArray, List.getElem_cons_zero, List.getElem_cons_succ]
  refine wpList_nil ?_
  replace hW := hide hW
  go_upto_region 16 with fail
  replace hW := unhide hW
  refine any_start (S := fun (v : World) => Bl u6 [⟨qh, (hdl Z32 0 0).toArray, 26⟩, ⟨qm, (msO L).toArray, 29⟩, ⟨qx, (xcl Z16 Z130).toArray, 34⟩] v) (by kernel_rfl) ?_
  replace hW := hW.drew
  generalize World.drew _ = y16 at *
  have hS : (fun (v : World) => Bl u6 [⟨qh, (hdl Z32 0 0).toArray, 26⟩, ⟨qm, (msO L).toArray, 29⟩, ⟨qx, (xcl Z16 Z130).toArray, 34⟩] v) y16 := hW
  clear hW
  simp only [List.size_toArray, List.length_cons, List.length_nil, Array.replicate, List.replicate]
  refine any_take (i := 0) (v := (.int .i64 0)) #[false, false, false, false, false, false, false, false] rfl (by kernel_rfl) (by kernel_rfl) (by kernel_rfl) (by kernel_rfl) (fun _ _ _ h => h) (.inl ⟨by kernel_rfl, fun x_ hu => by kernel_rfl⟩) hS ?_
  simp only [Act.put, List.setIfInBounds_toArray, List.set_cons_zero, List.set_cons_succ, List.getElem_toArray, List.getElem_cons_zero, List.getElem_cons_succ]
  refine any_take (i := 1) (v := (.bool false)) #[true, false, false, false, false, false, false, false] rfl (by kernel_rfl) (by kernel_rfl) (by kernel_rfl) (by kernel_rfl) (fun _ _ _ h => h) (.inl ⟨by kernel_rfl, fun x_ hu => by kernel_rfl⟩) hS ?_
  simp only [Act.put, List.setIfInBounds_toArray, List.set_cons_zero, List.set_cons_succ, List.getElem_toArray, List.getElem_cons_zero, List.getElem_cons_succ]
  refine any_take (i := 2) (v := (.bool false)) #[true, true, false, false, false, false, false, false] rfl (by kernel_rfl) (by kernel_rfl) (by kernel_rfl) (by kernel_rfl) (fun _ _ _ h => h) (.inl ⟨by kernel_rfl, fun x_ hu => by kernel_rfl⟩) hS ?_
  simp only [Act.put, List.setIfInBounds_toArray, List.set_cons_zero, List.set_cons_succ, List.getElem_toArray, List.getElem_cons_zero, List.getElem_cons_succ]
  refine any_take (i := 3) (v := (.agg (msO L).toArray)) #[true, true, true, false, false, false, false, false] rfl (by kernel_rfl) (by kernel_rfl) (by kernel_rfl) (by kernel_rfl) (fun _ _ _ h => h) (.inl ⟨by kernel_rfl, fun x_ hu => exec_arr _ 29 (.tmp 10) rfl qm (by kernel_rfl) (msO L).toArray 29 _ (hu.get 1 (x := ⟨qm, (msO L).toArray, 29⟩) rfl) Try.underlying29 rfl (by rw [Try.infoM, List.size_toArray, msO_len hLl])⟩) hS ?_
  simp only [Act.put, List.setIfInBounds_toArray, List.set_cons_zero, List.set_cons_succ, List.getElem_toArray, List.getElem_cons_zero, List.getElem_cons_succ]
  refine any_take (i := 4) (v := (.slice (some ⟨p0, q0, none⟩) 105 cap)) #[true, true, true, true, false, false, false, false] rfl (by kernel_rfl) (by kernel_rfl) (by kernel_rfl) (by kernel_rfl) (fun _ _ _ h => h) (.inl ⟨by kernel_rfl, fun x_ hu => by kernel_rfl⟩) hS ?_
  simp only [Act.put, List.setIfInBounds_toArray, List.set_cons_zero, List.set_cons_succ, List.getElem_toArray, List.getElem_cons_zero, List.getElem_cons_succ]
  refine any_one (i := 5) (by kernel_rfl) rfl (fun K_ hQ => ?_)
  refine step_callw (by kernel_rfl) 23 #[.slice (some ⟨p0, q0, none⟩) 105 cap] (by kernel_rfl) ((qgetm_ok L p0 q0 cap y16 ((unhide hl).gr hS.gr)).mono ?_)
  rintro r d16 ⟨rfl, hg⟩
  refine ⟨_, rfl, ?_⟩
  replace hS : (fun (v : World) => Bl u6 [⟨qh, (hdl Z32 0 0).toArray, 26⟩, ⟨qm, (msO L).toArray, 29⟩, ⟨qx, (xcl Z16 Z130).toArray, 34⟩] v) d16 := hS.more hg
  clear hg
  refine hQ.out _ _ hS (fun _ => ?_)
  clear hQ K_
  simp only [Act.put, List.setIfInBounds_toArray, List.set_cons_zero, List.set_cons_succ, List.getElem_toArray, List.getElem_cons_zero, List.getElem_cons_succ]
  refine any_take (i := 6) (v := (.bool false)) #[true, true, true, true, true, true, false, false] rfl (by kernel_rfl) (by kernel_rfl) (by kernel_rfl) (by kernel_rfl) (fun _ _ _ h => h) (.inl ⟨by kernel_rfl, fun x_ hu => exec_neq_m _ (.tmp 83) (.tmp 85) rfl (msO L).toArray (by kernel_rfl) (by kernel_rfl) (eq_msl (sub_len hLl (by omega)) _ _ (sub_len hLl (by omega)) _)⟩) hS ?_
  simp only [Act.put, List.setIfInBounds_toArray, List.set_cons_zero, List.set_cons_succ, List.getElem_toArray, List.getElem_cons_zero, List.getElem_cons_succ]
  refine any_take (i := 7) (v := (.bool false)) #[true, true, true, true, true, true, true, false] rfl (by kernel_rfl) (by kernel_rfl) (by kernel_rfl) (by kernel_rfl) (fun _ _ _ h => h) (.inl ⟨by kernel_rfl, fun x_ hu => by kernel_rfl⟩) hS ?_
  simp only [Act.put, List.setIfInBounds_toArray, List.set_cons_zero, List.set_cons_succ, List.getElem_toArray, List.getElem_cons_zero, List.getElem_cons_succ]
  refine any_done (by kernel_rfl) ?_
  have hW : Bl u6 [⟨qh, (hdl Z32 0 0).toArray, 26⟩, ⟨qm, (msO L).toArray, 29⟩, ⟨qx, (xcl Z16 Z130).toArray, 34⟩] d16 := hS
  clear hS
  replace hW := hide hW
  go_upto_region 20 with fail
  replace hW := unhide hW
  refine wp_region_lit ?_
  refine list_val (.slice (some ⟨p0, q0, none⟩) 105 cap) (by kernel_rfl) (by kernel_rfl) ?_
  simp only [Act.put, List.setIfInBounds_toArray, List.set_cons_zero, List.set_cons_succ, List.getElem_toArray, List.getElem_cons_zero, List.getElem_cons_succ]
  refine list_val (.int .i64 105) (by kernel_rfl) (by kernel_rfl) ?_
  simp only [Act.put, List.setIfInBounds_toArray, List.set_cons_zero, List.set_cons_succ, List.getElem_toArray, List.getElem_cons_zero, List.getElem_cons_succ]
  refine list_val (.bool false) (by kernel_rfl) (by kernel_rfl) ?_
  simp only [Act.put, List.setIfInBounds_toArray, List.set_cons_zero, List.set_cons_succ, List.getElem_toArray, List.getElem_cons_zero, List.getElem_cons_succ]
  refine wpList_nil ?_
  replace hW := hide hW
  go_upto_region 22 with fail
  replace hW := unhide hW
  refine wp_region_lit ?_
  refine list_val (.int .i64 240) (by kernel_rfl) (by kernel_rfl) ?_
  simp only [Act.put, List.setIfInBounds_toArray, List.set_cons_zero, List.set_cons_succ, List.getElem_toArray, List.getElem_cons_zero, List.getElem_cons_succ]
  refine list_val (.bool true) (by kernel_rfl) (by kernel_rfl) ?_
  simp only [Act.put, List.setIfInBounds_toArray, List.set_cons_zero, List.set_cons_succ, List.getElem_toArray, List.getElem_cons_zero, List.getElem_cons_succ]
  refine list_val (.bool true) (by kernel_rfl) (by kernel_rfl) ?_
  simp only [Act.put, List.setIfInBounds_toArray, List.set_cons_zero, List.set_cons_succ, List.getElem_toArray, List.getElem_cons_zero, List.getElem_cons_succ]
  refine list_val (.agg (xcl Z16 Z130).toArray) (by kernel_rfl) (exec_arr _ 34 (.tmp 12) rfl qx (by kernel_rfl) (xcl Z16 Z130).toArray 34 _ (hW.get 2 (x := ⟨qx, (xcl Z16 Z130).toArray, 34⟩) rfl) Try.underlying34 rfl (by rw [Try.infoX]; rfl)) ?_
  simp only [Act.put, List.setIfInBounds_toArray, List.set_cons_zero, List.set_cons_succ, List.getElem_toArray, List.getElem_cons_zero, List.getElem_cons_succ]
  refine list_val (.agg (xcl Z16 Z130).toArray) (by kernel_rfl) (by kernel_rfl) ?_
  simp only [Act.put, List.setIfInBounds_toArray, List.set_cons_zero, List.set_cons_succ, List.getElem_toArray, List.getElem_cons_zero, List.getElem_cons_succ]
  refine list_val (.bool true) (by kernel_rfl) (exec_eql_x _ (.tmp 109) (.tmp 110) rfl (xcl Z16 Z130).toArray (by kernel_rfl) (by kernel_rfl) (eq_xcl (D := Z16) rfl (B := Z130) rfl _)) ?_
  simp only [Act.put, List.setIfInBounds_toArray, List.set_cons_zero, List.set_cons_succ, List.getElem_toArray, List.getElem_cons_zero, List.getElem_cons_succ]
  refine list_val (.bool true) (by kernel_rfl) (by kernel_rfl) ?_
  simp only [Act.put, List.setIfInBounds_toArray, List.set_cons_zero, List.set_cons_succ, List.getElem_toArray, List.getElem_cons_zero, List.getElem_cons_succ]
  refine list_val (.bool true) (by kernel_rfl) (by kernel_rfl) ?_
  simp only [Act.put, List.setIfInBounds_toArray, List.set_cons_zero, List.set_cons_succ, List.getElem_toArray, List.getElem_cons_zero, List.getElem_cons_succ]
  refine list_val (.slice (some ⟨go, 0, none⟩) 105 co) (by kernel_rfl) (by kernel_rfl) ?_
  simp only [Act.put, List.setIfInBounds_toArray, List.set_cons_zero, List.set_cons_succ, List.getElem_toArray, List.getElem_cons_zero, List.getElem_cons_succ]
  refine list_val (.slice (some ⟨p0, q0, none⟩) 105 cap) (by kernel_rfl) (by kernel_rfl) ?_
  simp only [Act.put, List.setIfInBounds_toArray, List.set_cons_zero, List.set_cons_succ, List.getElem_toArray, List.getElem_cons_zero, List.getElem_cons_succ]
  refine list_call 11 #[.slice (some ⟨go, 0, none⟩) 105 co, .slice (some ⟨p0, q0, none⟩) 105 cap] (by kernel_rfl) (by kernel_rfl) ((beq_ok L L (some ⟨go, 0, none⟩) (some ⟨p0, q0, none⟩) 105 105 co cap d16 ((unhide hlo).gr hW.gr) ((unhide hl).gr hW.gr)).mono ?_)
  rintro r v9 ⟨rfl, hg⟩
  rw [decide_eq_true rfl]
  have hZ : Hid (Woke w (.returned (.bool true)) v9) := ⟨rfl, (unhide hWg).trans (hW.gr.trans hg)⟩
  clear hW hg
  refine ⟨_, rfl, ?_⟩
  simp only [Act.put, List.setIfInBounds_toArray, List.set_cons_zero, List.set_cons_succ, List.getElem_toArray, List.getElem_cons_zero, List.getElem_cons_succ]
  refine list_val (.bool true) (by kernel_rfl) (by kernel_rfl) ?_
  simp only [Act.put, List.setIfInBounds_toArray, List.set_cons_zero, List.set_cons_succ, List.getElem_toArray, List.getElem_cons_zero, List.getElem_cons_succ]
  (refine wpList_step fun K hK => ?_; replace hK := hide hK; go_simp; refine unhide hK _ _ ?_; clear hK K)
  refine wpList_nil ?_
  go_wp2_with fail
  rw [unhide hT]
  exact unhide hZ
set_option maxHeartbeats 4000000 in
theorem messages_at146 (K : List Int) (hK : K.length = 32) (bK : IsB K) (p q : Int) (hp : U4 p) (hq : U4 q) (B : List Int) (hB : B.length = 65) (bB : IsB B) (D : List Int) (hD : D.length = 16) (bD : IsB D) (X : List Int) (hX : X.length = 130) (bX : IsB X) (l : List Int) (s : Option Addr) (len cap : Nat) (w : World) (lb : Lb w s len cap l) (hN : min len 1000 = 146) : Calls Try.prog 3 #[.agg (msl K p q B).toArray, .agg (xcl D X).toArray, .slice s len cap] w (Woke w) := by
  obtain ⟨T, hT⟩ : ∃ T, T = Woke w := ⟨_, rfl⟩
  rw [← hT]
  replace hT := hide hT
  obtain ⟨C0, hC0⟩ : ∃ C, C = (msl K p q B).toArray := ⟨_, rfl⟩
  obtain ⟨C1, hC1⟩ : ∃ C, C = (xcl D X).toArray := ⟨_, rfl⟩
  rw [← hC0, ← hC1]
  replace hC0 := hide hC0; replace hC1 := hide hC1
  replace bK := hide bK; replace bB := hide bB; replace bD := hide bD; replace bX := hide bX; replace lb := hide lb
  obtain ⟨n, hn0⟩ : ∃ n, n = min len 1000 := ⟨_, rfl⟩
  obtain ⟨L, hL0⟩ : ∃ L, L = l.take n := ⟨_, rfl⟩
  have hn9 : n ≤ 1000 := by omega
  rw [← hn0] at hN
  obtain rfl : n = 146 := hN
  replace hn0 := hide hn0; replace hL0 := hide hL0
  go_enter Try.func3, Try.ntmps3
  go_upto_region 1 with fail
  have hW := (((Bl.nil w).new C0 29).new C1 34)
  simp only [size_alloc, List.nil_append, List.cons_append] at hW
  generalize World.alloc _ _ = u at *
  rw [unhide hC0, unhide hC1] at hW
  clear hC0 hC1
  replace hW : Bl w [⟨w.heap.size, (msl K p q B).toArray, 29⟩, ⟨w.heap.size + 1, (xcl D X).toArray, 34⟩] u := hW
  refine wp_region_lit ?_
  refine list_call 9 #[] (by kernel_rfl) (by kernel_rfl) ((jwakes_ok u).mono ?_)
  rintro r u1 ⟨rfl, hg⟩
  replace hW := hW.more hg
  clear hg
  refine ⟨_, rfl, ?_⟩
  simp only [Act.put, List.setIfInBounds_toArray, List.set_cons_zero, List.set_cons_succ, List.getElem_toArray, List.getElem_cons_zero, List.getElem_cons_succ]
  refine list_val (.bool false) (by kernel_rfl) (by kernel_rfl) ?_
  simp only [Act.put, List.setIfInBounds_toArray, List.set_cons_zero, List.set_cons_succ, List.getElem_toArray, List.getElem_cons_zero, List.getElem_cons_succ]
  refine wpList_nil ?_
  replace hW := hide hW
  go_upto_region 3 with fail
  replace hW := unhide hW
  refine wp_region_lit ?_
  refine list_val (.slice s len cap) (by kernel_rfl) (by kernel_rfl) ?_
  simp only [Act.put, List.setIfInBounds_toArray, List.set_cons_zero, List.set_cons_succ, List.getElem_toArray, List.getElem_cons_zero, List.getElem_cons_succ]
  refine list_call 10 #[.slice s len cap] (by kernel_rfl) (by kernel_rfl) ((jcut_ok l s len cap u1 ((unhide lb).gr hW.gr)).mono ?_)
  rintro r u2 ⟨s1, rfl, hs1, rfl⟩
  have hl := hs1 w (unhide lb)
  rw [← unhide hn0, ← unhide hL0] at hl
  rw [← unhide hn0]
  clear hs1 lb hL0 hn0
  have hLl := hl.len
  have hLb := hide hl.isB
  obtain ⟨p0, q0, rfl, hl⟩ := hl.some (by omega)
  replace hl := hide hl
  refine ⟨_, rfl, ?_⟩
  simp only [Act.put, List.setIfInBounds_toArray, List.set_cons_zero, List.set_cons_succ, List.getElem_toArray, List.getElem_cons_zero, List.getElem_cons_succ]
  (refine wpList_step fun K hK => ?_; replace hK := hide hK; go_simp; refine unhide hK _ _ ?_; clear hK K)
  refine wpList_nil ?_
  replace hW := hide hW
  go_upto_region 4 with fail
  replace hW := unhide hW
  refine any_start (S := fun (v : World) => Bl w [⟨w.heap.size, (msl K p q B).toArray, 29⟩, ⟨w.heap.size + 1, (xcl D X).toArray, 34⟩] v) (by kernel_rfl) ?_
  replace hW := hW.drew
  generalize World.drew _ = x0 at *
  have hS : (fun (v : World) => Bl w [⟨w.heap.size, (msl K p q B).toArray, 29⟩, ⟨w.heap.size + 1, (xcl D X).toArray, 34⟩] v) x0 := hW
  clear hW
  simp only [List.size_toArray, List.length_cons, List.length_nil, Array.replicate, List.replicate]
  refine any_take (i := 0) (v := (.pointer (some ⟨w.heap.size, 0, none⟩))) #[false, false, false, false, false, false, false, false, false, false, false, false, false, false, false, false, false, false, false, false, false, false, false, false] rfl (by kernel_rfl) (by kernel_rfl) (by kernel_rfl) (by kernel_rfl) (fun _ _ _ h => h) (.inl ⟨by kernel_rfl, fun x_ hu => by kernel_rfl⟩) hS ?_
  simp only [Act.put, List.setIfInBounds_toArray, List.set_cons_zero, List.set_cons_succ, List.getElem_toArray, List.getElem_cons_zero, List.getElem_cons_succ]
  refine any_take (i := 1) (v := (.agg (hdl K p q).toArray)) #[true, false, false, false, false, false, false, false, false, false, false, false, false, false, false, false, false, false, false, false, false, false, false, false] rfl (by kernel_rfl) (by kernel_rfl) (by kernel_rfl) (by kernel_rfl) (fun _ _ _ h => h) (.inl ⟨by kernel_rfl, fun x_ hu => exec_row _ 26 (.tmp 18) rfl (w.heap.size) 0 (by kernel_rfl) (hdl K p q) _ (range_mid (hu.get 0 (x := ⟨w.heap.size, (msl K p q B).toArray, 29⟩) rfl) (msl_hd0 K p q B) rfl) Try.underlying26 rfl (by rw [Try.infoH, hdl_len hK])⟩) hS ?_
  simp only [Act.put, List.setIfInBounds_toArray, List.set_cons_zero, List.set_cons_succ, List.getElem_toArray, List.getElem_cons_zero, List.getElem_cons_succ]
  refine any_take (i := 3) (v := (.pointer (some ⟨w.heap.size, 0, none⟩))) #[true, true, false, false, false, false, false, false, false, false, false, false, false, false, false, false, false, false, false, false, false, false, false, false] rfl (by kernel_rfl) (by kernel_rfl) (by kernel_rfl) (by kernel_rfl) (fun _ _ _ h => h) (.inl ⟨by kernel_rfl, fun x_ hu => by kernel_rfl⟩) hS ?_
  simp only [Act.put, List.setIfInBounds_toArray, List.set_cons_zero, List.set_cons_succ, List.getElem_toArray, List.getElem_cons_zero, List.getElem_cons_succ]
  refine any_take (i := 4) (v := (.agg (hdl K p q).toArray)) #[true, true, false, true, false, false, false, false, false, false, false, false, false, false, false, false, false, false, false, false, false, false, false, false] rfl (by kernel_rfl) (by kernel_rfl) (by kernel_rfl) (by kernel_rfl) (fun _ _ _ h => h) (.inl ⟨by kernel_rfl, fun x_ hu => exec_row _ 26 (.tmp 21) rfl (w.heap.size) 0 (by kernel_rfl) (hdl K p q) _ (range_mid (hu.get 0 (x := ⟨w.heap.size, (msl K p q B).toArray, 29⟩) rfl) (msl_hd0 K p q B) rfl) Try.underlying26 rfl (by rw [Try.infoH, hdl_len hK])⟩) hS ?_
  simp only [Act.put, List.setIfInBounds_toArray, List.set_cons_zero, List.set_cons_succ, List.getElem_toArray, List.getElem_cons_zero, List.getElem_cons_succ]
  refine any_one (i := 2) (by kernel_rfl) rfl (fun K_ hQ => ?_)
  refine step_callw (by kernel_rfl) 12 #[.agg (hdl K p q).toArray] (by kernel_rfl) ((fputh_ok K hK (unhide bK) p q hp hq x0).mono ?_)
  rintro r z2 ⟨vH0, rfl, hO, hg⟩
  refine ⟨_, rfl, ?_⟩
  obtain ⟨aH0, cH0, rfl, hH0⟩ := ob_lb hO (hdB_isB (unhide bK) p q) (n := 40) (hdB_len hK p q)
  replace hS : (fun (v : World) => Bl w [⟨w.heap.size, (msl K p q B).toArray, 29⟩, ⟨w.heap.size + 1, (xcl D X).toArray, 34⟩] v) z2 := hS.more hg
  clear hO hg
  refine hQ.out _ _ hS (fun _ => ?_)
  clear hQ K_
  simp only [Act.put, List.setIfInBounds_toArray, List.set_cons_zero, List.set_cons_succ, List.getElem_toArray, List.getElem_cons_zero, List.getElem_cons_succ]
  refine any_one (i := 5) (by kernel_rfl) rfl (fun K_ hQ => ?_)
  refine step_callw (by kernel_rfl) 13 #[.agg (hdl K p q).toArray] (by kernel_rfl) ((qhead_ok K hK (unhide bK) p q hp hq z2).mono ?_)
  rintro r z5 ⟨vH1, rfl, hO, hg⟩
  refine ⟨_, rfl, ?_⟩
  obtain ⟨aH1, cH1, rfl, hH1⟩ := ob_lb hO (hdB_isB (unhide bK) p q) (n := 40) (hdB_len hK p q)
  replace hS : (fun (v : World) => Bl w [⟨w.heap.size, (msl K p q B).toArray, 29⟩, ⟨w.heap.size + 1, (xcl D X).toArray, 34⟩] v) z5 := hS.more hg
  replace hH0 := hH0.gr hg
  clear hO hg
  refine hQ.out _ _ hS (fun _ => ?_)
  clear hQ K_
  simp only [Act.put, List.setIfInBounds_toArray, List.set_cons_zero, List.set_cons_succ, List.getElem_toArray, List.getElem_cons_zero, List.getElem_cons_succ]
  refine any_one (i := 6) (by kernel_rfl) rfl (fun K_ hQ => ?_)
  refine step_callw (by kernel_rfl) 11 #[.slice aH0 40 cH0, .slice aH1 40 cH1] (by kernel_rfl) ((beq_ok (hdB K p q) (hdB K p q) aH0 aH1 40 40 cH0 cH1 z5 hH0 hH1).mono ?_)
  rintro r z6 ⟨rfl, hg⟩
  refine ⟨_, rfl, ?_⟩
  rw [decide_eq_true rfl]
  replace hS : (fun (v : World) => Bl w [⟨w.heap.size, (msl K p q B).toArray, 29⟩, ⟨w.heap.size + 1, (xcl D X).toArray, 34⟩] v) z6 := hS.more hg
  clear hg hH0 hH1
  refine hQ.out _ _ hS (fun _ => ?_)
  clear hQ K_
  simp only [Act.put, List.setIfInBounds_toArray, List.set_cons_zero, List.set_cons_succ, List.getElem_toArray, List.getElem_cons_zero, List.getElem_cons_succ]
  refine any_take (i := 7) (v := (.bool false)) #[true, true, true, true, true, true, true, false, false, false, false, false, false, false, false, false, false, false, false, false, false, false, false, false] rfl (by kernel_rfl) (by kernel_rfl) (by kernel_rfl) (by kernel_rfl) (fun _ _ _ h => h) (.inl ⟨by kernel_rfl, fun x_ hu => by kernel_rfl⟩) hS ?_
  simp only [Act.put, List.setIfInBounds_toArray, List.set_cons_zero, List.set_cons_succ, List.getElem_toArray, List.getElem_cons_zero, List.getElem_cons_succ]
  refine any_take (i := 8) (v := (.bool false)) #[true, true, true, true, true, true, true, true, false, false, false, false, false, false, false, false, false, false, false, false, false, false, false, false] rfl (by kernel_rfl) (by kernel_rfl) (by kernel_rfl) (by kernel_rfl) (fun _ _ _ h => h) (.inl ⟨by kernel_rfl, fun x_ hu => by kernel_rfl⟩) hS ?_
  simp only [Act.put, List.setIfInBounds_toArray, List.set_cons_zero, List.set_cons_succ, List.getElem_toArray, List.getElem_cons_zero, List.getElem_cons_succ]
  refine any_take (i := 9) (v := (.agg (msl K p q B).toArray)) #[true, true, true, true, true, true, true, true, true, false, false, false, false, false, false, false, false, false, false, false, false, false, false, false] rfl (by kernel_rfl) (by kernel_rfl) (by kernel_rfl) (by kernel_rfl) (fun _ _ _ h => h) (.inl ⟨by kernel_rfl, fun x_ hu => exec_arr _ 29 (.tmp 3) rfl (w.heap.size) (by kernel_rfl) (msl K p q B).toArray 29 _ (hu.get 0 (x := ⟨w.heap.size, (msl K p q B).toArray, 29⟩) rfl) Try.underlying29 rfl (by rw [Try.infoM, List.size_toArray, msl_len hK _ _ hB])⟩) hS ?_
  simp only [Act.put, List.setIfInBounds_toArray, List.set_cons_zero, List.set_cons_succ, List.getElem_toArray, List.getElem_cons_zero, List.getElem_cons_succ]
  refine any_take (i := 11) (v := (.agg (msl K p q B).toArray)) #[true, true, true, true, true, true, true, true, true, true, false, false, false, false, false, false, false, false, false, false, false, false, false, false] rfl (by kernel_rfl) (by kernel_rfl) (by kernel_rfl) (by kernel_rfl) (fun _ _ _ h => h) (.inl ⟨by kernel_rfl, fun x_ hu => exec_arr _ 29 (.tmp 3) rfl (w.heap.size) (by kernel_rfl) (msl K p q B).toArray 29 _ (hu.get 0 (x := ⟨w.heap.size, (msl K p q B).toArray, 29⟩) rfl) Try.underlying29 rfl (by rw [Try.infoM, List.size_toArray, msl_len hK _ _ hB])⟩) hS ?_
  simp only [Act.put, List.setIfInBounds_toArray, List.set_cons_zero, List.set_cons_succ, List.getElem_toArray, List.getElem_cons_zero, List.getElem_cons_succ]
  refine any_one (i := 10) (by kernel_rfl) rfl (fun K_ hQ => ?_)
  refine step_callw (by kernel_rfl) 14 #[.agg (msl K p q B).toArray] (by kernel_rfl) ((fputm_ok K hK (unhide bK) p q hp hq B hB (unhide bB) z6).mono ?_)
  rintro r z10 ⟨vM0, rfl, hO, hg⟩
  refine ⟨_, rfl, ?_⟩
  obtain ⟨aM0, cM0, rfl, hM0⟩ := ob_lb hO (isB_append (hdB_isB (unhide bK) p q) (unhide bB)) (n := 105) (by rw [List.length_append, hdB_len hK, hB])
  replace hS : (fun (v : World) => Bl w [⟨w.heap.size, (msl K p q B).toArray, 29⟩, ⟨w.heap.size + 1, (xcl D X).toArray, 34⟩] v) z10 := hS.more hg
  clear hO hg
  refine hQ.out _ _ hS (fun _ => ?_)
  clear hQ K_
  simp only [Act.put, List.setIfInBounds_toArray, List.set_cons_zero, List.set_cons_succ, List.getElem_toArray, List.getElem_cons_zero, List.getElem_cons_succ]
  refine any_one (i := 12) (by kernel_rfl) rfl (fun K_ hQ => ?_)
  refine step_callw (by kernel_rfl) 15 #[.agg (msl K p q B).toArray] (by kernel_rfl) ((qmes_ok K hK (unhide bK) p q hp hq B hB (unhide bB) z10).mono ?_)
  rintro r z12 ⟨vM1, rfl, hO, hg⟩
  refine ⟨_, rfl, ?_⟩
  obtain ⟨aM1, cM1, rfl, hM1⟩ := ob_lb hO (isB_append (hdB_isB (unhide bK) p q) (unhide bB)) (n := 105) (by rw [List.length_append, hdB_len hK, hB])
  replace hS : (fun (v : World) => Bl w [⟨w.heap.size, (msl K p q B).toArray, 29⟩, ⟨w.heap.size + 1, (xcl D X).toArray, 34⟩] v) z12 := hS.more hg
  replace hM0 := hM0.gr hg
  clear hO hg
  refine hQ.out _ _ hS (fun _ => ?_)
  clear hQ K_
  simp only [Act.put, List.setIfInBounds_toArray, List.set_cons_zero, List.set_cons_succ, List.getElem_toArray, List.getElem_cons_zero, List.getElem_cons_succ]
  refine any_one (i := 13) (by kernel_rfl) rfl (fun K_ hQ => ?_)
  refine step_callw (by kernel_rfl) 11 #[.slice aM0 105 cM0, .slice aM1 105 cM1] (by kernel_rfl) ((beq_ok (hdB K p q ++ B) (hdB K p q ++ B) aM0 aM1 105 105 cM0 cM1 z12 hM0 hM1).mono ?_)
  rintro r z13 ⟨rfl, hg⟩
  refine ⟨_, rfl, ?_⟩
  rw [decide_eq_true rfl]
  replace hS : (fun (v : World) => Bl w [⟨w.heap.size, (msl K p q B).toArray, 29⟩, ⟨w.heap.size + 1, (xcl D X).toArray, 34⟩] v) z13 := hS.more hg
  clear hg hM0 hM1
  refine hQ.out _ _ hS (fun _ => ?_)
  clear hQ K_
  simp only [Act.put, List.setIfInBounds_toArray, List.set_cons_zero, List.set_cons_succ, List.getElem_toArray, List.getElem_cons_zero, List.getElem_cons_succ]
  refine any_take (i := 14) (v := (.bool false)) #[true, true, true, true, true, true, true, true, true, true, true, true, true, true, false, false, false, false, false, false, false, false, false, false] rfl (by kernel_rfl) (by kernel_rfl) (by kernel_rfl) (by kernel_rfl) (fun _ _ _ h => h) (.inl ⟨by kernel_rfl, fun x_ hu => by kernel_rfl⟩) hS ?_
  simp only [Act.put, List.setIfInBounds_toArray, List.set_cons_zero, List.set_cons_succ, List.getElem_toArray, List.getElem_cons_zero, List.getElem_cons_succ]
  refine any_take (i := 15) (v := (.bool false)) #[true, true, true, true, true, true, true, true, true, true, true, true, true, true, true, false, false, false, false, false, false, false, false, false] rfl (by kernel_rfl) (by kernel_rfl) (by kernel_rfl) (by kernel_rfl) (fun _ _ _ h => h) (.inl ⟨by kernel_rfl, fun x_ hu => by kernel_rfl⟩) hS ?_
  simp only [Act.put, List.setIfInBounds_toArray, List.set_cons_zero, List.set_cons_succ, List.getElem_toArray, List.getElem_cons_zero, List.getElem_cons_succ]
  refine any_take (i := 16) (v := (.bool false)) #[true, true, true, true, true, true, true, true, true, true, true, true, true, true, true, true, false, false, false, false, false, false, false, false] rfl (by kernel_rfl) (by kernel_rfl) (by kernel_rfl) (by kernel_rfl) (fun _ _ _ h => h) (.inl ⟨by kernel_rfl, fun x_ hu => by kernel_rfl⟩) hS ?_
  simp only [Act.put, List.setIfInBounds_toArray, List.set_cons_zero, List.set_cons_succ, List.getElem_toArray, List.getElem_cons_zero, List.getElem_cons_succ]
  refine any_take (i := 17) (v := (.agg (xcl D X).toArray)) #[true, true, true, true, true, true, true, true, true, true, true, true, true, true, true, true, true, false, false, false, false, false, false, false] rfl (by kernel_rfl) (by kernel_rfl) (by kernel_rfl) (by kernel_rfl) (fun _ _ _ h => h) (.inl ⟨by kernel_rfl, fun x_ hu => exec_arr _ 34 (.tmp 4) rfl (w.heap.size + 1) (by kernel_rfl) (xcl D X).toArray 34 _ (hu.get 1 (x := ⟨w.heap.size + 1, (xcl D X).toArray, 34⟩) rfl) Try.underlying34 rfl (by rw [Try.infoX, List.size_toArray, xcl_len hD hX])⟩) hS ?_
  simp only [Act.put, List.setIfInBounds_toArray, List.set_cons_zero, List.set_cons_succ, List.getElem_toArray, List.getElem_cons_zero, List.getElem_cons_succ]
  refine any_take (i := 19) (v := (.agg (xcl D X).toArray)) #[true, true, true, true, true, true, true, true, true, true, true, true, true, true, true, true, true, true, false, false, false, false, false, false] rfl (by kernel_rfl) (by kernel_rfl) (by kernel_rfl) (by kernel_rfl) (fun _ _ _ h => h) (.inl ⟨by kernel_rfl, fun x_ hu => exec_arr _ 34 (.tmp 4) rfl (w.heap.size + 1) (by kernel_rfl) (xcl D X).toArray 34 _ (hu.get 1 (x := ⟨w.heap.size + 1, (xcl D X).toArray, 34⟩) rfl) Try.underlying34 rfl (by rw [Try.infoX, List.size_toArray, xcl_len hD hX])⟩) hS ?_
  simp only [Act.put, List.setIfInBounds_toArray, List.set_cons_zero, List.set_cons_succ, List.getElem_toArray, List.getElem_cons_zero, List.getElem_cons_succ]
  refine any_one (i := 18) (by kernel_rfl) rfl (fun K_ hQ => ?_)
  refine step_callw (by kernel_rfl) 16 #[.agg (xcl D X).toArray] (by kernel_rfl) ((fputx_ok D hD (unhide bD) X hX (unhide bX) z13).mono ?_)
  rintro r z18 ⟨vX0, rfl, hO, hg⟩
  refine ⟨_, rfl, ?_⟩
  obtain ⟨aX0, cX0, rfl, hX0⟩ := ob_lb hO (isB_append (unhide bD) (unhide bX)) (n := 146) (by rw [List.length_append, hD, hX])
  replace hS : (fun (v : World) => Bl w [⟨w.heap.size, (msl K p q B).toArray, 29⟩, ⟨w.heap.size + 1, (xcl D X).toArray, 34⟩] v) z18 := hS.more hg
  clear hO hg
  refine hQ.out _ _ hS (fun _ => ?_)
  clear hQ K_
  simp only [Act.put, List.setIfInBounds_toArray, List.set_cons_zero, List.set_cons_succ, List.getElem_toArray, List.getElem_cons_zero, List.getElem_cons_succ]
  refine any_one (i := 20) (by kernel_rfl) rfl (fun K_ hQ => ?_)
  refine step_callw (by kernel_rfl) 17 #[.agg (xcl D X).toArray] (by kernel_rfl) ((qexc_ok D hD (unhide bD) X hX (unhide bX) z18).mono ?_)
  rintro r z20 ⟨vX1, rfl, hO, hg⟩
  refine ⟨_, rfl, ?_⟩
  obtain ⟨aX1, cX1, rfl, hX1⟩ := ob_lb hO (isB_append (unhide bD) (unhide bX)) (n := 146) (by rw [List.length_append, hD, hX])
  replace hS : (fun (v : World) => Bl w [⟨w.heap.size, (msl K p q B).toArray, 29⟩, ⟨w.heap.size + 1, (xcl D X).toArray, 34⟩] v) z20 := hS.more hg
  replace hX0 := hX0.gr hg
  clear hO hg
  refine hQ.out _ _ hS (fun _ => ?_)
  clear hQ K_
  simp only [Act.put, List.setIfInBounds_toArray, List.set_cons_zero, List.set_cons_succ, List.getElem_toArray, List.getElem_cons_zero, List.getElem_cons_succ]
  refine any_one (i := 21) (by kernel_rfl) rfl (fun K_ hQ => ?_)
  refine step_callw (by kernel_rfl) 11 #[.slice aX0 146 cX0, .slice aX1 146 cX1] (by kernel_rfl) ((beq_ok (D ++ X) (D ++ X) aX0 aX1 146 146 cX0 cX1 z20 hX0 hX1).mono ?_)
  rintro r z21 ⟨rfl, hg⟩
  refine ⟨_, rfl, ?_⟩
  rw [decide_eq_true rfl]
  replace hS : (fun (v : World) => Bl w [⟨w.heap.size, (msl K p q B).toArray, 29⟩, ⟨w.heap.size + 1, (xcl D X).toArray, 34⟩] v) z21 := hS.more hg
  clear hg hX0 hX1
  refine hQ.out _ _ hS (fun _ => ?_)
  clear hQ K_
  simp only [Act.put, List.setIfInBounds_toArray, List.set_cons_zero, List.set_cons_succ, List.getElem_toArray, List.getElem_cons_zero, List.getElem_cons_succ]
  refine any_take (i := 22) (v := (.bool false)) #[true, true, true, true, true, true, true, true, true, true, true, true, true, true, true, true, true, true, true, true, true, true, false, false] rfl (by kernel_rfl) (by kernel_rfl) (by kernel_rfl) (by kernel_rfl) (fun _ _ _ h => h) (.inl ⟨by kernel_rfl, fun x_ hu => by kernel_rfl⟩) hS ?_
  simp only [Act.put, List.setIfInBounds_toArray, List.set_cons_zero, List.set_cons_succ, List.getElem_toArray, List.getElem_cons_zero, List.getElem_cons_succ]
  refine any_take (i := 23) (v := (.bool false)) #[true, true, true, true, true, true, true, true, true, true, true, true, true, true, true, true, true, true, true, true, true, true, true, false] rfl (by kernel_rfl) (by kernel_rfl) (by kernel_rfl) (by kernel_rfl) (fun _ _ _ h => h) (.inl ⟨by kernel_rfl, fun x_ hu => by kernel_rfl⟩) hS ?_
  simp only [Act.put, List.setIfInBounds_toArray, List.set_cons_zero, List.set_cons_succ, List.getElem_toArray, List.getElem_cons_zero, List.getElem_cons_succ]
  refine any_done (by kernel_rfl) ?_
  have hW : Bl w [⟨w.heap.size, (msl K p q B).toArray, 29⟩, ⟨w.heap.size + 1, (xcl D X).toArray, 34⟩] z21 := hS
  clear hS
  replace hW := hide hW
  go_upto_region 6 with fail
  replace hW := unhide hW
  refine wp_region_lit ?_
  refine list_val (.slice (some ⟨p0, q0, none⟩) 146 cap) (by kernel_rfl) (by kernel_rfl) ?_
  simp only [Act.put, List.setIfInBounds_toArray, List.set_cons_zero, List.set_cons_succ, List.getElem_toArray, List.getElem_cons_zero, List.getElem_cons_succ]
  refine list_call 18 #[.slice (some ⟨p0, q0, none⟩) 146 cap] (by kernel_rfl) (by kernel_rfl) ((jroom_ok L (some ⟨p0, q0, none⟩) 146 cap (by omega) z21 ((unhide hl).gr hW.gr)).mono ?_)
  rintro r u6 ⟨go, co, rfl, hc1, hc2, hgo, hat, hg⟩
  rw [hLl] at hc1 ⊢
  have hlo : Lb u6 (some ⟨go, 0, none⟩) 146 co L := by
    have h9 := hat.take 146
    rw [List.take_append_of_le_length (by rw [hLl]; exact Nat.le_refl _), List.take_of_length_le (by rw [hLl]; exact Nat.le_refl _)] at h9
    exact ⟨hLl, unhide hLb, .inr ⟨go, 0, rfl, h9⟩, by omega, hc2⟩
  replace hlo := hide hlo
  have hWg := hide (hW.gr.trans hg)
  replace hl := hide ((unhide hl).gr (unhide hWg))
  clear hW hg hat hc1 hc2 hgo
  have hW := Bl.nil u6
  refine ⟨_, rfl, ?_⟩
  simp only [Act.put, List.setIfInBounds_toArray, List.set_cons_zero, List.set_cons_succ, List.getElem_toArray, List.getElem_cons_zero, List.getElem_cons_succ]
  (refine wpList_step fun K hK => ?_; replace hK := hide hK; go_simp; refine unhide hK _ _ ?_; clear hK K)
  refine wpList_nil ?_
  replace hW := hide hW
  go_upto_region 7 with fail
  replace hW := unhide hW
  refine wp_region_lit ?_
  refine list_val (.slice (some ⟨go, 0, none⟩) 146 co) (by kernel_rfl) (by kernel_rfl) ?_
  simp only [Act.put, List.setIfInBounds_toArray, List.set_cons_zero, List.set_cons_succ, List.getElem_toArray, List.getElem_cons_zero, List.getElem_cons_succ]
  refine list_call 19 #[.slice (some ⟨go, 0, none⟩) 146 co] (by kernel_rfl) (by kernel_rfl) ((fgeth_no (some ⟨go, 0, none⟩) 146 co (by omega) u6).mono ?_)
  rintro r h1 ⟨rfl, hg⟩
  replace hW := hW.more hg
  clear hg
  refine ⟨_, rfl, ?_⟩
  simp only [Act.put, List.setIfInBounds_toArray, List.set_cons_zero, List.set_cons_succ, List.getElem_toArray, List.getElem_cons_zero, List.getElem_cons_succ]
  refine list_val (.tuple #[.agg (hdl Z32 0 0).toArray, .int .i64 240]) (by kernel_rfl) (by kernel_rfl) ?_
  simp only [Act.put, List.setIfInBounds_toArray, List.set_cons_zero, List.set_cons_succ, List.getElem_toArray, List.getElem_cons_zero, List.getElem_cons_succ]
  refine list_val (.agg (hdl Z32 0 0).toArray) (by kernel_rfl) (by kernel_rfl) ?_
  simp only [Act.put, List.setIfInBounds_toArray, List.set_cons_zero, List.set_cons_succ, List.getElem_toArray, List.getElem_cons_zero, List.getElem_cons_succ]
  refine list_val (.int .i64 240) (by kernel_rfl) (by kernel_rfl) ?_
  simp only [Act.put, List.setIfInBounds_toArray, List.set_cons_zero, List.set_cons_succ, List.getElem_toArray, List.getElem_cons_zero, List.getElem_cons_succ]
  refine list_valw (.pointer (some ⟨h1.heap.size, 0, none⟩)) (h1.alloc (.cells (hdl Z32 0 0).toArray 26 (0, 0))) (by kernel_rfl) (by kernel_rfl) ?_
  replace hW := hW.new (hdl Z32 0 0).toArray 26
  simp only [List.nil_append, List.cons_append] at hW
  generalize World.alloc _ _ = h2 at *
  generalize h1.heap.size = qh at *
  replace hW : Bl u6 [⟨qh, (hdl Z32 0 0).toArray, 26⟩] h2 := hW
  simp only [Act.put, List.setIfInBounds_toArray, List.set_cons_zero, List.set_cons_succ, List.getElem_toArray, List.getElem_cons_zero, List.getElem_cons_succ]
  refine list_store 26 (.tmp 8) (.tmp 47) qh (hdl Z32 0 0).toArray 26 (hdl Z32 0 0).toArray (by kernel_rfl) rfl (by kernel_rfl) (by kernel_rfl) (hW.get 0 (x := ⟨qh, (hdl Z32 0 0).toArray, 26⟩) rfl) (by rw [Try.infoH]; rfl) (rfl) (hdl_one ..) ?_
  replace hW := hW.set 0 (x := ⟨qh, (hdl Z32 0 0).toArray, 26⟩) rfl (hdl Z32 0 0).toArray
  simp only [List.set_cons_zero, List.set_cons_succ] at hW
  generalize World.setRow _ _ _ = h3 at *
  replace hW : Bl u6 [⟨qh, (hdl Z32 0 0).toArray, 26⟩] h3 := hW
  simp only [Act.put, List.setIfInBounds_toArray, List.set_cons_zero, List.set_cons_succ, List.getElem_toArray, List.getElem_cons_zero, List.getElem_cons_succ]
  (refine wpList_step fun K hK => ?_; replace hK := hide hK; go_simp; refine unhide hK _ _ ?_; clear hK K)
  refine wpList_nil ?_
  replace hW := hide hW
  go_upto_region 8 with fail
  replace hW := unhide hW
  refine wp_region_lit ?_
  refine list_val (.slice (some ⟨go, 0, none⟩) 146 co) (by kernel_rfl) (by kernel_rfl) ?_
  simp only [Act.put, List.setIfInBounds_toArray, List.set_cons_zero, List.set_cons_succ, List.getElem_toArray, List.getElem_cons_zero, List.getElem_cons_succ]
  refine list_call 20 #[.slice (some ⟨go, 0, none⟩) 146 co] (by kernel_rfl) (by kernel_rfl) ((fgetm_no (some ⟨go, 0, none⟩) 146 co (by omega) h3).mono ?_)
  rintro r m1 ⟨rfl, hg⟩
  replace hW := hW.more hg
  clear hg
  refine ⟨_, rfl, ?_⟩
  simp only [Act.put, List.setIfInBounds_toArray, List.set_cons_zero, List.set_cons_succ, List.getElem_toArray, List.getElem_cons_zero, List.getElem_cons_succ]
  refine list_val (.tuple #[.agg (msl Z32 0 0 Z65).toArray, .int .i64 240]) (by kernel_rfl) (by kernel_rfl) ?_
  simp only [Act.put, List.setIfInBounds_toArray, List.set_cons_zero, List.set_cons_succ, List.getElem_toArray, List.getElem_cons_zero, List.getElem_cons_succ]
  refine list_val (.agg (msl Z32 0 0 Z65).toArray) (by kernel_rfl) (by kernel_rfl) ?_
  simp only [Act.put, List.setIfInBounds_toArray, List.set_cons_zero, List.set_cons_succ, List.getElem_toArray, List.getElem_cons_zero, List.getElem_cons_succ]
  refine list_val (.int .i64 240) (by kernel_rfl) (by kernel_rfl) ?_
  simp only [Act.put, List.setIfInBounds_toArray, List.set_cons_zero, List.set_cons_succ, List.getElem_toArray, List.getElem_cons_zero, List.getElem_cons_succ]
  refine list_valw (.pointer (some ⟨m1.heap.size, 0, none⟩)) (m1.alloc (.cells (msl Z32 0 0 Z65).toArray 29 (0, 0))) (by kernel_rfl) (by kernel_rfl) ?_
  replace hW := hW.new (msl Z32 0 0 Z65).toArray 29
  simp only [List.nil_append, List.cons_append] at hW
  generalize World.alloc _ _ = m2 at *
  generalize m1.heap.size = qm at *
  replace hW : Bl u6 [⟨qh, (hdl Z32 0 0).toArray, 26⟩, ⟨qm, (msl Z32 0 0 Z65).toArray, 29⟩] m2 := hW
  simp only [Act.put, List.setIfInBounds_toArray, List.set_cons_zero, List.set_cons_succ, List.getElem_toArray, List.getElem_cons_zero, List.getElem_cons_succ]
  refine list_store 29 (.tmp 10) (.tmp 52) qm (msl Z32 0 0 Z65).toArray 29 (msl Z32 0 0 Z65).toArray (by kernel_rfl) rfl (by kernel_rfl) (by kernel_rfl) (hW.get 1 (x := ⟨qm, (msl Z32 0 0 Z65).toArray, 29⟩) rfl) (by rw [Try.infoM]; rfl) (rfl) (msl_one ..) ?_
  replace hW := hW.set 1 (x := ⟨qm, (msl Z32 0 0 Z65).toArray, 29⟩) rfl (msl Z32 0 0 Z65).toArray
  simp only [List.set_cons_zero, List.set_cons_succ] at hW
  generalize World.setRow _ _ _ = m3 at *
  replace hW : Bl u6 [⟨qh, (hdl Z32 0 0).toArray, 26⟩, ⟨qm, (msl Z32 0 0 Z65).toArray, 29⟩] m3 := hW
  simp only [Act.put, List.setIfInBounds_toArray, List.set_cons_zero, List.set_cons_succ, List.getElem_toArray, List.getElem_cons_zero, List.getElem_cons_succ]
  (refine wpList_step fun K hK => ?_; replace hK := hide hK; go_simp; refine unhide hK _ _ ?_; clear hK K)
  refine wpList_nil ?_
  replace hW := hide hW
  go_upto_region 9 with fail
  replace hW := unhide hW
  refine wp_region_lit ?_
  refine list_val (.slice (some ⟨go, 0, none⟩) 146 co) (by kernel_rfl) (by kernel_rfl) ?_
  simp only [Act.put, List.setIfInBounds_toArray, List.set_cons_zero, List.set_cons_succ, List.getElem_toArray, List.getElem_cons_zero, List.getElem_cons_succ]
  refine list_call 21 #[.slice (some ⟨go, 0, none⟩) 146 co] (by kernel_rfl) (by kernel_rfl) ((fgetx_ok L (some ⟨go, 0, none⟩) co m3 ((unhide hlo).gr hW.gr)).mono ?_)
  rintro r x1 ⟨rfl, hg⟩
  replace hW := hW.more hg
  clear hg
  refine ⟨_, rfl, ?_⟩
  simp only [Act.put, List.setIfInBounds_toArray, List.set_cons_zero, List.set_cons_succ, List.getElem_toArray, List.getElem_cons_zero, List.getElem_cons_succ]
  refine list_val (.tuple #[.agg (xcO L).toArray, .int .i64 0]) (by kernel_rfl) (by kernel_rfl) ?_
  simp only [Act.put, List.setIfInBounds_toArray, List.set_cons_zero, List.set_cons_succ, List.getElem_toArray, List.getElem_cons_zero, List.getElem_cons_succ]
  refine list_val (.agg (xcO L).toArray) (by kernel_rfl) (by kernel_rfl) ?_
  simp only [Act.put, List.setIfInBounds_toArray, List.set_cons_zero, List.set_cons_succ, List.getElem_toArray, List.getElem_cons_zero, List.getElem_cons_succ]
  refine list_val (.int .i64 0) (by kernel_rfl) (by kernel_rfl) ?_
  simp only [Act.put, List.setIfInBounds_toArray, List.set_cons_zero, List.set_cons_succ, List.getElem_toArray, List.getElem_cons_zero, List.getElem_cons_succ]
  refine list_valw (.pointer (some ⟨x1.heap.size, 0, none⟩)) (x1.alloc (.cells (xcl Z16 Z130).toArray 34 (0, 0))) (by kernel_rfl) (by kernel_rfl) ?_
  replace hW := hW.new (xcl Z16 Z130).toArray 34
  simp only [List.nil_append, List.cons_append] at hW
  generalize World.alloc _ _ = x2 at *
  generalize x1.heap.size = qx at *
  replace hW : Bl u6 [⟨qh, (hdl Z32 0 0).toArray, 26⟩, ⟨qm, (msl Z32 0 0 Z65).toArray, 29⟩, ⟨qx, (xcl Z16 Z130).toArray, 34⟩] x2 := hW
  simp only [Act.put, List.setIfInBounds_toArray, List.set_cons_zero, List.set_cons_succ, List.getElem_toArray, List.getElem_cons_zero, List.getElem_cons_succ]
  refine list_store 34 (.tmp 12) (.tmp 57) qx (xcO L).toArray 34 (xcl Z16 Z130).toArray (by kernel_rfl) rfl (by kernel_rfl) (by kernel_rfl) (hW.get 2 (x := ⟨qx, (xcl Z16 Z130).toArray, 34⟩) rfl) (by rw [Try.infoX, List.size_toArray, xcO_len hLl]) (by rw [List.size_toArray, List.size_toArray, xcO_len hLl]; rfl) (xcl_one ..) ?_
  replace hW := hW.set 2 (x := ⟨qx, (xcl Z16 Z130).toArray, 34⟩) rfl (xcO L).toArray
  simp only [List.set_cons_zero, List.set_cons_succ] at hW
  generalize World.setRow _ _ _ = x3 at *
  replace hW : Bl u6 [⟨qh, (hdl Z32 0 0).toArray, 26⟩, ⟨qm, (msl Z32 0 0 Z65).toArray, 29⟩, ⟨qx, (xcO L).toArray, 34⟩] x3 := hW
  simp only [Act.put, List.setIfInBounds_toArray, List.set_cons_zero, List.set_cons_succ, List.getElem_toArray, List.getElem_cons_zero, List.getElem_cons_succ]
  (refine wpList_step fun K hK => ?_; replace hK := hide hK; go_simp; refine unhide hK _ _ ?_; clear hK K)
  refine wpList_nil ?_
  replace hW := hide hW
  go_upto_region 10 with fail
  replace hW := unhide hW
  refine wp_region_lit ?_
  refine list_val (.slice (some ⟨p0, q0, none⟩) 146 cap) (by kernel_rfl) (by kernel_rfl) ?_
  simp only [Act.put, List.setIfInBounds_toArray, List.set_cons_zero, List.set_cons_succ, List.getElem_toArray, List.getElem_cons_zero, List.getElem_cons_succ]
  refine list_val (.int .i64 146) (by kernel_rfl) (by kernel_rfl) ?_
  simp only [Act.put, List.setIfInBounds_toArray, List.set_cons_zero, List.set_cons_succ, List.getElem_toArray, List.getElem_cons_zero, List.getElem_cons_succ]
  refine list_val (.bool false) (by kernel_rfl) (by kernel_rfl) ?_
  simp only [Act.put, List.setIfInBounds_toArray, List.set_cons_zero, List.set_cons_succ, List.getElem_toArray, List.getElem_cons_zero, List.getElem_cons_succ]
  refine wpList_nil ?_
  replace hW := hide hW
  go_upto_region 13 with fail
  replace hW := unhide hW
  refine wp_region_lit ?_
  refine list_val (.int .i64 240) (by kernel_rfl) (by kernel_rfl) ?_
  simp only [Act.put, List.setIfInBounds_toArray, List.set_cons_zero, List.set_cons_succ, List.getElem_toArray, List.getElem_cons_zero, List.getElem_cons_succ]
  refine list_val (.bool false) (by kernel_rfl) (by kernel_rfl) ?_
  simp only [Act.put, List.setIfInBounds_toArray, List.set_cons_zero, List.set_cons_succ, List.getElem_toArray, List.getElem_cons_zero, List.getElem_cons_succ]
  refine list_val (.bool false) (by kernel_rfl) (by kernel_rfl) ?_
  simp only [Act.put, List.setIfInBounds_toArray, List.set_cons_zero, List.set_cons_succ, List.getElem_toArray, List.getElem_cons_zero, List.getElem_cons_succ]
  refine list_val (.agg (hdl Z32 0 0).toArray) (by kernel_rfl) (exec_arr _ 26 (.tmp 8) rfl qh (by kernel_rfl) (hdl Z32 0 0).toArray 26 _ (hW.get 0 (x := ⟨qh, (hdl Z32 0 0).toArray, 26⟩) rfl) Try.underlying26 rfl (by rw [Try.infoH]; rfl)) ?_
  simp only [Act.put, List.setIfInBounds_toArray, List.set_cons_zero, List.set_cons_succ, List.getElem_toArray, List.getElem_cons_zero, List.getElem_cons_succ]
  refine list_val (.agg (hdl Z32 0 0).toArray) (by kernel_rfl) (by kernel_rfl) ?_
  simp only [Act.put, List.setIfInBounds_toArray, List.set_cons_zero, List.set_cons_succ, List.getElem_toArray, List.getElem_cons_zero, List.getElem_cons_succ]
  refine list_val (.bool false) (by kernel_rfl) (exec_neq_h _ (.tmp 73) (.tmp 74) rfl (hdl Z32 0 0).toArray (by kernel_rfl) (by kernel_rfl) (eq_hdl (K := Z32) rfl 0 0 _)) ?_
  simp only [Act.put, List.setIfInBounds_toArray, List.set_cons_zero, List.set_cons_succ, List.getElem_toArray, List.getElem_cons_zero, List.getElem_cons_succ]
  refine list_val (.bool false) (by kernel_rfl) (by kernel_rfl) ?_
  simp only [Act.put, List.setIfInBounds_toArray, List.set_cons_zero, List.set_cons_succ, List.getElem_toArray, List.getElem_cons_zero, List.getElem_cons_succ]
  refine wpList_nil ?_
  replace hW := hide hW
  go_upto_region 15 with fail
  replace hW := unhide hW
  refine wp_region_lit ?_
  refine list_val (.slice (some ⟨p0, q0, none⟩) 146 cap) (by kernel_rfl) (by kernel_rfl) ?_
  simp only [Act.put, List.setIfInBounds_toArray, List.set_cons_zero, List.set_cons_succ, List.getElem_toArray, List.getElem_cons_zero, List.getElem_cons_succ]
  refine list_val (.int .i64 146) (by kernel_rfl) (by kernel_rfl) ?_
  simp only [Act.put, List.setIfInBounds_toArray, List.set_cons_zero, List.set_cons_succ, List.getElem_toArray, List.getElem_cons_zero, List.getElem_cons_succ]
  refine list_val (.bool false) (by kernel_rfl) (by kernel_rfl) ?_
  simp only [Act.put, List.setIfInBounds_toArray, List.set_cons_zero, List.set_cons_succ, List.getElem_toArray, List.getElem_cons_zero, List.getElem_cons_succ]
  refine wpList_nil ?_
  replace hW := hide hW
  go_upto_region 18 with fail
  replace hW := unhide hW
  refine wp_region_lit ?_
  refine list_val (.int .i64 240) (by kernel_rfl) (by kernel_rfl) ?_
  simp only [Act.put, List.setIfInBounds_toArray, List.set_cons_zero, List.set_cons_succ, List.getElem_toArray, List.getElem_cons_zero, List.getElem_cons_succ]
  refine list_val (.bool false) (by kernel_rfl) (by kernel_rfl) ?_
  simp only [Act.put, List.setIfInBounds_toArray, List.set_cons_zero, List.set_cons_succ, List.getElem_toArray, List.getElem_cons_zero, List.getElem_cons_succ]
  refine list_val (.bool false) (by kernel_rfl) (by kernel_rfl) ?_
  simp only [Act.put, List.setIfInBounds_toArray, List.set_cons_zero, List.set_cons_succ, List.getElem_toArray, List.getElem_cons_zero, List.getElem_cons_succ]
  refine list_val (.agg (msl Z32 0 0 Z65).toArray) (by kernel_rfl) (exec_arr _ 29 (.tmp 10) rfl qm (by kernel_rfl) (msl Z32 0 0 Z65).toArray 29 _ (hW.get 1 (x := ⟨qm, (msl Z32 0 0 Z65).toArray, 29⟩) rfl) Try.underlying29 rfl (by rw [Try.infoM]; rfl)) ?_
  simp only [Act.put, List.setIfInBounds_toArray, List.set_cons_zero, List.set_cons_succ, List.getElem_toArray, List.getElem_cons_zero, List.getElem_cons_succ]
  refine list_val (.agg (msl Z32 0 0 Z65).toArray) (by kernel_rfl) (by kernel_rfl) ?_
  simp only [Act.put, List.setIfInBounds_toArray, List.set_cons_zero, List.set_cons_succ, List.getElem_toArray, List.getElem_cons_zero, List.getElem_cons_succ]
  refine list_val (.bool false) (by kernel_rfl) (exec_neq_m _ (.tmp 91) (.tmp 92) rfl (msl Z32 0 0 Z65).toArray (by kernel_rfl) (by kernel_rfl) (eq_msl (K := Z32) rfl 0 0 (B := Z65) rfl _)) ?_
  simp only [Act.put, List.setIfInBounds_toArray, List.set_cons_zero, List.set_cons_succ, List.getElem_toArray, List.getElem_cons_zero, List.getElem_cons_succ]
  refine list_val (.bool false) (by kernel_rfl) (by kernel_rfl) ?_
  simp only [Act.put, List.setIfInBounds_toArray, List.set_cons_zero, List.set_cons_succ, List.getElem_toArray, List.getElem_cons_zero, List.getElem_cons_succ]
  refine wpList_nil ?_
  replace hW := hide hW
  go_upto_region 20 with fail
  replace hW := unhide hW
  refine wp_region_lit ?_
  refine list_val (.slice (some ⟨p0, q0, none⟩) 146 cap) (by kernel_rfl) (by kernel_rfl) ?_
  simp only [Act.put, List.setIfInBounds_toArray, List.set_cons_zero, List.set_cons_succ, List.getElem_toArray, List.getElem_cons_zero, List.getElem_cons_succ]
  refine list_val (.int .i64 146) (by kernel_rfl) (by kernel_rfl) ?_
  simp only [Act.put, List.setIfInBounds_toArray, List.set_cons_zero, List.set_cons_succ, List.getElem_toArray, List.getElem_cons_zero, List.getElem_cons_succ]
  refine list_val (.bool true) (by kernel_rfl) (by kernel_rfl) ?_
  simp only [Act.put, List.setIfInBounds_toArray, List.set_cons_zero, List.set_cons_succ, List.getElem_toArray, List.getElem_cons_zero, List.getElem_cons_succ]
  refine wpList_nil ?_
  replace hW := hide hW
  go_upto_region 21 with fail
  replace hW := unhide hW
  refine any_start (S := fun (v : World) => Bl u6 [⟨qh, (hdl Z32 0 0).toArray, 26⟩, ⟨qm, (msl Z32 0 0 Z65).toArray, 29⟩, ⟨qx, (xcO L).toArray, 34⟩] v) (by kernel_rfl) ?_
  replace hW := hW.drew
  generalize World.drew _ = y21 at *
  have hS : (fun (v : World) => Bl u6 [⟨qh, (hdl Z32 0 0).toArray, 26⟩, ⟨qm, (msl Z32 0 0 Z65).toArray, 29⟩, ⟨qx, (xcO L).toArray, 34⟩] v) y21 := hW
  clear hW
  simp only [List.size_toArray, List.length_cons, List.length_nil, Array.replicate, List.replicate]
  refine any_take (i := 0) (v := (.int .i64 0)) #[false, false, false, false, false, false, false, false, false] rfl (by kernel_rfl) (by kernel_rfl) (by kernel_rfl) (by kernel_rfl) (fun _ _ _ h => h) (.inl ⟨by kernel_rfl, fun x_ hu => by kernel_rfl⟩) hS ?_
  simp only [Act.put, List.setIfInBounds_toArray, List.set_cons_zero, List.set_cons_succ, List.getElem_toArray, List.getElem_cons_zero, List.getElem_cons_succ]
  refine any_take (i := 1) (v := (.bool true)) #[true, false, false, false, false, false, false, false, false] rfl (by kernel_rfl) (by kernel_rfl) (by kernel_rfl) (by kernel_rfl) (fun _ _ _ h => h) (.inl ⟨by kernel_rfl, fun x_ hu => by kernel_rfl⟩) hS ?_
  simp only [Act.put, List.setIfInBounds_toArray, List.set_cons_zero, List.set_cons_succ, List.getElem_toArray, List.getElem_cons_zero, List.getElem_cons_succ]
  refine any_take (i := 2) (v := (.bool true)) #[true, true, false, false, false, false, false, false, false] rfl (by kernel_rfl) (by kernel_rfl) (by kernel_rfl) (by kernel_rfl) (fun _ _ _ h => h) (.inl ⟨by kernel_rfl, fun x_ hu => by kernel_rfl⟩) hS ?_
  simp only [Act.put, List.setIfInBounds_toArray, List.set_cons_zero, List.set_cons_succ, List.getElem_toArray, List.getElem_cons_zero, List.getElem_cons_succ]
  refine any_take (i := 3) (v := (.agg (xcO L).toArray)) #[true, true, true, false, false, false, false, false, false] rfl (by kernel_rfl) (by kernel_rfl) (by kernel_rfl) (by kernel_rfl) (fun _ _ _ h => h) (.inl ⟨by kernel_rfl, fun x_ hu => exec_arr _ 34 (.tmp 12) rfl qx (by kernel_rfl) (xcO L).toArray 34 _ (hu.get 2 (x := ⟨qx, (xcO L).toArray, 34⟩) rfl) Try.underlying34 rfl (by rw [Try.infoX, List.size_toArray, xcO_len hLl])⟩) hS ?_
  simp only [Act.put, List.setIfInBounds_toArray, List.set_cons_zero, List.set_cons_succ, List.getElem_toArray, List.getElem_cons_zero, List.getElem_cons_succ]
  refine any_take (i := 4) (v := (.slice (some ⟨p0, q0, none⟩) 146 cap)) #[true, true, true, true, false, false, false, false, false] rfl (by kernel_rfl) (by kernel_rfl) (by kernel_rfl) (by kernel_rfl) (fun _ _ _ h => h) (.inl ⟨by kernel_rfl, fun x_ hu => by kernel_rfl⟩) hS ?_
  simp only [Act.put, List.setIfInBounds_toArray, List.set_cons_zero, List.set_cons_succ, List.getElem_toArray, List.getElem_cons_zero, List.getElem_cons_succ]
  refine any_one (i := 5) (by kernel_rfl) rfl (fun K_ hQ => ?_)
  refine step_callw (by kernel_rfl) 24 #[.slice (some ⟨p0, q0, none⟩) 146 cap] (by kernel_rfl) ((qgetx_ok L p0 q0 cap y21 ((unhide hl).gr hS.gr)).mono ?_)
  rintro r d21 ⟨rfl, hg⟩
  refine ⟨_, rfl, ?_⟩
  replace hS : (fun (v : World) => Bl u6 [⟨qh, (hdl Z32 0 0).toArray, 26⟩, ⟨qm, (msl Z32 0 0 Z65).toArray, 29⟩, ⟨qx, (xcO L).toArray, 34⟩] v) d21 := hS.more hg
  clear hg
  refine hQ.out _ _ hS (fun _ => ?_)
  clear hQ K_
  simp only [Act.put, List.setIfInBounds_toArray, List.set_cons_zero, List.set_cons_succ, List.getElem_toArray, List.getElem_cons_zero, List.getElem_cons_succ]
  refine any_take (i := 6) (v := (.bool true)) #[true, true, true, true, true, true, false, false, false] rfl (by kernel_rfl) (by kernel_rfl) (by kernel_rfl) (by kernel_rfl) (fun _ _ _ h => h) (.inl ⟨by kernel_rfl, fun x_ hu => exec_eql_x _ (.tmp 101) (.tmp 103) rfl (xcO L).toArray (by kernel_rfl) (by kernel_rfl) (eq_xcl (sub_len hLl (by omega)) (sub_len hLl (by omega)) _)⟩) hS ?_
  simp only [Act.put, List.setIfInBounds_toArray, List.set_cons_zero, List.set_cons_succ, List.getElem_toArray, List.getElem_cons_zero, List.getElem_cons_succ]
  refine any_take (i := 7) (v := (.bool true)) #[true, true, true, true, true, true, true, false, false] rfl (by kernel_rfl) (by kernel_rfl) (by kernel_rfl) (by kernel_rfl) (fun _ _ _ h => h) (.inl ⟨by kernel_rfl, fun x_ hu => by kernel_rfl⟩) hS ?_
  simp only [Act.put, List.setIfInBounds_toArray, List.set_cons_zero, List.set_cons_succ, List.getElem_toArray, List.getElem_cons_zero, List.getElem_cons_succ]
  refine any_one (i := 8) (by kernel_rfl) rfl (fun K_ hQ => ?_)
  replace hQ := hide hQ
  go_simp
  refine (unhide hQ).out _ _ hS (fun _ => ?_)
  clear hQ K_
  refine any_done (by kernel_rfl) ?_
  have hW : Bl u6 [⟨qh, (hdl Z32 0 0).toArray, 26⟩, ⟨qm, (msl Z32 0 0 Z65).toArray, 29⟩, ⟨qx, (xcO L).toArray, 34⟩] d21 := hS
  clear hS
  have hZ : Hid (Woke w (.returned (.bool true)) d21) := ⟨rfl, (unhide hWg).trans hW.gr⟩
  clear hW
  go_wp2_with fail
  rw [unhide hT]
  exact unhide hZ
set_option maxHeartbeats 4000000 in
theorem messages_other (K : List Int) (hK : K.length = 32) (bK : IsB K) (p q : Int) (hp : U4 p) (hq : U4 q) (B : List Int) (hB : B.length = 65) (bB : IsB B) (D : List Int) (hD : D.length = 16) (bD : IsB D) (X : List Int) (hX : X.length = 130) (bX : IsB X) (l : List Int) (s : Option Addr) (len cap : Nat) (w : World) (lb : Lb w s len cap l) (hN : ¬ min len 1000 = 40 ∧ ¬ min len 1000 = 105 ∧ ¬ min len 1000 = 146) : Calls Try.prog 3 #[.agg (msl K p q B).toArray, .agg (xcl D X).toArray, .slice s len cap] w (Woke w) := by
  obtain ⟨T, hT⟩ : ∃ T, T = Woke w := ⟨_, rfl⟩
  rw [← hT]
  replace hT := hide hT
  obtain ⟨C0, hC0⟩ : ∃ C, C = (msl K p q B).toArray := ⟨_, rfl⟩
  obtain ⟨C1, hC1⟩ : ∃ C, C = (xcl D X).toArray := ⟨_, rfl⟩
  rw [← hC0, ← hC1]
  replace hC0 := hide hC0; replace hC1 := hide hC1
  replace bK := hide bK; replace bB := hide bB; replace bD := hide bD; replace bX := hide bX; replace lb := hide lb
  obtain ⟨n, hn0⟩ : ∃ n, n = min len 1000 := ⟨_, rfl⟩
  obtain ⟨L, hL0⟩ : ∃ L, L = l.take n := ⟨_, rfl⟩
  have hn9 : n ≤ 1000 := by omega
  rw [← hn0] at hN
  obtain ⟨n40, n105, n146⟩ := hN
  have i40 : ¬ (n : Int) = 40 := by omega
  have i105 : ¬ (n : Int) = 105 := by omega
  have i146 : ¬ (n : Int) = 146 := by omega
  replace hn0 := hide hn0; replace hL0 := hide hL0
  go_enter Try.func3, Try.ntmps3
  go_upto_region 1 with fail
  have hW := (((Bl.nil w).new C0 29).new C1 34)
  simp only [size_alloc, List.nil_append, List.cons_append] at hW
  generalize World.alloc _ _ = u at *
  rw [unhide hC0, unhide hC1] at hW
  clear hC0 hC1
  replace hW : Bl w [⟨w.heap.size, (msl K p q B).toArray, 29⟩, ⟨w.heap.size + 1, (xcl D X).toArray, 34⟩] u := hW
  refine wp_region_lit ?_
  refine list_call 9 #[] (by kernel_rfl) (by kernel_rfl) ((jwakes_ok u).mono ?_)
  rintro r u1 ⟨rfl, hg⟩
  replace hW := hW.more hg
  clear hg
  refine ⟨_, rfl, ?_⟩
  simp only [Act.put, List.setIfInBounds_toArray, List.set_cons_zero, List.set_cons_succ, List.getElem_toArray, List.getElem_cons_zero, List.getElem_cons_succ]
  refine list_val (.bool false) (by kernel_rfl) (by kernel_rfl) ?_
  simp only [Act.put, List.setIfInBounds_toArray, List.set_cons_zero, List.set_cons_succ, List.getElem_toArray, List.getElem_cons_zero, List.getElem_cons_succ]
  refine wpList_nil ?_
  replace hW := hide hW
  go_upto_region 3 with fail
  replace hW := unhide hW
  refine wp_region_lit ?_
  refine list_val (.slice s len cap) (by kernel_rfl) (by kernel_rfl) ?_
  simp only [Act.put, List.setIfInBounds_toArray, List.set_cons_zero, List.set_cons_succ, List.getElem_toArray, List.getElem_cons_zero, List.getElem_cons_succ]
  refine list_call 10 #[.slice s len cap] (by kernel_rfl) (by kernel_rfl) ((jcut_ok l s len cap u1 ((unhide lb).gr hW.gr)).mono ?_)
  rintro r u2 ⟨s1, rfl, hs1, rfl⟩
  have hl := hs1 w (unhide lb)
  rw [← unhide hn0, ← unhide hL0] at hl
  rw [← unhide hn0]
  clear hs1 lb hL0 hn0
  have hLl := hl.len
  have hLb := hide hl.isB
  replace hl := hide hl
  refine ⟨_, rfl, ?_⟩
  simp only [Act.put, List.setIfInBounds_toArray, List.set_cons_zero, List.set_cons_succ, List.getElem_toArray, List.getElem_cons_zero, List.getElem_cons_succ]
  (refine wpList_step fun K hK => ?_; replace hK := hide hK; go_simp; refine unhide hK _ _ ?_; clear hK K)
  refine wpList_nil ?_
  replace hW := hide hW
  go_upto_region 4 with fail
  replace hW := unhide hW
  refine any_start (S := fun (v : World) => Bl w [⟨w.heap.size, (msl K p q B).toArray, 29⟩, ⟨w.heap.size + 1, (xcl D X).toArray, 34⟩] v) (by kernel_rfl) ?_
  replace hW := hW.drew
  generalize World.drew _ = x0 at *
  have hS : (fun (v : World) => Bl w [⟨w.heap.size, (msl K p q B).toArray, 29⟩, ⟨w.heap.size + 1, (xcl D X).toArray, 34⟩] v) x0 := hW
  clear hW
  simp only [List.size_toArray, List.length_cons, List.length_nil, Array.replicate, List.replicate]
  refine any_take (i := 0) (v := (.pointer (some ⟨w.heap.size, 0, none⟩))) #[false, false, false, false, false, false, false, false, false, false, false, false, false, false, false, false, false, false, false, false, false, false, false, false] rfl (by kernel_rfl) (by kernel_rfl) (by kernel_rfl) (by kernel_rfl) (fun _ _ _ h => h) (.inl ⟨by kernel_rfl, fun x_ hu => by kernel_rfl⟩) hS ?_
  simp only [Act.put, List.setIfInBounds_toArray, List.set_cons_zero, List.set_cons_succ, List.getElem_toArray, List.getElem_cons_zero, List.getElem_cons_succ]
  refine any_take (i := 1) (v := (.agg (hdl K p q).toArray)) #[true, false, false, false, false, false, false, false, false, false, false, false, false, false, false, false, false, false, false, false, false, false, false, false] rfl (by kernel_rfl) (by kernel_rfl) (by kernel_rfl) (by kernel_rfl) (fun _ _ _ h => h) (.inl ⟨by kernel_rfl, fun x_ hu => exec_row _ 26 (.tmp 18) rfl (w.heap.size) 0 (by kernel_rfl) (hdl K p q) _ (range_mid (hu.get 0 (x := ⟨w.heap.size, (msl K p q B).toArray, 29⟩) rfl) (msl_hd0 K p q B) rfl) Try.underlying26 rfl (by rw [Try.infoH, hdl_len hK])⟩) hS ?_
  simp only [Act.put, List.setIfInBounds_toArray, List.set_cons_zero, List.set_cons_succ, List.getElem_toArray, List.getElem_cons_zero, List.getElem_cons_succ]
  refine any_take (i := 3) (v := (.pointer (some ⟨w.heap.size, 0, none⟩))) #[true, true, false, false, false, false, false, false, false, false, false, false, false, false, false, false, false, false, false, false, false, false, false, false] rfl (by kernel_rfl) (by kernel_rfl) (by kernel_rfl) (by kernel_rfl) (fun _ _ _ h => h) (.inl ⟨by kernel_rfl, fun x_ hu => by kernel_rfl⟩) hS ?_
  simp only [Act.put, List.setIfInBounds_toArray, List.set_cons_zero, List.set_cons_succ, List.getElem_toArray, List.getElem_cons_zero, List.getElem_cons_succ]
  refine any_take (i := 4) (v := (.agg (hdl K p q).toArray)) #[true, true, false, true, false, false, false, false, false, false, false, false, false, false, false, false, false, false, false, false, false, false, false, false] rfl (by kernel_rfl) (by kernel_rfl) (by kernel_rfl) (by kernel_rfl) (fun _ _ _ h => h) (.inl ⟨by kernel_rfl, fun x_ hu => exec_row _ 26 (.tmp 21) rfl (w.heap.size) 0 (by kernel_rfl) (hdl K p q) _ (range_mid (hu.get 0 (x := ⟨w.heap.size, (msl K p q B).toArray, 29⟩) rfl) (msl_hd0 K p q B) rfl) Try.underlying26 rfl (by rw [Try.infoH, hdl_len hK])⟩) hS ?_
  simp only [Act.put, List.setIfInBounds_toArray, List.set_cons_zero, List.set_cons_succ, List.getElem_toArray, List.getElem_cons_zero, List.getElem_cons_succ]
  refine any_one (i := 2) (by kernel_rfl) rfl (fun K_ hQ => ?_)
  refine step_callw (by kernel_rfl) 12 #[.agg (hdl K p q).toArray] (by kernel_rfl) ((fputh_ok K hK (unhide bK) p q hp hq x0).mono ?_)
  rintro r z2 ⟨vH0, rfl, hO, hg⟩
  refine ⟨_, rfl, ?_⟩
  obtain ⟨aH0, cH0, rfl, hH0⟩ := ob_lb hO (hdB_isB (unhide bK) p q) (n := 40) (hdB_len hK p q)
  replace hS : (fun (v : World) => Bl w [⟨w.heap.size, (msl K p q B).toArray, 29⟩, ⟨w.heap.size + 1, (xcl D X).toArray, 34⟩] v) z2 := hS.more hg
  clear hO hg
  refine hQ.out _ _ hS (fun _ => ?_)
  clear hQ K_
  simp only [Act.put, List.setIfInBounds_toArray, List.set_cons_zero, List.set_cons_succ, List.getElem_toArray, List.getElem_cons_zero, List.getElem_cons_succ]
  refine any_one (i := 5) (by kernel_rfl) rfl (fun K_ hQ => ?_)
  refine step_callw (by kernel_rfl) 13 #[.agg (hdl K p q).toArray] (by kernel_rfl) ((qhead_ok K hK (unhide bK) p q hp hq z2).mono ?_)
  rintro r z5 ⟨vH1, rfl, hO, hg⟩
  refine ⟨_, rfl, ?_⟩
  obtain ⟨aH1, cH1, rfl, hH1⟩ := ob_lb hO (hdB_isB (unhide bK) p q) (n := 40) (hdB_len hK p q)
  replace hS : (fun (v : World) => Bl w [⟨w.heap.size, (msl K p q B).toArray, 29⟩, ⟨w.heap.size + 1, (xcl D X).toArray, 34⟩] v) z5 := hS.more hg
  replace hH0 := hH0.gr hg
  clear hO hg
  refine hQ.out _ _ hS (fun _ => ?_)
  clear hQ K_
  simp only [Act.put, List.setIfInBounds_toArray, List.set_cons_zero, List.set_cons_succ, List.getElem_toArray, List.getElem_cons_zero, List.getElem_cons_succ]
  refine any_one (i := 6) (by kernel_rfl) rfl (fun K_ hQ => ?_)
  refine step_callw (by kernel_rfl) 11 #[.slice aH0 40 cH0, .slice aH1 40 cH1] (by kernel_rfl) ((beq_ok (hdB K p q) (hdB K p q) aH0 aH1 40 40 cH0 cH1 z5 hH0 hH1).mono ?_)
  rintro r z6 ⟨rfl, hg⟩
  refine ⟨_, rfl, ?_⟩
  rw [decide_eq_true rfl]
  replace hS : (fun (v : World) => Bl w [⟨w.heap.size, (msl K p q B).toArray, 29⟩, ⟨w.heap.size + 1, (xcl D X).toArray, 34⟩] v) z6 := hS.more hg
  clear hg hH0 hH1
  refine hQ.out _ _ hS (fun _ => ?_)
  clear hQ K_
  simp only [Act.put, List.setIfInBounds_toArray, List.set_cons_zero, List.set_cons_succ, List.getElem_toArray, List.getElem_cons_zero, List.getElem_cons_succ]
  refine any_take (i := 7) (v := (.bool false)) #[true, true, true, true, true, true, true, false, false, false, false, false, false, false, false, false, false, false, false, false, false, false, false, false] rfl (by kernel_rfl) (by kernel_rfl) (by kernel_rfl) (by kernel_rfl) (fun _ _ _ h => h) (.inl ⟨by kernel_rfl, fun x_ hu => by kernel_rfl⟩) hS ?_
  simp only [Act.put, List.setIfInBounds_toArray, List.set_cons_zero, List.set_cons_succ, List.getElem_toArray, List.getElem_cons_zero, List.getElem_cons_succ]
  refine any_take (i := 8) (v := (.bool false)) #[true, true, true, true, true, true, true, true, false, false, false, false, false, false, false, false, false, false, false, false, false, false, false, false] rfl (by kernel_rfl) (by kernel_rfl) (by kernel_rfl) (by kernel_rfl) (fun _ _ _ h => h) (.inl ⟨by kernel_rfl, fun x_ hu => by kernel_rfl⟩) hS ?_
  simp only [Act.put, List.setIfInBounds_toArray, List.set_cons_zero, List.set_cons_succ, List.getElem_toArray, List.getElem_cons_zero, List.getElem_cons_succ]
  refine any_take (i := 9) (v := (.agg (msl K p q B).toArray)) #[true, true, true, true, true, true, true, true, true, false, false, false, false, false, false, false, false, false, false, false, false, false, false, false] rfl (by kernel_rfl) (by kernel_rfl) (by kernel_rfl) (by kernel_rfl) (fun _ _ _ h => h) (.inl ⟨by kernel_rfl, fun x_ hu => exec_arr _ 29 (.tmp 3) rfl (w.heap.size) (by kernel_rfl) (msl K p q B).toArray 29 _ (hu.get 0 (x := ⟨w.heap.size, (msl K p q B).toArray, 29⟩) rfl) Try.underlying29 rfl (by rw [Try.infoM, List.size_toArray, msl_len hK _ _ hB])⟩) hS ?_
  simp only [Act.put, List.setIfInBounds_toArray, List.set_cons_zero, List.set_cons_succ, List.getElem_toArray, List.getElem_cons_zero, List.getElem_cons_succ]
  refine any_take (i := 11) (v := (.agg (msl K p q B).toArray)) #[true, true, true, true, true, true, true, true, true, true, false, false, false, false, false, false, false, false, false, false, false, false, false, false] rfl (by kernel_rfl) (by kernel_rfl) (by kernel_rfl) (by kernel_rfl) (fun _ _ _ h => h) (.inl ⟨by kernel_rfl, fun x_ hu => exec_arr _ 29 (.tmp 3) rfl (w.heap.size) (by kernel_rfl) (msl K p q B).toArray 29 _ (hu.get 0 (x := ⟨w.heap.size, (msl K p q B).toArray, 29⟩) rfl) Try.underlying29 rfl (by rw [Try.infoM, List.size_toArray, msl_len hK _ _ hB])⟩) hS ?_
  simp only [Act.put, List.setIfInBounds_toArray, List.set_cons_zero, List.set_cons_succ, List.getElem_toArray, List.getElem_cons_zero, List.getElem_cons_succ]
  refine any_one (i := 10) (by kernel_rfl) rfl (fun K_ hQ => ?_)
  refine step_callw (by kernel_rfl) 14 #[.agg (msl K p q B).toArray] (by kernel_rfl) ((fputm_ok K hK (unhide bK) p q hp hq B hB (unhide bB) z6).mono ?_)
  rintro r z10 ⟨vM0, rfl, hO, hg⟩
  refine ⟨_, rfl, ?_⟩
  obtain ⟨aM0, cM0, rfl, hM0⟩ := ob_lb hO (isB_append (hdB_isB (unhide bK) p q) (unhide bB)) (n := 105) (by rw [List.length_append, hdB_len hK, hB])
  replace hS : (fun (v : World) => Bl w [⟨w.heap.size, (msl K p q B).toArray, 29⟩, ⟨w.heap.size + 1, (xcl D X).toArray, 34⟩] v) z10 := hS.more hg
  clear hO hg
  refine hQ.out _ _ hS (fun _ => ?_)
  clear hQ K_
  simp only [Act.put, List.setIfInBounds_toArray, List.set_cons_zero, List.set_cons_succ, List.getElem_toArray, List.getElem_cons_zero, List.getElem_cons_succ]
  refine any_one (i := 12) (by kernel_rfl) rfl (fun K_ hQ => ?_)
  refine step_callw (by kernel_rfl) 15 #[.agg (msl K p q B).toArray] (by kernel_rfl) ((qmes_ok K hK (unhide bK) p q hp hq B hB (unhide bB) z10).mono ?_)
  rintro r z12 ⟨vM1, rfl, hO, hg⟩
  refine ⟨_, rfl, ?_⟩
  obtain ⟨aM1, cM1, rfl, hM1⟩ := ob_lb hO (isB_append (hdB_isB (unhide bK) p q) (unhide bB)) (n := 105) (by rw [List.length_append, hdB_len hK, hB])
  replace hS : (fun (v : World) => Bl w [⟨w.heap.size, (msl K p q B).toArray, 29⟩, ⟨w.heap.size + 1, (xcl D X).toArray, 34⟩] v) z12 := hS.more hg
  replace hM0 := hM0.gr hg
  clear hO hg
  refine hQ.out _ _ hS (fun _ => ?_)
  clear hQ K_
  simp only [Act.put, List.setIfInBounds_toArray, List.set_cons_zero, List.set_cons_succ, List.getElem_toArray, List.getElem_cons_zero, List.getElem_cons_succ]
  refine any_one (i := 13) (by kernel_rfl) rfl (fun K_ hQ => ?_)
  refine step_callw (by kernel_rfl) 11 #[.slice aM0 105 cM0, .slice aM1 105 cM1] (by kernel_rfl) ((beq_ok (hdB K p q ++ B) (hdB K p q ++ B) aM0 aM1 105 105 cM0 cM1 z12 hM0 hM1).mono ?_)
  rintro r z13 ⟨rfl, hg⟩
  refine ⟨_, rfl, ?_⟩
  rw [decide_eq_true rfl]
  replace hS : (fun (v : World) => Bl w [⟨w.heap.size, (msl K p q B).toArray, 29⟩, ⟨w.heap.size + 1, (xcl D X).toArray, 34⟩] v) z13 := hS.more hg
  clear hg hM0 hM1
  refine hQ.out _ _ hS (fun _ => ?_)
  clear hQ K_
  simp only [Act.put, List.setIfInBounds_toArray, List.set_cons_zero, List.set_cons_succ, List.getElem_toArray, List.getElem_cons_zero, List.getElem_cons_succ]
  refine any_take (i := 14) (v := (.bool false)) #[true, true, true, true, true, true, true, true, true, true, true, true, true, true, false, false, false, false, false, false, false, false, false, false] rfl (by kernel_rfl) (by kernel_rfl) (by kernel_rfl) (by kernel_rfl) (fun _ _ _ h => h) (.inl ⟨by kernel_rfl, fun x_ hu => by kernel_rfl⟩) hS ?_
  simp only [Act.put, List.setIfInBounds_toArray, List.set_cons_zero, List.set_cons_succ, List.getElem_toArray, List.getElem_cons_zero, List.getElem_cons_succ]
  refine any_take (i := 15) (v := (.bool false)) #[true, true, true, true, true, true, true, true, true, true, true, true, true, true, true, false, false, false, false, false, false, false, false, false] rfl (by kernel_rfl) (by kernel_rfl) (by kernel_rfl) (by kernel_rfl) (fun _ _ _ h => h) (.inl ⟨by kernel_rfl, fun x_ hu => by kernel_rfl⟩) hS ?_
  simp only [Act.put, List.setIfInBounds_toArray, List.set_cons_zero, List.set_cons_succ, List.getElem_toArray, List.getElem_cons_zero, List.getElem_cons_succ]
  refine any_take (i := 16) (v := (.bool false)) #[true, true, true, true, true, true, true, true, true, true, true, true, true, true, true, true, false, false, false, false, false, false, false, false] rfl (by kernel_rfl) (by kernel_rfl) (by kernel_rfl) (by kernel_rfl) (fun _ _ _ h => h) (.inl ⟨by kernel_rfl, fun x_ hu => by kernel_rfl⟩) hS ?_
  simp only [Act.put, List.setIfInBounds_toArray, List.set_cons_zero, List.set_cons_succ, List.getElem_toArray, List.getElem_cons_zero, List.getElem_cons_succ]
  refine any_take (i := 17) (v := (.agg (xcl D X).toArray)) #[true, true, true, true, true, true, true, true, true, true, true, true, true, true, true, true, true, false, false, false, false, false, false, false] rfl (by kernel_rfl) (by kernel_rfl) (by kernel_rfl) (by kernel_rfl) (fun _ _ _ h => h) (.inl ⟨by kernel_rfl, fun x_ hu => exec_arr _ 34 (.tmp 4) rfl (w.heap.size + 1) (by kernel_rfl) (xcl D X).toArray 34 _ (hu.get 1 (x := ⟨w.heap.size + 1, (xcl D X).toArray, 34⟩) rfl) Try.underlying34 rfl (by rw [Try.infoX, List.size_toArray, xcl_len hD hX])⟩) hS ?_
  simp only [Act.put, List.setIfInBounds_toArray, List.set_cons_zero, List.set_cons_succ, List.getElem_toArray, List.getElem_cons_zero, List.getElem_cons_succ]
  refine any_take (i := 19) (v := (.agg (xcl D X).toArray)) #[true, true, true, true, true, true, true, true, true, true, true, true, true, true, true, true, true, true, false, false, false, false, false, false] rfl (by kernel_rfl) (by kernel_rfl) (by kernel_rfl) (by kernel_rfl) (fun _ _ _ h => h) (.inl ⟨by kernel_rfl, fun x_ hu => exec_arr _ 34 (.tmp 4) rfl (w.heap.size + 1) (by kernel_rfl) (xcl D X).toArray 34 _ (hu.get 1 (x := ⟨w.heap.size + 1, (xcl D X).toArray, 34⟩) rfl) Try.underlying34 rfl (by rw [Try.infoX, List.size_toArray, xcl_len hD hX])⟩) hS ?_
  simp only [Act.put, List.setIfInBounds_toArray, List.set_cons_zero, List.set_cons_succ, List.getElem_toArray, List.getElem_cons_zero, List.getElem_cons_succ]
  refine any_one (i := 18) (by kernel_rfl) rfl (fun K_ hQ => ?_)
  refine step_callw (by kernel_rfl) 16 #[.agg (xcl D X).toArray] (by kernel_rfl) ((fputx_ok D hD (unhide bD) X hX (unhide bX) z13).mono ?_)
  rintro r z18 ⟨vX0, rfl, hO, hg⟩
  refine ⟨_, rfl, ?_⟩
  obtain ⟨aX0, cX0, rfl, hX0⟩ := ob_lb hO (isB_append (unhide bD) (unhide bX)) (n := 146) (by rw [List.length_append, hD, hX])
  replace hS : (fun (v : World) => Bl w [⟨w.heap.size, (msl K p q B).toArray, 29⟩, ⟨w.heap.size + 1, (xcl D X).toArray, 34⟩] v) z18 := hS.more hg
  clear hO hg
  refine hQ.out _ _ hS (fun _ => ?_)
  clear hQ K_
  simp only [Act.put, List.setIfInBounds_toArray, List.set_cons_zero, List.set_cons_succ, List.getElem_toArray, List.getElem_cons_zero, List.getElem_cons_succ]
  refine any_one (i := 20) (by kernel_rfl) rfl (fun K_ hQ => ?_)
  refine step_callw (by kernel_rfl) 17 #[.agg (xcl D X).toArray] (by kernel_rfl) ((qexc_ok D hD (unhide bD) X hX (unhide bX) z18).mono ?_)
  rintro r z20 ⟨vX1, rfl, hO, hg⟩
  refine ⟨_, rfl, ?_⟩
  obtain ⟨aX1, cX1, rfl, hX1⟩ := ob_lb hO (isB_append (unhide bD) (unhide bX)) (n := 146) (by rw [List.length_append, hD, hX])
  replace hS : (fun (v : World) => Bl w [⟨w.heap.size, (msl K p q B).toArray, 29⟩, ⟨w.heap.size + 1, (xcl D X).toArray, 34⟩] v) z20 := hS.more hg
  replace hX0 := hX0.gr hg
  clear hO hg
  refine hQ.out _ _ hS (fun _ => ?_)
  clear hQ K_
  simp only [Act.put, List.setIfInBounds_toArray, List.set_cons_zero, List.set_cons_succ, List.getElem_toArray, List.getElem_cons_zero, List.getElem_cons_succ]
  refine any_one (i := 21) (by kernel_rfl) rfl (fun K_ hQ => ?_)
  refine step_callw (by kernel_rfl) 11 #[.slice aX0 146 cX0, .slice aX1 146 cX1] (by kernel_rfl) ((beq_ok (D ++ X) (D ++ X) aX0 aX1 146 146 cX0 cX1 z20 hX0 hX1).mono ?_)
  rintro r z21 ⟨rfl, hg⟩
  refine ⟨_, rfl, ?_⟩
  rw [decide_eq_true rfl]
  replace hS : (fun (v : World) => Bl w [⟨w.heap.size, (msl K p q B).toArray, 29⟩, ⟨w.heap.size + 1, (xcl D X).toArray, 34⟩] v) z21 := hS.more hg
  clear hg hX0 hX1
  refine hQ.out _ _ hS (fun _ => ?_)
  clear hQ K_
  simp only [Act.put, List.setIfInBounds_toArray, List.set_cons_zero, List.set_cons_succ, List.getElem_toArray, List.getElem_cons_zero, List.getElem_cons_succ]
  refine any_take (i := 22) (v := (.bool false)) #[true, true, true, true, true, true, true, true, true, true, true, true, true, true, true, true, true, true, true, true, true, true, false, false] rfl (by kernel_rfl) (by kernel_rfl) (by kernel_rfl) (by kernel_rfl) (fun _ _ _ h => h) (.inl ⟨by kernel_rfl, fun x_ hu => by kernel_rfl⟩) hS ?_
  simp only [Act.put, List.setIfInBounds_toArray, List.set_cons_zero, List.set_cons_succ, List.getElem_toArray, List.getElem_cons_zero, List.getElem_cons_succ]
  refine any_take (i := 23) (v := (.bool false)) #[true, true, true, true, true, true, true, true, true, true, true, true, true, true, true, true, true, true, true, true, true, true, true, false] rfl (by kernel_rfl) (by kernel_rfl) (by kernel_rfl) (by kernel_rfl) (fun _ _ _ h => h) (.inl ⟨by kernel_rfl, fun x_ hu => by kernel_rfl⟩) hS ?_
  simp only [Act.put, List.setIfInBounds_toArray, List.set_cons_zero, List.set_cons_succ, List.getElem_toArray, List.getElem_cons_zero, List.getElem_cons_succ]
  refine any_done (by kernel_rfl) ?_
  have hW : Bl w [⟨w.heap.size, (msl K p q B).toArray, 29⟩, ⟨w.heap.size + 1, (xcl D X).toArray, 34⟩] z21 := hS
  clear hS
  replace hW := hide hW
  go_upto_region 6 with fail
  replace hW := unhide hW
  refine wp_region_lit ?_
  refine list_val (.slice s1 n cap) (by kernel_rfl) (by kernel_rfl) ?_
  simp only [Act.put, List.setIfInBounds_toArray, List.set_cons_zero, List.set_cons_succ, List.getElem_toArray, List.getElem_cons_zero, List.getElem_cons_succ]
  refine list_call 18 #[.slice s1 n cap] (by kernel_rfl) (by kernel_rfl) ((jroom_ok L s1 n cap (by omega) z21 ((unhide hl).gr hW.gr)).mono ?_)
  rintro r u6 ⟨go, co, rfl, hc1, hc2, hgo, hat, hg⟩
  rw [hLl] at hc1 ⊢
  have hlo : Lb u6 (some ⟨go, 0, none⟩) n co L := by
    have h9 := hat.take n
    rw [List.take_append_of_le_length (by rw [hLl]; exact Nat.le_refl _), List.take_of_length_le (by rw [hLl]; exact Nat.le_refl _)] at h9
    exact ⟨hLl, unhide hLb, .inr ⟨go, 0, rfl, h9⟩, by omega, hc2⟩
  replace hlo := hide hlo
  have hWg := hide (hW.gr.trans hg)
  replace hl := hide ((unhide hl).gr (unhide hWg))
  clear hW hg hat hc1 hc2 hgo
  have hW := Bl.nil u6
  refine ⟨_, rfl, ?_⟩
  simp only [Act.put, List.setIfInBounds_toArray, List.set_cons_zero, List.set_cons_succ, List.getElem_toArray, List.getElem_cons_zero, List.getElem_cons_succ]
  (refine wpList_step fun K hK => ?_; replace hK := hide hK; go_simp; refine unhide hK _ _ ?_; clear hK K)
  refine wpList_nil ?_
  replace hW := hide hW
  go_upto_region 7 with fail
  replace hW := unhide hW
  refine wp_region_lit ?_
  refine list_val (.slice (some ⟨go, 0, none⟩) n co) (by kernel_rfl) (by kernel_rfl) ?_
  simp only [Act.put, List.setIfInBounds_toArray, List.set_cons_zero, List.set_cons_succ, List.getElem_toArray, List.getElem_cons_zero, List.getElem_cons_succ]
  refine list_call 19 #[.slice (some ⟨go, 0, none⟩) n co] (by kernel_rfl) (by kernel_rfl) ((fgeth_no (some ⟨go, 0, none⟩) n co (by omega) u6).mono ?_)
  rintro r h1 ⟨rfl, hg⟩
  replace hW := hW.more hg
  clear hg
  refine ⟨_, rfl, ?_⟩
  simp only [Act.put, List.setIfInBounds_toArray, List.set_cons_zero, List.set_cons_succ, List.getElem_toArray, List.getElem_cons_zero, List.getElem_cons_succ]
  refine list_val (.tuple #[.agg (hdl Z32 0 0).toArray, .int .i64 240]) (by kernel_rfl) (by kernel_rfl) ?_
  simp only [Act.put, List.setIfInBounds_toArray, List.set_cons_zero, List.set_cons_succ, List.getElem_toArray, List.getElem_cons_zero, List.getElem_cons_succ]
  refine list_val (.agg (hdl Z32 0 0).toArray) (by kernel_rfl) (by kernel_rfl) ?_
  simp only [Act.put, List.setIfInBounds_toArray, List.set_cons_zero, List.set_cons_succ, List.getElem_toArray, List.getElem_cons_zero, List.getElem_cons_succ]
  refine list_val (.int .i64 240) (by kernel_rfl) (by kernel_rfl) ?_
  simp only [Act.put, List.setIfInBounds_toArray, List.set_cons_zero, List.set_cons_succ, List.getElem_toArray, List.getElem_cons_zero, List.getElem_cons_succ]
  refine list_valw (.pointer (some ⟨h1.heap.size, 0, none⟩)) (h1.alloc (.cells (hdl Z32 0 0).toArray 26 (0, 0))) (by kernel_rfl) (by kernel_rfl) ?_
  replace hW := hW.new (hdl Z32 0 0).toArray 26
  simp only [List.nil_append, List.cons_append] at hW
  generalize World.alloc _ _ = h2 at *
  generalize h1.heap.size = qh at *
  replace hW : Bl u6 [⟨qh, (hdl Z32 0 0).toArray, 26⟩] h2 := hW
  simp only [Act.put, List.setIfInBounds_toArray, List.set_cons_zero, List.set_cons_succ, List.getElem_toArray, List.getElem_cons_zero, List.getElem_cons_succ]
  refine list_store 26 (.tmp 8) (.tmp 47) qh (hdl Z32 0 0).toArray 26 (hdl Z32 0 0).toArray (by kernel_rfl) rfl (by kernel_rfl) (by kernel_rfl) (hW.get 0 (x := ⟨qh, (hdl Z32 0 0).toArray, 26⟩) rfl) (by rw [Try.infoH]; rfl) (rfl) (hdl_one ..) ?_
  replace hW := hW.set 0 (x := ⟨qh, (hdl Z32 0 0).toArray, 26⟩) rfl (hdl Z32 0 0).toArray
  simp only [List.set_cons_zero, List.set_cons_succ] at hW
  generalize World.setRow _ _ _ = h3 at *
  replace hW : Bl u6 [⟨qh, (hdl Z32 0 0).toArray, 26⟩] h3 := hW
  simp only [Act.put, List.setIfInBounds_toArray, List.set_cons_zero, List.set_cons_succ, List.getElem_toArray, List.getElem_cons_zero, List.getElem_cons_succ]
  (refine wpList_step fun K hK => ?_; replace hK := hide hK; go_simp; refine unhide hK _ _ ?_; clear hK K)
  refine wpList_nil ?_
  replace hW := hide hW
  go_upto_region 8 with fail
  replace hW := unhide hW
  refine wp_region_lit ?_
  refine list_val (.slice (some ⟨go, 0, none⟩) n co) (by kernel_rfl) (by kernel_rfl) ?_
  simp only [Act.put, List.setIfInBounds_toArray, List.set_cons_zero, List.set_cons_succ, List.getElem_toArray, List.getElem_cons_zero, List.getElem_cons_succ]
  refine list_call 20 #[.slice (some ⟨go, 0, none⟩) n co] (by kernel_rfl) (by kernel_rfl) ((fgetm_no (some ⟨go, 0, none⟩) n co (by omega) h3).mono ?_)
  rintro r m1 ⟨rfl, hg⟩
  replace hW := hW.more hg
  clear hg
  refine ⟨_, rfl, ?_⟩
  simp only [Act.put, List.setIfInBounds_toArray, List.set_cons_zero, List.set_cons_succ, List.getElem_toArray, List.getElem_cons_zero, List.getElem_cons_succ]
  refine list_val (.tuple #[.agg (msl Z32 0 0 Z65).toArray, .int .i64 240]) (by kernel_rfl) (by kernel_rfl) ?_
  simp only [Act.put, List.setIfInBounds_toArray, List.set_cons_zero, List.set_cons_succ, List.getElem_toArray, List.getElem_cons_zero, List.getElem_cons_succ]
  refine list_val (.agg (msl Z32 0 0 Z65).toArray) (by kernel_rfl) (by kernel_rfl) ?_
  simp only [Act.put, List.setIfInBounds_toArray, List.set_cons_zero, List.set_cons_succ, List.getElem_toArray, List.getElem_cons_zero, List.getElem_cons_succ]
  refine list_val (.int .i64 240) (by kernel_rfl) (by kernel_rfl) ?_
  simp only [Act.put, List.setIfInBounds_toArray, List.set_cons_zero, List.set_cons_succ, List.getElem_toArray, List.getElem_cons_zero, List.getElem_cons_succ]
  refine list_valw (.pointer (some ⟨m1.heap.size, 0, none⟩)) (m1.alloc (.cells (msl Z32 0 0 Z65).toArray 29 (0, 0))) (by kernel_rfl) (by kernel_rfl) ?_
  replace hW := hW.new (msl Z32 0 0 Z65).toArray 29
  simp only [List.nil_append, List.cons_append] at hW
  generalize World.alloc _ _ = m2 at *
  generalize m1.heap.size = qm at *
  replace hW : Bl u6 [⟨qh, (hdl Z32 0 0).toArray, 26⟩, ⟨qm, (msl Z32 0 0 Z65).toArray, 29⟩] m2 := hW
  simp only [Act.put, List.setIfInBounds_toArray, List.set_cons_zero, List.set_cons_succ, List.getElem_toArray, List.getElem_cons_zero, List.getElem_cons_succ]
  refine list_store 29 (.tmp 10) (.tmp 52) qm (msl Z32 0 0 Z65).toArray 29 (msl Z32 0 0 Z65).toArray (by kernel_rfl) rfl (by kernel_rfl) (by kernel_rfl) (hW.get 1 (x := ⟨qm, (msl Z32 0 0 Z65).toArray, 29⟩) rfl) (by rw [Try.infoM]; rfl) (rfl) (msl_one ..) ?_
  replace hW := hW.set 1 (x := ⟨qm, (msl Z32 0 0 Z65).toArray, 29⟩) rfl (msl Z32 0 0 Z65).toArray
  simp only [List.set_cons_zero, List.set_cons_succ] at hW
  generalize World.setRow _ _ _ = m3 at *
  replace hW : Bl u6 [⟨qh, (hdl Z32 0 0).toArray, 26⟩, ⟨qm, (msl Z32 0 0 Z65).toArray, 29⟩] m3 := hW
  simp only [Act.put, List.setIfInBounds_toArray, List.set_cons_zero, List.set_cons_succ, List.getElem_toArray, List.getElem_cons_zero, List.getElem_cons_succ]
  (refine wpList_step fun K hK => ?_; replace hK := hide hK; go_simp; refine unhide hK _ _ ?_; clear hK K)
  refine wpList_nil ?_
  replace hW := hide hW
  go_upto_region 9 with fail
  replace hW := unhide hW
  refine wp_region_lit ?_
  refine list_val (.slice (some ⟨go, 0, none⟩) n co) (by kernel_rfl) (by kernel_rfl) ?_
  simp only [Act.put, List.setIfInBounds_toArray, List.set_cons_zero, List.set_cons_succ, List.getElem_toArray, List.getElem_cons_zero, List.getElem_cons_succ]
  refine list_call 21 #[.slice (some ⟨go, 0, none⟩) n co] (by kernel_rfl) (by kernel_rfl) ((fgetx_no (some ⟨go, 0, none⟩) n co (by omega) m3).mono ?_)
  rintro r x1 ⟨rfl, hg⟩
  replace hW := hW.more hg
  clear hg
  refine ⟨_, rfl, ?_⟩
  simp only [Act.put, List.setIfInBounds_toArray, List.set_cons_zero, List.set_cons_succ, List.getElem_toArray, List.getElem_cons_zero, List.getElem_cons_succ]
  refine list_val (.tuple #[.agg (xcl Z16 Z130).toArray, .int .i64 240]) (by kernel_rfl) (by kernel_rfl) ?_
  simp only [Act.put, List.setIfInBounds_toArray, List.set_cons_zero, List.set_cons_succ, List.getElem_toArray, List.getElem_cons_zero, List.getElem_cons_succ]
  refine list_val (.agg (xcl Z16 Z130).toArray) (by kernel_rfl) (by kernel_rfl) ?_
  simp only [Act.put, List.setIfInBounds_toArray, List.set_cons_zero, List.set_cons_succ, List.getElem_toArray, List.getElem_cons_zero, List.getElem_cons_succ]
  refine list_val (.int .i64 240) (by kernel_rfl) (by kernel_rfl) ?_
  simp only [Act.put, List.setIfInBounds_toArray, List.set_cons_zero, List.set_cons_succ, List.getElem_toArray, List.getElem_cons_zero, List.getElem_cons_succ]
  refine list_valw (.pointer (some ⟨x1.heap.size, 0, none⟩)) (x1.alloc (.cells (xcl Z16 Z130).toArray 34 (0, 0))) (by kernel_rfl) (by kernel_rfl) ?_
  replace hW := hW.new (xcl Z16 Z130).toArray 34
  simp only [List.nil_append, List.cons_append] at hW
  generalize World.alloc _ _ = x2 at *
  generalize x1.heap.size = qx at *
  replace hW : Bl u6 [⟨qh, (hdl Z32 0 0).toArray, 26⟩, ⟨qm, (msl Z32 0 0 Z65).toArray, 29⟩, ⟨qx, (xcl Z16 Z130).toArray, 34⟩] x2 := hW
  simp only [Act.put, List.setIfInBounds_toArray, List.set_cons_zero, List.set_cons_succ, List.getElem_toArray, List.getElem_cons_zero, List.getElem_cons_succ]
  refine list_store 34 (.tmp 12) (.tmp 57) qx (xcl Z16 Z130).toArray 34 (xcl Z16 Z130).toArray (by kernel_rfl) rfl (by kernel_rfl) (by kernel_rfl) (hW.get 2 (x := ⟨qx, (xcl Z16 Z130).toArray, 34⟩) rfl) (by rw [Try.infoX]; rfl) (rfl) (xcl_one ..) ?_
  replace hW := hW.set 2 (x := ⟨qx, (xcl Z16 Z130).toArray, 34⟩) rfl (xcl Z16 Z130).toArray
  simp only [List.set_cons_zero, List.set_cons_succ] at hW
  generalize World.setRow _ _ _ = x3 at *
  replace hW : Bl u6 [⟨qh, (hdl Z32 0 0).toArray, 26⟩, ⟨qm, (msl Z32 0 0 Z65).toArray, 29⟩, ⟨qx, (xcl Z16 Z130).toArray, 34⟩] x3 := hW
  simp only [Act.put, List.setIfInBounds_toArray, List.set_cons_zero, List.set_cons_succ, List.getElem_toArray, List.getElem_cons_zero, List.getElem_cons_succ]
  (refine wpList_step fun K hK => ?_; replace hK := hide hK; go_simp; refine unhide hK _ _ ?_; clear hK K)
  refine wpList_nil ?_
  replace hW := hide hW
  go_upto_region 10 with fail
  replace hW := unhide hW
  refine wp_region_lit ?_
  refine list_val (.slice s1 n cap) (by kernel_rfl) (by kernel_rfl) ?_
  simp only [Act.put, List.setIfInBounds_toArray, List.set_cons_zero, List.set_cons_succ, List.getElem_toArray, List.getElem_cons_zero, List.getElem_cons_succ]
  refine list_val (.int .i64 n) (by kernel_rfl) (by kernel_rfl) ?_
  simp only [Act.put, List.setIfInBounds_toArray, List.set_cons_zero, List.set_cons_succ, List.getElem_toArray, List.getElem_cons_zero, List.getElem_cons_succ]
  refine list_val (.bool false) (by kernel_rfl) (by go_simp) ?_
  simp only [Act.put, List.setIfInBounds_toArray, List.set_cons_zero, List.set_cons_succ, List.getElem_toArray, List.getElem_cons_zero, List.getElem_cons_succ]
  refine wpList_nil ?_
  replace hW := hide hW
  go_upto_region 13 with fail
  replace hW := unhide hW
  refine wp_region_lit ?_
  refine list_val (.int .i64 240) (by kernel_rfl) (by kernel_rfl) ?_
  simp only [Act.put, List.setIfInBounds_toArray, List.set_cons_zero, List.set_cons_succ, List.getElem_toArray, List.getElem_cons_zero, List.getElem_cons_succ]
  refine list_val (.bool false) (by kernel_rfl) (by kernel_rfl) ?_
  simp only [Act.put, List.setIfInBounds_toArray, List.set_cons_zero, List.set_cons_succ, List.getElem_toArray, List.getElem_cons_zero, List.getElem_cons_succ]
  refine list_val (.bool false) (by kernel_rfl) (by kernel_rfl) ?_
  simp only [Act.put, List.setIfInBounds_toArray, List.set_cons_zero, List.set_cons_succ, List.getElem_toArray, List.getElem_cons_zero, List.getElem_cons_succ]
  refine list_val (.agg (hdl Z32 0 0).toArray) (by kernel_rfl) (exec_arr _ 26 (.tmp 8) rfl qh (by kernel_rfl) (hdl Z32 0 0).toArray 26 _ (hW.get 0 (x := ⟨qh, (hdl Z32 0 0).toArray, 26⟩) rfl) Try.underlying26 rfl (by rw [Try.infoH]; rfl)) ?_
  simp only [Act.put, List.setIfInBounds_toArray, List.set_cons_zero, List.set_cons_succ, List.getElem_toArray, List.getElem_cons_zero, List.getElem_cons_succ]
  refine list_val (.agg (hdl Z32 0 0).toArray) (by kernel_rfl) (by kernel_rfl) ?_
  simp only [Act.put, List.setIfInBounds_toArray, List.set_cons_zero, List.set_cons_succ, List.getElem_toArray, List.getElem_cons_zero, List.getElem_cons_succ]
  refine list_val (.bool false) (by kernel_rfl) (exec_neq_h _ (.tmp 73) (.tmp 74) rfl (hdl Z32 0 0).toArray (by kernel_rfl) (by kernel_rfl) (eq_hdl (K := Z32) rfl 0 0 _)) ?_
  simp only [Act.put, List.setIfInBounds_toArray, List.set_cons_zero, List.set_cons_succ, List.getElem_toArray, List.getElem_cons_zero, List.getElem_cons_succ]
  refine list_val (.bool false) (by kernel_rfl) (by kernel_rfl) ?_
  simp only [Act.put, List.setIfInBounds_toArray, List.set_cons_zero, List.set_cons_succ, List.getElem_toArray, List.getElem_cons_zero, List.getElem_cons_succ]
  refine wpList_nil ?_
  replace hW := hide hW
  go_upto_region 15 with fail
  replace hW := unhide hW
  refine wp_region_lit ?_
  refine list_val (.slice s1 n cap) (by kernel_rfl) (by kernel_rfl) ?_
  simp only [Act.put, List.setIfInBounds_toArray, List.set_cons_zero, List.set_cons_succ, List.getElem_toArray, List.getElem_cons_zero, List.getElem_cons_succ]
  refine list_val (.int .i64 n) (by kernel_rfl) (by kernel_rfl) ?_
  simp only [Act.put, List.setIfInBounds_toArray, List.set_cons_zero, List.set_cons_succ, List.getElem_toArray, List.getElem_cons_zero, List.getElem_cons_succ]
  refine list_val (.bool false) (by kernel_rfl) (by go_simp) ?_
  simp only [Act.put, List.setIfInBounds_toArray, List.set_cons_zero, List.set_cons_succ, List.getElem_toArray, List.getElem_cons_zero, List.getElem_cons_succ]
  refine wpList_nil ?_
  replace hW := hide hW
  go_upto_region 18 with fail
  replace hW := unhide hW
  refine wp_region_lit ?_
  refine list_val (.int .i64 240) (by kernel_rfl) (by kernel_rfl) ?_
  simp only [Act.put, List.setIfInBounds_toArray, List.set_cons_zero, List.set_cons_succ, List.getElem_toArray, List.getElem_cons_zero, List.getElem_cons_succ]
  refine list_val (.bool false) (by kernel_rfl) (by kernel_rfl) ?_
  simp only [Act.put, List.setIfInBounds_toArray, List.set_cons_zero, List.set_cons_succ, List.getElem_toArray, List.getElem_cons_zero, List.getElem_cons_succ]
  refine list_val (.bool false) (by kernel_rfl) (by kernel_rfl) ?_
  simp only [Act.put, List.setIfInBounds_toArray, List.set_cons_zero, List.set_cons_succ, List.getElem_toArray, List.getElem_cons_zero, List.getElem_cons_succ]
  refine list_val (.agg (msl Z32 0 0 Z65).toArray) (by kernel_rfl) (exec_arr _ 29 (.tmp 10) rfl qm (by kernel_rfl) (msl Z32 0 0 Z65).toArray 29 _ (hW.get 1 (x := ⟨qm, (msl Z32 0 0 Z65).toArray, 29⟩) rfl) Try.underlying29 rfl (by rw [Try.infoM]; rfl)) ?_
  simp only [Act.put, List.setIfInBounds_toArray, List.set_cons_zero, List.set_cons_succ, List.getElem_toArray, List.getElem_cons_zero, List.getElem_cons_succ]
  refine list_val (.agg (msl Z32 0 0 Z65).toArray) (by kernel_rfl) (by kernel_rfl) ?_
  simp only [Act.put, List.setIfInBounds_toArray, List.set_cons_zero, List.set_cons_succ, List.getElem_toArray, List.getElem_cons_zero, List.getElem_cons_succ]
  refine list_val (.bool false) (by kernel_rfl) (exec_neq_m _ (.tmp 91) (.tmp 92) rfl (msl Z32 0 0 Z65).toArray (by kernel_rfl) (by kernel_rfl) (eq_msl (K := Z32) rfl 0 0 (B := Z65) rfl _)) ?_
  simp only [Act.put, List.setIfInBounds_toArray, List.set_cons_zero, List.set_cons_succ, List.getElem_toArray, List.getElem_cons_zero, List.getElem_cons_succ]
  refine list_val (.bool false) (by kernel_rfl) (by kernel_rfl) ?_
  simp only [Act.put, List.setIfInBounds_toArray, List.set_cons_zero, List.set_cons_succ, List.getElem_toArray, List.getElem_cons_zero, List.getElem_cons_succ]
  refine wpList_nil ?_
  replace hW := hide hW
  go_upto_region 20 with fail
  replace hW := unhide hW
  refine wp_region_lit ?_
  refine list_val (.slice s1 n cap) (by kernel_rfl) (by kernel_rfl) ?_
  simp only [Act.put, List.setIfInBounds_toArray, List.set_cons_zero, List.set_cons_succ, List.getElem_toArray, List.getElem_cons_zero, List.getElem_cons_succ]
  refine list_val (.int .i64 n) (by kernel_rfl) (by kernel_rfl) ?_
  simp only [Act.put, List.setIfInBounds_toArray, List.set_cons_zero, List.set_cons_succ, List.getElem_toArray, List.getElem_cons_zero, List.getElem_cons_succ]
  refine list_val (.bool false) (by kernel_rfl) (by go_simp) ?_
  simp only [Act.put, List.setIfInBounds_toArray, List.set_cons_zero, List.set_cons_succ, List.getElem_toArray, List.getElem_cons_zero, List.getElem_cons_succ]
  refine wpList_nil ?_
  replace hW := hide hW
  go_upto_region 22 with fail
  replace hW := unhide hW
  refine wp_region_lit ?_
  refine list_val (.int .i64 240) (by kernel_rfl) (by kernel_rfl) ?_
  simp only [Act.put, List.setIfInBounds_toArray, List.set_cons_zero, List.set_cons_succ, List.getElem_toArray, List.getElem_cons_zero, List.getElem_cons_succ]
  refine list_val (.bool true) (by kernel_rfl) (by kernel_rfl) ?_
  simp only [Act.put, List.setIfInBounds_toArray, List.set_cons_zero, List.set_cons_succ, List.getElem_toArray, List.getElem_cons_zero, List.getElem_cons_succ]
  refine list_val (.bool true) (by kernel_rfl) (by kernel_rfl) ?_
  simp only [Act.put, List.setIfInBounds_toArray, List.set_cons_zero, List.set_cons_succ, List.getElem_toArray, List.getElem_cons_zero, List.getElem_cons_succ]
  refine list_val (.agg (xcl Z16 Z130).toArray) (by kernel_rfl) (exec_arr _ 34 (.tmp 12) rfl qx (by kernel_rfl) (xcl Z16 Z130).toArray 34 _ (hW.get 2 (x := ⟨qx, (xcl Z16 Z130).toArray, 34⟩) rfl) Try.underlying34 rfl (by rw [Try.infoX]; rfl)) ?_
  simp only [Act.put, List.setIfInBounds_toArray, List.set_cons_zero, List.set_cons_succ, List.getElem_toArray, List.getElem_cons_zero, List.getElem_cons_succ]
  refine list_val (.agg (xcl Z16 Z130).toArray) (by kernel_rfl) (by kernel_rfl) ?_
  simp only [Act.put, List.setIfInBounds_toArray, List.set_cons_zero, List.set_cons_succ, List.getElem_toArray, List.getElem_cons_zero, List.getElem_cons_succ]
  refine list_val (.bool true) (by kernel_rfl) (exec_eql_x _ (.tmp 109) (.tmp 110) rfl (xcl Z16 Z130).toArray (by kernel_rfl) (by kernel_rfl) (eq_xcl (D := Z16) rfl (B := Z130) rfl _)) ?_
  simp only [Act.put, List.setIfInBounds_toArray, List.set_cons_zero, List.set_cons_succ, List.getElem_toArray, List.getElem_cons_zero, List.getElem_cons_succ]
  refine list_val (.bool true) (by kernel_rfl) (by kernel_rfl) ?_
  simp only [Act.put, List.setIfInBounds_toArray, List.set_cons_zero, List.set_cons_succ, List.getElem_toArray, List.getElem_cons_zero, List.getElem_cons_succ]
  refine list_val (.bool true) (by kernel_rfl) (by kernel_rfl) ?_
  simp only [Act.put, List.setIfInBounds_toArray, List.set_cons_zero, List.set_cons_succ, List.getElem_toArray, List.getElem_cons_zero, List.getElem_cons_succ]
  refine list_val (.slice (some ⟨go, 0, none⟩) n co) (by kernel_rfl) (by kernel_rfl) ?_
  simp only [Act.put, List.setIfInBounds_toArray, List.set_cons_zero, List.set_cons_succ, List.getElem_toArray, List.getElem_cons_zero, List.getElem_cons_succ]
  refine list_val (.slice s1 n cap) (by kernel_rfl) (by kernel_rfl) ?_
  simp only [Act.put, List.setIfInBounds_toArray, List.set_cons_zero, List.set_cons_succ, List.getElem_toArray, List.getElem_cons_zero, List.getElem_cons_succ]
  refine list_call 11 #[.slice (some ⟨go, 0, none⟩) n co, .slice s1 n cap] (by kernel_rfl) (by kernel_rfl) ((beq_ok L L (some ⟨go, 0, none⟩) s1 n n co cap x3 ((unhide hlo).gr hW.gr) ((unhide hl).gr hW.gr)).mono ?_)
  rintro r v9 ⟨rfl, hg⟩
  rw [decide_eq_true rfl]
  have hZ : Hid (Woke w (.returned (.bool true)) v9) := ⟨rfl, (unhide hWg).trans (hW.gr.trans hg)⟩
  clear hW hg
  refine ⟨_, rfl, ?_⟩
  simp only [Act.put, List.setIfInBounds_toArray, List.set_cons_zero, List.set_cons_succ, List.getElem_toArray, List.getElem_cons_zero, List.getElem_cons_succ]
  refine list_val (.bool true) (by kernel_rfl) (by kernel_rfl) ?_
  simp only [Act.put, List.setIfInBounds_toArray, List.set_cons_zero, List.set_cons_succ, List.getElem_toArray, List.getElem_cons_zero, List.getElem_cons_succ]
  (refine wpList_step fun K hK => ?_; replace hK := hide hK; go_simp; refine unhide hK _ _ ?_; clear hK K)
  refine wpList_nil ?_
  go_wp2_with fail
  rw [unhide hT]
  exact unhide hZ
theorem messages_law (K : List Int) (hK : K.length = 32) (bK : IsB K) (p q : Int) (hp : U4 p) (hq : U4 q) (B : List Int) (hB : B.length = 65) (bB : IsB B) (D : List Int) (hD : D.length = 16) (bD : IsB D) (X : List Int) (hX : X.length = 130) (bX : IsB X) (l : List Int) (s : Option Addr) (len cap : Nat) (w : World) (lb : Lb w s len cap l) : Calls Try.prog 3 #[.agg (msl K p q B).toArray, .agg (xcl D X).toArray, .slice s len cap] w (Woke w) := by
  by_cases h40 : min len 1000 = 40
  · exact messages_at40 K hK bK p q hp hq B hB bB D hD bD X hX bX l s len cap w lb h40
  by_cases h105 : min len 1000 = 105
  · exact messages_at105 K hK bK p q hp hq B hB bB D hD bD X hX bX l s len cap w lb h105
  by_cases h146 : min len 1000 = 146
  · exact messages_at146 K hK bK p q hp hq B hB bB D hD bD X hX bX l s len cap w lb h146
  exact messages_other K hK bK p q hp hq B hB bB D hD bD X hX bX l s len cap w lb ⟨h40, h105, h146⟩
end Go.Proofs.Ytfmocneoffkmpaa
