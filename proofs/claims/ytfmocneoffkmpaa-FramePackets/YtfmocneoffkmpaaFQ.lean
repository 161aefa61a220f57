/-
  Layer 14: the reference's records as bytes.
-/
import Derived.Test.YtfmocneoffkmpaaFP
namespace Go.Proofs.Ytfmocneoffkmpaa
open Go.RowKit
set_option maxRecDepth 100000
set_option linter.unusedSimpArgs false
set_option linter.unusedVariables false
/-- slices in a row of their own -/
def Sl1 (C : Array Value) (n : Nat) (u : World) (q : Value) : Prop := ∃ h, q = .slice (some ⟨h, 0, none⟩) n n ∧ u.heap[h]? = some (.cells C 35 (0, 0))
theorem Sl1.gr {C : Array Value} {n : Nat} {u v : World} {q : Value} (h : Sl1 C n u q) (k : Gr u v) : Sl1 C n v q := by
  obtain ⟨p, h1, h2⟩ := h
  exact ⟨p, h1, k.blk h2⟩
theorem lq_of {w : World} {h n : Nat} {C : Array Value} {ps : List (List Int)} (hb : w.heap[h]? = some (.cells C 35 (0, 0))) (hl : ps.length = n) (hn : n < 9223372036854775808) (hc : ∀ i, i < n → ∃ ai ni ci, C[i]? = some (.slice ai ni ci) ∧ Lb w ai ni ci (ps.getD i []) ∧ ni ≤ 140737488351232) : Lq w (some ⟨h, 0, none⟩) n n ps :=
  ⟨hl, .inr ⟨h, 0, rfl, fun i hi => by obtain ⟨ai, ni, ci, h1, h2, h3⟩ := hc i hi; exact ⟨ai, ni, ci, by rw [Nat.zero_add]; exact cell_of hb h1, h2, h3⟩⟩, Nat.le_refl _, hn⟩
theorem lq1 {w : World} {h : Nat} {a1 : Option Addr} {n1 c1 : Nat} {l1 : List Int} (hb : w.heap[h]? = some (.cells #[.slice a1 n1 c1] 35 (0, 0))) (h1 : Lb w a1 n1 c1 l1) (b1 : n1 ≤ 100000) : Lq w (some ⟨h, 0, none⟩) 1 1 [l1] :=
  lq_of hb rfl (by decide) (fun i hi => by obtain rfl : i = 0 := by omega
                                           exact ⟨a1, n1, c1, rfl, h1, by omega⟩)
theorem lq2 {w : World} {h : Nat} {a1 a2 : Option Addr} {n1 c1 n2 c2 : Nat} {l1 l2 : List Int} (hb : w.heap[h]? = some (.cells #[.slice a1 n1 c1, .slice a2 n2 c2] 35 (0, 0))) (h1 : Lb w a1 n1 c1 l1) (h2 : Lb w a2 n2 c2 l2) (b1 : n1 ≤ 100000) (b2 : n2 ≤ 100000) : Lq w (some ⟨h, 0, none⟩) 2 2 [l1, l2] :=
  lq_of hb rfl (by decide) (fun i hi => by
    obtain rfl | rfl : i = 0 ∨ i = 1 := by omega
    · exact ⟨a1, n1, c1, rfl, h1, by omega⟩
    · exact ⟨a2, n2, c2, rfl, h2, by omega⟩)
theorem lq3 {w : World} {h : Nat} {a1 a2 a3 : Option Addr} {n1 c1 n2 c2 n3 c3 : Nat} {l1 l2 l3 : List Int} (hb : w.heap[h]? = some (.cells #[.slice a1 n1 c1, .slice a2 n2 c2, .slice a3 n3 c3] 35 (0, 0))) (h1 : Lb w a1 n1 c1 l1) (h2 : Lb w a2 n2 c2 l2) (h3 : Lb w a3 n3 c3 l3) (b1 : n1 ≤ 100000) (b2 : n2 ≤ 100000) (b3 : n3 ≤ 100000) : Lq w (some ⟨h, 0, none⟩) 3 3 [l1, l2, l3] :=
  lq_of hb rfl (by decide) (fun i hi => by
    obtain rfl | rfl | rfl : i = 0 ∨ i = 1 ∨ i = 2 := by omega
    · exact ⟨a1, n1, c1, rfl, h1, by omega⟩
    · exact ⟨a2, n2, c2, rfl, h2, by omega⟩
    · exact ⟨a3, n3, c3, rfl, h3, by omega⟩)
set_option maxHeartbeats 4000000 in
theorem qhead_ok (K : List Int) (hl : K.length = 32) (hb : IsB K) (p q : Int) (hp : U4 p) (hq : U4 q) (w : World) : Calls Try.prog 13 #[.agg (hdl K p q).toArray] w (Infd (hdB K p q) w) := by
  obtain ⟨T, hT⟩ : ∃ T, T = Infd (hdB K p q) w := ⟨_, rfl⟩
  rw [← hT]
  replace hT := hide hT
  obtain ⟨C, hC⟩ : ∃ C, C = (hdl K p q).toArray := ⟨_, rfl⟩
  rw [← hC]
  replace hC := hide hC
  have hp0 := hp.1
  have hq0 := hq.1
  have hpw : IntKind.u64.wrap p = p := by have := hp.2; rw [IntKind.wrap_u64]; omega
  have hqw : IntKind.u64.wrap q = q := by have := hq.2; rw [IntKind.wrap_u64]; omega
  replace hb := hide hb
  go_enter Try.func13, Try.ntmps13
  go_upto_region 1 with fail
  have hB := ((Bl.nil w).new C 26)
  simp only [size_alloc, List.nil_append, List.cons_append] at hB
  generalize World.alloc _ _ = u at *
  rw [unhide hC] at hB
  replace hB : Bl w [⟨w.heap.size, (hdl K p q).toArray, 26⟩] u := hB
  clear hC
  have hbl := (hB.get 0 (x := ⟨w.heap.size, (hdl K p q).toArray, 26⟩) rfl)
  have hG := hB.gr
  dsimp only at hbl
  clear hB
  refine any_start (S := fun (v : World) => v.heap[w.heap.size]? = some (.cells (hdl K p q).toArray 26 (0, 0))) (by kernel_rfl) ?_
  have hdr := (Gr.refl u).drew
  have hS : (fun (v : World) => v.heap[w.heap.size]? = some (.cells (hdl K p q).toArray 26 (0, 0))) u.drew := hdr.blk hbl
  replace hG := hG.trans hdr
  clear hdr hbl
  generalize World.drew _ = x0 at *
  simp only [List.size_toArray, List.length_cons, List.length_nil, Array.replicate, List.replicate]
  refine any_take (i := 0) (v := (.pointer (some ⟨w.heap.size, 0, none⟩))) #[false, false, false, false, false, false, false, false, false, false, false, false, false] rfl (by kernel_rfl) (by kernel_rfl) (by kernel_rfl) (by kernel_rfl) (fun _ _ _ h => h) (.inl ⟨by kernel_rfl, fun x_ hu => by kernel_rfl⟩) hS ?_
  simp only [Act.put, List.setIfInBounds_toArray, List.set_cons_zero, List.set_cons_succ, List.getElem_toArray, List.getElem_cons_zero, List.getElem_cons_succ]
  refine any_take (i := 1) (v := (.slice (some ⟨w.heap.size, 0, none⟩) 32 32)) #[true, false, false, false, false, false, false, false, false, false, false, false, false] rfl (by kernel_rfl) (by kernel_rfl) (by kernel_rfl) (by kernel_rfl) (fun _ _ _ h => h) (.inl ⟨by kernel_rfl, fun x_ hu => by kernel_rfl⟩) hS ?_
  simp only [Act.put, List.setIfInBounds_toArray, List.set_cons_zero, List.set_cons_succ, List.getElem_toArray, List.getElem_cons_zero, List.getElem_cons_succ]
  refine any_take (i := 2) (v := (.pointer (some ⟨w.heap.size, 32, none⟩))) #[true, true, false, false, false, false, false, false, false, false, false, false, false] rfl (by kernel_rfl) (by kernel_rfl) (by kernel_rfl) (by kernel_rfl) (fun _ _ _ h => h) (.inl ⟨by kernel_rfl, fun x_ hu => by kernel_rfl⟩) hS ?_
  simp only [Act.put, List.setIfInBounds_toArray, List.set_cons_zero, List.set_cons_succ, List.getElem_toArray, List.getElem_cons_zero, List.getElem_cons_succ]
  refine any_take (i := 3) (v := (.int .u32 p)) #[true, true, true, false, false, false, false, false, false, false, false, false, false] rfl (by kernel_rfl) (by kernel_rfl) (by kernel_rfl) (by kernel_rfl) (fun _ _ _ h => h) (.inl ⟨by kernel_rfl, fun x_ hu => exec_u32 _ (.tmp 5) rfl (w.heap.size) 32 (by kernel_rfl) p (cell_of hu (hd_prev hl p q))⟩) hS ?_
  simp only [Act.put, List.setIfInBounds_toArray, List.set_cons_zero, List.set_cons_succ, List.getElem_toArray, List.getElem_cons_zero, List.getElem_cons_succ]
  refine any_take (i := 4) (v := (.int .u64 p)) #[true, true, true, true, false, false, false, false, false, false, false, false, false] rfl (by kernel_rfl) (by kernel_rfl) (by kernel_rfl) (by kernel_rfl) (fun _ _ _ h => h) (.inl ⟨by kernel_rfl, fun x_ hu => by go_simp⟩) hS ?_
  simp only [Act.put, List.setIfInBounds_toArray, List.set_cons_zero, List.set_cons_succ, List.getElem_toArray, List.getElem_cons_zero, List.getElem_cons_succ]
  refine any_take (i := 6) (v := (.pointer (some ⟨w.heap.size, 33, none⟩))) #[true, true, true, true, true, false, false, false, false, false, false, false, false] rfl (by kernel_rfl) (by kernel_rfl) (by kernel_rfl) (by kernel_rfl) (fun _ _ _ h => h) (.inl ⟨by kernel_rfl, fun x_ hu => by kernel_rfl⟩) hS ?_
  simp only [Act.put, List.setIfInBounds_toArray, List.set_cons_zero, List.set_cons_succ, List.getElem_toArray, List.getElem_cons_zero, List.getElem_cons_succ]
  refine any_take (i := 7) (v := (.int .u32 q)) #[true, true, true, true, true, false, true, false, false, false, false, false, false] rfl (by kernel_rfl) (by kernel_rfl) (by kernel_rfl) (by kernel_rfl) (fun _ _ _ h => h) (.inl ⟨by kernel_rfl, fun x_ hu => exec_u32 _ (.tmp 9) rfl (w.heap.size) 33 (by kernel_rfl) q (cell_of hu (hd_num hl p q))⟩) hS ?_
  simp only [Act.put, List.setIfInBounds_toArray, List.set_cons_zero, List.set_cons_succ, List.getElem_toArray, List.getElem_cons_zero, List.getElem_cons_succ]
  refine any_take (i := 8) (v := (.int .u64 q)) #[true, true, true, true, true, false, true, true, false, false, false, false, false] rfl (by kernel_rfl) (by kernel_rfl) (by kernel_rfl) (by kernel_rfl) (fun _ _ _ h => h) (.inl ⟨by kernel_rfl, fun x_ hu => by go_simp⟩) hS ?_
  simp only [Act.put, List.setIfInBounds_toArray, List.set_cons_zero, List.set_cons_succ, List.getElem_toArray, List.getElem_cons_zero, List.getElem_cons_succ]
  refine any_one (i := 5) (by kernel_rfl) rfl (fun K_ hQ => ?_)
  refine step_callw (by kernel_rfl) 52 #[.int .u64 p, .int .i64 ((4 : Nat) : Int)] (by kernel_rfl) ((qlow_ok p hp0 4 (by omega) x0).mono ?_)
  rintro r x1 ⟨v1, rfl, hO1, hg⟩
  refine ⟨_, rfl, ?_⟩
  obtain ⟨a1, c1, rfl, hl1⟩ := ob_lb hO1 (lowL_isB _ _) (lowL_len _ _)
  have hS := hg.blk hS
  replace hG := hG.trans hg
  clear hO1 hg
  refine hQ.out _ _ hS (fun _ => ?_)
  clear hQ K_
  simp only [Act.put, List.setIfInBounds_toArray, List.set_cons_zero, List.set_cons_succ, List.getElem_toArray, List.getElem_cons_zero, List.getElem_cons_succ]
  refine any_one (i := 9) (by kernel_rfl) rfl (fun K_ hQ => ?_)
  refine step_callw (by kernel_rfl) 52 #[.int .u64 q, .int .i64 ((4 : Nat) : Int)] (by kernel_rfl) ((qlow_ok q hq0 4 (by omega) x1).mono ?_)
  rintro r x2 ⟨v2, rfl, hO2, hg⟩
  refine ⟨_, rfl, ?_⟩
  obtain ⟨a2, c2, rfl, hl2⟩ := ob_lb hO2 (lowL_isB _ _) (lowL_len _ _)
  have hS := hg.blk hS
  replace hG := hG.trans hg
  replace hl1 := hl1.gr hg
  clear hO2 hg
  refine hQ.out _ _ hS (fun _ => ?_)
  clear hQ K_
  simp only [Act.put, List.setIfInBounds_toArray, List.set_cons_zero, List.set_cons_succ, List.getElem_toArray, List.getElem_cons_zero, List.getElem_cons_succ]
  refine any_one (i := 10) (by kernel_rfl) rfl (fun K_ hQ => ?_)
  refine step_val (.slice (some ⟨x2.heap.size, 0, none⟩) 2 2) (x2.alloc (.cells #[.slice a1 4 c1, .slice a2 4 c2] 35 (0, 0))) (by kernel_rfl) (by kernel_rfl) ?_
  have hg := (Gr.refl x2).alloc (.cells #[.slice a1 4 c1, .slice a2 4 c2] 35 (0, 0))
  have hqb : (x2.alloc (.cells #[.slice a1 4 c1, .slice a2 4 c2] 35 (0, 0))).heap[x2.heap.size]? = some (.cells #[.slice a1 4 c1, .slice a2 4 c2] 35 (0, 0)) := blk_new _ _
  generalize World.alloc _ _ = x3 at *
  generalize x2.heap.size = hq9 at *
  have hS := hg.blk hS
  replace hG := hG.trans hg
  replace hl1 := hl1.gr hg; replace hl2 := hl2.gr hg
  clear hg
  refine hQ.out _ _ hS (fun _ => ?_)
  clear hQ K_
  simp only [Act.put, List.setIfInBounds_toArray, List.set_cons_zero, List.set_cons_succ, List.getElem_toArray, List.getElem_cons_zero, List.getElem_cons_succ]
  refine any_one (i := 11) (by kernel_rfl) rfl (fun K_ hQ => ?_)
  refine step_callw (by kernel_rfl) 51 #[.slice (some ⟨w.heap.size, 0, none⟩) 32 32, .slice (some ⟨hq9, 0, none⟩) 2 2] (by kernel_rfl) ((qboth_ok K (some ⟨w.heap.size, 0, none⟩) 32 32 [lowL p 4, lowL q 4] (some ⟨hq9, 0, none⟩) 2 2 x3 (lb_mid hS (hdl_key K p q) rfl (unhide hb) hl (by omega) (by omega)) (lq2 hqb hl1 hl2 (by omega) (by omega)) (by simp [hl, lowL_len])).mono ?_)
  rintro r x4 ⟨v9, rfl, hO9, hg⟩
  refine ⟨_, rfl, ?_⟩
  have hZ : Hid (Infd (hdB K p q) w (.returned v9) x4) := ⟨v9, rfl, by unfold hdB; simpa [List.append_assoc] using ob_base hO9 hG.size, hG.trans hg⟩
  have hS := hg.blk hS
  clear hO9 hg
  refine hQ.out _ _ hS (fun _ => ?_)
  clear hQ K_
  simp only [Act.put, List.setIfInBounds_toArray, List.set_cons_zero, List.set_cons_succ, List.getElem_toArray, List.getElem_cons_zero, List.getElem_cons_succ]
  refine any_one (i := 12) (by kernel_rfl) rfl (fun K_ hQ => ?_)
  replace hQ := hide hQ
  go_simp
  refine (unhide hQ).out _ _ hS (fun _ => ?_)
  clear hQ K_
  refine any_done (by kernel_rfl) ?_
  clear hS
  go_wp2_with fail
  rw [unhide hT]
  exact unhide hZ
set_option maxHeartbeats 4000000 in
theorem qmes_ok (KY : List Int) (hl : KY.length = 32) (hb : IsB KY) (p q : Int) (hp : U4 p) (hq : U4 q) (B : List Int) (hlB : B.length = 65) (hbB : IsB B) (w : World) : Calls Try.prog 15 #[.agg (msl KY p q B).toArray] w (Infd (hdB KY p q ++ B) w) := by
  obtain ⟨T, hT⟩ : ∃ T, T = Infd (hdB KY p q ++ B) w := ⟨_, rfl⟩
  rw [← hT]
  replace hT := hide hT
  obtain ⟨C, hC⟩ : ∃ C, C = (msl KY p q B).toArray := ⟨_, rfl⟩
  rw [← hC]
  replace hC := hide hC
  replace hb := hide hb; replace hbB := hide hbB
  go_enter Try.func15, Try.ntmps15
  go_upto_region 1 with fail
  have hB := ((Bl.nil w).new C 29)
  simp only [size_alloc, List.nil_append, List.cons_append] at hB
  generalize World.alloc _ _ = u at *
  rw [unhide hC] at hB
  replace hB : Bl w [⟨w.heap.size, (msl KY p q B).toArray, 29⟩] u := hB
  clear hC
  have hbl := (hB.get 0 (x := ⟨w.heap.size, (msl KY p q B).toArray, 29⟩) rfl)
  have hG := hB.gr
  dsimp only at hbl
  clear hB
  refine any_start (S := fun (v : World) => v.heap[w.heap.size]? = some (.cells (msl KY p q B).toArray 29 (0, 0))) (by kernel_rfl) ?_
  have hdr := (Gr.refl u).drew
  have hS : (fun (v : World) => v.heap[w.heap.size]? = some (.cells (msl KY p q B).toArray 29 (0, 0))) u.drew := hdr.blk hbl
  replace hG := hG.trans hdr
  clear hdr hbl
  generalize World.drew _ = x0 at *
  simp only [List.size_toArray, List.length_cons, List.length_nil, Array.replicate, List.replicate]
  refine any_take (i := 0) (v := (.pointer (some ⟨w.heap.size, 0, none⟩))) #[false, false, false, false, false, false, false, false] rfl (by kernel_rfl) (by kernel_rfl) (by kernel_rfl) (by kernel_rfl) (fun _ _ _ h => h) (.inl ⟨by kernel_rfl, fun x_ hu => by kernel_rfl⟩) hS ?_
  simp only [Act.put, List.setIfInBounds_toArray, List.set_cons_zero, List.set_cons_succ, List.getElem_toArray, List.getElem_cons_zero, List.getElem_cons_succ]
  refine any_take (i := 1) (v := (.agg (hdl KY p q).toArray)) #[true, false, false, false, false, false, false, false] rfl (by kernel_rfl) (by kernel_rfl) (by kernel_rfl) (by kernel_rfl) (fun _ _ _ h => h) (.inl ⟨by kernel_rfl, fun x_ hu => exec_row _ 26 (.tmp 3) rfl (w.heap.size) 0 (by kernel_rfl) (hdl KY p q) _ (range_mid hu (msl_hd0 KY p q B) rfl) Try.underlying26 rfl (by rw [Try.infoH, hdl_len hl])⟩) hS ?_
  simp only [Act.put, List.setIfInBounds_toArray, List.set_cons_zero, List.set_cons_succ, List.getElem_toArray, List.getElem_cons_zero, List.getElem_cons_succ]
  refine any_take (i := 3) (v := (.pointer (some ⟨w.heap.size, 34, none⟩))) #[true, true, false, false, false, false, false, false] rfl (by kernel_rfl) (by kernel_rfl) (by kernel_rfl) (by kernel_rfl) (fun _ _ _ h => h) (.inl ⟨by kernel_rfl, fun x_ hu => by kernel_rfl⟩) hS ?_
  simp only [Act.put, List.setIfInBounds_toArray, List.set_cons_zero, List.set_cons_succ, List.getElem_toArray, List.getElem_cons_zero, List.getElem_cons_succ]
  refine any_take (i := 4) (v := (.slice (some ⟨w.heap.size, 34, none⟩) 65 65)) #[true, true, false, true, false, false, false, false] rfl (by kernel_rfl) (by kernel_rfl) (by kernel_rfl) (by kernel_rfl) (fun _ _ _ h => h) (.inl ⟨by kernel_rfl, fun x_ hu => by kernel_rfl⟩) hS ?_
  simp only [Act.put, List.setIfInBounds_toArray, List.set_cons_zero, List.set_cons_succ, List.getElem_toArray, List.getElem_cons_zero, List.getElem_cons_succ]
  refine float_first (fun q u => Sl1 #[.slice (some ⟨w.heap.size, 34, none⟩) 65 65] 1 u q) 8 (fun b_ => #[true, true, false, true, true, b_, false, false]) 5 2 false rfl rfl (fun _ g_ => g_.blk hS) (by kernel_rfl) (fun b_ => by cases b_ <;> rfl) ?_ ?_
  all_goals simp only [fw1, Act.put, List.setIfInBounds_toArray, List.set_cons_zero, List.set_cons_succ, List.getElem_toArray, List.getElem_cons_zero, List.getElem_cons_succ]
  · intro q_ x_ hgx K hK
    refine wpOp_step (o := _) rfl (fun K' hK' => ?_)
    replace hK' := hide hK'
    replace hK := hide hK
    refine step_val (.slice (some ⟨x_.heap.size, 0, none⟩) 1 1) (x_.alloc (.cells #[.slice (some ⟨w.heap.size, 34, none⟩) 65 65] 35 (0, 0))) (by kernel_rfl) (by kernel_rfl) ?_
    exact unhide hK' _ _ (unhide hK _ _ ((Gr.refl _).alloc _) (⟨_, rfl, blk_new _ _⟩))
  intro b1_2 q1_2 x1_2 hg hTq hall
  replace hS := hg.blk hS
  replace hG := hG.trans hg
  first | replace hl1 := hl1.gr hg | skip
  clear hall
  refine wpOp_step (o := _) rfl (fun K hK => ?_)
  replace hK := hide hK
  refine step_callw (by kernel_rfl) 13 #[.agg (hdl KY p q).toArray] (by kernel_rfl) ((qhead_ok KY hl (unhide hb) p q hp hq x1_2).mono ?_)
  rintro r y1 ⟨v1, rfl, hO1, hg⟩
  refine ⟨_, rfl, ?_⟩
  replace hTq := fun e => Sl1.gr (hTq e) hg
  obtain ⟨a1, c1, rfl, hl1⟩ := ob_lb hO1 (hdB_isB (unhide hb) p q) (hdB_len hl p q)
  have hS := hg.blk hS
  replace hG := hG.trans hg
  clear hO1 hg
  refine unhide hK _ _ ⟨hS, ?_⟩
  clear hK K
  simp only [Act.put, List.setIfInBounds_toArray, List.set_cons_zero, List.set_cons_succ, List.getElem_toArray, List.getElem_cons_zero, List.getElem_cons_succ]
  refine float_again (fun q u => Sl1 #[.slice (some ⟨w.heap.size, 34, none⟩) 65 65] 1 u q) 8 (fun b_ => #[true, true, true, true, true, b_, false, false]) 5 6 true (b := b1_2) (q := q1_2) rfl rfl hTq (fun _ g_ => g_.blk hS) (by kernel_rfl) (fun b_ => by cases b_ <;> rfl) ?_ ?_
  all_goals simp only [fw1, Act.put, List.setIfInBounds_toArray, List.set_cons_zero, List.set_cons_succ, List.getElem_toArray, List.getElem_cons_zero, List.getElem_cons_succ]
  · intro q_ x_ hgx K hK
    refine wpOp_step (o := _) rfl (fun K' hK' => ?_)
    replace hK' := hide hK'
    replace hK := hide hK
    refine step_val (.slice (some ⟨x_.heap.size, 0, none⟩) 1 1) (x_.alloc (.cells #[.slice (some ⟨w.heap.size, 34, none⟩) 65 65] 35 (0, 0))) (by kernel_rfl) (by kernel_rfl) ?_
    exact unhide hK' _ _ (unhide hK _ _ ((Gr.refl _).alloc _) (⟨_, rfl, blk_new _ _⟩))
  clear hTq
  intro b1_6 q1_6 x1_6 hg hTq hall
  replace hS := hg.blk hS
  replace hG := hG.trans hg
  first | replace hl1 := hl1.gr hg | skip
  obtain rfl : b1_6 = true := hall (by trivial)
  replace hTq := hTq rfl
  clear hall
  obtain ⟨hq9, rfl, hqb⟩ := hTq
  refine wpOp_step (o := _) rfl (fun K hK => ?_)
  replace hK := hide hK
  refine step_callw (by kernel_rfl) 51 #[.slice a1 40 c1, .slice (some ⟨hq9, 0, none⟩) 1 1] (by kernel_rfl) ((qboth_ok (hdB KY p q) a1 40 c1 [B] (some ⟨hq9, 0, none⟩) 1 1 x1_6 hl1 (lq1 hqb (lb_mid hS (msl_hdl KY p q B) (hdl_len hl p q) (unhide hbB) hlB (by omega) (by omega)) (by omega)) (by rw [hdB_len hl]; simp [hlB])).mono ?_)
  rintro r y2 ⟨v9, rfl, hO9, hg⟩
  refine ⟨_, rfl, ?_⟩
  have hZ : Hid (Infd (hdB KY p q ++ B) w (.returned v9) y2) := ⟨v9, rfl, by simpa using ob_base hO9 hG.size, hG.trans hg⟩
  have hS := hg.blk hS
  clear hO9 hg
  refine unhide hK _ _ ⟨hS, ?_⟩
  clear hK K
  simp only [Act.put, List.setIfInBounds_toArray, List.set_cons_zero, List.set_cons_succ, List.getElem_toArray, List.getElem_cons_zero, List.getElem_cons_succ]
  refine any_one (i := 7) (by kernel_rfl) rfl (fun K hK => ?_)
  replace hK := hide hK
  go_simp
  refine (unhide hK).out _ _ hS (fun _ => ?_)
  clear hK K
  refine any_done (by kernel_rfl) ?_
  clear hS
  go_wp2_with fail
  rw [unhide hT]
  exact unhide hZ
set_option maxHeartbeats 4000000 in
theorem qexc_ok (D : List Int) (hl : D.length = 16) (hb : IsB D) (B : List Int) (hlB : B.length = 130) (hbB : IsB B) (w : World) : Calls Try.prog 17 #[.agg (xcl D B).toArray] w (Infd (D ++ B) w) := by
  obtain ⟨T, hT⟩ : ∃ T, T = Infd (D ++ B) w := ⟨_, rfl⟩
  rw [← hT]
  replace hT := hide hT
  obtain ⟨C, hC⟩ : ∃ C, C = (xcl D B).toArray := ⟨_, rfl⟩
  rw [← hC]
  replace hC := hide hC
  replace hb := hide hb; replace hbB := hide hbB
  go_enter Try.func17, Try.ntmps17
  go_upto_region 1 with fail
  have hB := ((Bl.nil w).new C 34)
  simp only [size_alloc, List.nil_append, List.cons_append] at hB
  generalize World.alloc _ _ = u at *
  rw [unhide hC] at hB
  replace hB : Bl w [⟨w.heap.size, (xcl D B).toArray, 34⟩] u := hB
  clear hC
  have hbl := (hB.get 0 (x := ⟨w.heap.size, (xcl D B).toArray, 34⟩) rfl)
  have hG := hB.gr
  dsimp only at hbl
  clear hB
  refine any_start (S := fun (v : World) => v.heap[w.heap.size]? = some (.cells (xcl D B).toArray 34 (0, 0))) (by kernel_rfl) ?_
  have hdr := (Gr.refl u).drew
  have hS : (fun (v : World) => v.heap[w.heap.size]? = some (.cells (xcl D B).toArray 34 (0, 0))) u.drew := hdr.blk hbl
  replace hG := hG.trans hdr
  clear hdr hbl
  generalize World.drew _ = x0 at *
  simp only [List.size_toArray, List.length_cons, List.length_nil, Array.replicate, List.replicate]
  refine any_take (i := 0) (v := (.pointer (some ⟨w.heap.size, 0, none⟩))) #[false, false, false, false, false, false, false] rfl (by kernel_rfl) (by kernel_rfl) (by kernel_rfl) (by kernel_rfl) (fun _ _ _ h => h) (.inl ⟨by kernel_rfl, fun x_ hu => by kernel_rfl⟩) hS ?_
  simp only [Act.put, List.setIfInBounds_toArray, List.set_cons_zero, List.set_cons_succ, List.getElem_toArray, List.getElem_cons_zero, List.getElem_cons_succ]
  refine any_take (i := 1) (v := (.slice (some ⟨w.heap.size, 0, none⟩) 16 16)) #[true, false, false, false, false, false, false] rfl (by kernel_rfl) (by kernel_rfl) (by kernel_rfl) (by kernel_rfl) (fun _ _ _ h => h) (.inl ⟨by kernel_rfl, fun x_ hu => by kernel_rfl⟩) hS ?_
  simp only [Act.put, List.setIfInBounds_toArray, List.set_cons_zero, List.set_cons_succ, List.getElem_toArray, List.getElem_cons_zero, List.getElem_cons_succ]
  refine any_take (i := 2) (v := (.pointer (some ⟨w.heap.size, 16, none⟩))) #[true, true, false, false, false, false, false] rfl (by kernel_rfl) (by kernel_rfl) (by kernel_rfl) (by kernel_rfl) (fun _ _ _ h => h) (.inl ⟨by kernel_rfl, fun x_ hu => by kernel_rfl⟩) hS ?_
  simp only [Act.put, List.setIfInBounds_toArray, List.set_cons_zero, List.set_cons_succ, List.getElem_toArray, List.getElem_cons_zero, List.getElem_cons_succ]
  refine any_take (i := 3) (v := (.slice (some ⟨w.heap.size, 16, none⟩) 130 130)) #[true, true, true, false, false, false, false] rfl (by kernel_rfl) (by kernel_rfl) (by kernel_rfl) (by kernel_rfl) (fun _ _ _ h => h) (.inl ⟨by kernel_rfl, fun x_ hu => by kernel_rfl⟩) hS ?_
  simp only [Act.put, List.setIfInBounds_toArray, List.set_cons_zero, List.set_cons_succ, List.getElem_toArray, List.getElem_cons_zero, List.getElem_cons_succ]
  refine any_one (i := 4) (by kernel_rfl) rfl (fun K_ hQ => ?_)
  refine step_val (.slice (some ⟨x0.heap.size, 0, none⟩) 1 1) (x0.alloc (.cells #[.slice (some ⟨w.heap.size, 16, none⟩) 130 130] 35 (0, 0))) (by kernel_rfl) (by kernel_rfl) ?_
  have hg := (Gr.refl x0).alloc (.cells #[.slice (some ⟨w.heap.size, 16, none⟩) 130 130] 35 (0, 0))
  have hqb : (x0.alloc (.cells #[.slice (some ⟨w.heap.size, 16, none⟩) 130 130] 35 (0, 0))).heap[x0.heap.size]? = some (.cells #[.slice (some ⟨w.heap.size, 16, none⟩) 130 130] 35 (0, 0)) := blk_new _ _
  generalize World.alloc _ _ = x1 at *
  generalize x0.heap.size = hq9 at *
  have hS := hg.blk hS
  replace hG := hG.trans hg
  skip
  clear hg
  refine hQ.out _ _ hS (fun _ => ?_)
  clear hQ K_
  simp only [Act.put, List.setIfInBounds_toArray, List.set_cons_zero, List.set_cons_succ, List.getElem_toArray, List.getElem_cons_zero, List.getElem_cons_succ]
  refine any_one (i := 5) (by kernel_rfl) rfl (fun K_ hQ => ?_)
  refine step_callw (by kernel_rfl) 51 #[.slice (some ⟨w.heap.size, 0, none⟩) 16 16, .slice (some ⟨hq9, 0, none⟩) 1 1] (by kernel_rfl) ((qboth_ok D (some ⟨w.heap.size, 0, none⟩) 16 16 [B] (some ⟨hq9, 0, none⟩) 1 1 x1 (lb_mid hS (xcl_drop D B) rfl (unhide hb) hl (by omega) (by omega)) (lq1 hqb (lb_mid hS (xcl_body D B) (by rw [bv_len, hl]) (unhide hbB) hlB (by omega) (by omega)) (by omega)) (by simp [hl, hlB])).mono ?_)
  rintro r x2 ⟨v9, rfl, hO9, hg⟩
  refine ⟨_, rfl, ?_⟩
  have hZ : Hid (Infd (D ++ B) w (.returned v9) x2) := ⟨v9, rfl, by simpa using ob_base hO9 hG.size, hG.trans hg⟩
  have hS := hg.blk hS
  clear hO9 hg
  refine hQ.out _ _ hS (fun _ => ?_)
  clear hQ K_
  simp only [Act.put, List.setIfInBounds_toArray, List.set_cons_zero, List.set_cons_succ, List.getElem_toArray, List.getElem_cons_zero, List.getElem_cons_succ]
  refine any_one (i := 6) (by kernel_rfl) rfl (fun K_ hQ => ?_)
  replace hQ := hide hQ
  go_simp
  refine (unhide hQ).out _ _ hS (fun _ => ?_)
  clear hQ K_
  refine any_done (by kernel_rfl) ?_
  clear hS
  go_wp2_with fail
  rw [unhide hT]
  exact unhide hZ
set_option maxHeartbeats 4000000 in
theorem qpac_ok (k c s r : Int) (a : Option Addr) (n e : Nat) (B : List Int) (hk : 0 ≤ k ∧ k < 256) (hc : 0 ≤ c ∧ c < 256) (hs : 0 ≤ s ∧ s < 256) (hr : 0 ≤ r) (hn : n ≤ 1000) (w : World) (lb : Lb w a n e B) : Calls Try.prog 40 #[.int .u8 k, .int .i64 c, .int .i64 s, .int .u64 r, .slice a n e] w (Infd (pkB k c s r B) w) := by
  obtain ⟨T, hT⟩ : ∃ T, T = Infd (pkB k c s r B) w := ⟨_, rfl⟩
  rw [← hT]
  replace hT := hide hT
  have hc8 : IntKind.u8.wrap c = c := by rw [IntKind.wrap_u8]; omega
  have hs8 : IntKind.u8.wrap s = s := by rw [IntKind.wrap_u8]; omega
  have hkB : IsB [k, c, s] := fun y hy => by simp only [List.mem_cons, List.not_mem_nil, or_false] at hy; omega
  have hG := Gr.refl w
  replace lb := hide lb; replace hkB := hide hkB
  go_enter Try.func40, Try.ntmps40
  go_upto_region 1 with fail
  refine wp_region_lit ?_
  refine list_val (.int .u8 k) (by kernel_rfl) (by kernel_rfl) ?_
  simp only [Act.put, List.setIfInBounds_toArray, List.set_cons_zero, List.set_cons_succ, List.getElem_toArray, List.getElem_cons_zero, List.getElem_cons_succ]
  refine list_val (.int .i64 c) (by kernel_rfl) (by kernel_rfl) ?_
  simp only [Act.put, List.setIfInBounds_toArray, List.set_cons_zero, List.set_cons_succ, List.getElem_toArray, List.getElem_cons_zero, List.getElem_cons_succ]
  refine list_val (.int .u8 c) (by kernel_rfl) (by go_simp) ?_
  simp only [Act.put, List.setIfInBounds_toArray, List.set_cons_zero, List.set_cons_succ, List.getElem_toArray, List.getElem_cons_zero, List.getElem_cons_succ]
  refine list_val (.int .i64 s) (by kernel_rfl) (by kernel_rfl) ?_
  simp only [Act.put, List.setIfInBounds_toArray, List.set_cons_zero, List.set_cons_succ, List.getElem_toArray, List.getElem_cons_zero, List.getElem_cons_succ]
  refine list_val (.int .u8 s) (by kernel_rfl) (by go_simp) ?_
  simp only [Act.put, List.setIfInBounds_toArray, List.set_cons_zero, List.set_cons_succ, List.getElem_toArray, List.getElem_cons_zero, List.getElem_cons_succ]
  refine list_valw (.slice (some ⟨w.heap.size, 0, none⟩) 3 3) (w.alloc (.cells (kc [k, c, s]) 5 (0, 0))) (by kernel_rfl) (by kernel_rfl) ?_
  have hg := (Gr.refl w).alloc (.cells (kc [k, c, s]) 5 (0, 0))
  have hlb1 := kc_lb (n := 3) (blk_new w (.cells (kc [k, c, s]) 5 (0, 0))) rfl (unhide hkB) (by decide)
  replace hG := hG.trans hg
  clear hg
  generalize World.alloc _ _ = u1 at *
  generalize w.heap.size = h1 at hlb1 ⊢
  simp only [Act.put, List.setIfInBounds_toArray, List.set_cons_zero, List.set_cons_succ, List.getElem_toArray, List.getElem_cons_zero, List.getElem_cons_succ]
  refine list_val (.int .u64 r) (by kernel_rfl) (by kernel_rfl) ?_
  simp only [Act.put, List.setIfInBounds_toArray, List.set_cons_zero, List.set_cons_succ, List.getElem_toArray, List.getElem_cons_zero, List.getElem_cons_succ]
  refine list_call 52 #[.int .u64 r, .int .i64 ((8 : Nat) : Int)] (by kernel_rfl) (by kernel_rfl) ((qlow_ok r hr 8 (by omega) u1).mono ?_)
  rintro r_ u2 ⟨v1, rfl, hO1, hg⟩
  obtain ⟨a1, c1, rfl, hl1⟩ := ob_lb hO1 (lowL_isB _ _) (lowL_len _ _)
  replace hlb1 := hlb1.gr hg
  replace hG := hG.trans hg
  clear hg hO1
  refine ⟨_, rfl, ?_⟩
  simp only [Act.put, List.setIfInBounds_toArray, List.set_cons_zero, List.set_cons_succ, List.getElem_toArray, List.getElem_cons_zero, List.getElem_cons_succ]
  refine list_val (.slice a n e) (by kernel_rfl) (by kernel_rfl) ?_
  simp only [Act.put, List.setIfInBounds_toArray, List.set_cons_zero, List.set_cons_succ, List.getElem_toArray, List.getElem_cons_zero, List.getElem_cons_succ]
  refine list_valw (.slice (some ⟨u2.heap.size, 0, none⟩) 2 2) (u2.alloc (.cells #[.slice a1 8 c1, .slice a n e] 35 (0, 0))) (by kernel_rfl) (by kernel_rfl) ?_
  have hg := (Gr.refl u2).alloc (.cells #[.slice a1 8 c1, .slice a n e] 35 (0, 0))
  have hqb : (u2.alloc (.cells #[.slice a1 8 c1, .slice a n e] 35 (0, 0))).heap[u2.heap.size]? = some (.cells #[.slice a1 8 c1, .slice a n e] 35 (0, 0)) := blk_new _ _
  replace hlb1 := hlb1.gr hg
  replace hl1 := hl1.gr hg
  replace hG := hG.trans hg
  clear hg
  generalize World.alloc _ _ = u3 at *
  generalize u2.heap.size = hq9 at *
  simp only [Act.put, List.setIfInBounds_toArray, List.set_cons_zero, List.set_cons_succ, List.getElem_toArray, List.getElem_cons_zero, List.getElem_cons_succ]
  refine list_call 51 #[.slice (some ⟨h1, 0, none⟩) 3 3, .slice (some ⟨hq9, 0, none⟩) 2 2] (by kernel_rfl) (by kernel_rfl) ((qboth_ok [k, c, s] (some ⟨h1, 0, none⟩) 3 3 [lowL r 8, B] (some ⟨hq9, 0, none⟩) 2 2 u3 hlb1 (lq2 hqb hl1 ((unhide lb).gr hG) (by omega) (by omega)) (by have := (unhide lb).len; simp [lowL_len]; omega)).mono ?_)
  rintro r_ u4 ⟨v9, rfl, hO9, hg⟩
  have hZ : Hid (Infd (pkB k c s r B) w (.returned v9) u4) := ⟨v9, rfl, by unfold pkB; simpa [List.append_assoc] using ob_base hO9 hG.size, hG.trans hg⟩
  clear hO9 hg hlb1 hl1 hqb hG
  refine ⟨_, rfl, ?_⟩
  simp only [Act.put, List.setIfInBounds_toArray, List.set_cons_zero, List.set_cons_succ, List.getElem_toArray, List.getElem_cons_zero, List.getElem_cons_succ]
  (refine wpList_step fun K hK => ?_; replace hK := hide hK; go_simp; refine unhide hK _ _ ?_; clear hK K)
  refine wpList_nil ?_
  go_wp2_with fail
  rw [unhide hT]
  exact unhide hZ
end Go.Proofs.Ytfmocneoffkmpaa
