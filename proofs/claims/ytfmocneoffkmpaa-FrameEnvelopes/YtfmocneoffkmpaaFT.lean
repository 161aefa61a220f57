/-
  Layer 14: the reference's envelopes as bytes, and of bytes.
-/
import Derived.Test.YtfmocneoffkmpaaFS
namespace Go.Proofs.Ytfmocneoffkmpaa
open Go.RowKit
set_option maxRecDepth 100000
set_option linter.unusedSimpArgs false
set_option linter.unusedVariables false
/-- one byte in a row of its own -/
def Sl8 (k : Int) (u : World) (q : Value) : Prop := ∃ h, q = .slice (some ⟨h, 0, none⟩) 1 1 ∧ u.heap[h]? = some (.cells (kc [k]) 5 (0, 0))
theorem Sl8.gr {k : Int} {u v : World} {q : Value} (h : Sl8 k u q) (e : Gr u v) : Sl8 k v q := by
  obtain ⟨p, h1, h2⟩ := h
  exact ⟨p, h1, e.blk h2⟩
/-- a new record -/
def NRec (b : Nat) (C : Array Value) (t : TypeId) (u : World) (q : Value) : Prop := ∃ g, q = .pointer (some ⟨g, 0, none⟩) ∧ b ≤ g ∧ u.heap[g]? = some (.cells C t (0, 0))
theorem NRec.gr {b : Nat} {C : Array Value} {t : TypeId} {u v : World} {q : Value} (h : NRec b C t u q) (e : Gr u v) : NRec b C t v q := by
  obtain ⟨p, h1, h2, h3⟩ := h
  exact ⟨p, h1, h2, e.blk h3⟩
theorem exec_ibs {a : Act} {o : Oper} (w : World) (x y : Operand) (ho : o.op = .indexAddr 35 x y) (g q len cap i : Nat) (hx : a.eval x = .slice (some ⟨g, q, none⟩) len cap) (hy : a.eval y = .int .i64 i) (hi : i < len) :
    (execOp a.eval o).run Try.prog w = .ok (.value (.pointer (some ⟨g, q + i, none⟩))) w := by
  have h1 : (i : Int) < (len : Int) := by omega
  unfold execOp
  simp only [ho, hx, hy]
  go_simp
set_option maxHeartbeats 4000000 in
theorem qenv_ok (k a s : Int) (hk : k = 0 ∨ k = 1) (ha : U4 a) (hs : U4 s) (B : List Int) (hlB : B.length = 105) (hbB : IsB B) (w : World) : Calls Try.prog 27 #[.agg (evl k a s B).toArray] w (Infd (evB k a s B) w) := by
  obtain ⟨T, hT⟩ : ∃ T, T = Infd (evB k a s B) w := ⟨_, rfl⟩
  rw [← hT]
  replace hT := hide hT
  obtain ⟨C, hC⟩ : ∃ C, C = (evl k a s B).toArray := ⟨_, rfl⟩
  rw [← hC]
  replace hC := hide hC
  have ha0 := ha.1
  have hs0 := hs.1
  have haw : IntKind.u64.wrap a = a := by have := ha.2; rw [IntKind.wrap_u64]; omega
  have hsw : IntKind.u64.wrap s = s := by have := hs.2; rw [IntKind.wrap_u64]; omega
  have hk8 : IntKind.u8.wrap k = k := by rw [IntKind.wrap_u8]; omega
  have hkB : IsB [k] := fun y hy => by rw [List.mem_singleton.1 hy]; omega
  clear hk
  replace hbB := hide hbB; replace hkB := hide hkB
  go_enter Try.func27, Try.ntmps27
  go_upto_region 1 with fail
  have hB := ((Bl.nil w).new C 55)
  simp only [size_alloc, List.nil_append, List.cons_append] at hB
  generalize World.alloc _ _ = u at *
  rw [unhide hC] at hB
  replace hB : Bl w [⟨w.heap.size, (evl k a s B).toArray, 55⟩] u := hB
  clear hC
  have hbl := (hB.get 0 (x := ⟨w.heap.size, (evl k a s B).toArray, 55⟩) rfl)
  have hG := hB.gr
  dsimp only at hbl
  clear hB
  refine any_start (S := fun (v : World) => v.heap[w.heap.size]? = some (.cells (evl k a s B).toArray 55 (0, 0))) (by kernel_rfl) ?_
  have hdr := (Gr.refl u).drew
  have hS : (fun (v : World) => v.heap[w.heap.size]? = some (.cells (evl k a s B).toArray 55 (0, 0))) u.drew := hdr.blk hbl
  replace hG := hG.trans hdr
  clear hdr hbl
  generalize World.drew _ = x0 at *
  simp only [List.size_toArray, List.length_cons, List.length_nil, Array.replicate, List.replicate]
  refine any_take (i := 0) (v := (.pointer (some ⟨w.heap.size, 0, none⟩))) #[false, false, false, false, false, false, false, false, false, false, false, false, false, false, false, false, false] rfl (by kernel_rfl) (by kernel_rfl) (by kernel_rfl) (by kernel_rfl) (fun _ _ _ h => h) (.inl ⟨by kernel_rfl, fun x_ hu => by kernel_rfl⟩) hS ?_
  simp only [Act.put, List.setIfInBounds_toArray, List.set_cons_zero, List.set_cons_succ, List.getElem_toArray, List.getElem_cons_zero, List.getElem_cons_succ]
  refine any_take (i := 1) (v := (.int .i64 k)) #[true, false, false, false, false, false, false, false, false, false, false, false, false, false, false, false, false] rfl (by kernel_rfl) (by kernel_rfl) (by kernel_rfl) (by kernel_rfl) (fun _ _ _ h => h) (.inl ⟨by kernel_rfl, fun x_ hu => exec_i64 _ (.tmp 3) rfl (w.heap.size) 0 (by kernel_rfl) k (ev_load hu).1⟩) hS ?_
  simp only [Act.put, List.setIfInBounds_toArray, List.set_cons_zero, List.set_cons_succ, List.getElem_toArray, List.getElem_cons_zero, List.getElem_cons_succ]
  refine any_take (i := 2) (v := (.int .u8 k)) #[true, true, false, false, false, false, false, false, false, false, false, false, false, false, false, false, false] rfl (by kernel_rfl) (by kernel_rfl) (by kernel_rfl) (by kernel_rfl) (fun _ _ _ h => h) (.inl ⟨by kernel_rfl, fun x_ hu => by go_simp⟩) hS ?_
  simp only [Act.put, List.setIfInBounds_toArray, List.set_cons_zero, List.set_cons_succ, List.getElem_toArray, List.getElem_cons_zero, List.getElem_cons_succ]
  refine any_take (i := 4) (v := (.pointer (some ⟨w.heap.size, 1, none⟩))) #[true, true, true, false, false, false, false, false, false, false, false, false, false, false, false, false, false] rfl (by kernel_rfl) (by kernel_rfl) (by kernel_rfl) (by kernel_rfl) (fun _ _ _ h => h) (.inl ⟨by kernel_rfl, fun x_ hu => by kernel_rfl⟩) hS ?_
  simp only [Act.put, List.setIfInBounds_toArray, List.set_cons_zero, List.set_cons_succ, List.getElem_toArray, List.getElem_cons_zero, List.getElem_cons_succ]
  refine any_take (i := 5) (v := (.int .u32 a)) #[true, true, true, false, true, false, false, false, false, false, false, false, false, false, false, false, false] rfl (by kernel_rfl) (by kernel_rfl) (by kernel_rfl) (by kernel_rfl) (fun _ _ _ h => h) (.inl ⟨by kernel_rfl, fun x_ hu => exec_u32 _ (.tmp 7) rfl (w.heap.size) 1 (by kernel_rfl) a (ev_load hu).2.1⟩) hS ?_
  simp only [Act.put, List.setIfInBounds_toArray, List.set_cons_zero, List.set_cons_succ, List.getElem_toArray, List.getElem_cons_zero, List.getElem_cons_succ]
  refine any_take (i := 6) (v := (.int .u64 a)) #[true, true, true, false, true, true, false, false, false, false, false, false, false, false, false, false, false] rfl (by kernel_rfl) (by kernel_rfl) (by kernel_rfl) (by kernel_rfl) (fun _ _ _ h => h) (.inl ⟨by kernel_rfl, fun x_ hu => by go_simp⟩) hS ?_
  simp only [Act.put, List.setIfInBounds_toArray, List.set_cons_zero, List.set_cons_succ, List.getElem_toArray, List.getElem_cons_zero, List.getElem_cons_succ]
  refine any_take (i := 8) (v := (.pointer (some ⟨w.heap.size, 2, none⟩))) #[true, true, true, false, true, true, true, false, false, false, false, false, false, false, false, false, false] rfl (by kernel_rfl) (by kernel_rfl) (by kernel_rfl) (by kernel_rfl) (fun _ _ _ h => h) (.inl ⟨by kernel_rfl, fun x_ hu => by kernel_rfl⟩) hS ?_
  simp only [Act.put, List.setIfInBounds_toArray, List.set_cons_zero, List.set_cons_succ, List.getElem_toArray, List.getElem_cons_zero, List.getElem_cons_succ]
  refine any_take (i := 9) (v := (.int .u32 s)) #[true, true, true, false, true, true, true, false, true, false, false, false, false, false, false, false, false] rfl (by kernel_rfl) (by kernel_rfl) (by kernel_rfl) (by kernel_rfl) (fun _ _ _ h => h) (.inl ⟨by kernel_rfl, fun x_ hu => exec_u32 _ (.tmp 11) rfl (w.heap.size) 2 (by kernel_rfl) s (ev_load hu).2.2⟩) hS ?_
  simp only [Act.put, List.setIfInBounds_toArray, List.set_cons_zero, List.set_cons_succ, List.getElem_toArray, List.getElem_cons_zero, List.getElem_cons_succ]
  refine any_take (i := 10) (v := (.int .u64 s)) #[true, true, true, false, true, true, true, false, true, true, false, false, false, false, false, false, false] rfl (by kernel_rfl) (by kernel_rfl) (by kernel_rfl) (by kernel_rfl) (fun _ _ _ h => h) (.inl ⟨by kernel_rfl, fun x_ hu => by go_simp⟩) hS ?_
  simp only [Act.put, List.setIfInBounds_toArray, List.set_cons_zero, List.set_cons_succ, List.getElem_toArray, List.getElem_cons_zero, List.getElem_cons_succ]
  refine any_take (i := 12) (v := (.pointer (some ⟨w.heap.size, 3, none⟩))) #[true, true, true, false, true, true, true, false, true, true, true, false, false, false, false, false, false] rfl (by kernel_rfl) (by kernel_rfl) (by kernel_rfl) (by kernel_rfl) (fun _ _ _ h => h) (.inl ⟨by kernel_rfl, fun x_ hu => by kernel_rfl⟩) hS ?_
  simp only [Act.put, List.setIfInBounds_toArray, List.set_cons_zero, List.set_cons_succ, List.getElem_toArray, List.getElem_cons_zero, List.getElem_cons_succ]
  refine any_take (i := 13) (v := (.slice (some ⟨w.heap.size, 3, none⟩) 105 105)) #[true, true, true, false, true, true, true, false, true, true, true, false, true, false, false, false, false] rfl (by kernel_rfl) (by kernel_rfl) (by kernel_rfl) (by kernel_rfl) (fun _ _ _ h => h) (.inl ⟨by kernel_rfl, fun x_ hu => by kernel_rfl⟩) hS ?_
  simp only [Act.put, List.setIfInBounds_toArray, List.set_cons_zero, List.set_cons_succ, List.getElem_toArray, List.getElem_cons_zero, List.getElem_cons_succ]
  refine float_first (fun q u => Sl8 k u q) 6 (fun b_ => #[true, true, true, b_, true, true, true, false, true, true, true, false, true, true, false, false, false]) 3 7 false rfl rfl (fun _ g_ => g_.blk hS) (by kernel_rfl) (fun b_ => by cases b_ <;> rfl) ?_ ?_
  all_goals simp only [fw1, Act.put, List.setIfInBounds_toArray, List.set_cons_zero, List.set_cons_succ, List.getElem_toArray, List.getElem_cons_zero, List.getElem_cons_succ]
  · intro q_ x_ hgx K hK
    refine wpOp_step (o := _) rfl (fun K' hK' => ?_)
    replace hK' := hide hK'
    replace hK := hide hK
    refine step_val (.slice (some ⟨x_.heap.size, 0, none⟩) 1 1) (x_.alloc (.cells (kc [k]) 5 (0, 0))) (by kernel_rfl) (by kernel_rfl) ?_
    exact unhide hK' _ _ (unhide hK _ _ ((Gr.refl _).alloc _) (⟨_, rfl, blk_new _ _⟩))
  intro b1_7 q1_7 x1_7 hg hTq hall
  replace hS := hg.blk hS
  replace hG := hG.trans hg
  first | replace hl1 := hl1.gr hg | skip
  first | replace hl2 := hl2.gr hg | skip
  clear hall
  refine wpOp_step (o := _) rfl (fun K hK => ?_)
  replace hK := hide hK
  refine step_callw (by kernel_rfl) 52 #[.int .u64 a, .int .i64 ((4 : Nat) : Int)] (by kernel_rfl) ((qlow_ok a ha0 4 (by omega) x1_7).mono ?_)
  rintro r y1 ⟨v1, rfl, hO1, hg⟩
  refine ⟨_, rfl, ?_⟩
  replace hTq := fun e => Sl8.gr (hTq e) hg
  obtain ⟨a1, c1, rfl, hl1⟩ := ob_lb hO1 (lowL_isB _ _) (lowL_len _ _)
  have hS := hg.blk hS
  replace hG := hG.trans hg
  clear hO1 hg
  refine unhide hK _ _ ⟨hS, ?_⟩
  clear hK K
  simp only [Act.put, List.setIfInBounds_toArray, List.set_cons_zero, List.set_cons_succ, List.getElem_toArray, List.getElem_cons_zero, List.getElem_cons_succ]
  refine float_again (fun q u => Sl8 k u q) 6 (fun b_ => #[true, true, true, b_, true, true, true, true, true, true, true, false, true, true, false, false, false]) 3 11 false (b := b1_7) (q := q1_7) rfl rfl hTq (fun _ g_ => g_.blk hS) (by kernel_rfl) (fun b_ => by cases b_ <;> rfl) ?_ ?_
  all_goals simp only [fw1, Act.put, List.setIfInBounds_toArray, List.set_cons_zero, List.set_cons_succ, List.getElem_toArray, List.getElem_cons_zero, List.getElem_cons_succ]
  · intro q_ x_ hgx K hK
    refine wpOp_step (o := _) rfl (fun K' hK' => ?_)
    replace hK' := hide hK'
    replace hK := hide hK
    refine step_val (.slice (some ⟨x_.heap.size, 0, none⟩) 1 1) (x_.alloc (.cells (kc [k]) 5 (0, 0))) (by kernel_rfl) (by kernel_rfl) ?_
    exact unhide hK' _ _ (unhide hK _ _ ((Gr.refl _).alloc _) (⟨_, rfl, blk_new _ _⟩))
  clear hTq
  intro b1_11 q1_11 x1_11 hg hTq hall
  replace hS := hg.blk hS
  replace hG := hG.trans hg
  first | replace hl1 := hl1.gr hg | skip
  first | replace hl2 := hl2.gr hg | skip
  clear hall
  refine wpOp_step (o := _) rfl (fun K hK => ?_)
  replace hK := hide hK
  refine step_callw (by kernel_rfl) 52 #[.int .u64 s, .int .i64 ((4 : Nat) : Int)] (by kernel_rfl) ((qlow_ok s hs0 4 (by omega) x1_11).mono ?_)
  rintro r y2 ⟨v2, rfl, hO2, hg⟩
  refine ⟨_, rfl, ?_⟩
  replace hTq := fun e => Sl8.gr (hTq e) hg
  obtain ⟨a2, c2, rfl, hl2⟩ := ob_lb hO2 (lowL_isB _ _) (lowL_len _ _)
  have hS := hg.blk hS
  replace hG := hG.trans hg
  replace hl1 := hl1.gr hg
  clear hO2 hg
  refine unhide hK _ _ ⟨hS, ?_⟩
  clear hK K
  simp only [Act.put, List.setIfInBounds_toArray, List.set_cons_zero, List.set_cons_succ, List.getElem_toArray, List.getElem_cons_zero, List.getElem_cons_succ]
  refine float_again (fun q u => Sl8 k u q) 6 (fun b_ => #[true, true, true, b_, true, true, true, true, true, true, true, true, true, true, false, false, false]) 3 14 false (b := b1_11) (q := q1_11) rfl rfl hTq (fun _ g_ => g_.blk hS) (by kernel_rfl) (fun b_ => by cases b_ <;> rfl) ?_ ?_
  all_goals simp only [fw1, Act.put, List.setIfInBounds_toArray, List.set_cons_zero, List.set_cons_succ, List.getElem_toArray, List.getElem_cons_zero, List.getElem_cons_succ]
  · intro q_ x_ hgx K hK
    refine wpOp_step (o := _) rfl (fun K' hK' => ?_)
    replace hK' := hide hK'
    replace hK := hide hK
    refine step_val (.slice (some ⟨x_.heap.size, 0, none⟩) 1 1) (x_.alloc (.cells (kc [k]) 5 (0, 0))) (by kernel_rfl) (by kernel_rfl) ?_
    exact unhide hK' _ _ (unhide hK _ _ ((Gr.refl _).alloc _) (⟨_, rfl, blk_new _ _⟩))
  clear hTq
  intro b1_14 q1_14 x1_14 hg hTq hall
  replace hS := hg.blk hS
  replace hG := hG.trans hg
  first | replace hl1 := hl1.gr hg | skip
  first | replace hl2 := hl2.gr hg | skip
  clear hall
  refine wpOp_step (o := _) rfl (fun K hK => ?_)
  replace hK := hide hK
  refine step_val (.slice (some ⟨x1_14.heap.size, 0, none⟩) 3 3) (x1_14.alloc (.cells #[.slice a1 4 c1, .slice a2 4 c2, .slice (some ⟨w.heap.size, 3, none⟩) 105 105] 35 (0, 0))) (by kernel_rfl) (by kernel_rfl) ?_
  have hg := (Gr.refl x1_14).alloc (.cells #[.slice a1 4 c1, .slice a2 4 c2, .slice (some ⟨w.heap.size, 3, none⟩) 105 105] 35 (0, 0))
  have hqb : (x1_14.alloc (.cells #[.slice a1 4 c1, .slice a2 4 c2, .slice (some ⟨w.heap.size, 3, none⟩) 105 105] 35 (0, 0))).heap[x1_14.heap.size]? = some (.cells #[.slice a1 4 c1, .slice a2 4 c2, .slice (some ⟨w.heap.size, 3, none⟩) 105 105] 35 (0, 0)) := blk_new _ _
  replace hTq := fun e_ => Sl8.gr (hTq e_) hg
  have hS := hg.blk hS
  replace hG := hG.trans hg
  replace hl1 := hl1.gr hg
  replace hl2 := hl2.gr hg
  clear hg
  generalize World.alloc _ _ = y3 at *
  generalize x1_14.heap.size = hq9 at *
  refine unhide hK _ _ ⟨hS, ?_⟩
  clear hK K
  simp only [Act.put, List.setIfInBounds_toArray, List.set_cons_zero, List.set_cons_succ, List.getElem_toArray, List.getElem_cons_zero, List.getElem_cons_succ]
  refine float_again (fun q u => Sl8 k u q) 6 (fun b_ => #[true, true, true, b_, true, true, true, true, true, true, true, true, true, true, true, false, false]) 3 15 true (b := b1_14) (q := q1_14) rfl rfl hTq (fun _ g_ => g_.blk hS) (by kernel_rfl) (fun b_ => by cases b_ <;> rfl) ?_ ?_
  all_goals simp only [fw1, Act.put, List.setIfInBounds_toArray, List.set_cons_zero, List.set_cons_succ, List.getElem_toArray, List.getElem_cons_zero, List.getElem_cons_succ]
  · intro q_ x_ hgx K hK
    refine wpOp_step (o := _) rfl (fun K' hK' => ?_)
    replace hK' := hide hK'
    replace hK := hide hK
    refine step_val (.slice (some ⟨x_.heap.size, 0, none⟩) 1 1) (x_.alloc (.cells (kc [k]) 5 (0, 0))) (by kernel_rfl) (by kernel_rfl) ?_
    exact unhide hK' _ _ (unhide hK _ _ ((Gr.refl _).alloc _) (⟨_, rfl, blk_new _ _⟩))
  clear hTq
  intro b1_15 q1_15 x1_15 hg hTq hall
  replace hS := hg.blk hS
  replace hG := hG.trans hg
  first | replace hl1 := hl1.gr hg | skip
  first | replace hl2 := hl2.gr hg | skip
  replace hqb := hg.blk hqb
  obtain rfl : b1_15 = true := hall (by trivial)
  replace hTq := hTq rfl
  clear hall
  obtain ⟨h8, rfl, h8b⟩ := hTq
  refine wpOp_step (o := _) rfl (fun K hK => ?_)
  replace hK := hide hK
  refine step_callw (by kernel_rfl) 51 #[.slice (some ⟨h8, 0, none⟩) 1 1, .slice (some ⟨hq9, 0, none⟩) 3 3] (by kernel_rfl) ((qboth_ok [k] (some ⟨h8, 0, none⟩) 1 1 [lowL a 4, lowL s 4, B] (some ⟨hq9, 0, none⟩) 3 3 x1_15 (kc_lb h8b rfl (unhide hkB) (by decide)) (lq3 hqb hl1 hl2 (lb_mid hS (evl_body k a s B) rfl (unhide hbB) hlB (by omega) (by omega)) (by omega) (by omega) (by omega)) (by simp [hlB, lowL_len])).mono ?_)
  rintro r y4 ⟨v9, rfl, hO9, hg⟩
  refine ⟨_, rfl, ?_⟩
  have hZ : Hid (Infd (evB k a s B) w (.returned v9) y4) := ⟨v9, rfl, by unfold evB; simpa [List.append_assoc] using ob_base hO9 hG.size, hG.trans hg⟩
  have hS := hg.blk hS
  clear hO9 hg
  refine unhide hK _ _ ⟨hS, ?_⟩
  clear hK K
  simp only [Act.put, List.setIfInBounds_toArray, List.set_cons_zero, List.set_cons_succ, List.getElem_toArray, List.getElem_cons_zero, List.getElem_cons_succ]
  refine any_one (i := 16) (by kernel_rfl) rfl (fun K hK => ?_)
  replace hK := hide hK
  go_simp
  refine (unhide hK).out _ _ hS (fun _ => ?_)
  clear hK K
  refine any_done (by kernel_rfl) ?_
  clear hS
  go_wp2_with fail
  rw [unhide hT]
  exact unhide hZ
set_option maxHeartbeats 4000000 in
theorem qgete_ok (L : List Int) (p0 q0 c0 : Nat) (w : World) (hB0 : Lb w (some ⟨p0, q0, none⟩) 114 c0 L) : Calls Try.prog 29 #[.slice (some ⟨p0, q0, none⟩) 114 c0] w (fun r w' => r = .returned (.agg (evO L).toArray) ∧ Gr w w') := by
  obtain ⟨T, hT⟩ : ∃ T : Ending → World → Prop, T = fun r w' => r = .returned (.agg (evO L).toArray) ∧ Gr w w' := ⟨_, rfl⟩
  rw [← hT]
  replace hT := hide hT
  have hL := hB0.len
  have hcap := hB0.cap
  have hc0 := hide (fun (v : World) (g : Gr w v) => lb_cell (hB0.gr g) 0 (by omega))
  have hw1 := lb_win hB0 1 4 (by omega) (by omega)
  have hw2 := lb_win hB0 5 4 (by omega) (by omega)
  have hw3 := lb_win hB0 9 105 (by omega) (by omega)
  have hlX := sub_len (k := 9) (m := 105) hL (by omega)
  have hk9 := hB0.isB.at_ 0
  have hp9 := lowN_bd _ hw1.isB
  have hq9 := lowN_bd _ hw2.isB
  rw [hw1.len, show (256 : Int) ^ 4 = 4294967296 from by decide] at hp9
  rw [hw2.len, show (256 : Int) ^ 4 = 4294967296 from by decide] at hq9
  unfold evO at hT
  obtain ⟨P, hP⟩ : ∃ x, x = lowN ((L.drop 1).take 4) := ⟨_, rfl⟩
  obtain ⟨Q9, hQ9⟩ : ∃ x, x = lowN ((L.drop 5).take 4) := ⟨_, rfl⟩
  rw [← hP] at hp9 hT
  rw [← hQ9] at hq9 hT
  generalize L.getD 0 0 = k at *
  generalize (L.drop 9).take 105 = X at *
  have hkw : IntKind.i64.wrap k = k := by rw [IntKind.wrap_i64]; omega
  have hPw : IntKind.u32.wrap P = P := by rw [IntKind.wrap_u32]; omega
  have hQw : IntKind.u32.wrap Q9 = Q9 := by rw [IntKind.wrap_u32]; omega
  clear hp9 hq9 hk9
  replace hP := hide hP; replace hQ9 := hide hQ9; replace hw1 := hide hw1; replace hw2 := hide hw2; replace hw3 := hide hw3; replace hB0 := hide hB0
  go_enter Try.func29, Try.ntmps29
  go_upto_region 0 with fail
  refine wp_region_lit ?_
  refine list_valw (.pointer (some ⟨w.heap.size, 0, none⟩)) (w.alloc (.cells (evl 0 0 0 Z105).toArray 55 (0, 0))) (by kernel_rfl) (by kernel_rfl) ?_
  have hB := (Bl.nil w).new (evl 0 0 0 Z105).toArray 55
  simp only [List.nil_append] at hB
  generalize World.alloc _ _ = u at *
  replace hB : Bl w [⟨w.heap.size, (evl 0 0 0 Z105).toArray, 55⟩] u := hB
  simp only [Act.put, List.setIfInBounds_toArray, List.set_cons_zero, List.set_cons_succ, List.getElem_toArray, List.getElem_cons_zero, List.getElem_cons_succ]
  refine wpList_nil ?_
  replace hB := hide hB
  go_upto_region 1 with fail
  replace hB := unhide hB
  refine any_start (S := fun (v : World) => Bl w [⟨w.heap.size, (evl 0 0 0 Z105).toArray, 55⟩] v) (by kernel_rfl) ?_
  replace hB := hB.drew
  generalize World.drew _ = x0 at *
  replace hB : Bl w [⟨w.heap.size, (evl 0 0 0 Z105).toArray, 55⟩] x0 := hB
  simp only [List.size_toArray, List.length_cons, List.length_nil, Array.replicate, List.replicate]
  refine any_take (i := 0) (v := (.slice (some ⟨p0, q0, none⟩) 114 c0)) #[false, false, false, false, false, false, false, false, false, false, false, false, false, false, false] rfl (by kernel_rfl) (by kernel_rfl) (by kernel_rfl) (by kernel_rfl) (fun _ _ _ h => h) (.inl ⟨by kernel_rfl, fun x_ hu => by kernel_rfl⟩) hB ?_
  simp only [Act.put, List.setIfInBounds_toArray, List.set_cons_zero, List.set_cons_succ, List.getElem_toArray, List.getElem_cons_zero, List.getElem_cons_succ]
  refine any_take (i := 1) (v := (.pointer (some ⟨p0, q0 + 0, none⟩))) #[true, false, false, false, false, false, false, false, false, false, false, false, false, false, false] rfl (by kernel_rfl) (by kernel_rfl) (by kernel_rfl) (by kernel_rfl) (fun _ _ _ h => h) (.inl ⟨by kernel_rfl, fun x_ hu => exec_ibs _ (.tmp 4) (.const (.int .i64 0)) rfl p0 q0 114 c0 0 (by kernel_rfl) (by kernel_rfl) (by omega)⟩) hB ?_
  simp only [Act.put, List.setIfInBounds_toArray, List.set_cons_zero, List.set_cons_succ, List.getElem_toArray, List.getElem_cons_zero, List.getElem_cons_succ]
  refine any_take (i := 2) (v := (.int .u8 k)) #[true, true, false, false, false, false, false, false, false, false, false, false, false, false, false] rfl (by kernel_rfl) (by kernel_rfl) (by kernel_rfl) (by kernel_rfl) (fun _ _ _ h => h) (.inl ⟨by kernel_rfl, fun x_ hu => exec_b _ (.tmp 5) rfl p0 (q0 + 0) (by kernel_rfl) k (unhide hc0 _ hu.gr)⟩) hB ?_
  simp only [Act.put, List.setIfInBounds_toArray, List.set_cons_zero, List.set_cons_succ, List.getElem_toArray, List.getElem_cons_zero, List.getElem_cons_succ]
  refine any_take (i := 3) (v := (.int .i64 k)) #[true, true, true, false, false, false, false, false, false, false, false, false, false, false, false] rfl (by kernel_rfl) (by kernel_rfl) (by kernel_rfl) (by kernel_rfl) (fun _ _ _ h => h) (.inl ⟨by kernel_rfl, fun x_ hu => by go_simp⟩) hB ?_
  simp only [Act.put, List.setIfInBounds_toArray, List.set_cons_zero, List.set_cons_succ, List.getElem_toArray, List.getElem_cons_zero, List.getElem_cons_succ]
  refine any_take (i := 4) (v := (.slice (some ⟨p0, q0, none⟩) 114 c0)) #[true, true, true, true, false, false, false, false, false, false, false, false, false, false, false] rfl (by kernel_rfl) (by kernel_rfl) (by kernel_rfl) (by kernel_rfl) (fun _ _ _ h => h) (.inl ⟨by kernel_rfl, fun x_ hu => by kernel_rfl⟩) hB ?_
  simp only [Act.put, List.setIfInBounds_toArray, List.set_cons_zero, List.set_cons_succ, List.getElem_toArray, List.getElem_cons_zero, List.getElem_cons_succ]
  refine any_take (i := 5) (v := (.slice (some ⟨p0, q0 + 1, none⟩) 4 (c0 - 1))) #[true, true, true, true, true, false, false, false, false, false, false, false, false, false, false] rfl (by kernel_rfl) (by kernel_rfl) (by kernel_rfl) (by kernel_rfl) (fun _ _ _ h => h) (.inl ⟨by kernel_rfl, fun x_ hu => exec_winl _ (.tmp 8) (.const (.int .i64 1)) (.const (.int .i64 5)) rfl p0 q0 114 c0 1 5 4 (by kernel_rfl) (by kernel_rfl) (by kernel_rfl) rfl (by omega) (by omega)⟩) hB ?_
  simp only [Act.put, List.setIfInBounds_toArray, List.set_cons_zero, List.set_cons_succ, List.getElem_toArray, List.getElem_cons_zero, List.getElem_cons_succ]
  refine any_take (i := 8) (v := (.slice (some ⟨p0, q0, none⟩) 114 c0)) #[true, true, true, true, true, true, false, false, false, false, false, false, false, false, false] rfl (by kernel_rfl) (by kernel_rfl) (by kernel_rfl) (by kernel_rfl) (fun _ _ _ h => h) (.inl ⟨by kernel_rfl, fun x_ hu => by kernel_rfl⟩) hB ?_
  simp only [Act.put, List.setIfInBounds_toArray, List.set_cons_zero, List.set_cons_succ, List.getElem_toArray, List.getElem_cons_zero, List.getElem_cons_succ]
  refine any_take (i := 9) (v := (.slice (some ⟨p0, q0 + 5, none⟩) 4 (c0 - 5))) #[true, true, true, true, true, true, false, false, true, false, false, false, false, false, false] rfl (by kernel_rfl) (by kernel_rfl) (by kernel_rfl) (by kernel_rfl) (fun _ _ _ h => h) (.inl ⟨by kernel_rfl, fun x_ hu => exec_winl _ (.tmp 12) (.const (.int .i64 5)) (.const (.int .i64 9)) rfl p0 q0 114 c0 5 9 4 (by kernel_rfl) (by kernel_rfl) (by kernel_rfl) rfl (by omega) (by omega)⟩) hB ?_
  simp only [Act.put, List.setIfInBounds_toArray, List.set_cons_zero, List.set_cons_succ, List.getElem_toArray, List.getElem_cons_zero, List.getElem_cons_succ]
  refine float_first (fun q u => NRec (w.heap.size + 1) (evl 0 0 0 Z105).toArray 55 u q) 3 (fun b_ => #[true, true, true, true, true, true, false, false, true, true, false, false, false, b_, false]) 13 6 false rfl rfl (fun _ g_ => hB.more g_) (by kernel_rfl) (fun b_ => by cases b_ <;> rfl) ?_ ?_
  all_goals simp only [fw1, Act.put, List.setIfInBounds_toArray, List.set_cons_zero, List.set_cons_succ, List.getElem_toArray, List.getElem_cons_zero, List.getElem_cons_succ]
  · intro q_ x_ hgx K hK
    refine wpOp_step (o := _) rfl (fun K' hK' => ?_)
    replace hK' := hide hK'
    replace hK := hide hK
    refine step_val (.pointer (some ⟨x_.heap.size, 0, none⟩)) (x_.alloc (.cells (evl 0 0 0 Z105).toArray 55 (0, 0))) (by kernel_rfl) (by kernel_rfl) ?_
    exact unhide hK' _ _ (unhide hK _ _ ((Gr.refl _).alloc _) (⟨_, rfl, Nat.le_trans (Nat.succ_le_of_lt (lt_of_block (hB.get 0 (x := ⟨w.heap.size, (evl 0 0 0 Z105).toArray, 55⟩) rfl))) hgx.size, blk_new _ _⟩))
  intro b1_6 q1_6 x1_6 hg hTq hall
  replace hB := hB.more hg
  clear hall
  refine wpOp_step (o := _) rfl (fun K hK => ?_)
  replace hK := hide hK
  refine step_callw (by kernel_rfl) 56 #[.slice (some ⟨p0, q0 + 1, none⟩) 4 (c0 - 1)] (by kernel_rfl) ((qnum_ok ((L.drop 1).take 4) _ 4 (c0 - 1) (by omega) x1_6 ((unhide hw1).gr hB.gr)).mono ?_)
  rintro r y1 ⟨rfl, rfl⟩
  refine ⟨_, rfl, ?_⟩
  skip
  rw [← unhide hP]
  refine unhide hK _ _ ⟨hB, ?_⟩
  clear hK K
  simp only [Act.put, List.setIfInBounds_toArray, List.set_cons_zero, List.set_cons_succ, List.getElem_toArray, List.getElem_cons_zero, List.getElem_cons_succ]
  refine any_take (i := 7) (v := (.int .u32 P)) #[true, true, true, true, true, true, true, false, true, true, false, false, false, false, false] rfl (by kernel_rfl) (by kernel_rfl) (by kernel_rfl) (by kernel_rfl) (fun _ _ _ h => h) (.inl ⟨by kernel_rfl, fun x_ hu => by go_simp⟩) hB ?_
  simp only [Act.put, List.setIfInBounds_toArray, List.set_cons_zero, List.set_cons_succ, List.getElem_toArray, List.getElem_cons_zero, List.getElem_cons_succ]
  refine float_again (fun q u => NRec (w.heap.size + 1) (evl 0 0 0 Z105).toArray 55 u q) 3 (fun b_ => #[true, true, true, true, true, true, true, true, true, true, false, false, false, b_, false]) 13 10 false (b := b1_6) (q := q1_6) rfl rfl hTq (fun _ g_ => hB.more g_) (by kernel_rfl) (fun b_ => by cases b_ <;> rfl) ?_ ?_
  all_goals simp only [fw1, Act.put, List.setIfInBounds_toArray, List.set_cons_zero, List.set_cons_succ, List.getElem_toArray, List.getElem_cons_zero, List.getElem_cons_succ]
  · intro q_ x_ hgx K hK
    refine wpOp_step (o := _) rfl (fun K' hK' => ?_)
    replace hK' := hide hK'
    replace hK := hide hK
    refine step_val (.pointer (some ⟨x_.heap.size, 0, none⟩)) (x_.alloc (.cells (evl 0 0 0 Z105).toArray 55 (0, 0))) (by kernel_rfl) (by kernel_rfl) ?_
    exact unhide hK' _ _ (unhide hK _ _ ((Gr.refl _).alloc _) (⟨_, rfl, Nat.le_trans (Nat.succ_le_of_lt (lt_of_block (hB.get 0 (x := ⟨w.heap.size, (evl 0 0 0 Z105).toArray, 55⟩) rfl))) hgx.size, blk_new _ _⟩))
  clear hTq
  intro b1_10 q1_10 x1_10 hg hTq hall
  replace hB := hB.more hg
  clear hall
  refine wpOp_step (o := _) rfl (fun K hK => ?_)
  replace hK := hide hK
  refine step_callw (by kernel_rfl) 56 #[.slice (some ⟨p0, q0 + 5, none⟩) 4 (c0 - 5)] (by kernel_rfl) ((qnum_ok ((L.drop 5).take 4) _ 4 (c0 - 5) (by omega) x1_10 ((unhide hw2).gr hB.gr)).mono ?_)
  rintro r y2 ⟨rfl, rfl⟩
  refine ⟨_, rfl, ?_⟩
  skip
  rw [← unhide hQ9]
  refine unhide hK _ _ ⟨hB, ?_⟩
  clear hK K
  simp only [Act.put, List.setIfInBounds_toArray, List.set_cons_zero, List.set_cons_succ, List.getElem_toArray, List.getElem_cons_zero, List.getElem_cons_succ]
  refine any_take (i := 11) (v := (.int .u32 Q9)) #[true, true, true, true, true, true, true, true, true, true, true, false, false, false, false] rfl (by kernel_rfl) (by kernel_rfl) (by kernel_rfl) (by kernel_rfl) (fun _ _ _ h => h) (.inl ⟨by kernel_rfl, fun x_ hu => by go_simp⟩) hB ?_
  simp only [Act.put, List.setIfInBounds_toArray, List.set_cons_zero, List.set_cons_succ, List.getElem_toArray, List.getElem_cons_zero, List.getElem_cons_succ]
  refine any_take (i := 12) (v := (.agg (evl k P Q9 Z105).toArray)) #[true, true, true, true, true, true, true, true, true, true, true, true, false, false, false] rfl (by kernel_rfl) (by kernel_rfl) (by kernel_rfl) (by kernel_rfl) (fun _ _ _ h => h) (.inl ⟨by kernel_rfl, fun x_ hu => by kernel_rfl⟩) hB ?_
  simp only [Act.put, List.setIfInBounds_toArray, List.set_cons_zero, List.set_cons_succ, List.getElem_toArray, List.getElem_cons_zero, List.getElem_cons_succ]
  refine float_again (fun q u => NRec (w.heap.size + 1) (evl 0 0 0 Z105).toArray 55 u q) 3 (fun b_ => #[true, true, true, true, true, true, true, true, true, true, true, true, true, b_, false]) 13 14 true (b := b1_10) (q := q1_10) rfl rfl hTq (fun _ g_ => hB.more g_) (by kernel_rfl) (fun b_ => by cases b_ <;> rfl) ?_ ?_
  all_goals simp only [fw1, Act.put, List.setIfInBounds_toArray, List.set_cons_zero, List.set_cons_succ, List.getElem_toArray, List.getElem_cons_zero, List.getElem_cons_succ]
  · intro q_ x_ hgx K hK
    refine wpOp_step (o := _) rfl (fun K' hK' => ?_)
    replace hK' := hide hK'
    replace hK := hide hK
    refine step_val (.pointer (some ⟨x_.heap.size, 0, none⟩)) (x_.alloc (.cells (evl 0 0 0 Z105).toArray 55 (0, 0))) (by kernel_rfl) (by kernel_rfl) ?_
    exact unhide hK' _ _ (unhide hK _ _ ((Gr.refl _).alloc _) (⟨_, rfl, Nat.le_trans (Nat.succ_le_of_lt (lt_of_block (hB.get 0 (x := ⟨w.heap.size, (evl 0 0 0 Z105).toArray, 55⟩) rfl))) hgx.size, blk_new _ _⟩))
  clear hTq
  intro b1_14 q1_14 x1_14 hg hTq hall
  replace hB := hB.more hg
  obtain rfl : b1_14 = true := hall (by trivial)
  replace hTq := hTq rfl
  clear hall
  obtain ⟨gx, rfl, hgx1, hgb⟩ := hTq
  refine wpOp_step (o := _) rfl (fun K hK => ?_)
  replace hK := hide hK
  rw [if_pos (by kernel_rfl)]
  refine wp_store_row 55 (.tmp 3) (.tmp 16) rfl gx (evl k P Q9 Z105).toArray (by kernel_rfl) (by kernel_rfl) 55 (evl 0 0 0 Z105).toArray hgb (by rw [Try.infoE]; rfl) rfl (evl_one ..) ?_
  have hB2 := hB.add ⟨gx, (evl 0 0 0 Z105).toArray, 55⟩ hgb (show w.heap.size ≤ gx by omega) (by intro y hy; simp only [List.mem_cons, List.not_mem_nil, or_false] at hy; subst hy; show w.heap.size ≠ gx; omega)
  replace hB2 := hB2.set 1 (x := ⟨gx, (evl 0 0 0 Z105).toArray, 55⟩) rfl (evl k P Q9 Z105).toArray
  simp only [List.cons_append, List.nil_append, List.set_cons_zero, List.set_cons_succ] at hB2
  replace hB2 : Bl w [⟨w.heap.size, (evl 0 0 0 Z105).toArray, 55⟩, ⟨gx, (evl k P Q9 Z105).toArray, 55⟩] _ := hB2
  have hBl : Bl w [⟨w.heap.size, (evl 0 0 0 Z105).toArray, 55⟩] _ := Bl.left (M := [⟨gx, (evl k P Q9 Z105).toArray, 55⟩]) hB2
  clear hB hgb
  generalize World.setRow _ _ _ = x9 at *
  have hB := hB2
  clear hB2
  refine unhide hK _ _ ⟨hBl, ?_⟩
  clear hK K hBl
  simp only [Act.put, List.setIfInBounds_toArray, List.set_cons_zero, List.set_cons_succ, List.getElem_toArray, List.getElem_cons_zero, List.getElem_cons_succ]
  refine any_done (by kernel_rfl) ?_
  replace hB := hide hB
  go_upto_region 2 with fail
  replace hB := unhide hB
  refine any_start (S := fun _ => True) (by kernel_rfl) ?_
  replace hB := hB.drew
  generalize World.drew _ = z0 at *
  replace hB : Bl w [⟨w.heap.size, (evl 0 0 0 Z105).toArray, 55⟩, ⟨gx, (evl k P Q9 Z105).toArray, 55⟩] z0 := hB
  simp only [List.size_toArray, List.length_cons, List.length_nil, Array.replicate, List.replicate]
  refine any_take (i := 0) (v := (.pointer (some ⟨gx, 3, none⟩))) #[false, false, false, false, false] rfl (by kernel_rfl) (by kernel_rfl) (by kernel_rfl) (by kernel_rfl) (fun _ _ _ h => h) (.inl ⟨by kernel_rfl, fun x_ hu => by kernel_rfl⟩) trivial ?_
  simp only [Act.put, List.setIfInBounds_toArray, List.set_cons_zero, List.set_cons_succ, List.getElem_toArray, List.getElem_cons_zero, List.getElem_cons_succ]
  refine any_take (i := 1) (v := (.slice (some ⟨gx, 3, none⟩) 105 105)) #[true, false, false, false, false] rfl (by kernel_rfl) (by kernel_rfl) (by kernel_rfl) (by kernel_rfl) (fun _ _ _ h => h) (.inl ⟨by kernel_rfl, fun x_ hu => by kernel_rfl⟩) trivial ?_
  simp only [Act.put, List.setIfInBounds_toArray, List.set_cons_zero, List.set_cons_succ, List.getElem_toArray, List.getElem_cons_zero, List.getElem_cons_succ]
  refine any_take (i := 2) (v := (.slice (some ⟨p0, q0, none⟩) 114 c0)) #[true, true, false, false, false] rfl (by kernel_rfl) (by kernel_rfl) (by kernel_rfl) (by kernel_rfl) (fun _ _ _ h => h) (.inl ⟨by kernel_rfl, fun x_ hu => by kernel_rfl⟩) trivial ?_
  simp only [Act.put, List.setIfInBounds_toArray, List.set_cons_zero, List.set_cons_succ, List.getElem_toArray, List.getElem_cons_zero, List.getElem_cons_succ]
  refine any_take (i := 3) (v := (.slice (some ⟨p0, q0 + 9, none⟩) 105 (c0 - 9))) #[true, true, true, false, false] rfl (by kernel_rfl) (by kernel_rfl) (by kernel_rfl) (by kernel_rfl) (fun _ _ _ h => h) (.inl ⟨by kernel_rfl, fun x_ hu => exec_froml _ (.tmp 19) (.const (.int .i64 9)) rfl p0 q0 114 c0 9 (by kernel_rfl) (by kernel_rfl) (by omega) (by omega)⟩) trivial ?_
  simp only [Act.put, List.setIfInBounds_toArray, List.set_cons_zero, List.set_cons_succ, List.getElem_toArray, List.getElem_cons_zero, List.getElem_cons_succ]
  refine any_one (i := 4) (by kernel_rfl) rfl (fun K_ hQ => ?_)
  rw [if_pos (by kernel_rfl)]
  refine copy_wp (.tmp 18) (.tmp 20) rfl (gx) 3 105 105 (some ⟨p0, q0 + 9, none⟩) 105 (c0 - 9) (by kernel_rfl) (by kernel_rfl) (evl k P Q9 Z105) 55 (hB.get 1 (x := ⟨gx, (evl k P Q9 Z105).toArray, 55⟩) rfl) X (by rw [hlX]; exact (Nat.min_eq_right (by omega)).symm) (((unhide hw3).gr hB.gr).sl) (by rw [hlX, evl_len _ _ _ rfl]; decide) ?_
  have hcell := setCells_heap (bv X) z0 (gx) 3 (evl k P Q9 Z105) 55 (hB.get 1 (x := ⟨gx, (evl k P Q9 Z105).toArray, 55⟩) rfl)
  rw [evl_setb k P Q9 Z105 X (by rw [hlX]; rfl)] at hcell
  replace hB := hB.but (setCells_bt (bv X) z0 (gx) 3) 1 (x := ⟨gx, (evl k P Q9 Z105).toArray, 55⟩) rfl rfl hcell
  simp only [List.set_cons_zero, List.set_cons_succ] at hB
  have eb : X.map (Value.int .u8) = bv X := rfl
  rw [eb]
  generalize World.setCells _ _ _ _ = u4 at *
  replace hB : Bl w [⟨w.heap.size, (evl 0 0 0 Z105).toArray, 55⟩, ⟨gx, (evl k P Q9 X).toArray, 55⟩] u4 := hB
  rw [hlX]
  clear hcell eb
  refine hQ.out _ _ trivial (fun _ => ?_)
  clear hQ K_
  simp only [Act.put, List.setIfInBounds_toArray, List.set_cons_zero, List.set_cons_succ, List.getElem_toArray, List.getElem_cons_zero, List.getElem_cons_succ]
  refine any_done (by kernel_rfl) ?_
  replace hB := hide hB
  go_upto_region 3 with fail
  replace hB := unhide hB
  refine wp_region_lit ?_
  refine list_val (.agg (evl k P Q9 X).toArray) (by kernel_rfl) (exec_arr _ 55 (.tmp 3) rfl gx (by kernel_rfl) (evl k P Q9 X).toArray 55 _ (hB.get 1 (x := ⟨gx, (evl k P Q9 X).toArray, 55⟩) rfl) Try.underlying55 rfl (by rw [Try.infoE, List.size_toArray, evl_len _ _ _ hlX])) ?_
  simp only [Act.put, List.setIfInBounds_toArray, List.set_cons_zero, List.set_cons_succ, List.getElem_toArray, List.getElem_cons_zero, List.getElem_cons_succ]
  refine list_store 55 (.tmp 2) (.tmp 22) (w.heap.size) (evl k P Q9 X).toArray 55 (evl 0 0 0 Z105).toArray (by kernel_rfl) rfl (by kernel_rfl) (by kernel_rfl) (hB.get 0 (x := ⟨w.heap.size, (evl 0 0 0 Z105).toArray, 55⟩) rfl) (by rw [Try.infoE, List.size_toArray, evl_len _ _ _ hlX]) (by rw [List.size_toArray, List.size_toArray, evl_len _ _ _ hlX]; rfl) (evl_one ..) ?_
  replace hB := hB.set 0 (x := ⟨w.heap.size, (evl 0 0 0 Z105).toArray, 55⟩) rfl (evl k P Q9 X).toArray
  simp only [List.set_cons_zero, List.set_cons_succ] at hB
  generalize World.setRow _ _ _ = u5 at *
  replace hB : Bl w [⟨w.heap.size, (evl k P Q9 X).toArray, 55⟩, ⟨gx, (evl k P Q9 X).toArray, 55⟩] u5 := hB
  simp only [Act.put, List.setIfInBounds_toArray, List.set_cons_zero, List.set_cons_succ, List.getElem_toArray, List.getElem_cons_zero, List.getElem_cons_succ]
  refine wpList_nil ?_
  have hbk : Hid (u5.heap[w.heap.size]? = some (.cells (evl k P Q9 X).toArray 55 (0, 0))) := (hB.get 0 (x := ⟨w.heap.size, (evl k P Q9 X).toArray, 55⟩) rfl)
  have hZ : Hid (T (.returned (.agg (evl k P Q9 X).toArray)) u5) := by
    rw [unhide hT]
    exact ⟨rfl, hB.gr⟩
  clear hB
  go_wp2_with fail
  exact bodyPost_ret (v := .agg (evl k P Q9 X).toArray) (results_cell_row Try.results29 _ _ (w.heap.size) 55 (evl k P Q9 X).toArray (0, 0) _ rfl (unhide hbk) Try.underlying55 rfl (by rw [Try.infoE, List.size_toArray, evl_len _ _ _ hlX])) rfl (unhide hZ)
end Go.Proofs.Ytfmocneoffkmpaa
