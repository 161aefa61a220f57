/-
  Layer 14: the reference: packets of bytes.
-/
import Derived.Test.YtfmocneoffkmpaaFT0
import Derived.Test.YtfmocneoffkmpaaFU0
namespace Go.Proofs.Ytfmocneoffkmpaa
open Go.RowKit
set_option maxRecDepth 100000
set_option linter.unusedSimpArgs false
set_option linter.unusedVariables false
/-- what the reference reads of a packet's bytes -/
def QG (L : List Int) (g : Bool) (w : World) (r : Ending) (w' : World) : Prop := ∃ va vc, r = .returned (.tuple #[.agg (pkv L (.slice va (L.length - 11) vc)), .bool g]) ∧ Ob w.heap.size w' (.slice va (L.length - 11) vc) (L.drop 11) ∧ Gr w w'
set_option maxHeartbeats 4000000 in
theorem qgetup_ok (L : List Int) (p0 q0 m c0 : Nat) (hm1 : 11 < m) (hm2 : m ≤ 1000) (w : World) (hB0 : Lb w (some ⟨p0, q0, none⟩) m c0 L) : Calls Try.prog 46 #[.slice (some ⟨p0, q0, none⟩) m c0] w (QG L (decide (L.getD 0 0 = 2) && pkE L) w) := by
  obtain ⟨T, hT⟩ : ∃ T, T = QG L (decide (L.getD 0 0 = 2) && pkE L) w := ⟨_, rfl⟩
  rw [← hT]
  replace hT := hide hT
  have hL := hB0.len
  have hcap := hB0.cap
  have hc0 := hide (fun (v : World) (g : Gr w v) => lb_cell (hB0.gr g) 0 (by omega))
  have hc1 := hide (fun (v : World) (g : Gr w v) => lb_cell (hB0.gr g) 1 (by omega))
  have hc2 := hide (fun (v : World) (g : Gr w v) => lb_cell (hB0.gr g) 2 (by omega))
  have hw1 := lb_win hB0 3 8 (by omega) (by omega)
  have hw2 := lb_fromd hB0 11 hm1
  have h19 := hB0.isB.at_ 1
  have h29 := hB0.isB.at_ 2
  unfold QG pkv pkE at hT
  rw [hL] at hT
  obtain ⟨x3, hx3⟩ : ∃ x, x = lowN ((L.drop 3).take 8) := ⟨_, rfl⟩
  obtain ⟨B, hBe⟩ : ∃ B, B = L.drop 11 := ⟨_, rfl⟩
  rw [← hx3, ← hBe] at hT
  rw [← hBe] at hw2
  generalize L.getD 1 0 = x1 at *
  generalize L.getD 2 0 = x2 at *
  obtain ⟨x0, hx0⟩ : ∃ x, x = L.getD 0 0 := ⟨_, rfl⟩
  rw [← hx0] at hT hc0
  have hw1i : IntKind.i64.wrap x1 = x1 := by rw [IntKind.wrap_i64]; omega
  have hw2i : IntKind.i64.wrap x2 = x2 := by rw [IntKind.wrap_i64]; omega
  clear h19 h29 hx0 hBe
  replace hx3 := hide hx3; replace hw1 := hide hw1; replace hw2 := hide hw2; replace hB0 := hide hB0
  go_enter Try.func46, Try.ntmps46
  go_upto_region 1 with fail
  have hB := ((Bl.nil w).new #[.int .i64 0, .int .i64 0, .int .u64 0, .slice none 0 0] 78)
  simp only [size_alloc, List.nil_append, List.cons_append] at hB
  generalize World.alloc _ _ = u at *
  replace hB : Bl w [⟨w.heap.size, #[.int .i64 0, .int .i64 0, .int .u64 0, .slice none 0 0], 78⟩] u := hB
  refine any_start (S := fun (v : World) => Bl w [⟨w.heap.size, #[.int .i64 0, .int .i64 0, .int .u64 0, .slice none 0 0], 78⟩] v) (by kernel_rfl) ?_
  replace hB := hB.drew
  generalize World.drew _ = xs at *
  replace hB : Bl w [⟨w.heap.size, #[.int .i64 0, .int .i64 0, .int .u64 0, .slice none 0 0], 78⟩] xs := hB
  simp only [List.size_toArray, List.length_cons, List.length_nil, Array.replicate, List.replicate]
  refine any_take (i := 0) (v := (.slice (some ⟨p0, q0, none⟩) m c0)) #[false, false, false, false, false, false, false, false, false, false, false, false, false, false, false, false, false] rfl (by kernel_rfl) (by kernel_rfl) (by kernel_rfl) (by kernel_rfl) (fun _ _ _ h => h) (.inl ⟨by kernel_rfl, fun x_ hu => by kernel_rfl⟩) hB ?_
  simp only [Act.put, List.setIfInBounds_toArray, List.set_cons_zero, List.set_cons_succ, List.getElem_toArray, List.getElem_cons_zero, List.getElem_cons_succ]
  refine any_take (i := 1) (v := (.pointer (some ⟨p0, q0 + 1, none⟩))) #[true, false, false, false, false, false, false, false, false, false, false, false, false, false, false, false, false] rfl (by kernel_rfl) (by kernel_rfl) (by kernel_rfl) (by kernel_rfl) (fun _ _ _ h => h) (.inl ⟨by kernel_rfl, fun x_ hu => exec_ibs _ (.tmp 5) (.const (.int .i64 1)) rfl p0 q0 m c0 1 (by kernel_rfl) (by kernel_rfl) (by omega)⟩) hB ?_
  simp only [Act.put, List.setIfInBounds_toArray, List.set_cons_zero, List.set_cons_succ, List.getElem_toArray, List.getElem_cons_zero, List.getElem_cons_succ]
  refine any_take (i := 2) (v := (.int .u8 x1)) #[true, true, false, false, false, false, false, false, false, false, false, false, false, false, false, false, false] rfl (by kernel_rfl) (by kernel_rfl) (by kernel_rfl) (by kernel_rfl) (fun _ _ _ h => h) (.inl ⟨by kernel_rfl, fun x_ hu => exec_b _ (.tmp 6) rfl p0 (q0 + 1) (by kernel_rfl) x1 (unhide hc1 _ hu.gr)⟩) hB ?_
  simp only [Act.put, List.setIfInBounds_toArray, List.set_cons_zero, List.set_cons_succ, List.getElem_toArray, List.getElem_cons_zero, List.getElem_cons_succ]
  refine any_take (i := 3) (v := (.int .i64 x1)) #[true, true, true, false, false, false, false, false, false, false, false, false, false, false, false, false, false] rfl (by kernel_rfl) (by kernel_rfl) (by kernel_rfl) (by kernel_rfl) (fun _ _ _ h => h) (.inl ⟨by kernel_rfl, fun x_ hu => by go_simp⟩) hB ?_
  simp only [Act.put, List.setIfInBounds_toArray, List.set_cons_zero, List.set_cons_succ, List.getElem_toArray, List.getElem_cons_zero, List.getElem_cons_succ]
  refine any_take (i := 4) (v := (.slice (some ⟨p0, q0, none⟩) m c0)) #[true, true, true, true, false, false, false, false, false, false, false, false, false, false, false, false, false] rfl (by kernel_rfl) (by kernel_rfl) (by kernel_rfl) (by kernel_rfl) (fun _ _ _ h => h) (.inl ⟨by kernel_rfl, fun x_ hu => by kernel_rfl⟩) hB ?_
  simp only [Act.put, List.setIfInBounds_toArray, List.set_cons_zero, List.set_cons_succ, List.getElem_toArray, List.getElem_cons_zero, List.getElem_cons_succ]
  refine any_take (i := 5) (v := (.pointer (some ⟨p0, q0 + 2, none⟩))) #[true, true, true, true, true, false, false, false, false, false, false, false, false, false, false, false, false] rfl (by kernel_rfl) (by kernel_rfl) (by kernel_rfl) (by kernel_rfl) (fun _ _ _ h => h) (.inl ⟨by kernel_rfl, fun x_ hu => exec_ibs _ (.tmp 9) (.const (.int .i64 2)) rfl p0 q0 m c0 2 (by kernel_rfl) (by kernel_rfl) (by omega)⟩) hB ?_
  simp only [Act.put, List.setIfInBounds_toArray, List.set_cons_zero, List.set_cons_succ, List.getElem_toArray, List.getElem_cons_zero, List.getElem_cons_succ]
  refine any_take (i := 6) (v := (.int .u8 x2)) #[true, true, true, true, true, true, false, false, false, false, false, false, false, false, false, false, false] rfl (by kernel_rfl) (by kernel_rfl) (by kernel_rfl) (by kernel_rfl) (fun _ _ _ h => h) (.inl ⟨by kernel_rfl, fun x_ hu => exec_b _ (.tmp 10) rfl p0 (q0 + 2) (by kernel_rfl) x2 (unhide hc2 _ hu.gr)⟩) hB ?_
  simp only [Act.put, List.setIfInBounds_toArray, List.set_cons_zero, List.set_cons_succ, List.getElem_toArray, List.getElem_cons_zero, List.getElem_cons_succ]
  refine any_take (i := 7) (v := (.int .i64 x2)) #[true, true, true, true, true, true, true, false, false, false, false, false, false, false, false, false, false] rfl (by kernel_rfl) (by kernel_rfl) (by kernel_rfl) (by kernel_rfl) (fun _ _ _ h => h) (.inl ⟨by kernel_rfl, fun x_ hu => by go_simp⟩) hB ?_
  simp only [Act.put, List.setIfInBounds_toArray, List.set_cons_zero, List.set_cons_succ, List.getElem_toArray, List.getElem_cons_zero, List.getElem_cons_succ]
  refine any_take (i := 8) (v := (.slice (some ⟨p0, q0, none⟩) m c0)) #[true, true, true, true, true, true, true, true, false, false, false, false, false, false, false, false, false] rfl (by kernel_rfl) (by kernel_rfl) (by kernel_rfl) (by kernel_rfl) (fun _ _ _ h => h) (.inl ⟨by kernel_rfl, fun x_ hu => by kernel_rfl⟩) hB ?_
  simp only [Act.put, List.setIfInBounds_toArray, List.set_cons_zero, List.set_cons_succ, List.getElem_toArray, List.getElem_cons_zero, List.getElem_cons_succ]
  refine any_take (i := 9) (v := (.slice (some ⟨p0, q0 + 3, none⟩) 8 (c0 - 3))) #[true, true, true, true, true, true, true, true, true, false, false, false, false, false, false, false, false] rfl (by kernel_rfl) (by kernel_rfl) (by kernel_rfl) (by kernel_rfl) (fun _ _ _ h => h) (.inl ⟨by kernel_rfl, fun x_ hu => exec_winl _ (.tmp 13) (.const (.int .i64 3)) (.const (.int .i64 11)) rfl p0 q0 m c0 3 11 8 (by kernel_rfl) (by kernel_rfl) (by kernel_rfl) rfl (by omega) (by omega)⟩) hB ?_
  simp only [Act.put, List.setIfInBounds_toArray, List.set_cons_zero, List.set_cons_succ, List.getElem_toArray, List.getElem_cons_zero, List.getElem_cons_succ]
  refine any_take (i := 11) (v := (.slice (some ⟨p0, q0, none⟩) m c0)) #[true, true, true, true, true, true, true, true, true, true, false, false, false, false, false, false, false] rfl (by kernel_rfl) (by kernel_rfl) (by kernel_rfl) (by kernel_rfl) (fun _ _ _ h => h) (.inl ⟨by kernel_rfl, fun x_ hu => by kernel_rfl⟩) hB ?_
  simp only [Act.put, List.setIfInBounds_toArray, List.set_cons_zero, List.set_cons_succ, List.getElem_toArray, List.getElem_cons_zero, List.getElem_cons_succ]
  refine any_take (i := 12) (v := (.slice (some ⟨p0, q0 + 11, none⟩) (m - 11) (c0 - 11))) #[true, true, true, true, true, true, true, true, true, true, false, true, false, false, false, false, false] rfl (by kernel_rfl) (by kernel_rfl) (by kernel_rfl) (by kernel_rfl) (fun _ _ _ h => h) (.inl ⟨by kernel_rfl, fun x_ hu => exec_froml _ (.tmp 16) (.const (.int .i64 11)) rfl p0 q0 m c0 11 (by kernel_rfl) (by kernel_rfl) (by omega) (by omega)⟩) hB ?_
  simp only [Act.put, List.setIfInBounds_toArray, List.set_cons_zero, List.set_cons_succ, List.getElem_toArray, List.getElem_cons_zero, List.getElem_cons_succ]
  refine float_first (fun q u => NRec (w.heap.size + 1) #[.int .i64 0, .int .i64 0, .int .u64 0, .slice none 0 0] 78 u q) 4 (fun b_ => #[true, true, true, true, true, true, true, true, true, true, false, true, true, false, false, b_, false]) 15 10 false rfl rfl (fun _ g_ => hB.more g_) (by kernel_rfl) (fun b_ => by cases b_ <;> rfl) ?_ ?_
  all_goals simp only [fw1, Act.put, List.setIfInBounds_toArray, List.set_cons_zero, List.set_cons_succ, List.getElem_toArray, List.getElem_cons_zero, List.getElem_cons_succ]
  · intro q_ x_ hgx K hK
    refine wpOp_step (o := _) rfl (fun K' hK' => ?_)
    replace hK' := hide hK'
    replace hK := hide hK
    refine step_val (.pointer (some ⟨x_.heap.size, 0, none⟩)) (x_.alloc (.cells #[.int .i64 0, .int .i64 0, .int .u64 0, .slice none 0 0] 78 (0, 0))) (by kernel_rfl) (by kernel_rfl) ?_
    exact unhide hK' _ _ (unhide hK _ _ ((Gr.refl _).alloc _) (⟨_, rfl, Nat.le_trans (Nat.succ_le_of_lt (lt_of_block (hB.get 0 (x := ⟨w.heap.size, #[.int .i64 0, .int .i64 0, .int .u64 0, .slice none 0 0], 78⟩) rfl))) hgx.size, blk_new _ _⟩))
  intro b1_10 q1_10 x1_10 hg hTq hall
  replace hB := hB.more hg
  first | replace hO := hO.gr hg | skip
  clear hall
  refine wpOp_step (o := _) rfl (fun K hK => ?_)
  replace hK := hide hK
  refine step_callw (by kernel_rfl) 56 #[.slice (some ⟨p0, q0 + 3, none⟩) 8 (c0 - 3)] (by kernel_rfl) ((qnum_ok ((L.drop 3).take 8) _ 8 (c0 - 3) (by omega) x1_10 ((unhide hw1).gr hB.gr)).mono ?_)
  rintro r y1 ⟨rfl, rfl⟩
  refine ⟨_, rfl, ?_⟩
  skip
  rw [← unhide hx3]
  refine unhide hK _ _ ⟨hB, ?_⟩
  clear hK K
  simp only [Act.put, List.setIfInBounds_toArray, List.set_cons_zero, List.set_cons_succ, List.getElem_toArray, List.getElem_cons_zero, List.getElem_cons_succ]
  refine float_again (fun q u => NRec (w.heap.size + 1) #[.int .i64 0, .int .i64 0, .int .u64 0, .slice none 0 0] 78 u q) 4 (fun b_ => #[true, true, true, true, true, true, true, true, true, true, true, true, true, false, false, b_, false]) 15 13 false (b := b1_10) (q := q1_10) rfl rfl hTq (fun _ g_ => hB.more g_) (by kernel_rfl) (fun b_ => by cases b_ <;> rfl) ?_ ?_
  all_goals simp only [fw1, Act.put, List.setIfInBounds_toArray, List.set_cons_zero, List.set_cons_succ, List.getElem_toArray, List.getElem_cons_zero, List.getElem_cons_succ]
  · intro q_ x_ hgx K hK
    refine wpOp_step (o := _) rfl (fun K' hK' => ?_)
    replace hK' := hide hK'
    replace hK := hide hK
    refine step_val (.pointer (some ⟨x_.heap.size, 0, none⟩)) (x_.alloc (.cells #[.int .i64 0, .int .i64 0, .int .u64 0, .slice none 0 0] 78 (0, 0))) (by kernel_rfl) (by kernel_rfl) ?_
    exact unhide hK' _ _ (unhide hK _ _ ((Gr.refl _).alloc _) (⟨_, rfl, Nat.le_trans (Nat.succ_le_of_lt (lt_of_block (hB.get 0 (x := ⟨w.heap.size, #[.int .i64 0, .int .i64 0, .int .u64 0, .slice none 0 0], 78⟩) rfl))) hgx.size, blk_new _ _⟩))
  clear hTq
  intro b1_13 q1_13 x1_13 hg hTq hall
  replace hB := hB.more hg
  first | replace hO := hO.gr hg | skip
  clear hall
  refine wpOp_step (o := _) rfl (fun K hK => ?_)
  replace hK := hide hK
  refine step_callw (by kernel_rfl) 51 #[.slice (some ⟨p0, q0 + 11, none⟩) (m - 11) (c0 - 11), .slice none 0 0] (by kernel_rfl) ((qboth_ok B (some ⟨p0, q0 + 11, none⟩) (m - 11) (c0 - 11) [] none 0 0 x1_13 ((unhide hw2).gr hB.gr) ⟨rfl, .inl rfl, Nat.le_refl _, by decide⟩ (by rw [(unhide hw2).len]; simp; omega)).mono ?_)
  rintro r y2 ⟨v2, rfl, hO, hg⟩
  refine ⟨_, rfl, ?_⟩
  replace hTq := fun e => NRec.gr (hTq e) hg
  rw [List.flatten_nil, List.append_nil] at hO
  replace hO := ob_base hO hB.gr.size
  obtain ⟨va, vc, rfl, _⟩ := ob_lb hO (unhide hw2).isB (n := m - 11) (unhide hw2).len
  replace hB := hB.more hg
  clear hg
  refine unhide hK _ _ ⟨hB, ?_⟩
  clear hK K
  simp only [Act.put, List.setIfInBounds_toArray, List.set_cons_zero, List.set_cons_succ, List.getElem_toArray, List.getElem_cons_zero, List.getElem_cons_succ]
  refine any_take (i := 14) (v := (.agg #[.int .i64 x1, .int .i64 x2, .int .u64 x3, .slice va (m - 11) vc])) #[true, true, true, true, true, true, true, true, true, true, true, true, true, true, false, false, false] rfl (by kernel_rfl) (by kernel_rfl) (by kernel_rfl) (by kernel_rfl) (fun _ _ _ h => h) (.inl ⟨by kernel_rfl, fun x_ hu => by kernel_rfl⟩) hB ?_
  simp only [Act.put, List.setIfInBounds_toArray, List.set_cons_zero, List.set_cons_succ, List.getElem_toArray, List.getElem_cons_zero, List.getElem_cons_succ]
  refine float_again (fun q u => NRec (w.heap.size + 1) #[.int .i64 0, .int .i64 0, .int .u64 0, .slice none 0 0] 78 u q) 4 (fun b_ => #[true, true, true, true, true, true, true, true, true, true, true, true, true, true, true, b_, false]) 15 16 true (b := b1_13) (q := q1_13) rfl rfl hTq (fun _ g_ => hB.more g_) (by kernel_rfl) (fun b_ => by cases b_ <;> rfl) ?_ ?_
  all_goals simp only [fw1, Act.put, List.setIfInBounds_toArray, List.set_cons_zero, List.set_cons_succ, List.getElem_toArray, List.getElem_cons_zero, List.getElem_cons_succ]
  · intro q_ x_ hgx K hK
    refine wpOp_step (o := _) rfl (fun K' hK' => ?_)
    replace hK' := hide hK'
    replace hK := hide hK
    refine step_val (.pointer (some ⟨x_.heap.size, 0, none⟩)) (x_.alloc (.cells #[.int .i64 0, .int .i64 0, .int .u64 0, .slice none 0 0] 78 (0, 0))) (by kernel_rfl) (by kernel_rfl) ?_
    exact unhide hK' _ _ (unhide hK _ _ ((Gr.refl _).alloc _) (⟨_, rfl, Nat.le_trans (Nat.succ_le_of_lt (lt_of_block (hB.get 0 (x := ⟨w.heap.size, #[.int .i64 0, .int .i64 0, .int .u64 0, .slice none 0 0], 78⟩) rfl))) hgx.size, blk_new _ _⟩))
  clear hTq
  intro b1_16 q1_16 x1_16 hg hTq hall
  replace hB := hB.more hg
  first | replace hO := hO.gr hg | skip
  obtain rfl : b1_16 = true := hall (by trivial)
  replace hTq := hTq rfl
  clear hall
  obtain ⟨gx, rfl, hgx1, hgb⟩ := hTq
  refine wpOp_step (o := _) rfl (fun K hK => ?_)
  replace hK := hide hK
  rw [if_pos (by kernel_rfl)]
  refine wp_store_row 78 (.tmp 4) (.tmp 19) rfl gx #[.int .i64 x1, .int .i64 x2, .int .u64 x3, .slice va (m - 11) vc] (by kernel_rfl) (by kernel_rfl) 78 #[.int .i64 0, .int .i64 0, .int .u64 0, .slice none 0 0] hgb (by rw [Try.infoU]; rfl) rfl (by simp [Value.oneCell']) ?_
  replace hO := ob_bt hO hgb (by decide) (setRow_bt x1_16 gx #[.int .i64 x1, .int .i64 x2, .int .u64 x3, .slice va (m - 11) vc])
  have hB2 := hB.add ⟨gx, #[.int .i64 0, .int .i64 0, .int .u64 0, .slice none 0 0], 78⟩ hgb (show w.heap.size ≤ gx by omega) (by intro y hy; simp only [List.mem_cons, List.not_mem_nil, or_false] at hy; subst hy; show w.heap.size ≠ gx; omega)
  replace hB2 := hB2.set 1 (x := ⟨gx, #[.int .i64 0, .int .i64 0, .int .u64 0, .slice none 0 0], 78⟩) rfl #[.int .i64 x1, .int .i64 x2, .int .u64 x3, .slice va (m - 11) vc]
  simp only [List.cons_append, List.nil_append, List.set_cons_zero, List.set_cons_succ] at hB2
  replace hB2 : Bl w [⟨w.heap.size, #[.int .i64 0, .int .i64 0, .int .u64 0, .slice none 0 0], 78⟩, ⟨gx, #[.int .i64 x1, .int .i64 x2, .int .u64 x3, .slice va (m - 11) vc], 78⟩] _ := hB2
  have hBl : Bl w [⟨w.heap.size, #[.int .i64 0, .int .i64 0, .int .u64 0, .slice none 0 0], 78⟩] _ := Bl.left (M := [⟨gx, #[.int .i64 x1, .int .i64 x2, .int .u64 x3, .slice va (m - 11) vc], 78⟩]) hB2
  clear hB hgb
  generalize World.setRow _ _ _ = x9 at *
  have hB := hB2
  clear hB2
  refine unhide hK _ _ ⟨hBl, ?_⟩
  clear hK K hBl
  simp only [Act.put, List.setIfInBounds_toArray, List.set_cons_zero, List.set_cons_succ, List.getElem_toArray, List.getElem_cons_zero, List.getElem_cons_succ]
  refine any_done (by kernel_rfl) ?_
  replace hO := hide hO
  by_cases hF : x0 = 2
  · skip
    subst hF
    generalize hz : ends x1 x2 x3 = z at hT
    have e9 : (decide ((2 : Int) = 2) && z) = z := by simp
    rw [e9] at hT
    clear e9
    replace hB := hide hB
    go_upto_region 2 with fail
    replace hB := unhide hB
    refine any_start (S := fun (v : World) => v.heap[gx]? = some (.cells #[.int .i64 x1, .int .i64 x2, .int .u64 x3, .slice va (m - 11) vc] 78 (0, 0)) ∧ Gr w v) (by kernel_rfl) ?_
    replace hO := hide ((unhide hO).gr (Gr.refl _).drew)
    replace hB := hB.drew
    generalize World.drew _ = u4 at *
    replace hB : Bl w [⟨w.heap.size, #[.int .i64 0, .int .i64 0, .int .u64 0, .slice none 0 0], 78⟩, ⟨gx, #[.int .i64 x1, .int .i64 x2, .int .u64 x3, .slice va (m - 11) vc], 78⟩] u4 := hB
    simp only [List.size_toArray, List.length_cons, List.length_nil, Array.replicate, List.replicate]
    refine any_take (i := 0) (v := (.agg #[.int .i64 x1, .int .i64 x2, .int .u64 x3, .slice va (m - 11) vc])) #[false, false, false, false, false, false, false, false, false, false, false, false, false, false, false, false] rfl (by kernel_rfl) (by kernel_rfl) (by kernel_rfl) (by kernel_rfl) (fun _ _ _ h => h) (.inl ⟨by kernel_rfl, fun x_ hu => exec_arr _ 78 (.tmp 4) rfl gx (by kernel_rfl) #[.int .i64 x1, .int .i64 x2, .int .u64 x3, .slice va (m - 11) vc] 78 _ hu.1 Try.underlying78 rfl (by rw [Try.infoU]; rfl)⟩) ⟨(hB.get 1 (x := ⟨gx, #[.int .i64 x1, .int .i64 x2, .int .u64 x3, .slice va (m - 11) vc], 78⟩) rfl), hB.gr⟩ ?_
    simp only [Act.put, List.setIfInBounds_toArray, List.set_cons_zero, List.set_cons_succ, List.getElem_toArray, List.getElem_cons_zero, List.getElem_cons_succ]
    refine any_take (i := 1) (v := (.slice (some ⟨p0, q0, none⟩) m c0)) #[true, false, false, false, false, false, false, false, false, false, false, false, false, false, false, false] rfl (by kernel_rfl) (by kernel_rfl) (by kernel_rfl) (by kernel_rfl) (fun _ _ _ h => h) (.inl ⟨by kernel_rfl, fun x_ hu => by kernel_rfl⟩) ⟨(hB.get 1 (x := ⟨gx, #[.int .i64 x1, .int .i64 x2, .int .u64 x3, .slice va (m - 11) vc], 78⟩) rfl), hB.gr⟩ ?_
    simp only [Act.put, List.setIfInBounds_toArray, List.set_cons_zero, List.set_cons_succ, List.getElem_toArray, List.getElem_cons_zero, List.getElem_cons_succ]
    refine any_take (i := 2) (v := (.pointer (some ⟨p0, q0 + 0, none⟩))) #[true, true, false, false, false, false, false, false, false, false, false, false, false, false, false, false] rfl (by kernel_rfl) (by kernel_rfl) (by kernel_rfl) (by kernel_rfl) (fun _ _ _ h => h) (.inl ⟨by kernel_rfl, fun x_ hu => exec_ibs _ (.tmp 21) (.const (.int .i64 0)) rfl p0 q0 m c0 0 (by kernel_rfl) (by kernel_rfl) (by omega)⟩) ⟨(hB.get 1 (x := ⟨gx, #[.int .i64 x1, .int .i64 x2, .int .u64 x3, .slice va (m - 11) vc], 78⟩) rfl), hB.gr⟩ ?_
    simp only [Act.put, List.setIfInBounds_toArray, List.set_cons_zero, List.set_cons_succ, List.getElem_toArray, List.getElem_cons_zero, List.getElem_cons_succ]
    refine any_take (i := 3) (v := (.int .u8 2)) #[true, true, true, false, false, false, false, false, false, false, false, false, false, false, false, false] rfl (by kernel_rfl) (by kernel_rfl) (by kernel_rfl) (by kernel_rfl) (fun _ _ _ h => h) (.inl ⟨by kernel_rfl, fun x_ hu => exec_b _ (.tmp 22) rfl p0 (q0 + 0) (by kernel_rfl) 2 (unhide hc0 _ hu.2)⟩) ⟨(hB.get 1 (x := ⟨gx, #[.int .i64 x1, .int .i64 x2, .int .u64 x3, .slice va (m - 11) vc], 78⟩) rfl), hB.gr⟩ ?_
    simp only [Act.put, List.setIfInBounds_toArray, List.set_cons_zero, List.set_cons_succ, List.getElem_toArray, List.getElem_cons_zero, List.getElem_cons_succ]
    refine any_take (i := 4) (v := (.bool true)) #[true, true, true, true, false, false, false, false, false, false, false, false, false, false, false, false] rfl (by kernel_rfl) (by kernel_rfl) (by kernel_rfl) (by kernel_rfl) (fun _ _ _ h => h) (.inl ⟨by kernel_rfl, fun x_ hu => by kernel_rfl⟩) ⟨(hB.get 1 (x := ⟨gx, #[.int .i64 x1, .int .i64 x2, .int .u64 x3, .slice va (m - 11) vc], 78⟩) rfl), hB.gr⟩ ?_
    simp only [Act.put, List.setIfInBounds_toArray, List.set_cons_zero, List.set_cons_succ, List.getElem_toArray, List.getElem_cons_zero, List.getElem_cons_succ]
    refine any_take (i := 5) (v := (.bool true)) #[true, true, true, true, true, false, false, false, false, false, false, false, false, false, false, false] rfl (by kernel_rfl) (by kernel_rfl) (by kernel_rfl) (by kernel_rfl) (fun _ _ _ h => h) (.inl ⟨by kernel_rfl, fun x_ hu => by kernel_rfl⟩) ⟨(hB.get 1 (x := ⟨gx, #[.int .i64 x1, .int .i64 x2, .int .u64 x3, .slice va (m - 11) vc], 78⟩) rfl), hB.gr⟩ ?_
    simp only [Act.put, List.setIfInBounds_toArray, List.set_cons_zero, List.set_cons_succ, List.getElem_toArray, List.getElem_cons_zero, List.getElem_cons_succ]
    refine any_take (i := 6) (v := (.pointer (some ⟨gx, 0, none⟩))) #[true, true, true, true, true, true, false, false, false, false, false, false, false, false, false, false] rfl (by kernel_rfl) (by kernel_rfl) (by kernel_rfl) (by kernel_rfl) (fun _ _ _ h => h) (.inl ⟨by kernel_rfl, fun x_ hu => by kernel_rfl⟩) ⟨(hB.get 1 (x := ⟨gx, #[.int .i64 x1, .int .i64 x2, .int .u64 x3, .slice va (m - 11) vc], 78⟩) rfl), hB.gr⟩ ?_
    simp only [Act.put, List.setIfInBounds_toArray, List.set_cons_zero, List.set_cons_succ, List.getElem_toArray, List.getElem_cons_zero, List.getElem_cons_succ]
    refine any_take (i := 7) (v := (.int .i64 x1)) #[true, true, true, true, true, true, true, false, false, false, false, false, false, false, false, false] rfl (by kernel_rfl) (by kernel_rfl) (by kernel_rfl) (by kernel_rfl) (fun _ _ _ h => h) (.inl ⟨by kernel_rfl, fun x_ hu => exec_i64 _ (.tmp 26) rfl gx 0 (by kernel_rfl) x1 (cell_of hu.1 (i := 0) rfl)⟩) ⟨(hB.get 1 (x := ⟨gx, #[.int .i64 x1, .int .i64 x2, .int .u64 x3, .slice va (m - 11) vc], 78⟩) rfl), hB.gr⟩ ?_
    simp only [Act.put, List.setIfInBounds_toArray, List.set_cons_zero, List.set_cons_succ, List.getElem_toArray, List.getElem_cons_zero, List.getElem_cons_succ]
    refine any_take (i := 8) (v := (.pointer (some ⟨gx, 1, none⟩))) #[true, true, true, true, true, true, true, true, false, false, false, false, false, false, false, false] rfl (by kernel_rfl) (by kernel_rfl) (by kernel_rfl) (by kernel_rfl) (fun _ _ _ h => h) (.inl ⟨by kernel_rfl, fun x_ hu => by kernel_rfl⟩) ⟨(hB.get 1 (x := ⟨gx, #[.int .i64 x1, .int .i64 x2, .int .u64 x3, .slice va (m - 11) vc], 78⟩) rfl), hB.gr⟩ ?_
    simp only [Act.put, List.setIfInBounds_toArray, List.set_cons_zero, List.set_cons_succ, List.getElem_toArray, List.getElem_cons_zero, List.getElem_cons_succ]
    refine any_take (i := 9) (v := (.int .i64 x2)) #[true, true, true, true, true, true, true, true, true, false, false, false, false, false, false, false] rfl (by kernel_rfl) (by kernel_rfl) (by kernel_rfl) (by kernel_rfl) (fun _ _ _ h => h) (.inl ⟨by kernel_rfl, fun x_ hu => exec_i64 _ (.tmp 28) rfl gx 1 (by kernel_rfl) x2 (cell_of hu.1 (i := 1) rfl)⟩) ⟨(hB.get 1 (x := ⟨gx, #[.int .i64 x1, .int .i64 x2, .int .u64 x3, .slice va (m - 11) vc], 78⟩) rfl), hB.gr⟩ ?_
    simp only [Act.put, List.setIfInBounds_toArray, List.set_cons_zero, List.set_cons_succ, List.getElem_toArray, List.getElem_cons_zero, List.getElem_cons_succ]
    refine any_take (i := 10) (v := (.pointer (some ⟨gx, 2, none⟩))) #[true, true, true, true, true, true, true, true, true, true, false, false, false, false, false, false] rfl (by kernel_rfl) (by kernel_rfl) (by kernel_rfl) (by kernel_rfl) (fun _ _ _ h => h) (.inl ⟨by kernel_rfl, fun x_ hu => by kernel_rfl⟩) ⟨(hB.get 1 (x := ⟨gx, #[.int .i64 x1, .int .i64 x2, .int .u64 x3, .slice va (m - 11) vc], 78⟩) rfl), hB.gr⟩ ?_
    simp only [Act.put, List.setIfInBounds_toArray, List.set_cons_zero, List.set_cons_succ, List.getElem_toArray, List.getElem_cons_zero, List.getElem_cons_succ]
    refine any_take (i := 11) (v := (.int .u64 x3)) #[true, true, true, true, true, true, true, true, true, true, true, false, false, false, false, false] rfl (by kernel_rfl) (by kernel_rfl) (by kernel_rfl) (by kernel_rfl) (fun _ _ _ h => h) (.inl ⟨by kernel_rfl, fun x_ hu => exec_u64 _ (.tmp 30) rfl gx 2 (by kernel_rfl) x3 (cell_of hu.1 (i := 2) rfl)⟩) ⟨(hB.get 1 (x := ⟨gx, #[.int .i64 x1, .int .i64 x2, .int .u64 x3, .slice va (m - 11) vc], 78⟩) rfl), hB.gr⟩ ?_
    simp only [Act.put, List.setIfInBounds_toArray, List.set_cons_zero, List.set_cons_succ, List.getElem_toArray, List.getElem_cons_zero, List.getElem_cons_succ]
    refine any_one (i := 12) (by kernel_rfl) rfl (fun K hK => ?_)
    refine step_callw (by kernel_rfl) 38 #[.int .i64 x1, .int .i64 x2, .int .u64 x3] (by kernel_rfl) ((qends_ok x1 x2 x3 _).mono ?_)
    rintro r y3 ⟨rfl, rfl⟩
    refine ⟨_, rfl, ?_⟩
    rw [hz]
    refine hK.out _ _ ⟨(hB.get 1 (x := ⟨gx, #[.int .i64 x1, .int .i64 x2, .int .u64 x3, .slice va (m - 11) vc], 78⟩) rfl), hB.gr⟩ (fun _ => ?_)
    clear hK K
    simp only [Act.put, List.setIfInBounds_toArray, List.set_cons_zero, List.set_cons_succ, List.getElem_toArray, List.getElem_cons_zero, List.getElem_cons_succ]
    refine any_take (i := 13) (v := (.bool z)) #[true, true, true, true, true, true, true, true, true, true, true, true, true, false, false, false] rfl (by kernel_rfl) (by kernel_rfl) (by kernel_rfl) (by kernel_rfl) (fun _ _ _ h => h) (.inl ⟨by kernel_rfl, fun x_ hu => by kernel_rfl⟩) ⟨(hB.get 1 (x := ⟨gx, #[.int .i64 x1, .int .i64 x2, .int .u64 x3, .slice va (m - 11) vc], 78⟩) rfl), hB.gr⟩ ?_
    simp only [Act.put, List.setIfInBounds_toArray, List.set_cons_zero, List.set_cons_succ, List.getElem_toArray, List.getElem_cons_zero, List.getElem_cons_succ]
    refine any_one (i := 14) (by kernel_rfl) rfl (fun K hK => ?_)
    rw [if_pos (by kernel_rfl)]
    refine wp_store_row 78 (.tmp 2) (.tmp 20) rfl (w.heap.size) #[.int .i64 x1, .int .i64 x2, .int .u64 x3, .slice va (m - 11) vc] (by kernel_rfl) (by kernel_rfl) 78 #[.int .i64 0, .int .i64 0, .int .u64 0, .slice none 0 0] (hB.get 0 (x := ⟨w.heap.size, #[.int .i64 0, .int .i64 0, .int .u64 0, .slice none 0 0], 78⟩) rfl) (by rw [Try.infoU]; rfl) rfl (by simp [Value.oneCell']) ?_
    replace hO := hide (ob_bt (unhide hO) (hB.get 0 (x := ⟨w.heap.size, #[.int .i64 0, .int .i64 0, .int .u64 0, .slice none 0 0], 78⟩) rfl) (show (78 : TypeId) ≠ 5 by decide) (setRow_bt _ (w.heap.size) #[.int .i64 x1, .int .i64 x2, .int .u64 x3, .slice va (m - 11) vc]))
    replace hB := hB.set 0 (x := ⟨w.heap.size, #[.int .i64 0, .int .i64 0, .int .u64 0, .slice none 0 0], 78⟩) rfl #[.int .i64 x1, .int .i64 x2, .int .u64 x3, .slice va (m - 11) vc]
    simp only [List.set_cons_zero, List.set_cons_succ] at hB
    generalize World.setRow _ _ _ = u5 at *
    replace hB : Bl w [⟨w.heap.size, #[.int .i64 x1, .int .i64 x2, .int .u64 x3, .slice va (m - 11) vc], 78⟩, ⟨gx, #[.int .i64 x1, .int .i64 x2, .int .u64 x3, .slice va (m - 11) vc], 78⟩] u5 := hB
    refine hK.out _ _ ⟨(hB.get 1 (x := ⟨gx, #[.int .i64 x1, .int .i64 x2, .int .u64 x3, .slice va (m - 11) vc], 78⟩) rfl), hB.gr⟩ (fun _ => ?_)
    clear hK K
    simp only [Act.put, List.setIfInBounds_toArray, List.set_cons_zero, List.set_cons_succ, List.getElem_toArray, List.getElem_cons_zero, List.getElem_cons_succ]
    refine any_one (i := 15) (by kernel_rfl) rfl (fun K hK => ?_)
    replace hK := hide hK
    go_simp
    refine (unhide hK).out _ _ ⟨(hB.get 1 (x := ⟨gx, #[.int .i64 x1, .int .i64 x2, .int .u64 x3, .slice va (m - 11) vc], 78⟩) rfl), hB.gr⟩ (fun _ => ?_)
    clear hK K
    refine any_done (by kernel_rfl) ?_
    have hbk : Hid (u5.heap[w.heap.size]? = some (.cells #[.int .i64 x1, .int .i64 x2, .int .u64 x3, .slice va (m - 11) vc] 78 (0, 0))) := (hB.get 0 (x := ⟨w.heap.size, #[.int .i64 x1, .int .i64 x2, .int .u64 x3, .slice va (m - 11) vc], 78⟩) rfl)
    have hP : Hid (T (.returned (.tuple #[.agg #[.int .i64 x1, .int .i64 x2, .int .u64 x3, .slice va (m - 11) vc], .bool z])) u5) := by
      rw [unhide hT]
      exact ⟨va, vc, rfl, unhide hO, hB.gr⟩
    clear hB
    go_wp2_with fail
    exact bodyPost_ret (v := .tuple #[.agg #[.int .i64 x1, .int .i64 x2, .int .u64 x3, .slice va (m - 11) vc], .bool z]) (results_cell_tmp Try.results46 _ _ (w.heap.size) 78 #[.int .i64 x1, .int .i64 x2, .int .u64 x3, .slice va (m - 11) vc] (0, 0) _ rfl (.bool z) rfl (unhide hbk) Try.underlying78 rfl (by rw [Try.infoU]; rfl)) rfl (unhide hP)
  · skip
    have e9 : (decide (x0 = 2) && ends x1 x2 x3) = false := by simp [hF]
    rw [e9] at hT
    clear e9
    replace hB := hide hB
    go_upto_region 2 with fail
    replace hB := unhide hB
    refine any_start (S := fun (v : World) => v.heap[gx]? = some (.cells #[.int .i64 x1, .int .i64 x2, .int .u64 x3, .slice va (m - 11) vc] 78 (0, 0)) ∧ Gr w v) (by kernel_rfl) ?_
    replace hO := hide ((unhide hO).gr (Gr.refl _).drew)
    replace hB := hB.drew
    generalize World.drew _ = u4 at *
    replace hB : Bl w [⟨w.heap.size, #[.int .i64 0, .int .i64 0, .int .u64 0, .slice none 0 0], 78⟩, ⟨gx, #[.int .i64 x1, .int .i64 x2, .int .u64 x3, .slice va (m - 11) vc], 78⟩] u4 := hB
    simp only [List.size_toArray, List.length_cons, List.length_nil, Array.replicate, List.replicate]
    refine any_take (i := 0) (v := (.agg #[.int .i64 x1, .int .i64 x2, .int .u64 x3, .slice va (m - 11) vc])) #[false, false, false, false, false, false, false, false, false, false, false, false, false, false, false, false] rfl (by kernel_rfl) (by kernel_rfl) (by kernel_rfl) (by kernel_rfl) (fun _ _ _ h => h) (.inl ⟨by kernel_rfl, fun x_ hu => exec_arr _ 78 (.tmp 4) rfl gx (by kernel_rfl) #[.int .i64 x1, .int .i64 x2, .int .u64 x3, .slice va (m - 11) vc] 78 _ hu.1 Try.underlying78 rfl (by rw [Try.infoU]; rfl)⟩) ⟨(hB.get 1 (x := ⟨gx, #[.int .i64 x1, .int .i64 x2, .int .u64 x3, .slice va (m - 11) vc], 78⟩) rfl), hB.gr⟩ ?_
    simp only [Act.put, List.setIfInBounds_toArray, List.set_cons_zero, List.set_cons_succ, List.getElem_toArray, List.getElem_cons_zero, List.getElem_cons_succ]
    refine any_take (i := 1) (v := (.slice (some ⟨p0, q0, none⟩) m c0)) #[true, false, false, false, false, false, false, false, false, false, false, false, false, false, false, false] rfl (by kernel_rfl) (by kernel_rfl) (by kernel_rfl) (by kernel_rfl) (fun _ _ _ h => h) (.inl ⟨by kernel_rfl, fun x_ hu => by kernel_rfl⟩) ⟨(hB.get 1 (x := ⟨gx, #[.int .i64 x1, .int .i64 x2, .int .u64 x3, .slice va (m - 11) vc], 78⟩) rfl), hB.gr⟩ ?_
    simp only [Act.put, List.setIfInBounds_toArray, List.set_cons_zero, List.set_cons_succ, List.getElem_toArray, List.getElem_cons_zero, List.getElem_cons_succ]
    refine any_take (i := 2) (v := (.pointer (some ⟨p0, q0 + 0, none⟩))) #[true, true, false, false, false, false, false, false, false, false, false, false, false, false, false, false] rfl (by kernel_rfl) (by kernel_rfl) (by kernel_rfl) (by kernel_rfl) (fun _ _ _ h => h) (.inl ⟨by kernel_rfl, fun x_ hu => exec_ibs _ (.tmp 21) (.const (.int .i64 0)) rfl p0 q0 m c0 0 (by kernel_rfl) (by kernel_rfl) (by omega)⟩) ⟨(hB.get 1 (x := ⟨gx, #[.int .i64 x1, .int .i64 x2, .int .u64 x3, .slice va (m - 11) vc], 78⟩) rfl), hB.gr⟩ ?_
    simp only [Act.put, List.setIfInBounds_toArray, List.set_cons_zero, List.set_cons_succ, List.getElem_toArray, List.getElem_cons_zero, List.getElem_cons_succ]
    refine any_take (i := 3) (v := (.int .u8 x0)) #[true, true, true, false, false, false, false, false, false, false, false, false, false, false, false, false] rfl (by kernel_rfl) (by kernel_rfl) (by kernel_rfl) (by kernel_rfl) (fun _ _ _ h => h) (.inl ⟨by kernel_rfl, fun x_ hu => exec_b _ (.tmp 22) rfl p0 (q0 + 0) (by kernel_rfl) x0 (unhide hc0 _ hu.2)⟩) ⟨(hB.get 1 (x := ⟨gx, #[.int .i64 x1, .int .i64 x2, .int .u64 x3, .slice va (m - 11) vc], 78⟩) rfl), hB.gr⟩ ?_
    simp only [Act.put, List.setIfInBounds_toArray, List.set_cons_zero, List.set_cons_succ, List.getElem_toArray, List.getElem_cons_zero, List.getElem_cons_succ]
    refine any_take (i := 4) (v := (.bool false)) #[true, true, true, true, false, false, false, false, false, false, false, false, false, false, false, false] rfl (by kernel_rfl) (by kernel_rfl) (by kernel_rfl) (by kernel_rfl) (fun _ _ _ h => h) (.inl ⟨by kernel_rfl, fun x_ hu => by go_simp⟩) ⟨(hB.get 1 (x := ⟨gx, #[.int .i64 x1, .int .i64 x2, .int .u64 x3, .slice va (m - 11) vc], 78⟩) rfl), hB.gr⟩ ?_
    simp only [Act.put, List.setIfInBounds_toArray, List.set_cons_zero, List.set_cons_succ, List.getElem_toArray, List.getElem_cons_zero, List.getElem_cons_succ]
    refine any_take (i := 5) (v := (.bool false)) #[true, true, true, true, true, false, false, false, false, false, false, false, false, false, false, false] rfl (by kernel_rfl) (by kernel_rfl) (by kernel_rfl) (by kernel_rfl) (fun _ _ _ h => h) (.inl ⟨by kernel_rfl, fun x_ hu => by kernel_rfl⟩) ⟨(hB.get 1 (x := ⟨gx, #[.int .i64 x1, .int .i64 x2, .int .u64 x3, .slice va (m - 11) vc], 78⟩) rfl), hB.gr⟩ ?_
    simp only [Act.put, List.setIfInBounds_toArray, List.set_cons_zero, List.set_cons_succ, List.getElem_toArray, List.getElem_cons_zero, List.getElem_cons_succ]
    refine any_take (i := 6) (v := undef) #[true, true, true, true, true, true, false, false, false, false, false, false, false, false, false, false] rfl (by kernel_rfl) (by kernel_rfl) (by kernel_rfl) (by kernel_rfl) (fun _ _ _ h => h) (.inr ⟨by kernel_rfl, rfl⟩) ⟨(hB.get 1 (x := ⟨gx, #[.int .i64 x1, .int .i64 x2, .int .u64 x3, .slice va (m - 11) vc], 78⟩) rfl), hB.gr⟩ ?_
    simp only [Act.put, List.setIfInBounds_toArray, List.set_cons_zero, List.set_cons_succ, List.getElem_toArray, List.getElem_cons_zero, List.getElem_cons_succ]
    refine any_take (i := 7) (v := undef) #[true, true, true, true, true, true, true, false, false, false, false, false, false, false, false, false] rfl (by kernel_rfl) (by kernel_rfl) (by kernel_rfl) (by kernel_rfl) (fun _ _ _ h => h) (.inr ⟨by kernel_rfl, rfl⟩) ⟨(hB.get 1 (x := ⟨gx, #[.int .i64 x1, .int .i64 x2, .int .u64 x3, .slice va (m - 11) vc], 78⟩) rfl), hB.gr⟩ ?_
    simp only [Act.put, List.setIfInBounds_toArray, List.set_cons_zero, List.set_cons_succ, List.getElem_toArray, List.getElem_cons_zero, List.getElem_cons_succ]
    refine any_take (i := 8) (v := undef) #[true, true, true, true, true, true, true, true, false, false, false, false, false, false, false, false] rfl (by kernel_rfl) (by kernel_rfl) (by kernel_rfl) (by kernel_rfl) (fun _ _ _ h => h) (.inr ⟨by kernel_rfl, rfl⟩) ⟨(hB.get 1 (x := ⟨gx, #[.int .i64 x1, .int .i64 x2, .int .u64 x3, .slice va (m - 11) vc], 78⟩) rfl), hB.gr⟩ ?_
    simp only [Act.put, List.setIfInBounds_toArray, List.set_cons_zero, List.set_cons_succ, List.getElem_toArray, List.getElem_cons_zero, List.getElem_cons_succ]
    refine any_take (i := 9) (v := undef) #[true, true, true, true, true, true, true, true, true, false, false, false, false, false, false, false] rfl (by kernel_rfl) (by kernel_rfl) (by kernel_rfl) (by kernel_rfl) (fun _ _ _ h => h) (.inr ⟨by kernel_rfl, rfl⟩) ⟨(hB.get 1 (x := ⟨gx, #[.int .i64 x1, .int .i64 x2, .int .u64 x3, .slice va (m - 11) vc], 78⟩) rfl), hB.gr⟩ ?_
    simp only [Act.put, List.setIfInBounds_toArray, List.set_cons_zero, List.set_cons_succ, List.getElem_toArray, List.getElem_cons_zero, List.getElem_cons_succ]
    refine any_take (i := 10) (v := undef) #[true, true, true, true, true, true, true, true, true, true, false, false, false, false, false, false] rfl (by kernel_rfl) (by kernel_rfl) (by kernel_rfl) (by kernel_rfl) (fun _ _ _ h => h) (.inr ⟨by kernel_rfl, rfl⟩) ⟨(hB.get 1 (x := ⟨gx, #[.int .i64 x1, .int .i64 x2, .int .u64 x3, .slice va (m - 11) vc], 78⟩) rfl), hB.gr⟩ ?_
    simp only [Act.put, List.setIfInBounds_toArray, List.set_cons_zero, List.set_cons_succ, List.getElem_toArray, List.getElem_cons_zero, List.getElem_cons_succ]
    refine any_take (i := 11) (v := undef) #[true, true, true, true, true, true, true, true, true, true, true, false, false, false, false, false] rfl (by kernel_rfl) (by kernel_rfl) (by kernel_rfl) (by kernel_rfl) (fun _ _ _ h => h) (.inr ⟨by kernel_rfl, rfl⟩) ⟨(hB.get 1 (x := ⟨gx, #[.int .i64 x1, .int .i64 x2, .int .u64 x3, .slice va (m - 11) vc], 78⟩) rfl), hB.gr⟩ ?_
    simp only [Act.put, List.setIfInBounds_toArray, List.set_cons_zero, List.set_cons_succ, List.getElem_toArray, List.getElem_cons_zero, List.getElem_cons_succ]
    refine any_take (i := 12) (v := undef) #[true, true, true, true, true, true, true, true, true, true, true, true, false, false, false, false] rfl (by kernel_rfl) (by kernel_rfl) (by kernel_rfl) (by kernel_rfl) (fun _ _ _ h => h) (.inr ⟨by kernel_rfl, rfl⟩) ⟨(hB.get 1 (x := ⟨gx, #[.int .i64 x1, .int .i64 x2, .int .u64 x3, .slice va (m - 11) vc], 78⟩) rfl), hB.gr⟩ ?_
    simp only [Act.put, List.setIfInBounds_toArray, List.set_cons_zero, List.set_cons_succ, List.getElem_toArray, List.getElem_cons_zero, List.getElem_cons_succ]
    refine any_take (i := 13) (v := (.bool false)) #[true, true, true, true, true, true, true, true, true, true, true, true, true, false, false, false] rfl (by kernel_rfl) (by kernel_rfl) (by kernel_rfl) (by kernel_rfl) (fun _ _ _ h => h) (.inl ⟨by kernel_rfl, fun x_ hu => by kernel_rfl⟩) ⟨(hB.get 1 (x := ⟨gx, #[.int .i64 x1, .int .i64 x2, .int .u64 x3, .slice va (m - 11) vc], 78⟩) rfl), hB.gr⟩ ?_
    simp only [Act.put, List.setIfInBounds_toArray, List.set_cons_zero, List.set_cons_succ, List.getElem_toArray, List.getElem_cons_zero, List.getElem_cons_succ]
    refine any_one (i := 14) (by kernel_rfl) rfl (fun K hK => ?_)
    rw [if_pos (by kernel_rfl)]
    refine wp_store_row 78 (.tmp 2) (.tmp 20) rfl (w.heap.size) #[.int .i64 x1, .int .i64 x2, .int .u64 x3, .slice va (m - 11) vc] (by kernel_rfl) (by kernel_rfl) 78 #[.int .i64 0, .int .i64 0, .int .u64 0, .slice none 0 0] (hB.get 0 (x := ⟨w.heap.size, #[.int .i64 0, .int .i64 0, .int .u64 0, .slice none 0 0], 78⟩) rfl) (by rw [Try.infoU]; rfl) rfl (by simp [Value.oneCell']) ?_
    replace hO := hide (ob_bt (unhide hO) (hB.get 0 (x := ⟨w.heap.size, #[.int .i64 0, .int .i64 0, .int .u64 0, .slice none 0 0], 78⟩) rfl) (show (78 : TypeId) ≠ 5 by decide) (setRow_bt _ (w.heap.size) #[.int .i64 x1, .int .i64 x2, .int .u64 x3, .slice va (m - 11) vc]))
    replace hB := hB.set 0 (x := ⟨w.heap.size, #[.int .i64 0, .int .i64 0, .int .u64 0, .slice none 0 0], 78⟩) rfl #[.int .i64 x1, .int .i64 x2, .int .u64 x3, .slice va (m - 11) vc]
    simp only [List.set_cons_zero, List.set_cons_succ] at hB
    generalize World.setRow _ _ _ = u5 at *
    replace hB : Bl w [⟨w.heap.size, #[.int .i64 x1, .int .i64 x2, .int .u64 x3, .slice va (m - 11) vc], 78⟩, ⟨gx, #[.int .i64 x1, .int .i64 x2, .int .u64 x3, .slice va (m - 11) vc], 78⟩] u5 := hB
    refine hK.out _ _ ⟨(hB.get 1 (x := ⟨gx, #[.int .i64 x1, .int .i64 x2, .int .u64 x3, .slice va (m - 11) vc], 78⟩) rfl), hB.gr⟩ (fun _ => ?_)
    clear hK K
    simp only [Act.put, List.setIfInBounds_toArray, List.set_cons_zero, List.set_cons_succ, List.getElem_toArray, List.getElem_cons_zero, List.getElem_cons_succ]
    refine any_one (i := 15) (by kernel_rfl) rfl (fun K hK => ?_)
    replace hK := hide hK
    go_simp
    refine (unhide hK).out _ _ ⟨(hB.get 1 (x := ⟨gx, #[.int .i64 x1, .int .i64 x2, .int .u64 x3, .slice va (m - 11) vc], 78⟩) rfl), hB.gr⟩ (fun _ => ?_)
    clear hK K
    refine any_done (by kernel_rfl) ?_
    have hbk : Hid (u5.heap[w.heap.size]? = some (.cells #[.int .i64 x1, .int .i64 x2, .int .u64 x3, .slice va (m - 11) vc] 78 (0, 0))) := (hB.get 0 (x := ⟨w.heap.size, #[.int .i64 x1, .int .i64 x2, .int .u64 x3, .slice va (m - 11) vc], 78⟩) rfl)
    have hP : Hid (T (.returned (.tuple #[.agg #[.int .i64 x1, .int .i64 x2, .int .u64 x3, .slice va (m - 11) vc], .bool false])) u5) := by
      rw [unhide hT]
      exact ⟨va, vc, rfl, unhide hO, hB.gr⟩
    clear hB
    go_wp2_with fail
    exact bodyPost_ret (v := .tuple #[.agg #[.int .i64 x1, .int .i64 x2, .int .u64 x3, .slice va (m - 11) vc], .bool false]) (results_cell_tmp Try.results46 _ _ (w.heap.size) 78 #[.int .i64 x1, .int .i64 x2, .int .u64 x3, .slice va (m - 11) vc] (0, 0) _ rfl (.bool false) rfl (unhide hbk) Try.underlying78 rfl (by rw [Try.infoU]; rfl)) rfl (unhide hP)
set_option maxHeartbeats 4000000 in
theorem qgetdn_ok (L : List Int) (p0 q0 m c0 : Nat) (hm1 : 11 < m) (hm2 : m ≤ 1000) (w : World) (hB0 : Lb w (some ⟨p0, q0, none⟩) m c0 L) : Calls Try.prog 47 #[.slice (some ⟨p0, q0, none⟩) m c0] w (QG L (decide (L.getD 0 0 = 3) && pkE L) w) := by
  obtain ⟨T, hT⟩ : ∃ T, T = QG L (decide (L.getD 0 0 = 3) && pkE L) w := ⟨_, rfl⟩
  rw [← hT]
  replace hT := hide hT
  have hL := hB0.len
  have hcap := hB0.cap
  have hc0 := hide (fun (v : World) (g : Gr w v) => lb_cell (hB0.gr g) 0 (by omega))
  have hc1 := hide (fun (v : World) (g : Gr w v) => lb_cell (hB0.gr g) 1 (by omega))
  have hc2 := hide (fun (v : World) (g : Gr w v) => lb_cell (hB0.gr g) 2 (by omega))
  have hw1 := lb_win hB0 3 8 (by omega) (by omega)
  have hw2 := lb_fromd hB0 11 hm1
  have h19 := hB0.isB.at_ 1
  have h29 := hB0.isB.at_ 2
  unfold QG pkv pkE at hT
  rw [hL] at hT
  obtain ⟨x3, hx3⟩ : ∃ x, x = lowN ((L.drop 3).take 8) := ⟨_, rfl⟩
  obtain ⟨B, hBe⟩ : ∃ B, B = L.drop 11 := ⟨_, rfl⟩
  rw [← hx3, ← hBe] at hT
  rw [← hBe] at hw2
  generalize L.getD 1 0 = x1 at *
  generalize L.getD 2 0 = x2 at *
  obtain ⟨x0, hx0⟩ : ∃ x, x = L.getD 0 0 := ⟨_, rfl⟩
  rw [← hx0] at hT hc0
  have hw1i : IntKind.i64.wrap x1 = x1 := by rw [IntKind.wrap_i64]; omega
  have hw2i : IntKind.i64.wrap x2 = x2 := by rw [IntKind.wrap_i64]; omega
  clear h19 h29 hx0 hBe
  replace hx3 := hide hx3; replace hw1 := hide hw1; replace hw2 := hide hw2; replace hB0 := hide hB0
  go_enter Try.func47, Try.ntmps47
  go_upto_region 1 with fail
  have hB := ((Bl.nil w).new #[.int .i64 0, .int .i64 0, .int .u64 0, .slice none 0 0] 80)
  simp only [size_alloc, List.nil_append, List.cons_append] at hB
  generalize World.alloc _ _ = u at *
  replace hB : Bl w [⟨w.heap.size, #[.int .i64 0, .int .i64 0, .int .u64 0, .slice none 0 0], 80⟩] u := hB
  refine any_start (S := fun (v : World) => Bl w [⟨w.heap.size, #[.int .i64 0, .int .i64 0, .int .u64 0, .slice none 0 0], 80⟩] v) (by kernel_rfl) ?_
  replace hB := hB.drew
  generalize World.drew _ = xs at *
  replace hB : Bl w [⟨w.heap.size, #[.int .i64 0, .int .i64 0, .int .u64 0, .slice none 0 0], 80⟩] xs := hB
  simp only [List.size_toArray, List.length_cons, List.length_nil, Array.replicate, List.replicate]
  refine any_take (i := 0) (v := (.slice (some ⟨p0, q0, none⟩) m c0)) #[false, false, false, false, false, false, false, false, false, false, false, false, false, false, false, false, false] rfl (by kernel_rfl) (by kernel_rfl) (by kernel_rfl) (by kernel_rfl) (fun _ _ _ h => h) (.inl ⟨by kernel_rfl, fun x_ hu => by kernel_rfl⟩) hB ?_
  simp only [Act.put, List.setIfInBounds_toArray, List.set_cons_zero, List.set_cons_succ, List.getElem_toArray, List.getElem_cons_zero, List.getElem_cons_succ]
  refine any_take (i := 1) (v := (.pointer (some ⟨p0, q0 + 1, none⟩))) #[true, false, false, false, false, false, false, false, false, false, false, false, false, false, false, false, false] rfl (by kernel_rfl) (by kernel_rfl) (by kernel_rfl) (by kernel_rfl) (fun _ _ _ h => h) (.inl ⟨by kernel_rfl, fun x_ hu => exec_ibs _ (.tmp 5) (.const (.int .i64 1)) rfl p0 q0 m c0 1 (by kernel_rfl) (by kernel_rfl) (by omega)⟩) hB ?_
  simp only [Act.put, List.setIfInBounds_toArray, List.set_cons_zero, List.set_cons_succ, List.getElem_toArray, List.getElem_cons_zero, List.getElem_cons_succ]
  refine any_take (i := 2) (v := (.int .u8 x1)) #[true, true, false, false, false, false, false, false, false, false, false, false, false, false, false, false, false] rfl (by kernel_rfl) (by kernel_rfl) (by kernel_rfl) (by kernel_rfl) (fun _ _ _ h => h) (.inl ⟨by kernel_rfl, fun x_ hu => exec_b _ (.tmp 6) rfl p0 (q0 + 1) (by kernel_rfl) x1 (unhide hc1 _ hu.gr)⟩) hB ?_
  simp only [Act.put, List.setIfInBounds_toArray, List.set_cons_zero, List.set_cons_succ, List.getElem_toArray, List.getElem_cons_zero, List.getElem_cons_succ]
  refine any_take (i := 3) (v := (.int .i64 x1)) #[true, true, true, false, false, false, false, false, false, false, false, false, false, false, false, false, false] rfl (by kernel_rfl) (by kernel_rfl) (by kernel_rfl) (by kernel_rfl) (fun _ _ _ h => h) (.inl ⟨by kernel_rfl, fun x_ hu => by go_simp⟩) hB ?_
  simp only [Act.put, List.setIfInBounds_toArray, List.set_cons_zero, List.set_cons_succ, List.getElem_toArray, List.getElem_cons_zero, List.getElem_cons_succ]
  refine any_take (i := 4) (v := (.slice (some ⟨p0, q0, none⟩) m c0)) #[true, true, true, true, false, false, false, false, false, false, false, false, false, false, false, false, false] rfl (by kernel_rfl) (by kernel_rfl) (by kernel_rfl) (by kernel_rfl) (fun _ _ _ h => h) (.inl ⟨by kernel_rfl, fun x_ hu => by kernel_rfl⟩) hB ?_
  simp only [Act.put, List.setIfInBounds_toArray, List.set_cons_zero, List.set_cons_succ, List.getElem_toArray, List.getElem_cons_zero, List.getElem_cons_succ]
  refine any_take (i := 5) (v := (.pointer (some ⟨p0, q0 + 2, none⟩))) #[true, true, true, true, true, false, false, false, false, false, false, false, false, false, false, false, false] rfl (by kernel_rfl) (by kernel_rfl) (by kernel_rfl) (by kernel_rfl) (fun _ _ _ h => h) (.inl ⟨by kernel_rfl, fun x_ hu => exec_ibs _ (.tmp 9) (.const (.int .i64 2)) rfl p0 q0 m c0 2 (by kernel_rfl) (by kernel_rfl) (by omega)⟩) hB ?_
  simp only [Act.put, List.setIfInBounds_toArray, List.set_cons_zero, List.set_cons_succ, List.getElem_toArray, List.getElem_cons_zero, List.getElem_cons_succ]
  refine any_take (i := 6) (v := (.int .u8 x2)) #[true, true, true, true, true, true, false, false, false, false, false, false, false, false, false, false, false] rfl (by kernel_rfl) (by kernel_rfl) (by kernel_rfl) (by kernel_rfl) (fun _ _ _ h => h) (.inl ⟨by kernel_rfl, fun x_ hu => exec_b _ (.tmp 10) rfl p0 (q0 + 2) (by kernel_rfl) x2 (unhide hc2 _ hu.gr)⟩) hB ?_
  simp only [Act.put, List.setIfInBounds_toArray, List.set_cons_zero, List.set_cons_succ, List.getElem_toArray, List.getElem_cons_zero, List.getElem_cons_succ]
  refine any_take (i := 7) (v := (.int .i64 x2)) #[true, true, true, true, true, true, true, false, false, false, false, false, false, false, false, false, false] rfl (by kernel_rfl) (by kernel_rfl) (by kernel_rfl) (by kernel_rfl) (fun _ _ _ h => h) (.inl ⟨by kernel_rfl, fun x_ hu => by go_simp⟩) hB ?_
  simp only [Act.put, List.setIfInBounds_toArray, List.set_cons_zero, List.set_cons_succ, List.getElem_toArray, List.getElem_cons_zero, List.getElem_cons_succ]
  refine any_take (i := 8) (v := (.slice (some ⟨p0, q0, none⟩) m c0)) #[true, true, true, true, true, true, true, true, false, false, false, false, false, false, false, false, false] rfl (by kernel_rfl) (by kernel_rfl) (by kernel_rfl) (by kernel_rfl) (fun _ _ _ h => h) (.inl ⟨by kernel_rfl, fun x_ hu => by kernel_rfl⟩) hB ?_
  simp only [Act.put, List.setIfInBounds_toArray, List.set_cons_zero, List.set_cons_succ, List.getElem_toArray, List.getElem_cons_zero, List.getElem_cons_succ]
  refine any_take (i := 9) (v := (.slice (some ⟨p0, q0 + 3, none⟩) 8 (c0 - 3))) #[true, true, true, true, true, true, true, true, true, false, false, false, false, false, false, false, false] rfl (by kernel_rfl) (by kernel_rfl) (by kernel_rfl) (by kernel_rfl) (fun _ _ _ h => h) (.inl ⟨by kernel_rfl, fun x_ hu => exec_winl _ (.tmp 13) (.const (.int .i64 3)) (.const (.int .i64 11)) rfl p0 q0 m c0 3 11 8 (by kernel_rfl) (by kernel_rfl) (by kernel_rfl) rfl (by omega) (by omega)⟩) hB ?_
  simp only [Act.put, List.setIfInBounds_toArray, List.set_cons_zero, List.set_cons_succ, List.getElem_toArray, List.getElem_cons_zero, List.getElem_cons_succ]
  refine any_take (i := 11) (v := (.slice (some ⟨p0, q0, none⟩) m c0)) #[true, true, true, true, true, true, true, true, true, true, false, false, false, false, false, false, false] rfl (by kernel_rfl) (by kernel_rfl) (by kernel_rfl) (by kernel_rfl) (fun _ _ _ h => h) (.inl ⟨by kernel_rfl, fun x_ hu => by kernel_rfl⟩) hB ?_
  simp only [Act.put, List.setIfInBounds_toArray, List.set_cons_zero, List.set_cons_succ, List.getElem_toArray, List.getElem_cons_zero, List.getElem_cons_succ]
  refine any_take (i := 12) (v := (.slice (some ⟨p0, q0 + 11, none⟩) (m - 11) (c0 - 11))) #[true, true, true, true, true, true, true, true, true, true, false, true, false, false, false, false, false] rfl (by kernel_rfl) (by kernel_rfl) (by kernel_rfl) (by kernel_rfl) (fun _ _ _ h => h) (.inl ⟨by kernel_rfl, fun x_ hu => exec_froml _ (.tmp 16) (.const (.int .i64 11)) rfl p0 q0 m c0 11 (by kernel_rfl) (by kernel_rfl) (by omega) (by omega)⟩) hB ?_
  simp only [Act.put, List.setIfInBounds_toArray, List.set_cons_zero, List.set_cons_succ, List.getElem_toArray, List.getElem_cons_zero, List.getElem_cons_succ]
  refine float_first (fun q u => NRec (w.heap.size + 1) #[.int .i64 0, .int .i64 0, .int .u64 0, .slice none 0 0] 80 u q) 4 (fun b_ => #[true, true, true, true, true, true, true, true, true, true, false, true, true, false, false, b_, false]) 15 10 false rfl rfl (fun _ g_ => hB.more g_) (by kernel_rfl) (fun b_ => by cases b_ <;> rfl) ?_ ?_
  all_goals simp only [fw1, Act.put, List.setIfInBounds_toArray, List.set_cons_zero, List.set_cons_succ, List.getElem_toArray, List.getElem_cons_zero, List.getElem_cons_succ]
  · intro q_ x_ hgx K hK
    refine wpOp_step (o := _) rfl (fun K' hK' => ?_)
    replace hK' := hide hK'
    replace hK := hide hK
    refine step_val (.pointer (some ⟨x_.heap.size, 0, none⟩)) (x_.alloc (.cells #[.int .i64 0, .int .i64 0, .int .u64 0, .slice none 0 0] 80 (0, 0))) (by kernel_rfl) (by kernel_rfl) ?_
    exact unhide hK' _ _ (unhide hK _ _ ((Gr.refl _).alloc _) (⟨_, rfl, Nat.le_trans (Nat.succ_le_of_lt (lt_of_block (hB.get 0 (x := ⟨w.heap.size, #[.int .i64 0, .int .i64 0, .int .u64 0, .slice none 0 0], 80⟩) rfl))) hgx.size, blk_new _ _⟩))
  intro b1_10 q1_10 x1_10 hg hTq hall
  replace hB := hB.more hg
  first | replace hO := hO.gr hg | skip
  clear hall
  refine wpOp_step (o := _) rfl (fun K hK => ?_)
  replace hK := hide hK
  refine step_callw (by kernel_rfl) 56 #[.slice (some ⟨p0, q0 + 3, none⟩) 8 (c0 - 3)] (by kernel_rfl) ((qnum_ok ((L.drop 3).take 8) _ 8 (c0 - 3) (by omega) x1_10 ((unhide hw1).gr hB.gr)).mono ?_)
  rintro r y1 ⟨rfl, rfl⟩
  refine ⟨_, rfl, ?_⟩
  skip
  rw [← unhide hx3]
  refine unhide hK _ _ ⟨hB, ?_⟩
  clear hK K
  simp only [Act.put, List.setIfInBounds_toArray, List.set_cons_zero, List.set_cons_succ, List.getElem_toArray, List.getElem_cons_zero, List.getElem_cons_succ]
  refine float_again (fun q u => NRec (w.heap.size + 1) #[.int .i64 0, .int .i64 0, .int .u64 0, .slice none 0 0] 80 u q) 4 (fun b_ => #[true, true, true, true, true, true, true, true, true, true, true, true, true, false, false, b_, false]) 15 13 false (b := b1_10) (q := q1_10) rfl rfl hTq (fun _ g_ => hB.more g_) (by kernel_rfl) (fun b_ => by cases b_ <;> rfl) ?_ ?_
  all_goals simp only [fw1, Act.put, List.setIfInBounds_toArray, List.set_cons_zero, List.set_cons_succ, List.getElem_toArray, List.getElem_cons_zero, List.getElem_cons_succ]
  · intro q_ x_ hgx K hK
    refine wpOp_step (o := _) rfl (fun K' hK' => ?_)
    replace hK' := hide hK'
    replace hK := hide hK
    refine step_val (.pointer (some ⟨x_.heap.size, 0, none⟩)) (x_.alloc (.cells #[.int .i64 0, .int .i64 0, .int .u64 0, .slice none 0 0] 80 (0, 0))) (by kernel_rfl) (by kernel_rfl) ?_
    exact unhide hK' _ _ (unhide hK _ _ ((Gr.refl _).alloc _) (⟨_, rfl, Nat.le_trans (Nat.succ_le_of_lt (lt_of_block (hB.get 0 (x := ⟨w.heap.size, #[.int .i64 0, .int .i64 0, .int .u64 0, .slice none 0 0], 80⟩) rfl))) hgx.size, blk_new _ _⟩))
  clear hTq
  intro b1_13 q1_13 x1_13 hg hTq hall
  replace hB := hB.more hg
  first | replace hO := hO.gr hg | skip
  clear hall
  refine wpOp_step (o := _) rfl (fun K hK => ?_)
  replace hK := hide hK
  refine step_callw (by kernel_rfl) 51 #[.slice (some ⟨p0, q0 + 11, none⟩) (m - 11) (c0 - 11), .slice none 0 0] (by kernel_rfl) ((qboth_ok B (some ⟨p0, q0 + 11, none⟩) (m - 11) (c0 - 11) [] none 0 0 x1_13 ((unhide hw2).gr hB.gr) ⟨rfl, .inl rfl, Nat.le_refl _, by decide⟩ (by rw [(unhide hw2).len]; simp; omega)).mono ?_)
  rintro r y2 ⟨v2, rfl, hO, hg⟩
  refine ⟨_, rfl, ?_⟩
  replace hTq := fun e => NRec.gr (hTq e) hg
  rw [List.flatten_nil, List.append_nil] at hO
  replace hO := ob_base hO hB.gr.size
  obtain ⟨va, vc, rfl, _⟩ := ob_lb hO (unhide hw2).isB (n := m - 11) (unhide hw2).len
  replace hB := hB.more hg
  clear hg
  refine unhide hK _ _ ⟨hB, ?_⟩
  clear hK K
  simp only [Act.put, List.setIfInBounds_toArray, List.set_cons_zero, List.set_cons_succ, List.getElem_toArray, List.getElem_cons_zero, List.getElem_cons_succ]
  refine any_take (i := 14) (v := (.agg #[.int .i64 x1, .int .i64 x2, .int .u64 x3, .slice va (m - 11) vc])) #[true, true, true, true, true, true, true, true, true, true, true, true, true, true, false, false, false] rfl (by kernel_rfl) (by kernel_rfl) (by kernel_rfl) (by kernel_rfl) (fun _ _ _ h => h) (.inl ⟨by kernel_rfl, fun x_ hu => by kernel_rfl⟩) hB ?_
  simp only [Act.put, List.setIfInBounds_toArray, List.set_cons_zero, List.set_cons_succ, List.getElem_toArray, List.getElem_cons_zero, List.getElem_cons_succ]
  refine float_again (fun q u => NRec (w.heap.size + 1) #[.int .i64 0, .int .i64 0, .int .u64 0, .slice none 0 0] 80 u q) 4 (fun b_ => #[true, true, true, true, true, true, true, true, true, true, true, true, true, true, true, b_, false]) 15 16 true (b := b1_13) (q := q1_13) rfl rfl hTq (fun _ g_ => hB.more g_) (by kernel_rfl) (fun b_ => by cases b_ <;> rfl) ?_ ?_
  all_goals simp only [fw1, Act.put, List.setIfInBounds_toArray, List.set_cons_zero, List.set_cons_succ, List.getElem_toArray, List.getElem_cons_zero, List.getElem_cons_succ]
  · intro q_ x_ hgx K hK
    refine wpOp_step (o := _) rfl (fun K' hK' => ?_)
    replace hK' := hide hK'
    replace hK := hide hK
    refine step_val (.pointer (some ⟨x_.heap.size, 0, none⟩)) (x_.alloc (.cells #[.int .i64 0, .int .i64 0, .int .u64 0, .slice none 0 0] 80 (0, 0))) (by kernel_rfl) (by kernel_rfl) ?_
    exact unhide hK' _ _ (unhide hK _ _ ((Gr.refl _).alloc _) (⟨_, rfl, Nat.le_trans (Nat.succ_le_of_lt (lt_of_block (hB.get 0 (x := ⟨w.heap.size, #[.int .i64 0, .int .i64 0, .int .u64 0, .slice none 0 0], 80⟩) rfl))) hgx.size, blk_new _ _⟩))
  clear hTq
  intro b1_16 q1_16 x1_16 hg hTq hall
  replace hB := hB.more hg
  first | replace hO := hO.gr hg | skip
  obtain rfl : b1_16 = true := hall (by trivial)
  replace hTq := hTq rfl
  clear hall
  obtain ⟨gx, rfl, hgx1, hgb⟩ := hTq
  refine wpOp_step (o := _) rfl (fun K hK => ?_)
  replace hK := hide hK
  rw [if_pos (by kernel_rfl)]
  refine wp_store_row 80 (.tmp 4) (.tmp 19) rfl gx #[.int .i64 x1, .int .i64 x2, .int .u64 x3, .slice va (m - 11) vc] (by kernel_rfl) (by kernel_rfl) 80 #[.int .i64 0, .int .i64 0, .int .u64 0, .slice none 0 0] hgb (by rw [Try.infoD]; rfl) rfl (by simp [Value.oneCell']) ?_
  replace hO := ob_bt hO hgb (by decide) (setRow_bt x1_16 gx #[.int .i64 x1, .int .i64 x2, .int .u64 x3, .slice va (m - 11) vc])
  have hB2 := hB.add ⟨gx, #[.int .i64 0, .int .i64 0, .int .u64 0, .slice none 0 0], 80⟩ hgb (show w.heap.size ≤ gx by omega) (by intro y hy; simp only [List.mem_cons, List.not_mem_nil, or_false] at hy; subst hy; show w.heap.size ≠ gx; omega)
  replace hB2 := hB2.set 1 (x := ⟨gx, #[.int .i64 0, .int .i64 0, .int .u64 0, .slice none 0 0], 80⟩) rfl #[.int .i64 x1, .int .i64 x2, .int .u64 x3, .slice va (m - 11) vc]
  simp only [List.cons_append, List.nil_append, List.set_cons_zero, List.set_cons_succ] at hB2
  replace hB2 : Bl w [⟨w.heap.size, #[.int .i64 0, .int .i64 0, .int .u64 0, .slice none 0 0], 80⟩, ⟨gx, #[.int .i64 x1, .int .i64 x2, .int .u64 x3, .slice va (m - 11) vc], 80⟩] _ := hB2
  have hBl : Bl w [⟨w.heap.size, #[.int .i64 0, .int .i64 0, .int .u64 0, .slice none 0 0], 80⟩] _ := Bl.left (M := [⟨gx, #[.int .i64 x1, .int .i64 x2, .int .u64 x3, .slice va (m - 11) vc], 80⟩]) hB2
  clear hB hgb
  generalize World.setRow _ _ _ = x9 at *
  have hB := hB2
  clear hB2
  refine unhide hK _ _ ⟨hBl, ?_⟩
  clear hK K hBl
  simp only [Act.put, List.setIfInBounds_toArray, List.set_cons_zero, List.set_cons_succ, List.getElem_toArray, List.getElem_cons_zero, List.getElem_cons_succ]
  refine any_done (by kernel_rfl) ?_
  replace hO := hide hO
  by_cases hF : x0 = 3
  · skip
    subst hF
    generalize hz : ends x1 x2 x3 = z at hT
    have e9 : (decide ((3 : Int) = 3) && z) = z := by simp
    rw [e9] at hT
    clear e9
    replace hB := hide hB
    go_upto_region 2 with fail
    replace hB := unhide hB
    refine any_start (S := fun (v : World) => v.heap[gx]? = some (.cells #[.int .i64 x1, .int .i64 x2, .int .u64 x3, .slice va (m - 11) vc] 80 (0, 0)) ∧ Gr w v) (by kernel_rfl) ?_
    replace hO := hide ((unhide hO).gr (Gr.refl _).drew)
    replace hB := hB.drew
    generalize World.drew _ = u4 at *
    replace hB : Bl w [⟨w.heap.size, #[.int .i64 0, .int .i64 0, .int .u64 0, .slice none 0 0], 80⟩, ⟨gx, #[.int .i64 x1, .int .i64 x2, .int .u64 x3, .slice va (m - 11) vc], 80⟩] u4 := hB
    simp only [List.size_toArray, List.length_cons, List.length_nil, Array.replicate, List.replicate]
    refine any_take (i := 0) (v := (.agg #[.int .i64 x1, .int .i64 x2, .int .u64 x3, .slice va (m - 11) vc])) #[false, false, false, false, false, false, false, false, false, false, false, false, false, false, false, false] rfl (by kernel_rfl) (by kernel_rfl) (by kernel_rfl) (by kernel_rfl) (fun _ _ _ h => h) (.inl ⟨by kernel_rfl, fun x_ hu => exec_arr _ 80 (.tmp 4) rfl gx (by kernel_rfl) #[.int .i64 x1, .int .i64 x2, .int .u64 x3, .slice va (m - 11) vc] 80 _ hu.1 Try.underlying80 rfl (by rw [Try.infoD]; rfl)⟩) ⟨(hB.get 1 (x := ⟨gx, #[.int .i64 x1, .int .i64 x2, .int .u64 x3, .slice va (m - 11) vc], 80⟩) rfl), hB.gr⟩ ?_
    simp only [Act.put, List.setIfInBounds_toArray, List.set_cons_zero, List.set_cons_succ, List.getElem_toArray, List.getElem_cons_zero, List.getElem_cons_succ]
    refine any_take (i := 1) (v := (.slice (some ⟨p0, q0, none⟩) m c0)) #[true, false, false, false, false, false, false, false, false, false, false, false, false, false, false, false] rfl (by kernel_rfl) (by kernel_rfl) (by kernel_rfl) (by kernel_rfl) (fun _ _ _ h => h) (.inl ⟨by kernel_rfl, fun x_ hu => by kernel_rfl⟩) ⟨(hB.get 1 (x := ⟨gx, #[.int .i64 x1, .int .i64 x2, .int .u64 x3, .slice va (m - 11) vc], 80⟩) rfl), hB.gr⟩ ?_
    simp only [Act.put, List.setIfInBounds_toArray, List.set_cons_zero, List.set_cons_succ, List.getElem_toArray, List.getElem_cons_zero, List.getElem_cons_succ]
    refine any_take (i := 2) (v := (.pointer (some ⟨p0, q0 + 0, none⟩))) #[true, true, false, false, false, false, false, false, false, false, false, false, false, false, false, false] rfl (by kernel_rfl) (by kernel_rfl) (by kernel_rfl) (by kernel_rfl) (fun _ _ _ h => h) (.inl ⟨by kernel_rfl, fun x_ hu => exec_ibs _ (.tmp 21) (.const (.int .i64 0)) rfl p0 q0 m c0 0 (by kernel_rfl) (by kernel_rfl) (by omega)⟩) ⟨(hB.get 1 (x := ⟨gx, #[.int .i64 x1, .int .i64 x2, .int .u64 x3, .slice va (m - 11) vc], 80⟩) rfl), hB.gr⟩ ?_
    simp only [Act.put, List.setIfInBounds_toArray, List.set_cons_zero, List.set_cons_succ, List.getElem_toArray, List.getElem_cons_zero, List.getElem_cons_succ]
    refine any_take (i := 3) (v := (.int .u8 3)) #[true, true, true, false, false, false, false, false, false, false, false, false, false, false, false, false] rfl (by kernel_rfl) (by kernel_rfl) (by kernel_rfl) (by kernel_rfl) (fun _ _ _ h => h) (.inl ⟨by kernel_rfl, fun x_ hu => exec_b _ (.tmp 22) rfl p0 (q0 + 0) (by kernel_rfl) 3 (unhide hc0 _ hu.2)⟩) ⟨(hB.get 1 (x := ⟨gx, #[.int .i64 x1, .int .i64 x2, .int .u64 x3, .slice va (m - 11) vc], 80⟩) rfl), hB.gr⟩ ?_
    simp only [Act.put, List.setIfInBounds_toArray, List.set_cons_zero, List.set_cons_succ, List.getElem_toArray, List.getElem_cons_zero, List.getElem_cons_succ]
    refine any_take (i := 4) (v := (.bool true)) #[true, true, true, true, false, false, false, false, false, false, false, false, false, false, false, false] rfl (by kernel_rfl) (by kernel_rfl) (by kernel_rfl) (by kernel_rfl) (fun _ _ _ h => h) (.inl ⟨by kernel_rfl, fun x_ hu => by kernel_rfl⟩) ⟨(hB.get 1 (x := ⟨gx, #[.int .i64 x1, .int .i64 x2, .int .u64 x3, .slice va (m - 11) vc], 80⟩) rfl), hB.gr⟩ ?_
    simp only [Act.put, List.setIfInBounds_toArray, List.set_cons_zero, List.set_cons_succ, List.getElem_toArray, List.getElem_cons_zero, List.getElem_cons_succ]
    refine any_take (i := 5) (v := (.bool true)) #[true, true, true, true, true, false, false, false, false, false, false, false, false, false, false, false] rfl (by kernel_rfl) (by kernel_rfl) (by kernel_rfl) (by kernel_rfl) (fun _ _ _ h => h) (.inl ⟨by kernel_rfl, fun x_ hu => by kernel_rfl⟩) ⟨(hB.get 1 (x := ⟨gx, #[.int .i64 x1, .int .i64 x2, .int .u64 x3, .slice va (m - 11) vc], 80⟩) rfl), hB.gr⟩ ?_
    simp only [Act.put, List.setIfInBounds_toArray, List.set_cons_zero, List.set_cons_succ, List.getElem_toArray, List.getElem_cons_zero, List.getElem_cons_succ]
    refine any_take (i := 6) (v := (.pointer (some ⟨gx, 0, none⟩))) #[true, true, true, true, true, true, false, false, false, false, false, false, false, false, false, false] rfl (by kernel_rfl) (by kernel_rfl) (by kernel_rfl) (by kernel_rfl) (fun _ _ _ h => h) (.inl ⟨by kernel_rfl, fun x_ hu => by kernel_rfl⟩) ⟨(hB.get 1 (x := ⟨gx, #[.int .i64 x1, .int .i64 x2, .int .u64 x3, .slice va (m - 11) vc], 80⟩) rfl), hB.gr⟩ ?_
    simp only [Act.put, List.setIfInBounds_toArray, List.set_cons_zero, List.set_cons_succ, List.getElem_toArray, List.getElem_cons_zero, List.getElem_cons_succ]
    refine any_take (i := 7) (v := (.int .i64 x1)) #[true, true, true, true, true, true, true, false, false, false, false, false, false, false, false, false] rfl (by kernel_rfl) (by kernel_rfl) (by kernel_rfl) (by kernel_rfl) (fun _ _ _ h => h) (.inl ⟨by kernel_rfl, fun x_ hu => exec_i64 _ (.tmp 26) rfl gx 0 (by kernel_rfl) x1 (cell_of hu.1 (i := 0) rfl)⟩) ⟨(hB.get 1 (x := ⟨gx, #[.int .i64 x1, .int .i64 x2, .int .u64 x3, .slice va (m - 11) vc], 80⟩) rfl), hB.gr⟩ ?_
    simp only [Act.put, List.setIfInBounds_toArray, List.set_cons_zero, List.set_cons_succ, List.getElem_toArray, List.getElem_cons_zero, List.getElem_cons_succ]
    refine any_take (i := 8) (v := (.pointer (some ⟨gx, 1, none⟩))) #[true, true, true, true, true, true, true, true, false, false, false, false, false, false, false, false] rfl (by kernel_rfl) (by kernel_rfl) (by kernel_rfl) (by kernel_rfl) (fun _ _ _ h => h) (.inl ⟨by kernel_rfl, fun x_ hu => by kernel_rfl⟩) ⟨(hB.get 1 (x := ⟨gx, #[.int .i64 x1, .int .i64 x2, .int .u64 x3, .slice va (m - 11) vc], 80⟩) rfl), hB.gr⟩ ?_
    simp only [Act.put, List.setIfInBounds_toArray, List.set_cons_zero, List.set_cons_succ, List.getElem_toArray, List.getElem_cons_zero, List.getElem_cons_succ]
    refine any_take (i := 9) (v := (.int .i64 x2)) #[true, true, true, true, true, true, true, true, true, false, false, false, false, false, false, false] rfl (by kernel_rfl) (by kernel_rfl) (by kernel_rfl) (by kernel_rfl) (fun _ _ _ h => h) (.inl ⟨by kernel_rfl, fun x_ hu => exec_i64 _ (.tmp 28) rfl gx 1 (by kernel_rfl) x2 (cell_of hu.1 (i := 1) rfl)⟩) ⟨(hB.get 1 (x := ⟨gx, #[.int .i64 x1, .int .i64 x2, .int .u64 x3, .slice va (m - 11) vc], 80⟩) rfl), hB.gr⟩ ?_
    simp only [Act.put, List.setIfInBounds_toArray, List.set_cons_zero, List.set_cons_succ, List.getElem_toArray, List.getElem_cons_zero, List.getElem_cons_succ]
    refine any_take (i := 10) (v := (.pointer (some ⟨gx, 2, none⟩))) #[true, true, true, true, true, true, true, true, true, true, false, false, false, false, false, false] rfl (by kernel_rfl) (by kernel_rfl) (by kernel_rfl) (by kernel_rfl) (fun _ _ _ h => h) (.inl ⟨by kernel_rfl, fun x_ hu => by kernel_rfl⟩) ⟨(hB.get 1 (x := ⟨gx, #[.int .i64 x1, .int .i64 x2, .int .u64 x3, .slice va (m - 11) vc], 80⟩) rfl), hB.gr⟩ ?_
    simp only [Act.put, List.setIfInBounds_toArray, List.set_cons_zero, List.set_cons_succ, List.getElem_toArray, List.getElem_cons_zero, List.getElem_cons_succ]
    refine any_take (i := 11) (v := (.int .u64 x3)) #[true, true, true, true, true, true, true, true, true, true, true, false, false, false, false, false] rfl (by kernel_rfl) (by kernel_rfl) (by kernel_rfl) (by kernel_rfl) (fun _ _ _ h => h) (.inl ⟨by kernel_rfl, fun x_ hu => exec_u64 _ (.tmp 30) rfl gx 2 (by kernel_rfl) x3 (cell_of hu.1 (i := 2) rfl)⟩) ⟨(hB.get 1 (x := ⟨gx, #[.int .i64 x1, .int .i64 x2, .int .u64 x3, .slice va (m - 11) vc], 80⟩) rfl), hB.gr⟩ ?_
    simp only [Act.put, List.setIfInBounds_toArray, List.set_cons_zero, List.set_cons_succ, List.getElem_toArray, List.getElem_cons_zero, List.getElem_cons_succ]
    refine any_one (i := 12) (by kernel_rfl) rfl (fun K hK => ?_)
    refine step_callw (by kernel_rfl) 38 #[.int .i64 x1, .int .i64 x2, .int .u64 x3] (by kernel_rfl) ((qends_ok x1 x2 x3 _).mono ?_)
    rintro r y3 ⟨rfl, rfl⟩
    refine ⟨_, rfl, ?_⟩
    rw [hz]
    refine hK.out _ _ ⟨(hB.get 1 (x := ⟨gx, #[.int .i64 x1, .int .i64 x2, .int .u64 x3, .slice va (m - 11) vc], 80⟩) rfl), hB.gr⟩ (fun _ => ?_)
    clear hK K
    simp only [Act.put, List.setIfInBounds_toArray, List.set_cons_zero, List.set_cons_succ, List.getElem_toArray, List.getElem_cons_zero, List.getElem_cons_succ]
    refine any_take (i := 13) (v := (.bool z)) #[true, true, true, true, true, true, true, true, true, true, true, true, true, false, false, false] rfl (by kernel_rfl) (by kernel_rfl) (by kernel_rfl) (by kernel_rfl) (fun _ _ _ h => h) (.inl ⟨by kernel_rfl, fun x_ hu => by kernel_rfl⟩) ⟨(hB.get 1 (x := ⟨gx, #[.int .i64 x1, .int .i64 x2, .int .u64 x3, .slice va (m - 11) vc], 80⟩) rfl), hB.gr⟩ ?_
    simp only [Act.put, List.setIfInBounds_toArray, List.set_cons_zero, List.set_cons_succ, List.getElem_toArray, List.getElem_cons_zero, List.getElem_cons_succ]
    refine any_one (i := 14) (by kernel_rfl) rfl (fun K hK => ?_)
    rw [if_pos (by kernel_rfl)]
    refine wp_store_row 80 (.tmp 2) (.tmp 20) rfl (w.heap.size) #[.int .i64 x1, .int .i64 x2, .int .u64 x3, .slice va (m - 11) vc] (by kernel_rfl) (by kernel_rfl) 80 #[.int .i64 0, .int .i64 0, .int .u64 0, .slice none 0 0] (hB.get 0 (x := ⟨w.heap.size, #[.int .i64 0, .int .i64 0, .int .u64 0, .slice none 0 0], 80⟩) rfl) (by rw [Try.infoD]; rfl) rfl (by simp [Value.oneCell']) ?_
    replace hO := hide (ob_bt (unhide hO) (hB.get 0 (x := ⟨w.heap.size, #[.int .i64 0, .int .i64 0, .int .u64 0, .slice none 0 0], 80⟩) rfl) (show (80 : TypeId) ≠ 5 by decide) (setRow_bt _ (w.heap.size) #[.int .i64 x1, .int .i64 x2, .int .u64 x3, .slice va (m - 11) vc]))
    replace hB := hB.set 0 (x := ⟨w.heap.size, #[.int .i64 0, .int .i64 0, .int .u64 0, .slice none 0 0], 80⟩) rfl #[.int .i64 x1, .int .i64 x2, .int .u64 x3, .slice va (m - 11) vc]
    simp only [List.set_cons_zero, List.set_cons_succ] at hB
    generalize World.setRow _ _ _ = u5 at *
    replace hB : Bl w [⟨w.heap.size, #[.int .i64 x1, .int .i64 x2, .int .u64 x3, .slice va (m - 11) vc], 80⟩, ⟨gx, #[.int .i64 x1, .int .i64 x2, .int .u64 x3, .slice va (m - 11) vc], 80⟩] u5 := hB
    refine hK.out _ _ ⟨(hB.get 1 (x := ⟨gx, #[.int .i64 x1, .int .i64 x2, .int .u64 x3, .slice va (m - 11) vc], 80⟩) rfl), hB.gr⟩ (fun _ => ?_)
    clear hK K
    simp only [Act.put, List.setIfInBounds_toArray, List.set_cons_zero, List.set_cons_succ, List.getElem_toArray, List.getElem_cons_zero, List.getElem_cons_succ]
    refine any_one (i := 15) (by kernel_rfl) rfl (fun K hK => ?_)
    replace hK := hide hK
    go_simp
    refine (unhide hK).out _ _ ⟨(hB.get 1 (x := ⟨gx, #[.int .i64 x1, .int .i64 x2, .int .u64 x3, .slice va (m - 11) vc], 80⟩) rfl), hB.gr⟩ (fun _ => ?_)
    clear hK K
    refine any_done (by kernel_rfl) ?_
    have hbk : Hid (u5.heap[w.heap.size]? = some (.cells #[.int .i64 x1, .int .i64 x2, .int .u64 x3, .slice va (m - 11) vc] 80 (0, 0))) := (hB.get 0 (x := ⟨w.heap.size, #[.int .i64 x1, .int .i64 x2, .int .u64 x3, .slice va (m - 11) vc], 80⟩) rfl)
    have hP : Hid (T (.returned (.tuple #[.agg #[.int .i64 x1, .int .i64 x2, .int .u64 x3, .slice va (m - 11) vc], .bool z])) u5) := by
      rw [unhide hT]
      exact ⟨va, vc, rfl, unhide hO, hB.gr⟩
    clear hB
    go_wp2_with fail
    exact bodyPost_ret (v := .tuple #[.agg #[.int .i64 x1, .int .i64 x2, .int .u64 x3, .slice va (m - 11) vc], .bool z]) (results_cell_tmp Try.results47 _ _ (w.heap.size) 80 #[.int .i64 x1, .int .i64 x2, .int .u64 x3, .slice va (m - 11) vc] (0, 0) _ rfl (.bool z) rfl (unhide hbk) Try.underlying80 rfl (by rw [Try.infoD]; rfl)) rfl (unhide hP)
  · skip
    have e9 : (decide (x0 = 3) && ends x1 x2 x3) = false := by simp [hF]
    rw [e9] at hT
    clear e9
    replace hB := hide hB
    go_upto_region 2 with fail
    replace hB := unhide hB
    refine any_start (S := fun (v : World) => v.heap[gx]? = some (.cells #[.int .i64 x1, .int .i64 x2, .int .u64 x3, .slice va (m - 11) vc] 80 (0, 0)) ∧ Gr w v) (by kernel_rfl) ?_
    replace hO := hide ((unhide hO).gr (Gr.refl _).drew)
    replace hB := hB.drew
    generalize World.drew _ = u4 at *
    replace hB : Bl w [⟨w.heap.size, #[.int .i64 0, .int .i64 0, .int .u64 0, .slice none 0 0], 80⟩, ⟨gx, #[.int .i64 x1, .int .i64 x2, .int .u64 x3, .slice va (m - 11) vc], 80⟩] u4 := hB
    simp only [List.size_toArray, List.length_cons, List.length_nil, Array.replicate, List.replicate]
    refine any_take (i := 0) (v := (.agg #[.int .i64 x1, .int .i64 x2, .int .u64 x3, .slice va (m - 11) vc])) #[false, false, false, false, false, false, false, false, false, false, false, false, false, false, false, false] rfl (by kernel_rfl) (by kernel_rfl) (by kernel_rfl) (by kernel_rfl) (fun _ _ _ h => h) (.inl ⟨by kernel_rfl, fun x_ hu => exec_arr _ 80 (.tmp 4) rfl gx (by kernel_rfl) #[.int .i64 x1, .int .i64 x2, .int .u64 x3, .slice va (m - 11) vc] 80 _ hu.1 Try.underlying80 rfl (by rw [Try.infoD]; rfl)⟩) ⟨(hB.get 1 (x := ⟨gx, #[.int .i64 x1, .int .i64 x2, .int .u64 x3, .slice va (m - 11) vc], 80⟩) rfl), hB.gr⟩ ?_
    simp only [Act.put, List.setIfInBounds_toArray, List.set_cons_zero, List.set_cons_succ, List.getElem_toArray, List.getElem_cons_zero, List.getElem_cons_succ]
    refine any_take (i := 1) (v := (.slice (some ⟨p0, q0, none⟩) m c0)) #[true, false, false, false, false, false, false, false, false, false, false, false, false, false, false, false] rfl (by kernel_rfl) (by kernel_rfl) (by kernel_rfl) (by kernel_rfl) (fun _ _ _ h => h) (.inl ⟨by kernel_rfl, fun x_ hu => by kernel_rfl⟩) ⟨(hB.get 1 (x := ⟨gx, #[.int .i64 x1, .int .i64 x2, .int .u64 x3, .slice va (m - 11) vc], 80⟩) rfl), hB.gr⟩ ?_
    simp only [Act.put, List.setIfInBounds_toArray, List.set_cons_zero, List.set_cons_succ, List.getElem_toArray, List.getElem_cons_zero, List.getElem_cons_succ]
    refine any_take (i := 2) (v := (.pointer (some ⟨p0, q0 + 0, none⟩))) #[true, true, false, false, false, false, false, false, false, false, false, false, false, false, false, false] rfl (by kernel_rfl) (by kernel_rfl) (by kernel_rfl) (by kernel_rfl) (fun _ _ _ h => h) (.inl ⟨by kernel_rfl, fun x_ hu => exec_ibs _ (.tmp 21) (.const (.int .i64 0)) rfl p0 q0 m c0 0 (by kernel_rfl) (by kernel_rfl) (by omega)⟩) ⟨(hB.get 1 (x := ⟨gx, #[.int .i64 x1, .int .i64 x2, .int .u64 x3, .slice va (m - 11) vc], 80⟩) rfl), hB.gr⟩ ?_
    simp only [Act.put, List.setIfInBounds_toArray, List.set_cons_zero, List.set_cons_succ, List.getElem_toArray, List.getElem_cons_zero, List.getElem_cons_succ]
    refine any_take (i := 3) (v := (.int .u8 x0)) #[true, true, true, false, false, false, false, false, false, false, false, false, false, false, false, false] rfl (by kernel_rfl) (by kernel_rfl) (by kernel_rfl) (by kernel_rfl) (fun _ _ _ h => h) (.inl ⟨by kernel_rfl, fun x_ hu => exec_b _ (.tmp 22) rfl p0 (q0 + 0) (by kernel_rfl) x0 (unhide hc0 _ hu.2)⟩) ⟨(hB.get 1 (x := ⟨gx, #[.int .i64 x1, .int .i64 x2, .int .u64 x3, .slice va (m - 11) vc], 80⟩) rfl), hB.gr⟩ ?_
    simp only [Act.put, List.setIfInBounds_toArray, List.set_cons_zero, List.set_cons_succ, List.getElem_toArray, List.getElem_cons_zero, List.getElem_cons_succ]
    refine any_take (i := 4) (v := (.bool false)) #[true, true, true, true, false, false, false, false, false, false, false, false, false, false, false, false] rfl (by kernel_rfl) (by kernel_rfl) (by kernel_rfl) (by kernel_rfl) (fun _ _ _ h => h) (.inl ⟨by kernel_rfl, fun x_ hu => by go_simp⟩) ⟨(hB.get 1 (x := ⟨gx, #[.int .i64 x1, .int .i64 x2, .int .u64 x3, .slice va (m - 11) vc], 80⟩) rfl), hB.gr⟩ ?_
    simp only [Act.put, List.setIfInBounds_toArray, List.set_cons_zero, List.set_cons_succ, List.getElem_toArray, List.getElem_cons_zero, List.getElem_cons_succ]
    refine any_take (i := 5) (v := (.bool false)) #[true, true, true, true, true, false, false, false, false, false, false, false, false, false, false, false] rfl (by kernel_rfl) (by kernel_rfl) (by kernel_rfl) (by kernel_rfl) (fun _ _ _ h => h) (.inl ⟨by kernel_rfl, fun x_ hu => by kernel_rfl⟩) ⟨(hB.get 1 (x := ⟨gx, #[.int .i64 x1, .int .i64 x2, .int .u64 x3, .slice va (m - 11) vc], 80⟩) rfl), hB.gr⟩ ?_
    simp only [Act.put, List.setIfInBounds_toArray, List.set_cons_zero, List.set_cons_succ, List.getElem_toArray, List.getElem_cons_zero, List.getElem_cons_succ]
    refine any_take (i := 6) (v := undef) #[true, true, true, true, true, true, false, false, false, false, false, false, false, false, false, false] rfl (by kernel_rfl) (by kernel_rfl) (by kernel_rfl) (by kernel_rfl) (fun _ _ _ h => h) (.inr ⟨by kernel_rfl, rfl⟩) ⟨(hB.get 1 (x := ⟨gx, #[.int .i64 x1, .int .i64 x2, .int .u64 x3, .slice va (m - 11) vc], 80⟩) rfl), hB.gr⟩ ?_
    simp only [Act.put, List.setIfInBounds_toArray, List.set_cons_zero, List.set_cons_succ, List.getElem_toArray, List.getElem_cons_zero, List.getElem_cons_succ]
    refine any_take (i := 7) (v := undef) #[true, true, true, true, true, true, true, false, false, false, false, false, false, false, false, false] rfl (by kernel_rfl) (by kernel_rfl) (by kernel_rfl) (by kernel_rfl) (fun _ _ _ h => h) (.inr ⟨by kernel_rfl, rfl⟩) ⟨(hB.get 1 (x := ⟨gx, #[.int .i64 x1, .int .i64 x2, .int .u64 x3, .slice va (m - 11) vc], 80⟩) rfl), hB.gr⟩ ?_
    simp only [Act.put, List.setIfInBounds_toArray, List.set_cons_zero, List.set_cons_succ, List.getElem_toArray, List.getElem_cons_zero, List.getElem_cons_succ]
    refine any_take (i := 8) (v := undef) #[true, true, true, true, true, true, true, true, false, false, false, false, false, false, false, false] rfl (by kernel_rfl) (by kernel_rfl) (by kernel_rfl) (by kernel_rfl) (fun _ _ _ h => h) (.inr ⟨by kernel_rfl, rfl⟩) ⟨(hB.get 1 (x := ⟨gx, #[.int .i64 x1, .int .i64 x2, .int .u64 x3, .slice va (m - 11) vc], 80⟩) rfl), hB.gr⟩ ?_
    simp only [Act.put, List.setIfInBounds_toArray, List.set_cons_zero, List.set_cons_succ, List.getElem_toArray, List.getElem_cons_zero, List.getElem_cons_succ]
    refine any_take (i := 9) (v := undef) #[true, true, true, true, true, true, true, true, true, false, false, false, false, false, false, false] rfl (by kernel_rfl) (by kernel_rfl) (by kernel_rfl) (by kernel_rfl) (fun _ _ _ h => h) (.inr ⟨by kernel_rfl, rfl⟩) ⟨(hB.get 1 (x := ⟨gx, #[.int .i64 x1, .int .i64 x2, .int .u64 x3, .slice va (m - 11) vc], 80⟩) rfl), hB.gr⟩ ?_
    simp only [Act.put, List.setIfInBounds_toArray, List.set_cons_zero, List.set_cons_succ, List.getElem_toArray, List.getElem_cons_zero, List.getElem_cons_succ]
    refine any_take (i := 10) (v := undef) #[true, true, true, true, true, true, true, true, true, true, false, false, false, false, false, false] rfl (by kernel_rfl) (by kernel_rfl) (by kernel_rfl) (by kernel_rfl) (fun _ _ _ h => h) (.inr ⟨by kernel_rfl, rfl⟩) ⟨(hB.get 1 (x := ⟨gx, #[.int .i64 x1, .int .i64 x2, .int .u64 x3, .slice va (m - 11) vc], 80⟩) rfl), hB.gr⟩ ?_
    simp only [Act.put, List.setIfInBounds_toArray, List.set_cons_zero, List.set_cons_succ, List.getElem_toArray, List.getElem_cons_zero, List.getElem_cons_succ]
    refine any_take (i := 11) (v := undef) #[true, true, true, true, true, true, true, true, true, true, true, false, false, false, false, false] rfl (by kernel_rfl) (by kernel_rfl) (by kernel_rfl) (by kernel_rfl) (fun _ _ _ h => h) (.inr ⟨by kernel_rfl, rfl⟩) ⟨(hB.get 1 (x := ⟨gx, #[.int .i64 x1, .int .i64 x2, .int .u64 x3, .slice va (m - 11) vc], 80⟩) rfl), hB.gr⟩ ?_
    simp only [Act.put, List.setIfInBounds_toArray, List.set_cons_zero, List.set_cons_succ, List.getElem_toArray, List.getElem_cons_zero, List.getElem_cons_succ]
    refine any_take (i := 12) (v := undef) #[true, true, true, true, true, true, true, true, true, true, true, true, false, false, false, false] rfl (by kernel_rfl) (by kernel_rfl) (by kernel_rfl) (by kernel_rfl) (fun _ _ _ h => h) (.inr ⟨by kernel_rfl, rfl⟩) ⟨(hB.get 1 (x := ⟨gx, #[.int .i64 x1, .int .i64 x2, .int .u64 x3, .slice va (m - 11) vc], 80⟩) rfl), hB.gr⟩ ?_
    simp only [Act.put, List.setIfInBounds_toArray, List.set_cons_zero, List.set_cons_succ, List.getElem_toArray, List.getElem_cons_zero, List.getElem_cons_succ]
    refine any_take (i := 13) (v := (.bool false)) #[true, true, true, true, true, true, true, true, true, true, true, true, true, false, false, false] rfl (by kernel_rfl) (by kernel_rfl) (by kernel_rfl) (by kernel_rfl) (fun _ _ _ h => h) (.inl ⟨by kernel_rfl, fun x_ hu => by kernel_rfl⟩) ⟨(hB.get 1 (x := ⟨gx, #[.int .i64 x1, .int .i64 x2, .int .u64 x3, .slice va (m - 11) vc], 80⟩) rfl), hB.gr⟩ ?_
    simp only [Act.put, List.setIfInBounds_toArray, List.set_cons_zero, List.set_cons_succ, List.getElem_toArray, List.getElem_cons_zero, List.getElem_cons_succ]
    refine any_one (i := 14) (by kernel_rfl) rfl (fun K hK => ?_)
    rw [if_pos (by kernel_rfl)]
    refine wp_store_row 80 (.tmp 2) (.tmp 20) rfl (w.heap.size) #[.int .i64 x1, .int .i64 x2, .int .u64 x3, .slice va (m - 11) vc] (by kernel_rfl) (by kernel_rfl) 80 #[.int .i64 0, .int .i64 0, .int .u64 0, .slice none 0 0] (hB.get 0 (x := ⟨w.heap.size, #[.int .i64 0, .int .i64 0, .int .u64 0, .slice none 0 0], 80⟩) rfl) (by rw [Try.infoD]; rfl) rfl (by simp [Value.oneCell']) ?_
    replace hO := hide (ob_bt (unhide hO) (hB.get 0 (x := ⟨w.heap.size, #[.int .i64 0, .int .i64 0, .int .u64 0, .slice none 0 0], 80⟩) rfl) (show (80 : TypeId) ≠ 5 by decide) (setRow_bt _ (w.heap.size) #[.int .i64 x1, .int .i64 x2, .int .u64 x3, .slice va (m - 11) vc]))
    replace hB := hB.set 0 (x := ⟨w.heap.size, #[.int .i64 0, .int .i64 0, .int .u64 0, .slice none 0 0], 80⟩) rfl #[.int .i64 x1, .int .i64 x2, .int .u64 x3, .slice va (m - 11) vc]
    simp only [List.set_cons_zero, List.set_cons_succ] at hB
    generalize World.setRow _ _ _ = u5 at *
    replace hB : Bl w [⟨w.heap.size, #[.int .i64 x1, .int .i64 x2, .int .u64 x3, .slice va (m - 11) vc], 80⟩, ⟨gx, #[.int .i64 x1, .int .i64 x2, .int .u64 x3, .slice va (m - 11) vc], 80⟩] u5 := hB
    refine hK.out _ _ ⟨(hB.get 1 (x := ⟨gx, #[.int .i64 x1, .int .i64 x2, .int .u64 x3, .slice va (m - 11) vc], 80⟩) rfl), hB.gr⟩ (fun _ => ?_)
    clear hK K
    simp only [Act.put, List.setIfInBounds_toArray, List.set_cons_zero, List.set_cons_succ, List.getElem_toArray, List.getElem_cons_zero, List.getElem_cons_succ]
    refine any_one (i := 15) (by kernel_rfl) rfl (fun K hK => ?_)
    replace hK := hide hK
    go_simp
    refine (unhide hK).out _ _ ⟨(hB.get 1 (x := ⟨gx, #[.int .i64 x1, .int .i64 x2, .int .u64 x3, .slice va (m - 11) vc], 80⟩) rfl), hB.gr⟩ (fun _ => ?_)
    clear hK K
    refine any_done (by kernel_rfl) ?_
    have hbk : Hid (u5.heap[w.heap.size]? = some (.cells #[.int .i64 x1, .int .i64 x2, .int .u64 x3, .slice va (m - 11) vc] 80 (0, 0))) := (hB.get 0 (x := ⟨w.heap.size, #[.int .i64 x1, .int .i64 x2, .int .u64 x3, .slice va (m - 11) vc], 80⟩) rfl)
    have hP : Hid (T (.returned (.tuple #[.agg #[.int .i64 x1, .int .i64 x2, .int .u64 x3, .slice va (m - 11) vc], .bool false])) u5) := by
      rw [unhide hT]
      exact ⟨va, vc, rfl, unhide hO, hB.gr⟩
    clear hB
    go_wp2_with fail
    exact bodyPost_ret (v := .tuple #[.agg #[.int .i64 x1, .int .i64 x2, .int .u64 x3, .slice va (m - 11) vc], .bool false]) (results_cell_tmp Try.results47 _ _ (w.heap.size) 80 #[.int .i64 x1, .int .i64 x2, .int .u64 x3, .slice va (m - 11) vc] (0, 0) _ rfl (.bool false) rfl (unhide hbk) Try.underlying80 rfl (by rw [Try.infoD]; rfl)) rfl (unhide hP)
end Go.Proofs.Ytfmocneoffkmpaa
