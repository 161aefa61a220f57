/-
  FrameReads: packets are read of bytes, and of which kind bytes are.
-/
import Derived.Test.YtfmocneoffkmpaaGA0
import Derived.Test.YtfmocneoffkmpaaFW
namespace Go.Proofs.Ytfmocneoffkmpaa
open Go.RowKit
set_option maxRecDepth 100000
set_option linter.unusedSimpArgs false
set_option linter.unusedVariables false
set_option maxHeartbeats 4000000 in
theorem reads_gn (l : List Int) (s : Option Addr) (len cap : Nat) (w : World) (lb : Lb w s len cap l) (hO : onS (((min len 1000 : Nat) : Int) - 11) = true) (hR : rpS (((min len 1000 : Nat) : Int) - 11) = false) (hE : (decide ((l.take (min len 1000)).getD 0 0 = 2) && pkE (l.take (min len 1000))) = true) : Calls Try.prog 7 #[.slice s len cap] w (Woke w) := by
  obtain ⟨T, hT⟩ : ∃ T, T = Woke w := ⟨_, rfl⟩
  rw [← hT]
  replace hT := hide hT
  replace lb := hide lb
  obtain ⟨n, hn0⟩ : ∃ n, n = min len 1000 := ⟨_, rfl⟩
  obtain ⟨L, hL0⟩ : ∃ L, L = l.take n := ⟨_, rfl⟩
  have hn9 : n ≤ 1000 := by omega
  rw [← hn0] at hO hR hE
  rw [← hL0] at hE
  have hn12 : 11 < n := by have h9 := hO; unfold onS at h9; rw [decide_eq_true_iff] at h9; omega
  obtain ⟨x, hx⟩ : ∃ x : Int, x = (n : Int) - 11 := ⟨_, rfl⟩
  have hnw : IntKind.i64.wrap ((n : Int) - 11) = x := by rw [IntKind.wrap_i64]; omega
  replace hx := hide hx
  have hOx : onS x = true := by rw [unhide hx]; exact hO
  have hRx : rpS x = false := by rw [unhide hx]; exact hR
  have hF : L.getD 0 0 = 2 ∧ pkE L = true := by rw [Bool.and_eq_true, decide_eq_true_iff] at hE; exact hE
  obtain ⟨x1, hx1⟩ : ∃ x, x = L.getD 1 0 := ⟨_, rfl⟩
  obtain ⟨x2, hx2⟩ : ∃ x, x = L.getD 2 0 := ⟨_, rfl⟩
  obtain ⟨x3, hx3⟩ : ∃ x, x = lowN ((L.drop 3).take 8) := ⟨_, rfl⟩
  replace hx1 := hide hx1; replace hx2 := hide hx2; replace hx3 := hide hx3; replace hF := hide hF
  replace hn0 := hide hn0; replace hL0 := hide hL0; replace hO := hide hO; replace hR := hide hR
  go_enter Try.func7, Try.ntmps7
  go_upto_region 1 with fail
  refine wp_region_lit ?_
  refine list_call 9 #[] (by kernel_rfl) (by kernel_rfl) ((jwakes_ok w).mono ?_)
  rintro r u1 ⟨rfl, hg⟩
  have hWg := hide hg
  clear hg
  refine ⟨_, rfl, ?_⟩
  simp only [Act.put, List.setIfInBounds_toArray, List.set_cons_zero, List.set_cons_succ, List.getElem_toArray, List.getElem_cons_zero, List.getElem_cons_succ]
  refine list_val (.bool false) (by kernel_rfl) (by kernel_rfl) ?_
  simp only [Act.put, List.setIfInBounds_toArray, List.set_cons_zero, List.set_cons_succ, List.getElem_toArray, List.getElem_cons_zero, List.getElem_cons_succ]
  refine wpList_nil ?_
  go_upto_region 3 with fail
  refine wp_region_lit ?_
  refine list_val (.slice s len cap) (by kernel_rfl) (by kernel_rfl) ?_
  simp only [Act.put, List.setIfInBounds_toArray, List.set_cons_zero, List.set_cons_succ, List.getElem_toArray, List.getElem_cons_zero, List.getElem_cons_succ]
  refine list_call 10 #[.slice s len cap] (by kernel_rfl) (by kernel_rfl) ((jcut_ok l s len cap u1 ((unhide lb).gr (unhide hWg))).mono ?_)
  rintro r u2 ⟨s1, rfl, hs1, rfl⟩
  have hl := hs1 w (unhide lb)
  rw [← unhide hn0, ← unhide hL0] at hl
  rw [← unhide hn0]
  clear hs1 lb hL0 hn0
  have hLl := hl.len
  have hLb := hide hl.isB
  obtain ⟨p0, q0, rfl, hl⟩ := hl.some (by omega)
  replace hl := hide hl
  refine ⟨_, rfl, ?_⟩
  simp only [Act.put, List.setIfInBounds_toArray, List.set_cons_zero, List.set_cons_succ, List.getElem_toArray, List.getElem_cons_zero, List.getElem_cons_succ]
  (refine wpList_step fun K hK => ?_; replace hK := hide hK; go_simp; refine unhide hK _ _ ?_; clear hK K)
  refine wpList_nil ?_
  go_upto_region 4 with fail
  refine wp_region_lit ?_
  refine list_val (.slice (some ⟨p0, q0, none⟩) n cap) (by kernel_rfl) (by kernel_rfl) ?_
  simp only [Act.put, List.setIfInBounds_toArray, List.set_cons_zero, List.set_cons_succ, List.getElem_toArray, List.getElem_cons_zero, List.getElem_cons_succ]
  refine list_call 18 #[.slice (some ⟨p0, q0, none⟩) n cap] (by kernel_rfl) (by kernel_rfl) ((jroom_ok L (some ⟨p0, q0, none⟩) n cap hn9 u2 ((unhide hl).gr (unhide hWg))).mono ?_)
  rintro r u6 ⟨go, co, rfl, hc1, hc2, hgo, hat, hg⟩
  rw [hLl] at hc1 ⊢
  have hlo : Lb u6 (some ⟨go, 0, none⟩) n co L := by
    have h9 := hat.take n
    rw [List.take_append_of_le_length (by rw [hLl]; exact Nat.le_refl _), List.take_of_length_le (by rw [hLl]; exact Nat.le_refl _)] at h9
    exact ⟨hLl, unhide hLb, .inr ⟨go, 0, rfl, h9⟩, by omega, hc2⟩
  replace hlo := hide hlo
  replace hWg := hide ((unhide hWg).trans hg)
  replace hl := hide ((unhide hl).gr (unhide hWg))
  clear hg hat hc1 hc2 hgo
  have hW := hide (Bl.nil u6)
  refine ⟨_, rfl, ?_⟩
  simp only [Act.put, List.setIfInBounds_toArray, List.set_cons_zero, List.set_cons_succ, List.getElem_toArray, List.getElem_cons_zero, List.getElem_cons_succ]
  (refine wpList_step fun K hK => ?_; replace hK := hide hK; go_simp; refine unhide hK _ _ ?_; clear hK K)
  refine wpList_nil ?_
  go_upto_region 5 with fail
  refine wp_region_lit ?_
  refine list_val (.slice (some ⟨go, 0, none⟩) n co) (by kernel_rfl) (by kernel_rfl) ?_
  simp only [Act.put, List.setIfInBounds_toArray, List.set_cons_zero, List.set_cons_succ, List.getElem_toArray, List.getElem_cons_zero, List.getElem_cons_succ]
  refine list_call 42 #[.slice (some ⟨go, 0, none⟩) n co] (by kernel_rfl) (by kernel_rfl) ((fgetup_ok L (some ⟨go, 0, none⟩) n co (unhide hO) (unhide hF).1 (unhide hF).2 u6 ((unhide hlo).gr (unhide hW).gr)).mono ?_)
  rintro r v1 ⟨v, rfl, hO_, hg⟩
  replace hO_ := ob_base hO_ (unhide hW).gr.size
  obtain ⟨va1, vc1, rfl, _⟩ := ob_lb hO_ (isB_drop (unhide hLb) 11) (n := n - 11) (by rw [List.length_drop, hLl])
  unfold pkv
  rw [← unhide hx1, ← unhide hx2, ← unhide hx3]
  have hA1 := hide hO_
  clear hO_
  replace hW := hide ((unhide hW).more hg)
  clear hg
  refine ⟨_, rfl, ?_⟩
  simp only [Act.put, List.setIfInBounds_toArray, List.set_cons_zero, List.set_cons_succ, List.getElem_toArray, List.getElem_cons_zero, List.getElem_cons_succ]
  refine list_val (.tuple #[.agg #[.int .i64 x1, .int .i64 x2, .int .u64 x3, .slice va1 (n - 11) vc1], .int .i64 0]) (by kernel_rfl) (by kernel_rfl) ?_
  simp only [Act.put, List.setIfInBounds_toArray, List.set_cons_zero, List.set_cons_succ, List.getElem_toArray, List.getElem_cons_zero, List.getElem_cons_succ]
  refine list_val (.agg #[.int .i64 x1, .int .i64 x2, .int .u64 x3, .slice va1 (n - 11) vc1]) (by kernel_rfl) (by kernel_rfl) ?_
  simp only [Act.put, List.setIfInBounds_toArray, List.set_cons_zero, List.set_cons_succ, List.getElem_toArray, List.getElem_cons_zero, List.getElem_cons_succ]
  refine list_val (.int .i64 0) (by kernel_rfl) (by kernel_rfl) ?_
  simp only [Act.put, List.setIfInBounds_toArray, List.set_cons_zero, List.set_cons_succ, List.getElem_toArray, List.getElem_cons_zero, List.getElem_cons_succ]
  refine list_valw (.pointer (some ⟨v1.heap.size, 0, none⟩)) (v1.alloc (.cells #[.int .i64 0, .int .i64 0, .int .u64 0, .slice none 0 0] 78 (0, 0))) (by kernel_rfl) (by kernel_rfl) ?_
  replace hA1 := hide ((unhide hA1).gr ((Gr.refl v1).alloc (.cells #[.int .i64 0, .int .i64 0, .int .u64 0, .slice none 0 0] 78 (0, 0))))
  have hW2 := (unhide hW).new #[.int .i64 0, .int .i64 0, .int .u64 0, .slice none 0 0] 78
  simp only [List.nil_append, List.cons_append] at hW2
  clear hW
  generalize World.alloc _ _ = v2 at *
  generalize v1.heap.size = qup at *
  replace hW2 : Bl u6 [⟨qup, #[.int .i64 0, .int .i64 0, .int .u64 0, .slice none 0 0], 78⟩] v2 := hW2
  have hW := hide hW2
  clear hW2
  simp only [Act.put, List.setIfInBounds_toArray, List.set_cons_zero, List.set_cons_succ, List.getElem_toArray, List.getElem_cons_zero, List.getElem_cons_succ]
  have hq9 := ((unhide hW).get 0 (x := ⟨qup, #[.int .i64 0, .int .i64 0, .int .u64 0, .slice none 0 0], 78⟩) rfl)
  dsimp only at hq9
  refine list_store 78 (.tmp 4) (.tmp 21) qup #[.int .i64 x1, .int .i64 x2, .int .u64 x3, .slice va1 (n - 11) vc1] 78 #[.int .i64 0, .int .i64 0, .int .u64 0, .slice none 0 0] (by kernel_rfl) rfl (by kernel_rfl) (by kernel_rfl) hq9 (by rw [Try.infoU]; rfl) rfl (by simp [Value.oneCell']) ?_
  replace hA1 := hide (ob_bt (unhide hA1) hq9 (by decide) (setRow_bt v2 qup #[.int .i64 x1, .int .i64 x2, .int .u64 x3, .slice va1 (n - 11) vc1]))
  have hW2 := (unhide hW).set 0 (x := ⟨qup, #[.int .i64 0, .int .i64 0, .int .u64 0, .slice none 0 0], 78⟩) rfl #[.int .i64 x1, .int .i64 x2, .int .u64 x3, .slice va1 (n - 11) vc1]
  simp only [List.set_cons_zero, List.set_cons_succ] at hW2
  clear hW hq9
  generalize World.setRow _ _ _ = v3 at *
  replace hW2 : Bl u6 [⟨qup, #[.int .i64 x1, .int .i64 x2, .int .u64 x3, .slice va1 (n - 11) vc1], 78⟩] v3 := hW2
  have hW := hide hW2
  clear hW2
  simp only [Act.put, List.setIfInBounds_toArray, List.set_cons_zero, List.set_cons_succ, List.getElem_toArray, List.getElem_cons_zero, List.getElem_cons_succ]
  (refine wpList_step fun K hK => ?_; replace hK := hide hK; go_simp; refine unhide hK _ _ ?_; clear hK K)
  refine wpList_nil ?_
  go_upto_region 6 with fail
  refine wp_region_lit ?_
  refine list_val (.slice (some ⟨go, 0, none⟩) n co) (by kernel_rfl) (by kernel_rfl) ?_
  simp only [Act.put, List.setIfInBounds_toArray, List.set_cons_zero, List.set_cons_succ, List.getElem_toArray, List.getElem_cons_zero, List.getElem_cons_succ]
  refine list_call 43 #[.slice (some ⟨go, 0, none⟩) n co] (by kernel_rfl) (by kernel_rfl) ((fgetdn_no (some ⟨go, 0, none⟩) n co (by omega) (unhide hR) v3).mono ?_)
  rintro r v4 ⟨rfl, hg⟩
  replace hW := hide ((unhide hW).more hg)
  replace hA1 := hide ((unhide hA1).gr hg)
  clear hg
  refine ⟨_, rfl, ?_⟩
  simp only [Act.put, List.setIfInBounds_toArray, List.set_cons_zero, List.set_cons_succ, List.getElem_toArray, List.getElem_cons_zero, List.getElem_cons_succ]
  refine list_val (.tuple #[.agg #[.int .i64 0, .int .i64 0, .int .u64 0, .slice none 0 0], .int .i64 240]) (by kernel_rfl) (by kernel_rfl) ?_
  simp only [Act.put, List.setIfInBounds_toArray, List.set_cons_zero, List.set_cons_succ, List.getElem_toArray, List.getElem_cons_zero, List.getElem_cons_succ]
  refine list_val (.agg #[.int .i64 0, .int .i64 0, .int .u64 0, .slice none 0 0]) (by kernel_rfl) (by kernel_rfl) ?_
  simp only [Act.put, List.setIfInBounds_toArray, List.set_cons_zero, List.set_cons_succ, List.getElem_toArray, List.getElem_cons_zero, List.getElem_cons_succ]
  refine list_val (.int .i64 240) (by kernel_rfl) (by kernel_rfl) ?_
  simp only [Act.put, List.setIfInBounds_toArray, List.set_cons_zero, List.set_cons_succ, List.getElem_toArray, List.getElem_cons_zero, List.getElem_cons_succ]
  refine list_valw (.pointer (some ⟨v4.heap.size, 0, none⟩)) (v4.alloc (.cells #[.int .i64 0, .int .i64 0, .int .u64 0, .slice none 0 0] 80 (0, 0))) (by kernel_rfl) (by kernel_rfl) ?_
  replace hA1 := hide ((unhide hA1).gr ((Gr.refl v4).alloc (.cells #[.int .i64 0, .int .i64 0, .int .u64 0, .slice none 0 0] 80 (0, 0))))
  have hW2 := (unhide hW).new #[.int .i64 0, .int .i64 0, .int .u64 0, .slice none 0 0] 80
  simp only [List.nil_append, List.cons_append] at hW2
  clear hW
  generalize World.alloc _ _ = v5 at *
  generalize v4.heap.size = qdn at *
  replace hW2 : Bl u6 [⟨qup, #[.int .i64 x1, .int .i64 x2, .int .u64 x3, .slice va1 (n - 11) vc1], 78⟩, ⟨qdn, #[.int .i64 0, .int .i64 0, .int .u64 0, .slice none 0 0], 80⟩] v5 := hW2
  have hW := hide hW2
  clear hW2
  simp only [Act.put, List.setIfInBounds_toArray, List.set_cons_zero, List.set_cons_succ, List.getElem_toArray, List.getElem_cons_zero, List.getElem_cons_succ]
  have hq9 := ((unhide hW).get 1 (x := ⟨qdn, #[.int .i64 0, .int .i64 0, .int .u64 0, .slice none 0 0], 80⟩) rfl)
  dsimp only at hq9
  refine list_store 80 (.tmp 6) (.tmp 26) qdn #[.int .i64 0, .int .i64 0, .int .u64 0, .slice none 0 0] 80 #[.int .i64 0, .int .i64 0, .int .u64 0, .slice none 0 0] (by kernel_rfl) rfl (by kernel_rfl) (by kernel_rfl) hq9 (by rw [Try.infoD]; rfl) rfl (by simp [Value.oneCell']) ?_
  replace hA1 := hide (ob_bt (unhide hA1) hq9 (by decide) (setRow_bt v5 qdn #[.int .i64 0, .int .i64 0, .int .u64 0, .slice none 0 0]))
  have hW2 := (unhide hW).set 1 (x := ⟨qdn, #[.int .i64 0, .int .i64 0, .int .u64 0, .slice none 0 0], 80⟩) rfl #[.int .i64 0, .int .i64 0, .int .u64 0, .slice none 0 0]
  simp only [List.set_cons_zero, List.set_cons_succ] at hW2
  clear hW hq9
  generalize World.setRow _ _ _ = v6 at *
  replace hW2 : Bl u6 [⟨qup, #[.int .i64 x1, .int .i64 x2, .int .u64 x3, .slice va1 (n - 11) vc1], 78⟩, ⟨qdn, #[.int .i64 0, .int .i64 0, .int .u64 0, .slice none 0 0], 80⟩] v6 := hW2
  have hW := hide hW2
  clear hW2
  simp only [Act.put, List.setIfInBounds_toArray, List.set_cons_zero, List.set_cons_succ, List.getElem_toArray, List.getElem_cons_zero, List.getElem_cons_succ]
  (refine wpList_step fun K hK => ?_; replace hK := hide hK; go_simp; refine unhide hK _ _ ?_; clear hK K)
  refine wpList_nil ?_
  go_upto_region 7 with fail
  refine wp_region_lit ?_
  refine list_val (.slice (some ⟨go, 0, none⟩) n co) (by kernel_rfl) (by kernel_rfl) ?_
  simp only [Act.put, List.setIfInBounds_toArray, List.set_cons_zero, List.set_cons_succ, List.getElem_toArray, List.getElem_cons_zero, List.getElem_cons_succ]
  refine list_call 44 #[.slice (some ⟨go, 0, none⟩) n co] (by kernel_rfl) (by kernel_rfl) ((fkind_ok L (some ⟨go, 0, none⟩) n co v6 ((unhide hlo).gr (unhide hW).gr)).mono ?_)
  rintro r v7 ⟨rfl, hg⟩
  generalize hkk : kindO L = kk_ at *
  replace hW := hide ((unhide hW).more hg)
  replace hA1 := hide ((unhide hA1).gr hg)
  clear hg
  refine ⟨_, rfl, ?_⟩
  simp only [Act.put, List.setIfInBounds_toArray, List.set_cons_zero, List.set_cons_succ, List.getElem_toArray, List.getElem_cons_zero, List.getElem_cons_succ]
  refine list_val (.slice (some ⟨p0, q0, none⟩) n cap) (by kernel_rfl) (by kernel_rfl) ?_
  simp only [Act.put, List.setIfInBounds_toArray, List.set_cons_zero, List.set_cons_succ, List.getElem_toArray, List.getElem_cons_zero, List.getElem_cons_succ]
  refine list_call 45 #[.slice (some ⟨p0, q0, none⟩) n cap] (by kernel_rfl) (by kernel_rfl) ((qkind_ok L (some ⟨p0, q0, none⟩) n cap hn9 v7 ((unhide hl).gr (unhide hW).gr)).mono ?_)
  rintro r v8 ⟨rfl, hg⟩
  rw [hkk]
  replace hW := hide ((unhide hW).more hg)
  replace hA1 := hide ((unhide hA1).gr hg)
  clear hg
  refine ⟨_, rfl, ?_⟩
  simp only [Act.put, List.setIfInBounds_toArray, List.set_cons_zero, List.set_cons_succ, List.getElem_toArray, List.getElem_cons_zero, List.getElem_cons_succ]
  refine list_val (.bool false) (by kernel_rfl) (by go_simp) ?_
  simp only [Act.put, List.setIfInBounds_toArray, List.set_cons_zero, List.set_cons_succ, List.getElem_toArray, List.getElem_cons_zero, List.getElem_cons_succ]
  refine list_val (.bool false) (by kernel_rfl) (by kernel_rfl) ?_
  simp only [Act.put, List.setIfInBounds_toArray, List.set_cons_zero, List.set_cons_succ, List.getElem_toArray, List.getElem_cons_zero, List.getElem_cons_succ]
  refine list_val (.slice (some ⟨go, 0, none⟩) n co) (by kernel_rfl) (by kernel_rfl) ?_
  simp only [Act.put, List.setIfInBounds_toArray, List.set_cons_zero, List.set_cons_succ, List.getElem_toArray, List.getElem_cons_zero, List.getElem_cons_succ]
  refine list_val (.slice (some ⟨p0, q0, none⟩) n cap) (by kernel_rfl) (by kernel_rfl) ?_
  simp only [Act.put, List.setIfInBounds_toArray, List.set_cons_zero, List.set_cons_succ, List.getElem_toArray, List.getElem_cons_zero, List.getElem_cons_succ]
  refine list_call 11 #[.slice (some ⟨go, 0, none⟩) n co, .slice (some ⟨p0, q0, none⟩) n cap] (by kernel_rfl) (by kernel_rfl) ((beq_ok L L (some ⟨go, 0, none⟩) (some ⟨p0, q0, none⟩) n n co cap v8 ((unhide hlo).gr (unhide hW).gr) ((unhide hl).gr (unhide hW).gr)).mono ?_)
  rintro r v9 ⟨rfl, hg⟩
  rw [decide_eq_true rfl]
  replace hW := hide ((unhide hW).more hg)
  replace hA1 := hide ((unhide hA1).gr hg)
  clear hg
  refine ⟨_, rfl, ?_⟩
  simp only [Act.put, List.setIfInBounds_toArray, List.set_cons_zero, List.set_cons_succ, List.getElem_toArray, List.getElem_cons_zero, List.getElem_cons_succ]
  refine list_val (.bool false) (by kernel_rfl) (by kernel_rfl) ?_
  simp only [Act.put, List.setIfInBounds_toArray, List.set_cons_zero, List.set_cons_succ, List.getElem_toArray, List.getElem_cons_zero, List.getElem_cons_succ]
  refine list_val (.bool false) (by kernel_rfl) (by kernel_rfl) ?_
  simp only [Act.put, List.setIfInBounds_toArray, List.set_cons_zero, List.set_cons_succ, List.getElem_toArray, List.getElem_cons_zero, List.getElem_cons_succ]
  refine wpList_nil ?_
  go_upto_region 9 with fail
  refine wp_region_lit ?_
  refine list_val (.agg #[.int .i64 0, .int .i64 0, .int .u64 0, .slice none 0 0]) (by kernel_rfl) (by kernel_rfl) ?_
  simp only [Act.put, List.setIfInBounds_toArray, List.set_cons_zero, List.set_cons_succ, List.getElem_toArray, List.getElem_cons_zero, List.getElem_cons_succ]
  refine list_valw (.pointer (some ⟨v9.heap.size, 0, none⟩)) (v9.alloc (.cells #[.int .i64 0, .int .i64 0, .int .u64 0, .slice none 0 0] 78 (0, 0))) (by kernel_rfl) (by kernel_rfl) ?_
  replace hA1 := hide ((unhide hA1).gr ((Gr.refl v9).alloc (.cells #[.int .i64 0, .int .i64 0, .int .u64 0, .slice none 0 0] 78 (0, 0))))
  have hW2 := (unhide hW).new #[.int .i64 0, .int .i64 0, .int .u64 0, .slice none 0 0] 78
  simp only [List.nil_append, List.cons_append] at hW2
  clear hW
  generalize World.alloc _ _ = v10 at *
  generalize v9.heap.size = rup at *
  replace hW2 : Bl u6 [⟨qup, #[.int .i64 x1, .int .i64 x2, .int .u64 x3, .slice va1 (n - 11) vc1], 78⟩, ⟨qdn, #[.int .i64 0, .int .i64 0, .int .u64 0, .slice none 0 0], 80⟩, ⟨rup, #[.int .i64 0, .int .i64 0, .int .u64 0, .slice none 0 0], 78⟩] v10 := hW2
  have hW := hide hW2
  clear hW2
  simp only [Act.put, List.setIfInBounds_toArray, List.set_cons_zero, List.set_cons_succ, List.getElem_toArray, List.getElem_cons_zero, List.getElem_cons_succ]
  have hq9 := ((unhide hW).get 2 (x := ⟨rup, #[.int .i64 0, .int .i64 0, .int .u64 0, .slice none 0 0], 78⟩) rfl)
  dsimp only at hq9
  refine list_store 78 (.tmp 8) (.tmp 39) rup #[.int .i64 0, .int .i64 0, .int .u64 0, .slice none 0 0] 78 #[.int .i64 0, .int .i64 0, .int .u64 0, .slice none 0 0] (by kernel_rfl) rfl (by kernel_rfl) (by kernel_rfl) hq9 (by rw [Try.infoU]; rfl) rfl (by simp [Value.oneCell']) ?_
  replace hA1 := hide (ob_bt (unhide hA1) hq9 (by decide) (setRow_bt v10 rup #[.int .i64 0, .int .i64 0, .int .u64 0, .slice none 0 0]))
  have hW2 := (unhide hW).set 2 (x := ⟨rup, #[.int .i64 0, .int .i64 0, .int .u64 0, .slice none 0 0], 78⟩) rfl #[.int .i64 0, .int .i64 0, .int .u64 0, .slice none 0 0]
  simp only [List.set_cons_zero, List.set_cons_succ] at hW2
  clear hW hq9
  generalize World.setRow _ _ _ = v11 at *
  replace hW2 : Bl u6 [⟨qup, #[.int .i64 x1, .int .i64 x2, .int .u64 x3, .slice va1 (n - 11) vc1], 78⟩, ⟨qdn, #[.int .i64 0, .int .i64 0, .int .u64 0, .slice none 0 0], 80⟩, ⟨rup, #[.int .i64 0, .int .i64 0, .int .u64 0, .slice none 0 0], 78⟩] v11 := hW2
  have hW := hide hW2
  clear hW2
  simp only [Act.put, List.setIfInBounds_toArray, List.set_cons_zero, List.set_cons_succ, List.getElem_toArray, List.getElem_cons_zero, List.getElem_cons_succ]
  (refine wpList_step fun K hK => ?_; replace hK := hide hK; go_simp; refine unhide hK _ _ ?_; clear hK K)
  (refine wpList_step fun K hK => ?_; replace hK := hide hK; go_simp; refine unhide hK _ _ ?_; clear hK K)
  refine wpList_nil ?_
  go_upto_region 10 with fail
  refine wp_region_lit ?_
  refine list_val (.slice (some ⟨p0, q0, none⟩) n cap) (by kernel_rfl) (by kernel_rfl) ?_
  simp only [Act.put, List.setIfInBounds_toArray, List.set_cons_zero, List.set_cons_succ, List.getElem_toArray, List.getElem_cons_zero, List.getElem_cons_succ]
  refine list_val (.int .i64 (n : Int)) (by kernel_rfl) (by kernel_rfl) ?_
  simp only [Act.put, List.setIfInBounds_toArray, List.set_cons_zero, List.set_cons_succ, List.getElem_toArray, List.getElem_cons_zero, List.getElem_cons_succ]
  refine list_val (.int .i64 x) (by kernel_rfl) (by go_simp) ?_
  simp only [Act.put, List.setIfInBounds_toArray, List.set_cons_zero, List.set_cons_succ, List.getElem_toArray, List.getElem_cons_zero, List.getElem_cons_succ]
  refine list_call 39 #[.int .i64 x] (by kernel_rfl) (by kernel_rfl) ((qon_ok x v11).mono ?_)
  rintro r v12 ⟨hup, rfl, hhup, rfl⟩
  rw [hOx, decide_eq_true_iff] at hhup
  refine ⟨_, rfl, ?_⟩
  simp only [Act.put, List.setIfInBounds_toArray, List.set_cons_zero, List.set_cons_succ, List.getElem_toArray, List.getElem_cons_zero, List.getElem_cons_succ]
  refine list_val (.bool true) (by kernel_rfl) (by go_simp) ?_
  simp only [Act.put, List.setIfInBounds_toArray, List.set_cons_zero, List.set_cons_succ, List.getElem_toArray, List.getElem_cons_zero, List.getElem_cons_succ]
  refine wpList_nil ?_
  go_upto_region 12 with fail
  refine wp_region_lit ?_
  refine list_val (.slice (some ⟨p0, q0, none⟩) n cap) (by kernel_rfl) (by kernel_rfl) ?_
  simp only [Act.put, List.setIfInBounds_toArray, List.set_cons_zero, List.set_cons_succ, List.getElem_toArray, List.getElem_cons_zero, List.getElem_cons_succ]
  refine list_call 46 #[.slice (some ⟨p0, q0, none⟩) n cap] (by kernel_rfl) (by kernel_rfl) ((qgetup_ok L p0 q0 n cap hn12 hn9 v12 ((unhide hl).gr (unhide hW).gr)).mono ?_)
  rintro r v13 ⟨va2, vc2, rfl, hO_, hg⟩
  rw [hE]
  rw [hLl] at hO_ ⊢
  replace hO_ := ob_base hO_ (unhide hW).gr.size
  unfold pkv
  rw [← unhide hx1, ← unhide hx2, ← unhide hx3]
  have hA2 := hide hO_
  clear hO_
  replace hW := hide ((unhide hW).more hg)
  replace hA1 := hide ((unhide hA1).gr hg)
  clear hg
  refine ⟨_, rfl, ?_⟩
  simp only [Act.put, List.setIfInBounds_toArray, List.set_cons_zero, List.set_cons_succ, List.getElem_toArray, List.getElem_cons_zero, List.getElem_cons_succ]
  refine list_val (.tuple #[.agg #[.int .i64 x1, .int .i64 x2, .int .u64 x3, .slice va2 (n - 11) vc2], .bool true]) (by kernel_rfl) (by kernel_rfl) ?_
  simp only [Act.put, List.setIfInBounds_toArray, List.set_cons_zero, List.set_cons_succ, List.getElem_toArray, List.getElem_cons_zero, List.getElem_cons_succ]
  refine list_val (.agg #[.int .i64 x1, .int .i64 x2, .int .u64 x3, .slice va2 (n - 11) vc2]) (by kernel_rfl) (by kernel_rfl) ?_
  simp only [Act.put, List.setIfInBounds_toArray, List.set_cons_zero, List.set_cons_succ, List.getElem_toArray, List.getElem_cons_zero, List.getElem_cons_succ]
  refine list_val (.bool true) (by kernel_rfl) (by kernel_rfl) ?_
  simp only [Act.put, List.setIfInBounds_toArray, List.set_cons_zero, List.set_cons_succ, List.getElem_toArray, List.getElem_cons_zero, List.getElem_cons_succ]
  have hq9 := ((unhide hW).get 2 (x := ⟨rup, #[.int .i64 0, .int .i64 0, .int .u64 0, .slice none 0 0], 78⟩) rfl)
  dsimp only at hq9
  refine list_store 78 (.tmp 8) (.tmp 48) rup #[.int .i64 x1, .int .i64 x2, .int .u64 x3, .slice va2 (n - 11) vc2] 78 #[.int .i64 0, .int .i64 0, .int .u64 0, .slice none 0 0] (by kernel_rfl) rfl (by kernel_rfl) (by kernel_rfl) hq9 (by rw [Try.infoU]; rfl) rfl (by simp [Value.oneCell']) ?_
  replace hA1 := hide (ob_bt (unhide hA1) hq9 (by decide) (setRow_bt v13 rup #[.int .i64 x1, .int .i64 x2, .int .u64 x3, .slice va2 (n - 11) vc2]))
  replace hA2 := hide (ob_bt (unhide hA2) hq9 (by decide) (setRow_bt v13 rup #[.int .i64 x1, .int .i64 x2, .int .u64 x3, .slice va2 (n - 11) vc2]))
  have hW2 := (unhide hW).set 2 (x := ⟨rup, #[.int .i64 0, .int .i64 0, .int .u64 0, .slice none 0 0], 78⟩) rfl #[.int .i64 x1, .int .i64 x2, .int .u64 x3, .slice va2 (n - 11) vc2]
  simp only [List.set_cons_zero, List.set_cons_succ] at hW2
  clear hW hq9
  generalize World.setRow _ _ _ = v14 at *
  replace hW2 : Bl u6 [⟨qup, #[.int .i64 x1, .int .i64 x2, .int .u64 x3, .slice va1 (n - 11) vc1], 78⟩, ⟨qdn, #[.int .i64 0, .int .i64 0, .int .u64 0, .slice none 0 0], 80⟩, ⟨rup, #[.int .i64 x1, .int .i64 x2, .int .u64 x3, .slice va2 (n - 11) vc2], 78⟩] v14 := hW2
  have hW := hide hW2
  clear hW2
  simp only [Act.put, List.setIfInBounds_toArray, List.set_cons_zero, List.set_cons_succ, List.getElem_toArray, List.getElem_cons_zero, List.getElem_cons_succ]
  (refine wpList_step fun K hK => ?_; replace hK := hide hK; go_simp; refine unhide hK _ _ ?_; clear hK K)
  refine wpList_nil ?_
  go_upto_region 13 with fail
  refine wp_region_lit ?_
  refine list_val (.bool true) (by kernel_rfl) (by kernel_rfl) ?_
  simp only [Act.put, List.setIfInBounds_toArray, List.set_cons_zero, List.set_cons_succ, List.getElem_toArray, List.getElem_cons_zero, List.getElem_cons_succ]
  refine list_val (.bool true) (by kernel_rfl) (by kernel_rfl) ?_
  simp only [Act.put, List.setIfInBounds_toArray, List.set_cons_zero, List.set_cons_succ, List.getElem_toArray, List.getElem_cons_zero, List.getElem_cons_succ]
  refine list_val (.int .i64 0) (by kernel_rfl) (by kernel_rfl) ?_
  simp only [Act.put, List.setIfInBounds_toArray, List.set_cons_zero, List.set_cons_succ, List.getElem_toArray, List.getElem_cons_zero, List.getElem_cons_succ]
  refine list_val (.bool false) (by kernel_rfl) (by kernel_rfl) ?_
  simp only [Act.put, List.setIfInBounds_toArray, List.set_cons_zero, List.set_cons_succ, List.getElem_toArray, List.getElem_cons_zero, List.getElem_cons_succ]
  refine list_val (.bool false) (by kernel_rfl) (by kernel_rfl) ?_
  simp only [Act.put, List.setIfInBounds_toArray, List.set_cons_zero, List.set_cons_succ, List.getElem_toArray, List.getElem_cons_zero, List.getElem_cons_succ]
  refine list_val (.pointer (some ⟨qup, 0, none⟩)) (by kernel_rfl) (by kernel_rfl) ?_
  simp only [Act.put, List.setIfInBounds_toArray, List.set_cons_zero, List.set_cons_succ, List.getElem_toArray, List.getElem_cons_zero, List.getElem_cons_succ]
  refine list_val (.int .i64 x1) (by kernel_rfl) (exec_i64 _ (.tmp 55) rfl qup 0 (by kernel_rfl) x1 (cell_of ((unhide hW).get 0 (x := ⟨qup, #[.int .i64 x1, .int .i64 x2, .int .u64 x3, .slice va1 (n - 11) vc1], 78⟩) rfl) (i := 0) rfl)) ?_
  simp only [Act.put, List.setIfInBounds_toArray, List.set_cons_zero, List.set_cons_succ, List.getElem_toArray, List.getElem_cons_zero, List.getElem_cons_succ]
  refine list_val (.pointer (some ⟨rup, 0, none⟩)) (by kernel_rfl) (by kernel_rfl) ?_
  simp only [Act.put, List.setIfInBounds_toArray, List.set_cons_zero, List.set_cons_succ, List.getElem_toArray, List.getElem_cons_zero, List.getElem_cons_succ]
  refine list_val (.int .i64 x1) (by kernel_rfl) (exec_i64 _ (.tmp 57) rfl rup 0 (by kernel_rfl) x1 (cell_of ((unhide hW).get 2 (x := ⟨rup, #[.int .i64 x1, .int .i64 x2, .int .u64 x3, .slice va2 (n - 11) vc2], 78⟩) rfl) (i := 0) rfl)) ?_
  simp only [Act.put, List.setIfInBounds_toArray, List.set_cons_zero, List.set_cons_succ, List.getElem_toArray, List.getElem_cons_zero, List.getElem_cons_succ]
  refine list_val (.bool false) (by kernel_rfl) (by go_simp) ?_
  simp only [Act.put, List.setIfInBounds_toArray, List.set_cons_zero, List.set_cons_succ, List.getElem_toArray, List.getElem_cons_zero, List.getElem_cons_succ]
  refine list_val (.bool false) (by kernel_rfl) (by kernel_rfl) ?_
  simp only [Act.put, List.setIfInBounds_toArray, List.set_cons_zero, List.set_cons_succ, List.getElem_toArray, List.getElem_cons_zero, List.getElem_cons_succ]
  refine list_val (.bool false) (by kernel_rfl) (by kernel_rfl) ?_
  simp only [Act.put, List.setIfInBounds_toArray, List.set_cons_zero, List.set_cons_succ, List.getElem_toArray, List.getElem_cons_zero, List.getElem_cons_succ]
  refine list_val (.pointer (some ⟨qup, 1, none⟩)) (by kernel_rfl) (by kernel_rfl) ?_
  simp only [Act.put, List.setIfInBounds_toArray, List.set_cons_zero, List.set_cons_succ, List.getElem_toArray, List.getElem_cons_zero, List.getElem_cons_succ]
  refine list_val (.int .i64 x2) (by kernel_rfl) (exec_i64 _ (.tmp 62) rfl qup 1 (by kernel_rfl) x2 (cell_of ((unhide hW).get 0 (x := ⟨qup, #[.int .i64 x1, .int .i64 x2, .int .u64 x3, .slice va1 (n - 11) vc1], 78⟩) rfl) (i := 1) rfl)) ?_
  simp only [Act.put, List.setIfInBounds_toArray, List.set_cons_zero, List.set_cons_succ, List.getElem_toArray, List.getElem_cons_zero, List.getElem_cons_succ]
  refine list_val (.pointer (some ⟨rup, 1, none⟩)) (by kernel_rfl) (by kernel_rfl) ?_
  simp only [Act.put, List.setIfInBounds_toArray, List.set_cons_zero, List.set_cons_succ, List.getElem_toArray, List.getElem_cons_zero, List.getElem_cons_succ]
  refine list_val (.int .i64 x2) (by kernel_rfl) (exec_i64 _ (.tmp 64) rfl rup 1 (by kernel_rfl) x2 (cell_of ((unhide hW).get 2 (x := ⟨rup, #[.int .i64 x1, .int .i64 x2, .int .u64 x3, .slice va2 (n - 11) vc2], 78⟩) rfl) (i := 1) rfl)) ?_
  simp only [Act.put, List.setIfInBounds_toArray, List.set_cons_zero, List.set_cons_succ, List.getElem_toArray, List.getElem_cons_zero, List.getElem_cons_succ]
  refine list_val (.bool false) (by kernel_rfl) (by go_simp) ?_
  simp only [Act.put, List.setIfInBounds_toArray, List.set_cons_zero, List.set_cons_succ, List.getElem_toArray, List.getElem_cons_zero, List.getElem_cons_succ]
  refine list_val (.bool false) (by kernel_rfl) (by kernel_rfl) ?_
  simp only [Act.put, List.setIfInBounds_toArray, List.set_cons_zero, List.set_cons_succ, List.getElem_toArray, List.getElem_cons_zero, List.getElem_cons_succ]
  refine list_val (.bool false) (by kernel_rfl) (by kernel_rfl) ?_
  simp only [Act.put, List.setIfInBounds_toArray, List.set_cons_zero, List.set_cons_succ, List.getElem_toArray, List.getElem_cons_zero, List.getElem_cons_succ]
  refine list_val (.pointer (some ⟨qup, 2, none⟩)) (by kernel_rfl) (by kernel_rfl) ?_
  simp only [Act.put, List.setIfInBounds_toArray, List.set_cons_zero, List.set_cons_succ, List.getElem_toArray, List.getElem_cons_zero, List.getElem_cons_succ]
  refine list_val (.int .u64 x3) (by kernel_rfl) (exec_u64 _ (.tmp 69) rfl qup 2 (by kernel_rfl) x3 (cell_of ((unhide hW).get 0 (x := ⟨qup, #[.int .i64 x1, .int .i64 x2, .int .u64 x3, .slice va1 (n - 11) vc1], 78⟩) rfl) (i := 2) rfl)) ?_
  simp only [Act.put, List.setIfInBounds_toArray, List.set_cons_zero, List.set_cons_succ, List.getElem_toArray, List.getElem_cons_zero, List.getElem_cons_succ]
  refine list_val (.pointer (some ⟨rup, 2, none⟩)) (by kernel_rfl) (by kernel_rfl) ?_
  simp only [Act.put, List.setIfInBounds_toArray, List.set_cons_zero, List.set_cons_succ, List.getElem_toArray, List.getElem_cons_zero, List.getElem_cons_succ]
  refine list_val (.int .u64 x3) (by kernel_rfl) (exec_u64 _ (.tmp 71) rfl rup 2 (by kernel_rfl) x3 (cell_of ((unhide hW).get 2 (x := ⟨rup, #[.int .i64 x1, .int .i64 x2, .int .u64 x3, .slice va2 (n - 11) vc2], 78⟩) rfl) (i := 2) rfl)) ?_
  simp only [Act.put, List.setIfInBounds_toArray, List.set_cons_zero, List.set_cons_succ, List.getElem_toArray, List.getElem_cons_zero, List.getElem_cons_succ]
  refine list_val (.bool false) (by kernel_rfl) (by go_simp) ?_
  simp only [Act.put, List.setIfInBounds_toArray, List.set_cons_zero, List.set_cons_succ, List.getElem_toArray, List.getElem_cons_zero, List.getElem_cons_succ]
  refine list_val (.bool false) (by kernel_rfl) (by kernel_rfl) ?_
  simp only [Act.put, List.setIfInBounds_toArray, List.set_cons_zero, List.set_cons_succ, List.getElem_toArray, List.getElem_cons_zero, List.getElem_cons_succ]
  refine list_val (.bool false) (by kernel_rfl) (by kernel_rfl) ?_
  simp only [Act.put, List.setIfInBounds_toArray, List.set_cons_zero, List.set_cons_succ, List.getElem_toArray, List.getElem_cons_zero, List.getElem_cons_succ]
  refine list_val (.pointer (some ⟨qup, 3, none⟩)) (by kernel_rfl) (by kernel_rfl) ?_
  simp only [Act.put, List.setIfInBounds_toArray, List.set_cons_zero, List.set_cons_succ, List.getElem_toArray, List.getElem_cons_zero, List.getElem_cons_succ]
  refine list_val (.slice va1 (n - 11) vc1) (by kernel_rfl) (exec_sby _ (.tmp 76) rfl qup 3 (by kernel_rfl) va1 (n - 11) vc1 (cell_of ((unhide hW).get 0 (x := ⟨qup, #[.int .i64 x1, .int .i64 x2, .int .u64 x3, .slice va1 (n - 11) vc1], 78⟩) rfl) (i := 3) rfl)) ?_
  simp only [Act.put, List.setIfInBounds_toArray, List.set_cons_zero, List.set_cons_succ, List.getElem_toArray, List.getElem_cons_zero, List.getElem_cons_succ]
  refine list_val (.pointer (some ⟨rup, 3, none⟩)) (by kernel_rfl) (by kernel_rfl) ?_
  simp only [Act.put, List.setIfInBounds_toArray, List.set_cons_zero, List.set_cons_succ, List.getElem_toArray, List.getElem_cons_zero, List.getElem_cons_succ]
  refine list_val (.slice va2 (n - 11) vc2) (by kernel_rfl) (exec_sby _ (.tmp 78) rfl rup 3 (by kernel_rfl) va2 (n - 11) vc2 (cell_of ((unhide hW).get 2 (x := ⟨rup, #[.int .i64 x1, .int .i64 x2, .int .u64 x3, .slice va2 (n - 11) vc2], 78⟩) rfl) (i := 3) rfl)) ?_
  simp only [Act.put, List.setIfInBounds_toArray, List.set_cons_zero, List.set_cons_succ, List.getElem_toArray, List.getElem_cons_zero, List.getElem_cons_succ]
  obtain ⟨_, _, e1_, hb1_⟩ := ob_lb (unhide hA1) (isB_drop (unhide hLb) 11) (n := n - 11) (by rw [List.length_drop, hLl])
  obtain ⟨_, _, e2_, hb2_⟩ := ob_lb (unhide hA2) (isB_drop (unhide hLb) 11) (n := n - 11) (by rw [List.length_drop, hLl])
  injection e1_ with e11 e12 e13
  injection e2_ with e21 e22 e23
  subst e11 e13 e21 e23
  clear e12 e22
  refine list_call 11 #[.slice va1 (n - 11) vc1, .slice va2 (n - 11) vc2] (by kernel_rfl) (by kernel_rfl) ((beq_ok (L.drop 11) (L.drop 11) va1 va2 (n - 11) (n - 11) vc1 vc2 v14 hb1_ hb2_).mono ?_)
  rintro r v15 ⟨rfl, hg⟩
  rw [decide_eq_true rfl]
  clear hb1_ hb2_
  replace hW := hide ((unhide hW).more hg)
  replace hA1 := hide ((unhide hA1).gr hg)
  replace hA2 := hide ((unhide hA2).gr hg)
  clear hg
  refine ⟨_, rfl, ?_⟩
  simp only [Act.put, List.setIfInBounds_toArray, List.set_cons_zero, List.set_cons_succ, List.getElem_toArray, List.getElem_cons_zero, List.getElem_cons_succ]
  refine list_val (.bool false) (by kernel_rfl) (by kernel_rfl) ?_
  simp only [Act.put, List.setIfInBounds_toArray, List.set_cons_zero, List.set_cons_succ, List.getElem_toArray, List.getElem_cons_zero, List.getElem_cons_succ]
  refine list_val (.bool false) (by kernel_rfl) (by kernel_rfl) ?_
  simp only [Act.put, List.setIfInBounds_toArray, List.set_cons_zero, List.set_cons_succ, List.getElem_toArray, List.getElem_cons_zero, List.getElem_cons_succ]
  refine list_val (.bool false) (by kernel_rfl) (by kernel_rfl) ?_
  simp only [Act.put, List.setIfInBounds_toArray, List.set_cons_zero, List.set_cons_succ, List.getElem_toArray, List.getElem_cons_zero, List.getElem_cons_succ]
  refine wpList_nil ?_
  go_upto_region 15 with fail
  refine wp_region_lit ?_
  refine list_val (.bool true) (by kernel_rfl) (by kernel_rfl) ?_
  simp only [Act.put, List.setIfInBounds_toArray, List.set_cons_zero, List.set_cons_succ, List.getElem_toArray, List.getElem_cons_zero, List.getElem_cons_succ]
  refine list_val (.bool false) (by kernel_rfl) (by kernel_rfl) ?_
  simp only [Act.put, List.setIfInBounds_toArray, List.set_cons_zero, List.set_cons_succ, List.getElem_toArray, List.getElem_cons_zero, List.getElem_cons_succ]
  refine list_val_offs 24 (.bool false) (by kernel_rfl) (by kernel_rfl) (by kernel_rfl) ?_
  simp only [List.drop_succ_cons, List.drop_zero, List.take_succ_cons, List.take_zero, putU]
  simp only [Act.put, List.setIfInBounds_toArray, List.set_cons_zero, List.set_cons_succ, List.getElem_toArray, List.getElem_cons_zero, List.getElem_cons_succ]
  refine list_val (.bool false) (by kernel_rfl) (by kernel_rfl) ?_
  simp only [Act.put, List.setIfInBounds_toArray, List.set_cons_zero, List.set_cons_succ, List.getElem_toArray, List.getElem_cons_zero, List.getElem_cons_succ]
  refine wpList_nil ?_
  clear hA1 hA2
  go_upto_region 17 with fail
  refine wp_region_lit ?_
  refine list_val (.agg #[.int .i64 0, .int .i64 0, .int .u64 0, .slice none 0 0]) (by kernel_rfl) (by kernel_rfl) ?_
  simp only [Act.put, List.setIfInBounds_toArray, List.set_cons_zero, List.set_cons_succ, List.getElem_toArray, List.getElem_cons_zero, List.getElem_cons_succ]
  refine list_valw (.pointer (some ⟨v15.heap.size, 0, none⟩)) (v15.alloc (.cells #[.int .i64 0, .int .i64 0, .int .u64 0, .slice none 0 0] 80 (0, 0))) (by kernel_rfl) (by kernel_rfl) ?_
  have hW2 := (unhide hW).new #[.int .i64 0, .int .i64 0, .int .u64 0, .slice none 0 0] 80
  simp only [List.nil_append, List.cons_append] at hW2
  clear hW
  generalize World.alloc _ _ = v16 at *
  generalize v15.heap.size = rdn at *
  replace hW2 : Bl u6 [⟨qup, #[.int .i64 x1, .int .i64 x2, .int .u64 x3, .slice va1 (n - 11) vc1], 78⟩, ⟨qdn, #[.int .i64 0, .int .i64 0, .int .u64 0, .slice none 0 0], 80⟩, ⟨rup, #[.int .i64 x1, .int .i64 x2, .int .u64 x3, .slice va2 (n - 11) vc2], 78⟩, ⟨rdn, #[.int .i64 0, .int .i64 0, .int .u64 0, .slice none 0 0], 80⟩] v16 := hW2
  have hW := hide hW2
  clear hW2
  simp only [Act.put, List.setIfInBounds_toArray, List.set_cons_zero, List.set_cons_succ, List.getElem_toArray, List.getElem_cons_zero, List.getElem_cons_succ]
  have hq9 := ((unhide hW).get 3 (x := ⟨rdn, #[.int .i64 0, .int .i64 0, .int .u64 0, .slice none 0 0], 80⟩) rfl)
  dsimp only at hq9
  refine list_store 80 (.tmp 11) (.tmp 112) rdn #[.int .i64 0, .int .i64 0, .int .u64 0, .slice none 0 0] 80 #[.int .i64 0, .int .i64 0, .int .u64 0, .slice none 0 0] (by kernel_rfl) rfl (by kernel_rfl) (by kernel_rfl) hq9 (by rw [Try.infoD]; rfl) rfl (by simp [Value.oneCell']) ?_
  have hW2 := (unhide hW).set 3 (x := ⟨rdn, #[.int .i64 0, .int .i64 0, .int .u64 0, .slice none 0 0], 80⟩) rfl #[.int .i64 0, .int .i64 0, .int .u64 0, .slice none 0 0]
  simp only [List.set_cons_zero, List.set_cons_succ] at hW2
  clear hW hq9
  generalize World.setRow _ _ _ = v17 at *
  replace hW2 : Bl u6 [⟨qup, #[.int .i64 x1, .int .i64 x2, .int .u64 x3, .slice va1 (n - 11) vc1], 78⟩, ⟨qdn, #[.int .i64 0, .int .i64 0, .int .u64 0, .slice none 0 0], 80⟩, ⟨rup, #[.int .i64 x1, .int .i64 x2, .int .u64 x3, .slice va2 (n - 11) vc2], 78⟩, ⟨rdn, #[.int .i64 0, .int .i64 0, .int .u64 0, .slice none 0 0], 80⟩] v17 := hW2
  have hW := hide hW2
  clear hW2
  simp only [Act.put, List.setIfInBounds_toArray, List.set_cons_zero, List.set_cons_succ, List.getElem_toArray, List.getElem_cons_zero, List.getElem_cons_succ]
  (refine wpList_step fun K hK => ?_; replace hK := hide hK; go_simp; refine unhide hK _ _ ?_; clear hK K)
  (refine wpList_step fun K hK => ?_; replace hK := hide hK; go_simp; refine unhide hK _ _ ?_; clear hK K)
  refine wpList_nil ?_
  go_upto_region 18 with fail
  refine wp_region_lit ?_
  refine list_val (.slice (some ⟨p0, q0, none⟩) n cap) (by kernel_rfl) (by kernel_rfl) ?_
  simp only [Act.put, List.setIfInBounds_toArray, List.set_cons_zero, List.set_cons_succ, List.getElem_toArray, List.getElem_cons_zero, List.getElem_cons_succ]
  refine list_val (.int .i64 (n : Int)) (by kernel_rfl) (by kernel_rfl) ?_
  simp only [Act.put, List.setIfInBounds_toArray, List.set_cons_zero, List.set_cons_succ, List.getElem_toArray, List.getElem_cons_zero, List.getElem_cons_succ]
  refine list_val (.int .i64 x) (by kernel_rfl) (by go_simp) ?_
  simp only [Act.put, List.setIfInBounds_toArray, List.set_cons_zero, List.set_cons_succ, List.getElem_toArray, List.getElem_cons_zero, List.getElem_cons_succ]
  refine list_call 41 #[.int .i64 x] (by kernel_rfl) (by kernel_rfl) ((qrp_ok x v17).mono ?_)
  rintro r v18 ⟨hdn, rfl, hhdn, rfl⟩
  rw [hRx, decide_eq_false_iff_not] at hhdn
  refine ⟨_, rfl, ?_⟩
  simp only [Act.put, List.setIfInBounds_toArray, List.set_cons_zero, List.set_cons_succ, List.getElem_toArray, List.getElem_cons_zero, List.getElem_cons_succ]
  refine list_val (.bool false) (by kernel_rfl) (by go_simp) ?_
  simp only [Act.put, List.setIfInBounds_toArray, List.set_cons_zero, List.set_cons_succ, List.getElem_toArray, List.getElem_cons_zero, List.getElem_cons_succ]
  refine wpList_nil ?_
  go_upto_region 23 with fail
  refine wp_region_lit ?_
  refine list_val (.int .i64 240) (by kernel_rfl) (by kernel_rfl) ?_
  simp only [Act.put, List.setIfInBounds_toArray, List.set_cons_zero, List.set_cons_succ, List.getElem_toArray, List.getElem_cons_zero, List.getElem_cons_succ]
  refine list_val (.int .i64 240) (by kernel_rfl) (by kernel_rfl) ?_
  simp only [Act.put, List.setIfInBounds_toArray, List.set_cons_zero, List.set_cons_succ, List.getElem_toArray, List.getElem_cons_zero, List.getElem_cons_succ]
  refine list_val (.bool true) (by kernel_rfl) (by kernel_rfl) ?_
  simp only [Act.put, List.setIfInBounds_toArray, List.set_cons_zero, List.set_cons_succ, List.getElem_toArray, List.getElem_cons_zero, List.getElem_cons_succ]
  refine list_val (.bool true) (by kernel_rfl) (by kernel_rfl) ?_
  simp only [Act.put, List.setIfInBounds_toArray, List.set_cons_zero, List.set_cons_succ, List.getElem_toArray, List.getElem_cons_zero, List.getElem_cons_succ]
  refine list_val (.pointer (some ⟨qdn, 0, none⟩)) (by kernel_rfl) (by kernel_rfl) ?_
  simp only [Act.put, List.setIfInBounds_toArray, List.set_cons_zero, List.set_cons_succ, List.getElem_toArray, List.getElem_cons_zero, List.getElem_cons_succ]
  refine list_val (.int .i64 0) (by kernel_rfl) (exec_i64 _ (.tmp 158) rfl qdn 0 (by kernel_rfl) 0 (cell_of ((unhide hW).get 1 (x := ⟨qdn, #[.int .i64 0, .int .i64 0, .int .u64 0, .slice none 0 0], 80⟩) rfl) (i := 0) rfl)) ?_
  simp only [Act.put, List.setIfInBounds_toArray, List.set_cons_zero, List.set_cons_succ, List.getElem_toArray, List.getElem_cons_zero, List.getElem_cons_succ]
  refine list_val (.bool true) (by kernel_rfl) (by kernel_rfl) ?_
  simp only [Act.put, List.setIfInBounds_toArray, List.set_cons_zero, List.set_cons_succ, List.getElem_toArray, List.getElem_cons_zero, List.getElem_cons_succ]
  refine list_val (.bool true) (by kernel_rfl) (by kernel_rfl) ?_
  simp only [Act.put, List.setIfInBounds_toArray, List.set_cons_zero, List.set_cons_succ, List.getElem_toArray, List.getElem_cons_zero, List.getElem_cons_succ]
  refine list_val (.bool true) (by kernel_rfl) (by kernel_rfl) ?_
  simp only [Act.put, List.setIfInBounds_toArray, List.set_cons_zero, List.set_cons_succ, List.getElem_toArray, List.getElem_cons_zero, List.getElem_cons_succ]
  refine list_val (.pointer (some ⟨qdn, 1, none⟩)) (by kernel_rfl) (by kernel_rfl) ?_
  simp only [Act.put, List.setIfInBounds_toArray, List.set_cons_zero, List.set_cons_succ, List.getElem_toArray, List.getElem_cons_zero, List.getElem_cons_succ]
  refine list_val (.int .i64 0) (by kernel_rfl) (exec_i64 _ (.tmp 163) rfl qdn 1 (by kernel_rfl) 0 (cell_of ((unhide hW).get 1 (x := ⟨qdn, #[.int .i64 0, .int .i64 0, .int .u64 0, .slice none 0 0], 80⟩) rfl) (i := 1) rfl)) ?_
  simp only [Act.put, List.setIfInBounds_toArray, List.set_cons_zero, List.set_cons_succ, List.getElem_toArray, List.getElem_cons_zero, List.getElem_cons_succ]
  refine list_val (.bool true) (by kernel_rfl) (by kernel_rfl) ?_
  simp only [Act.put, List.setIfInBounds_toArray, List.set_cons_zero, List.set_cons_succ, List.getElem_toArray, List.getElem_cons_zero, List.getElem_cons_succ]
  refine list_val (.bool true) (by kernel_rfl) (by kernel_rfl) ?_
  simp only [Act.put, List.setIfInBounds_toArray, List.set_cons_zero, List.set_cons_succ, List.getElem_toArray, List.getElem_cons_zero, List.getElem_cons_succ]
  refine list_val (.bool true) (by kernel_rfl) (by kernel_rfl) ?_
  simp only [Act.put, List.setIfInBounds_toArray, List.set_cons_zero, List.set_cons_succ, List.getElem_toArray, List.getElem_cons_zero, List.getElem_cons_succ]
  refine list_val (.pointer (some ⟨qdn, 2, none⟩)) (by kernel_rfl) (by kernel_rfl) ?_
  simp only [Act.put, List.setIfInBounds_toArray, List.set_cons_zero, List.set_cons_succ, List.getElem_toArray, List.getElem_cons_zero, List.getElem_cons_succ]
  refine list_val (.int .u64 0) (by kernel_rfl) (exec_u64 _ (.tmp 168) rfl qdn 2 (by kernel_rfl) 0 (cell_of ((unhide hW).get 1 (x := ⟨qdn, #[.int .i64 0, .int .i64 0, .int .u64 0, .slice none 0 0], 80⟩) rfl) (i := 2) rfl)) ?_
  simp only [Act.put, List.setIfInBounds_toArray, List.set_cons_zero, List.set_cons_succ, List.getElem_toArray, List.getElem_cons_zero, List.getElem_cons_succ]
  refine list_val (.bool true) (by kernel_rfl) (by kernel_rfl) ?_
  simp only [Act.put, List.setIfInBounds_toArray, List.set_cons_zero, List.set_cons_succ, List.getElem_toArray, List.getElem_cons_zero, List.getElem_cons_succ]
  refine list_val (.bool true) (by kernel_rfl) (by kernel_rfl) ?_
  simp only [Act.put, List.setIfInBounds_toArray, List.set_cons_zero, List.set_cons_succ, List.getElem_toArray, List.getElem_cons_zero, List.getElem_cons_succ]
  refine list_val (.bool true) (by kernel_rfl) (by kernel_rfl) ?_
  simp only [Act.put, List.setIfInBounds_toArray, List.set_cons_zero, List.set_cons_succ, List.getElem_toArray, List.getElem_cons_zero, List.getElem_cons_succ]
  refine list_val (.pointer (some ⟨qdn, 3, none⟩)) (by kernel_rfl) (by kernel_rfl) ?_
  simp only [Act.put, List.setIfInBounds_toArray, List.set_cons_zero, List.set_cons_succ, List.getElem_toArray, List.getElem_cons_zero, List.getElem_cons_succ]
  refine list_val (.slice none 0 0) (by kernel_rfl) (exec_sby _ (.tmp 173) rfl qdn 3 (by kernel_rfl) none 0 0 (cell_of ((unhide hW).get 1 (x := ⟨qdn, #[.int .i64 0, .int .i64 0, .int .u64 0, .slice none 0 0], 80⟩) rfl) (i := 3) rfl)) ?_
  simp only [Act.put, List.setIfInBounds_toArray, List.set_cons_zero, List.set_cons_succ, List.getElem_toArray, List.getElem_cons_zero, List.getElem_cons_succ]
  refine list_val (.int .i64 0) (by kernel_rfl) (by kernel_rfl) ?_
  simp only [Act.put, List.setIfInBounds_toArray, List.set_cons_zero, List.set_cons_succ, List.getElem_toArray, List.getElem_cons_zero, List.getElem_cons_succ]
  refine list_val (.bool true) (by kernel_rfl) (by kernel_rfl) ?_
  simp only [Act.put, List.setIfInBounds_toArray, List.set_cons_zero, List.set_cons_succ, List.getElem_toArray, List.getElem_cons_zero, List.getElem_cons_succ]
  refine list_val (.bool true) (by kernel_rfl) (by kernel_rfl) ?_
  simp only [Act.put, List.setIfInBounds_toArray, List.set_cons_zero, List.set_cons_succ, List.getElem_toArray, List.getElem_cons_zero, List.getElem_cons_succ]
  (refine wpList_step fun K hK => ?_; replace hK := hide hK; go_simp; refine unhide hK _ _ ?_; clear hK K)
  refine wpList_nil ?_
  have hZ : Hid (Woke w (.returned (.bool true)) v18) := ⟨rfl, (unhide hWg).trans (unhide hW).gr⟩
  go_wp2_with fail
  rw [unhide hT]
  exact unhide hZ
set_option maxHeartbeats 4000000 in
theorem reads_bn (l : List Int) (s : Option Addr) (len cap : Nat) (w : World) (lb : Lb w s len cap l) (hO : onS (((min len 1000 : Nat) : Int) - 11) = true) (hR : rpS (((min len 1000 : Nat) : Int) - 11) = false) (hE : (decide ((l.take (min len 1000)).getD 0 0 = 2) && pkE (l.take (min len 1000))) = false) : Calls Try.prog 7 #[.slice s len cap] w (Woke w) := by
  obtain ⟨T, hT⟩ : ∃ T, T = Woke w := ⟨_, rfl⟩
  rw [← hT]
  replace hT := hide hT
  replace lb := hide lb
  obtain ⟨n, hn0⟩ : ∃ n, n = min len 1000 := ⟨_, rfl⟩
  obtain ⟨L, hL0⟩ : ∃ L, L = l.take n := ⟨_, rfl⟩
  have hn9 : n ≤ 1000 := by omega
  rw [← hn0] at hO hR hE
  rw [← hL0] at hE
  have hn12 : 11 < n := by have h9 := hO; unfold onS at h9; rw [decide_eq_true_iff] at h9; omega
  obtain ⟨x, hx⟩ : ∃ x : Int, x = (n : Int) - 11 := ⟨_, rfl⟩
  have hnw : IntKind.i64.wrap ((n : Int) - 11) = x := by rw [IntKind.wrap_i64]; omega
  replace hx := hide hx
  have hOx : onS x = true := by rw [unhide hx]; exact hO
  have hRx : rpS x = false := by rw [unhide hx]; exact hR
  have hF : L.getD 0 0 ≠ 2 ∨ pkE L = false := by
    by_cases h9 : L.getD 0 0 = 2
    · right; rw [decide_eq_true h9, Bool.true_and] at hE; exact hE
    · exact .inl h9
  obtain ⟨x1, hx1⟩ : ∃ x, x = L.getD 1 0 := ⟨_, rfl⟩
  obtain ⟨x2, hx2⟩ : ∃ x, x = L.getD 2 0 := ⟨_, rfl⟩
  obtain ⟨x3, hx3⟩ : ∃ x, x = lowN ((L.drop 3).take 8) := ⟨_, rfl⟩
  replace hx1 := hide hx1; replace hx2 := hide hx2; replace hx3 := hide hx3; replace hF := hide hF
  replace hn0 := hide hn0; replace hL0 := hide hL0; replace hO := hide hO; replace hR := hide hR
  go_enter Try.func7, Try.ntmps7
  go_upto_region 1 with fail
  refine wp_region_lit ?_
  refine list_call 9 #[] (by kernel_rfl) (by kernel_rfl) ((jwakes_ok w).mono ?_)
  rintro r u1 ⟨rfl, hg⟩
  have hWg := hide hg
  clear hg
  refine ⟨_, rfl, ?_⟩
  simp only [Act.put, List.setIfInBounds_toArray, List.set_cons_zero, List.set_cons_succ, List.getElem_toArray, List.getElem_cons_zero, List.getElem_cons_succ]
  refine list_val (.bool false) (by kernel_rfl) (by kernel_rfl) ?_
  simp only [Act.put, List.setIfInBounds_toArray, List.set_cons_zero, List.set_cons_succ, List.getElem_toArray, List.getElem_cons_zero, List.getElem_cons_succ]
  refine wpList_nil ?_
  go_upto_region 3 with fail
  refine wp_region_lit ?_
  refine list_val (.slice s len cap) (by kernel_rfl) (by kernel_rfl) ?_
  simp only [Act.put, List.setIfInBounds_toArray, List.set_cons_zero, List.set_cons_succ, List.getElem_toArray, List.getElem_cons_zero, List.getElem_cons_succ]
  refine list_call 10 #[.slice s len cap] (by kernel_rfl) (by kernel_rfl) ((jcut_ok l s len cap u1 ((unhide lb).gr (unhide hWg))).mono ?_)
  rintro r u2 ⟨s1, rfl, hs1, rfl⟩
  have hl := hs1 w (unhide lb)
  rw [← unhide hn0, ← unhide hL0] at hl
  rw [← unhide hn0]
  clear hs1 lb hL0 hn0
  have hLl := hl.len
  have hLb := hide hl.isB
  obtain ⟨p0, q0, rfl, hl⟩ := hl.some (by omega)
  replace hl := hide hl
  refine ⟨_, rfl, ?_⟩
  simp only [Act.put, List.setIfInBounds_toArray, List.set_cons_zero, List.set_cons_succ, List.getElem_toArray, List.getElem_cons_zero, List.getElem_cons_succ]
  (refine wpList_step fun K hK => ?_; replace hK := hide hK; go_simp; refine unhide hK _ _ ?_; clear hK K)
  refine wpList_nil ?_
  go_upto_region 4 with fail
  refine wp_region_lit ?_
  refine list_val (.slice (some ⟨p0, q0, none⟩) n cap) (by kernel_rfl) (by kernel_rfl) ?_
  simp only [Act.put, List.setIfInBounds_toArray, List.set_cons_zero, List.set_cons_succ, List.getElem_toArray, List.getElem_cons_zero, List.getElem_cons_succ]
  refine list_call 18 #[.slice (some ⟨p0, q0, none⟩) n cap] (by kernel_rfl) (by kernel_rfl) ((jroom_ok L (some ⟨p0, q0, none⟩) n cap hn9 u2 ((unhide hl).gr (unhide hWg))).mono ?_)
  rintro r u6 ⟨go, co, rfl, hc1, hc2, hgo, hat, hg⟩
  rw [hLl] at hc1 ⊢
  have hlo : Lb u6 (some ⟨go, 0, none⟩) n co L := by
    have h9 := hat.take n
    rw [List.take_append_of_le_length (by rw [hLl]; exact Nat.le_refl _), List.take_of_length_le (by rw [hLl]; exact Nat.le_refl _)] at h9
    exact ⟨hLl, unhide hLb, .inr ⟨go, 0, rfl, h9⟩, by omega, hc2⟩
  replace hlo := hide hlo
  replace hWg := hide ((unhide hWg).trans hg)
  replace hl := hide ((unhide hl).gr (unhide hWg))
  clear hg hat hc1 hc2 hgo
  have hW := hide (Bl.nil u6)
  refine ⟨_, rfl, ?_⟩
  simp only [Act.put, List.setIfInBounds_toArray, List.set_cons_zero, List.set_cons_succ, List.getElem_toArray, List.getElem_cons_zero, List.getElem_cons_succ]
  (refine wpList_step fun K hK => ?_; replace hK := hide hK; go_simp; refine unhide hK _ _ ?_; clear hK K)
  refine wpList_nil ?_
  go_upto_region 5 with fail
  refine wp_region_lit ?_
  refine list_val (.slice (some ⟨go, 0, none⟩) n co) (by kernel_rfl) (by kernel_rfl) ?_
  simp only [Act.put, List.setIfInBounds_toArray, List.set_cons_zero, List.set_cons_succ, List.getElem_toArray, List.getElem_cons_zero, List.getElem_cons_succ]
  refine list_call 42 #[.slice (some ⟨go, 0, none⟩) n co] (by kernel_rfl) (by kernel_rfl) ((fgetup_bad L (some ⟨go, 0, none⟩) n co (unhide hO) (unhide hF) u6 ((unhide hlo).gr (unhide hW).gr)).mono ?_)
  rintro r v1 ⟨rfl, hg⟩
  replace hW := hide ((unhide hW).more hg)
  clear hg
  refine ⟨_, rfl, ?_⟩
  simp only [Act.put, List.setIfInBounds_toArray, List.set_cons_zero, List.set_cons_succ, List.getElem_toArray, List.getElem_cons_zero, List.getElem_cons_succ]
  refine list_val (.tuple #[.agg #[.int .i64 0, .int .i64 0, .int .u64 0, .slice none 0 0], .int .i64 241]) (by kernel_rfl) (by kernel_rfl) ?_
  simp only [Act.put, List.setIfInBounds_toArray, List.set_cons_zero, List.set_cons_succ, List.getElem_toArray, List.getElem_cons_zero, List.getElem_cons_succ]
  refine list_val (.agg #[.int .i64 0, .int .i64 0, .int .u64 0, .slice none 0 0]) (by kernel_rfl) (by kernel_rfl) ?_
  simp only [Act.put, List.setIfInBounds_toArray, List.set_cons_zero, List.set_cons_succ, List.getElem_toArray, List.getElem_cons_zero, List.getElem_cons_succ]
  refine list_val (.int .i64 241) (by kernel_rfl) (by kernel_rfl) ?_
  simp only [Act.put, List.setIfInBounds_toArray, List.set_cons_zero, List.set_cons_succ, List.getElem_toArray, List.getElem_cons_zero, List.getElem_cons_succ]
  refine list_valw (.pointer (some ⟨v1.heap.size, 0, none⟩)) (v1.alloc (.cells #[.int .i64 0, .int .i64 0, .int .u64 0, .slice none 0 0] 78 (0, 0))) (by kernel_rfl) (by kernel_rfl) ?_
  have hW2 := (unhide hW).new #[.int .i64 0, .int .i64 0, .int .u64 0, .slice none 0 0] 78
  simp only [List.nil_append, List.cons_append] at hW2
  clear hW
  generalize World.alloc _ _ = v2 at *
  generalize v1.heap.size = qup at *
  replace hW2 : Bl u6 [⟨qup, #[.int .i64 0, .int .i64 0, .int .u64 0, .slice none 0 0], 78⟩] v2 := hW2
  have hW := hide hW2
  clear hW2
  simp only [Act.put, List.setIfInBounds_toArray, List.set_cons_zero, List.set_cons_succ, List.getElem_toArray, List.getElem_cons_zero, List.getElem_cons_succ]
  have hq9 := ((unhide hW).get 0 (x := ⟨qup, #[.int .i64 0, .int .i64 0, .int .u64 0, .slice none 0 0], 78⟩) rfl)
  dsimp only at hq9
  refine list_store 78 (.tmp 4) (.tmp 21) qup #[.int .i64 0, .int .i64 0, .int .u64 0, .slice none 0 0] 78 #[.int .i64 0, .int .i64 0, .int .u64 0, .slice none 0 0] (by kernel_rfl) rfl (by kernel_rfl) (by kernel_rfl) hq9 (by rw [Try.infoU]; rfl) rfl (by simp [Value.oneCell']) ?_
  have hW2 := (unhide hW).set 0 (x := ⟨qup, #[.int .i64 0, .int .i64 0, .int .u64 0, .slice none 0 0], 78⟩) rfl #[.int .i64 0, .int .i64 0, .int .u64 0, .slice none 0 0]
  simp only [List.set_cons_zero, List.set_cons_succ] at hW2
  clear hW hq9
  generalize World.setRow _ _ _ = v3 at *
  replace hW2 : Bl u6 [⟨qup, #[.int .i64 0, .int .i64 0, .int .u64 0, .slice none 0 0], 78⟩] v3 := hW2
  have hW := hide hW2
  clear hW2
  simp only [Act.put, List.setIfInBounds_toArray, List.set_cons_zero, List.set_cons_succ, List.getElem_toArray, List.getElem_cons_zero, List.getElem_cons_succ]
  (refine wpList_step fun K hK => ?_; replace hK := hide hK; go_simp; refine unhide hK _ _ ?_; clear hK K)
  refine wpList_nil ?_
  go_upto_region 6 with fail
  refine wp_region_lit ?_
  refine list_val (.slice (some ⟨go, 0, none⟩) n co) (by kernel_rfl) (by kernel_rfl) ?_
  simp only [Act.put, List.setIfInBounds_toArray, List.set_cons_zero, List.set_cons_succ, List.getElem_toArray, List.getElem_cons_zero, List.getElem_cons_succ]
  refine list_call 43 #[.slice (some ⟨go, 0, none⟩) n co] (by kernel_rfl) (by kernel_rfl) ((fgetdn_no (some ⟨go, 0, none⟩) n co (by omega) (unhide hR) v3).mono ?_)
  rintro r v4 ⟨rfl, hg⟩
  replace hW := hide ((unhide hW).more hg)
  clear hg
  refine ⟨_, rfl, ?_⟩
  simp only [Act.put, List.setIfInBounds_toArray, List.set_cons_zero, List.set_cons_succ, List.getElem_toArray, List.getElem_cons_zero, List.getElem_cons_succ]
  refine list_val (.tuple #[.agg #[.int .i64 0, .int .i64 0, .int .u64 0, .slice none 0 0], .int .i64 240]) (by kernel_rfl) (by kernel_rfl) ?_
  simp only [Act.put, List.setIfInBounds_toArray, List.set_cons_zero, List.set_cons_succ, List.getElem_toArray, List.getElem_cons_zero, List.getElem_cons_succ]
  refine list_val (.agg #[.int .i64 0, .int .i64 0, .int .u64 0, .slice none 0 0]) (by kernel_rfl) (by kernel_rfl) ?_
  simp only [Act.put, List.setIfInBounds_toArray, List.set_cons_zero, List.set_cons_succ, List.getElem_toArray, List.getElem_cons_zero, List.getElem_cons_succ]
  refine list_val (.int .i64 240) (by kernel_rfl) (by kernel_rfl) ?_
  simp only [Act.put, List.setIfInBounds_toArray, List.set_cons_zero, List.set_cons_succ, List.getElem_toArray, List.getElem_cons_zero, List.getElem_cons_succ]
  refine list_valw (.pointer (some ⟨v4.heap.size, 0, none⟩)) (v4.alloc (.cells #[.int .i64 0, .int .i64 0, .int .u64 0, .slice none 0 0] 80 (0, 0))) (by kernel_rfl) (by kernel_rfl) ?_
  have hW2 := (unhide hW).new #[.int .i64 0, .int .i64 0, .int .u64 0, .slice none 0 0] 80
  simp only [List.nil_append, List.cons_append] at hW2
  clear hW
  generalize World.alloc _ _ = v5 at *
  generalize v4.heap.size = qdn at *
  replace hW2 : Bl u6 [⟨qup, #[.int .i64 0, .int .i64 0, .int .u64 0, .slice none 0 0], 78⟩, ⟨qdn, #[.int .i64 0, .int .i64 0, .int .u64 0, .slice none 0 0], 80⟩] v5 := hW2
  have hW := hide hW2
  clear hW2
  simp only [Act.put, List.setIfInBounds_toArray, List.set_cons_zero, List.set_cons_succ, List.getElem_toArray, List.getElem_cons_zero, List.getElem_cons_succ]
  have hq9 := ((unhide hW).get 1 (x := ⟨qdn, #[.int .i64 0, .int .i64 0, .int .u64 0, .slice none 0 0], 80⟩) rfl)
  dsimp only at hq9
  refine list_store 80 (.tmp 6) (.tmp 26) qdn #[.int .i64 0, .int .i64 0, .int .u64 0, .slice none 0 0] 80 #[.int .i64 0, .int .i64 0, .int .u64 0, .slice none 0 0] (by kernel_rfl) rfl (by kernel_rfl) (by kernel_rfl) hq9 (by rw [Try.infoD]; rfl) rfl (by simp [Value.oneCell']) ?_
  have hW2 := (unhide hW).set 1 (x := ⟨qdn, #[.int .i64 0, .int .i64 0, .int .u64 0, .slice none 0 0], 80⟩) rfl #[.int .i64 0, .int .i64 0, .int .u64 0, .slice none 0 0]
  simp only [List.set_cons_zero, List.set_cons_succ] at hW2
  clear hW hq9
  generalize World.setRow _ _ _ = v6 at *
  replace hW2 : Bl u6 [⟨qup, #[.int .i64 0, .int .i64 0, .int .u64 0, .slice none 0 0], 78⟩, ⟨qdn, #[.int .i64 0, .int .i64 0, .int .u64 0, .slice none 0 0], 80⟩] v6 := hW2
  have hW := hide hW2
  clear hW2
  simp only [Act.put, List.setIfInBounds_toArray, List.set_cons_zero, List.set_cons_succ, List.getElem_toArray, List.getElem_cons_zero, List.getElem_cons_succ]
  (refine wpList_step fun K hK => ?_; replace hK := hide hK; go_simp; refine unhide hK _ _ ?_; clear hK K)
  refine wpList_nil ?_
  go_upto_region 7 with fail
  refine wp_region_lit ?_
  refine list_val (.slice (some ⟨go, 0, none⟩) n co) (by kernel_rfl) (by kernel_rfl) ?_
  simp only [Act.put, List.setIfInBounds_toArray, List.set_cons_zero, List.set_cons_succ, List.getElem_toArray, List.getElem_cons_zero, List.getElem_cons_succ]
  refine list_call 44 #[.slice (some ⟨go, 0, none⟩) n co] (by kernel_rfl) (by kernel_rfl) ((fkind_ok L (some ⟨go, 0, none⟩) n co v6 ((unhide hlo).gr (unhide hW).gr)).mono ?_)
  rintro r v7 ⟨rfl, hg⟩
  generalize hkk : kindO L = kk_ at *
  replace hW := hide ((unhide hW).more hg)
  clear hg
  refine ⟨_, rfl, ?_⟩
  simp only [Act.put, List.setIfInBounds_toArray, List.set_cons_zero, List.set_cons_succ, List.getElem_toArray, List.getElem_cons_zero, List.getElem_cons_succ]
  refine list_val (.slice (some ⟨p0, q0, none⟩) n cap) (by kernel_rfl) (by kernel_rfl) ?_
  simp only [Act.put, List.setIfInBounds_toArray, List.set_cons_zero, List.set_cons_succ, List.getElem_toArray, List.getElem_cons_zero, List.getElem_cons_succ]
  refine list_call 45 #[.slice (some ⟨p0, q0, none⟩) n cap] (by kernel_rfl) (by kernel_rfl) ((qkind_ok L (some ⟨p0, q0, none⟩) n cap hn9 v7 ((unhide hl).gr (unhide hW).gr)).mono ?_)
  rintro r v8 ⟨rfl, hg⟩
  rw [hkk]
  replace hW := hide ((unhide hW).more hg)
  clear hg
  refine ⟨_, rfl, ?_⟩
  simp only [Act.put, List.setIfInBounds_toArray, List.set_cons_zero, List.set_cons_succ, List.getElem_toArray, List.getElem_cons_zero, List.getElem_cons_succ]
  refine list_val (.bool false) (by kernel_rfl) (by go_simp) ?_
  simp only [Act.put, List.setIfInBounds_toArray, List.set_cons_zero, List.set_cons_succ, List.getElem_toArray, List.getElem_cons_zero, List.getElem_cons_succ]
  refine list_val (.bool false) (by kernel_rfl) (by kernel_rfl) ?_
  simp only [Act.put, List.setIfInBounds_toArray, List.set_cons_zero, List.set_cons_succ, List.getElem_toArray, List.getElem_cons_zero, List.getElem_cons_succ]
  refine list_val (.slice (some ⟨go, 0, none⟩) n co) (by kernel_rfl) (by kernel_rfl) ?_
  simp only [Act.put, List.setIfInBounds_toArray, List.set_cons_zero, List.set_cons_succ, List.getElem_toArray, List.getElem_cons_zero, List.getElem_cons_succ]
  refine list_val (.slice (some ⟨p0, q0, none⟩) n cap) (by kernel_rfl) (by kernel_rfl) ?_
  simp only [Act.put, List.setIfInBounds_toArray, List.set_cons_zero, List.set_cons_succ, List.getElem_toArray, List.getElem_cons_zero, List.getElem_cons_succ]
  refine list_call 11 #[.slice (some ⟨go, 0, none⟩) n co, .slice (some ⟨p0, q0, none⟩) n cap] (by kernel_rfl) (by kernel_rfl) ((beq_ok L L (some ⟨go, 0, none⟩) (some ⟨p0, q0, none⟩) n n co cap v8 ((unhide hlo).gr (unhide hW).gr) ((unhide hl).gr (unhide hW).gr)).mono ?_)
  rintro r v9 ⟨rfl, hg⟩
  rw [decide_eq_true rfl]
  replace hW := hide ((unhide hW).more hg)
  clear hg
  refine ⟨_, rfl, ?_⟩
  simp only [Act.put, List.setIfInBounds_toArray, List.set_cons_zero, List.set_cons_succ, List.getElem_toArray, List.getElem_cons_zero, List.getElem_cons_succ]
  refine list_val (.bool false) (by kernel_rfl) (by kernel_rfl) ?_
  simp only [Act.put, List.setIfInBounds_toArray, List.set_cons_zero, List.set_cons_succ, List.getElem_toArray, List.getElem_cons_zero, List.getElem_cons_succ]
  refine list_val (.bool false) (by kernel_rfl) (by kernel_rfl) ?_
  simp only [Act.put, List.setIfInBounds_toArray, List.set_cons_zero, List.set_cons_succ, List.getElem_toArray, List.getElem_cons_zero, List.getElem_cons_succ]
  refine wpList_nil ?_
  go_upto_region 9 with fail
  refine wp_region_lit ?_
  refine list_val (.agg #[.int .i64 0, .int .i64 0, .int .u64 0, .slice none 0 0]) (by kernel_rfl) (by kernel_rfl) ?_
  simp only [Act.put, List.setIfInBounds_toArray, List.set_cons_zero, List.set_cons_succ, List.getElem_toArray, List.getElem_cons_zero, List.getElem_cons_succ]
  refine list_valw (.pointer (some ⟨v9.heap.size, 0, none⟩)) (v9.alloc (.cells #[.int .i64 0, .int .i64 0, .int .u64 0, .slice none 0 0] 78 (0, 0))) (by kernel_rfl) (by kernel_rfl) ?_
  have hW2 := (unhide hW).new #[.int .i64 0, .int .i64 0, .int .u64 0, .slice none 0 0] 78
  simp only [List.nil_append, List.cons_append] at hW2
  clear hW
  generalize World.alloc _ _ = v10 at *
  generalize v9.heap.size = rup at *
  replace hW2 : Bl u6 [⟨qup, #[.int .i64 0, .int .i64 0, .int .u64 0, .slice none 0 0], 78⟩, ⟨qdn, #[.int .i64 0, .int .i64 0, .int .u64 0, .slice none 0 0], 80⟩, ⟨rup, #[.int .i64 0, .int .i64 0, .int .u64 0, .slice none 0 0], 78⟩] v10 := hW2
  have hW := hide hW2
  clear hW2
  simp only [Act.put, List.setIfInBounds_toArray, List.set_cons_zero, List.set_cons_succ, List.getElem_toArray, List.getElem_cons_zero, List.getElem_cons_succ]
  have hq9 := ((unhide hW).get 2 (x := ⟨rup, #[.int .i64 0, .int .i64 0, .int .u64 0, .slice none 0 0], 78⟩) rfl)
  dsimp only at hq9
  refine list_store 78 (.tmp 8) (.tmp 39) rup #[.int .i64 0, .int .i64 0, .int .u64 0, .slice none 0 0] 78 #[.int .i64 0, .int .i64 0, .int .u64 0, .slice none 0 0] (by kernel_rfl) rfl (by kernel_rfl) (by kernel_rfl) hq9 (by rw [Try.infoU]; rfl) rfl (by simp [Value.oneCell']) ?_
  have hW2 := (unhide hW).set 2 (x := ⟨rup, #[.int .i64 0, .int .i64 0, .int .u64 0, .slice none 0 0], 78⟩) rfl #[.int .i64 0, .int .i64 0, .int .u64 0, .slice none 0 0]
  simp only [List.set_cons_zero, List.set_cons_succ] at hW2
  clear hW hq9
  generalize World.setRow _ _ _ = v11 at *
  replace hW2 : Bl u6 [⟨qup, #[.int .i64 0, .int .i64 0, .int .u64 0, .slice none 0 0], 78⟩, ⟨qdn, #[.int .i64 0, .int .i64 0, .int .u64 0, .slice none 0 0], 80⟩, ⟨rup, #[.int .i64 0, .int .i64 0, .int .u64 0, .slice none 0 0], 78⟩] v11 := hW2
  have hW := hide hW2
  clear hW2
  simp only [Act.put, List.setIfInBounds_toArray, List.set_cons_zero, List.set_cons_succ, List.getElem_toArray, List.getElem_cons_zero, List.getElem_cons_succ]
  (refine wpList_step fun K hK => ?_; replace hK := hide hK; go_simp; refine unhide hK _ _ ?_; clear hK K)
  (refine wpList_step fun K hK => ?_; replace hK := hide hK; go_simp; refine unhide hK _ _ ?_; clear hK K)
  refine wpList_nil ?_
  go_upto_region 10 with fail
  refine wp_region_lit ?_
  refine list_val (.slice (some ⟨p0, q0, none⟩) n cap) (by kernel_rfl) (by kernel_rfl) ?_
  simp only [Act.put, List.setIfInBounds_toArray, List.set_cons_zero, List.set_cons_succ, List.getElem_toArray, List.getElem_cons_zero, List.getElem_cons_succ]
  refine list_val (.int .i64 (n : Int)) (by kernel_rfl) (by kernel_rfl) ?_
  simp only [Act.put, List.setIfInBounds_toArray, List.set_cons_zero, List.set_cons_succ, List.getElem_toArray, List.getElem_cons_zero, List.getElem_cons_succ]
  refine list_val (.int .i64 x) (by kernel_rfl) (by go_simp) ?_
  simp only [Act.put, List.setIfInBounds_toArray, List.set_cons_zero, List.set_cons_succ, List.getElem_toArray, List.getElem_cons_zero, List.getElem_cons_succ]
  refine list_call 39 #[.int .i64 x] (by kernel_rfl) (by kernel_rfl) ((qon_ok x v11).mono ?_)
  rintro r v12 ⟨hup, rfl, hhup, rfl⟩
  rw [hOx, decide_eq_true_iff] at hhup
  refine ⟨_, rfl, ?_⟩
  simp only [Act.put, List.setIfInBounds_toArray, List.set_cons_zero, List.set_cons_succ, List.getElem_toArray, List.getElem_cons_zero, List.getElem_cons_succ]
  refine list_val (.bool true) (by kernel_rfl) (by go_simp) ?_
  simp only [Act.put, List.setIfInBounds_toArray, List.set_cons_zero, List.set_cons_succ, List.getElem_toArray, List.getElem_cons_zero, List.getElem_cons_succ]
  refine wpList_nil ?_
  go_upto_region 12 with fail
  refine wp_region_lit ?_
  refine list_val (.slice (some ⟨p0, q0, none⟩) n cap) (by kernel_rfl) (by kernel_rfl) ?_
  simp only [Act.put, List.setIfInBounds_toArray, List.set_cons_zero, List.set_cons_succ, List.getElem_toArray, List.getElem_cons_zero, List.getElem_cons_succ]
  refine list_call 46 #[.slice (some ⟨p0, q0, none⟩) n cap] (by kernel_rfl) (by kernel_rfl) ((qgetup_ok L p0 q0 n cap hn12 hn9 v12 ((unhide hl).gr (unhide hW).gr)).mono ?_)
  rintro r v13 ⟨va2, vc2, rfl, hO_, hg⟩
  rw [hE]
  rw [hLl] at hO_ ⊢
  replace hO_ := ob_base hO_ (unhide hW).gr.size
  unfold pkv
  rw [← unhide hx1, ← unhide hx2, ← unhide hx3]
  have hA2 := hide hO_
  clear hO_
  replace hW := hide ((unhide hW).more hg)
  clear hg
  refine ⟨_, rfl, ?_⟩
  simp only [Act.put, List.setIfInBounds_toArray, List.set_cons_zero, List.set_cons_succ, List.getElem_toArray, List.getElem_cons_zero, List.getElem_cons_succ]
  refine list_val (.tuple #[.agg #[.int .i64 x1, .int .i64 x2, .int .u64 x3, .slice va2 (n - 11) vc2], .bool false]) (by kernel_rfl) (by kernel_rfl) ?_
  simp only [Act.put, List.setIfInBounds_toArray, List.set_cons_zero, List.set_cons_succ, List.getElem_toArray, List.getElem_cons_zero, List.getElem_cons_succ]
  refine list_val (.agg #[.int .i64 x1, .int .i64 x2, .int .u64 x3, .slice va2 (n - 11) vc2]) (by kernel_rfl) (by kernel_rfl) ?_
  simp only [Act.put, List.setIfInBounds_toArray, List.set_cons_zero, List.set_cons_succ, List.getElem_toArray, List.getElem_cons_zero, List.getElem_cons_succ]
  refine list_val (.bool false) (by kernel_rfl) (by kernel_rfl) ?_
  simp only [Act.put, List.setIfInBounds_toArray, List.set_cons_zero, List.set_cons_succ, List.getElem_toArray, List.getElem_cons_zero, List.getElem_cons_succ]
  have hq9 := ((unhide hW).get 2 (x := ⟨rup, #[.int .i64 0, .int .i64 0, .int .u64 0, .slice none 0 0], 78⟩) rfl)
  dsimp only at hq9
  refine list_store 78 (.tmp 8) (.tmp 48) rup #[.int .i64 x1, .int .i64 x2, .int .u64 x3, .slice va2 (n - 11) vc2] 78 #[.int .i64 0, .int .i64 0, .int .u64 0, .slice none 0 0] (by kernel_rfl) rfl (by kernel_rfl) (by kernel_rfl) hq9 (by rw [Try.infoU]; rfl) rfl (by simp [Value.oneCell']) ?_
  replace hA2 := hide (ob_bt (unhide hA2) hq9 (by decide) (setRow_bt v13 rup #[.int .i64 x1, .int .i64 x2, .int .u64 x3, .slice va2 (n - 11) vc2]))
  have hW2 := (unhide hW).set 2 (x := ⟨rup, #[.int .i64 0, .int .i64 0, .int .u64 0, .slice none 0 0], 78⟩) rfl #[.int .i64 x1, .int .i64 x2, .int .u64 x3, .slice va2 (n - 11) vc2]
  simp only [List.set_cons_zero, List.set_cons_succ] at hW2
  clear hW hq9
  generalize World.setRow _ _ _ = v14 at *
  replace hW2 : Bl u6 [⟨qup, #[.int .i64 0, .int .i64 0, .int .u64 0, .slice none 0 0], 78⟩, ⟨qdn, #[.int .i64 0, .int .i64 0, .int .u64 0, .slice none 0 0], 80⟩, ⟨rup, #[.int .i64 x1, .int .i64 x2, .int .u64 x3, .slice va2 (n - 11) vc2], 78⟩] v14 := hW2
  have hW := hide hW2
  clear hW2
  simp only [Act.put, List.setIfInBounds_toArray, List.set_cons_zero, List.set_cons_succ, List.getElem_toArray, List.getElem_cons_zero, List.getElem_cons_succ]
  (refine wpList_step fun K hK => ?_; replace hK := hide hK; go_simp; refine unhide hK _ _ ?_; clear hK K)
  refine wpList_nil ?_
  go_upto_region 13 with fail
  refine wp_region_lit ?_
  refine list_val (.bool false) (by kernel_rfl) (by kernel_rfl) ?_
  simp only [Act.put, List.setIfInBounds_toArray, List.set_cons_zero, List.set_cons_succ, List.getElem_toArray, List.getElem_cons_zero, List.getElem_cons_succ]
  refine list_val_offs 31 (.bool false) (by kernel_rfl) (by kernel_rfl) (by kernel_rfl) ?_
  simp only [List.drop_succ_cons, List.drop_zero, List.take_succ_cons, List.take_zero, putU]
  simp only [Act.put, List.setIfInBounds_toArray, List.set_cons_zero, List.set_cons_succ, List.getElem_toArray, List.getElem_cons_zero, List.getElem_cons_succ]
  refine list_val (.bool false) (by kernel_rfl) (by kernel_rfl) ?_
  simp only [Act.put, List.setIfInBounds_toArray, List.set_cons_zero, List.set_cons_succ, List.getElem_toArray, List.getElem_cons_zero, List.getElem_cons_succ]
  refine wpList_nil ?_
  go_upto_region 15 with fail
  refine wp_region_lit ?_
  refine list_val (.bool false) (by kernel_rfl) (by kernel_rfl) ?_
  simp only [Act.put, List.setIfInBounds_toArray, List.set_cons_zero, List.set_cons_succ, List.getElem_toArray, List.getElem_cons_zero, List.getElem_cons_succ]
  refine list_val (.bool true) (by kernel_rfl) (by kernel_rfl) ?_
  simp only [Act.put, List.setIfInBounds_toArray, List.set_cons_zero, List.set_cons_succ, List.getElem_toArray, List.getElem_cons_zero, List.getElem_cons_succ]
  refine list_val (.bool true) (by kernel_rfl) (by kernel_rfl) ?_
  simp only [Act.put, List.setIfInBounds_toArray, List.set_cons_zero, List.set_cons_succ, List.getElem_toArray, List.getElem_cons_zero, List.getElem_cons_succ]
  refine list_val (.int .i64 241) (by kernel_rfl) (by kernel_rfl) ?_
  simp only [Act.put, List.setIfInBounds_toArray, List.set_cons_zero, List.set_cons_succ, List.getElem_toArray, List.getElem_cons_zero, List.getElem_cons_succ]
  refine list_val (.int .i64 241) (by kernel_rfl) (by kernel_rfl) ?_
  simp only [Act.put, List.setIfInBounds_toArray, List.set_cons_zero, List.set_cons_succ, List.getElem_toArray, List.getElem_cons_zero, List.getElem_cons_succ]
  refine list_val (.bool false) (by kernel_rfl) (by kernel_rfl) ?_
  simp only [Act.put, List.setIfInBounds_toArray, List.set_cons_zero, List.set_cons_succ, List.getElem_toArray, List.getElem_cons_zero, List.getElem_cons_succ]
  refine list_val (.bool false) (by kernel_rfl) (by kernel_rfl) ?_
  simp only [Act.put, List.setIfInBounds_toArray, List.set_cons_zero, List.set_cons_succ, List.getElem_toArray, List.getElem_cons_zero, List.getElem_cons_succ]
  refine list_val (.pointer (some ⟨qup, 0, none⟩)) (by kernel_rfl) (by kernel_rfl) ?_
  simp only [Act.put, List.setIfInBounds_toArray, List.set_cons_zero, List.set_cons_succ, List.getElem_toArray, List.getElem_cons_zero, List.getElem_cons_succ]
  refine list_val (.int .i64 0) (by kernel_rfl) (exec_i64 _ (.tmp 91) rfl qup 0 (by kernel_rfl) 0 (cell_of ((unhide hW).get 0 (x := ⟨qup, #[.int .i64 0, .int .i64 0, .int .u64 0, .slice none 0 0], 78⟩) rfl) (i := 0) rfl)) ?_
  simp only [Act.put, List.setIfInBounds_toArray, List.set_cons_zero, List.set_cons_succ, List.getElem_toArray, List.getElem_cons_zero, List.getElem_cons_succ]
  refine list_val (.bool false) (by kernel_rfl) (by kernel_rfl) ?_
  simp only [Act.put, List.setIfInBounds_toArray, List.set_cons_zero, List.set_cons_succ, List.getElem_toArray, List.getElem_cons_zero, List.getElem_cons_succ]
  refine list_val (.bool false) (by kernel_rfl) (by kernel_rfl) ?_
  simp only [Act.put, List.setIfInBounds_toArray, List.set_cons_zero, List.set_cons_succ, List.getElem_toArray, List.getElem_cons_zero, List.getElem_cons_succ]
  refine list_val (.bool false) (by kernel_rfl) (by kernel_rfl) ?_
  simp only [Act.put, List.setIfInBounds_toArray, List.set_cons_zero, List.set_cons_succ, List.getElem_toArray, List.getElem_cons_zero, List.getElem_cons_succ]
  refine list_val (.pointer (some ⟨qup, 1, none⟩)) (by kernel_rfl) (by kernel_rfl) ?_
  simp only [Act.put, List.setIfInBounds_toArray, List.set_cons_zero, List.set_cons_succ, List.getElem_toArray, List.getElem_cons_zero, List.getElem_cons_succ]
  refine list_val (.int .i64 0) (by kernel_rfl) (exec_i64 _ (.tmp 96) rfl qup 1 (by kernel_rfl) 0 (cell_of ((unhide hW).get 0 (x := ⟨qup, #[.int .i64 0, .int .i64 0, .int .u64 0, .slice none 0 0], 78⟩) rfl) (i := 1) rfl)) ?_
  simp only [Act.put, List.setIfInBounds_toArray, List.set_cons_zero, List.set_cons_succ, List.getElem_toArray, List.getElem_cons_zero, List.getElem_cons_succ]
  refine list_val (.bool false) (by kernel_rfl) (by kernel_rfl) ?_
  simp only [Act.put, List.setIfInBounds_toArray, List.set_cons_zero, List.set_cons_succ, List.getElem_toArray, List.getElem_cons_zero, List.getElem_cons_succ]
  refine list_val (.bool false) (by kernel_rfl) (by kernel_rfl) ?_
  simp only [Act.put, List.setIfInBounds_toArray, List.set_cons_zero, List.set_cons_succ, List.getElem_toArray, List.getElem_cons_zero, List.getElem_cons_succ]
  refine list_val (.bool false) (by kernel_rfl) (by kernel_rfl) ?_
  simp only [Act.put, List.setIfInBounds_toArray, List.set_cons_zero, List.set_cons_succ, List.getElem_toArray, List.getElem_cons_zero, List.getElem_cons_succ]
  refine list_val (.pointer (some ⟨qup, 2, none⟩)) (by kernel_rfl) (by kernel_rfl) ?_
  simp only [Act.put, List.setIfInBounds_toArray, List.set_cons_zero, List.set_cons_succ, List.getElem_toArray, List.getElem_cons_zero, List.getElem_cons_succ]
  refine list_val (.int .u64 0) (by kernel_rfl) (exec_u64 _ (.tmp 101) rfl qup 2 (by kernel_rfl) 0 (cell_of ((unhide hW).get 0 (x := ⟨qup, #[.int .i64 0, .int .i64 0, .int .u64 0, .slice none 0 0], 78⟩) rfl) (i := 2) rfl)) ?_
  simp only [Act.put, List.setIfInBounds_toArray, List.set_cons_zero, List.set_cons_succ, List.getElem_toArray, List.getElem_cons_zero, List.getElem_cons_succ]
  refine list_val (.bool false) (by kernel_rfl) (by kernel_rfl) ?_
  simp only [Act.put, List.setIfInBounds_toArray, List.set_cons_zero, List.set_cons_succ, List.getElem_toArray, List.getElem_cons_zero, List.getElem_cons_succ]
  refine list_val (.bool false) (by kernel_rfl) (by kernel_rfl) ?_
  simp only [Act.put, List.setIfInBounds_toArray, List.set_cons_zero, List.set_cons_succ, List.getElem_toArray, List.getElem_cons_zero, List.getElem_cons_succ]
  refine list_val (.bool false) (by kernel_rfl) (by kernel_rfl) ?_
  simp only [Act.put, List.setIfInBounds_toArray, List.set_cons_zero, List.set_cons_succ, List.getElem_toArray, List.getElem_cons_zero, List.getElem_cons_succ]
  refine list_val (.pointer (some ⟨qup, 3, none⟩)) (by kernel_rfl) (by kernel_rfl) ?_
  simp only [Act.put, List.setIfInBounds_toArray, List.set_cons_zero, List.set_cons_succ, List.getElem_toArray, List.getElem_cons_zero, List.getElem_cons_succ]
  refine list_val (.slice none 0 0) (by kernel_rfl) (exec_sby _ (.tmp 106) rfl qup 3 (by kernel_rfl) none 0 0 (cell_of ((unhide hW).get 0 (x := ⟨qup, #[.int .i64 0, .int .i64 0, .int .u64 0, .slice none 0 0], 78⟩) rfl) (i := 3) rfl)) ?_
  simp only [Act.put, List.setIfInBounds_toArray, List.set_cons_zero, List.set_cons_succ, List.getElem_toArray, List.getElem_cons_zero, List.getElem_cons_succ]
  refine list_val (.int .i64 0) (by kernel_rfl) (by kernel_rfl) ?_
  simp only [Act.put, List.setIfInBounds_toArray, List.set_cons_zero, List.set_cons_succ, List.getElem_toArray, List.getElem_cons_zero, List.getElem_cons_succ]
  refine list_val (.bool false) (by kernel_rfl) (by kernel_rfl) ?_
  simp only [Act.put, List.setIfInBounds_toArray, List.set_cons_zero, List.set_cons_succ, List.getElem_toArray, List.getElem_cons_zero, List.getElem_cons_succ]
  refine list_val (.bool false) (by kernel_rfl) (by kernel_rfl) ?_
  simp only [Act.put, List.setIfInBounds_toArray, List.set_cons_zero, List.set_cons_succ, List.getElem_toArray, List.getElem_cons_zero, List.getElem_cons_succ]
  refine list_val (.bool false) (by kernel_rfl) (by kernel_rfl) ?_
  simp only [Act.put, List.setIfInBounds_toArray, List.set_cons_zero, List.set_cons_succ, List.getElem_toArray, List.getElem_cons_zero, List.getElem_cons_succ]
  refine wpList_nil ?_
  clear hA2
  go_upto_region 17 with fail
  refine wp_region_lit ?_
  refine list_val (.agg #[.int .i64 0, .int .i64 0, .int .u64 0, .slice none 0 0]) (by kernel_rfl) (by kernel_rfl) ?_
  simp only [Act.put, List.setIfInBounds_toArray, List.set_cons_zero, List.set_cons_succ, List.getElem_toArray, List.getElem_cons_zero, List.getElem_cons_succ]
  refine list_valw (.pointer (some ⟨v14.heap.size, 0, none⟩)) (v14.alloc (.cells #[.int .i64 0, .int .i64 0, .int .u64 0, .slice none 0 0] 80 (0, 0))) (by kernel_rfl) (by kernel_rfl) ?_
  have hW2 := (unhide hW).new #[.int .i64 0, .int .i64 0, .int .u64 0, .slice none 0 0] 80
  simp only [List.nil_append, List.cons_append] at hW2
  clear hW
  generalize World.alloc _ _ = v15 at *
  generalize v14.heap.size = rdn at *
  replace hW2 : Bl u6 [⟨qup, #[.int .i64 0, .int .i64 0, .int .u64 0, .slice none 0 0], 78⟩, ⟨qdn, #[.int .i64 0, .int .i64 0, .int .u64 0, .slice none 0 0], 80⟩, ⟨rup, #[.int .i64 x1, .int .i64 x2, .int .u64 x3, .slice va2 (n - 11) vc2], 78⟩, ⟨rdn, #[.int .i64 0, .int .i64 0, .int .u64 0, .slice none 0 0], 80⟩] v15 := hW2
  have hW := hide hW2
  clear hW2
  simp only [Act.put, List.setIfInBounds_toArray, List.set_cons_zero, List.set_cons_succ, List.getElem_toArray, List.getElem_cons_zero, List.getElem_cons_succ]
  have hq9 := ((unhide hW).get 3 (x := ⟨rdn, #[.int .i64 0, .int .i64 0, .int .u64 0, .slice none 0 0], 80⟩) rfl)
  dsimp only at hq9
  refine list_store 80 (.tmp 11) (.tmp 112) rdn #[.int .i64 0, .int .i64 0, .int .u64 0, .slice none 0 0] 80 #[.int .i64 0, .int .i64 0, .int .u64 0, .slice none 0 0] (by kernel_rfl) rfl (by kernel_rfl) (by kernel_rfl) hq9 (by rw [Try.infoD]; rfl) rfl (by simp [Value.oneCell']) ?_
  have hW2 := (unhide hW).set 3 (x := ⟨rdn, #[.int .i64 0, .int .i64 0, .int .u64 0, .slice none 0 0], 80⟩) rfl #[.int .i64 0, .int .i64 0, .int .u64 0, .slice none 0 0]
  simp only [List.set_cons_zero, List.set_cons_succ] at hW2
  clear hW hq9
  generalize World.setRow _ _ _ = v16 at *
  replace hW2 : Bl u6 [⟨qup, #[.int .i64 0, .int .i64 0, .int .u64 0, .slice none 0 0], 78⟩, ⟨qdn, #[.int .i64 0, .int .i64 0, .int .u64 0, .slice none 0 0], 80⟩, ⟨rup, #[.int .i64 x1, .int .i64 x2, .int .u64 x3, .slice va2 (n - 11) vc2], 78⟩, ⟨rdn, #[.int .i64 0, .int .i64 0, .int .u64 0, .slice none 0 0], 80⟩] v16 := hW2
  have hW := hide hW2
  clear hW2
  simp only [Act.put, List.setIfInBounds_toArray, List.set_cons_zero, List.set_cons_succ, List.getElem_toArray, List.getElem_cons_zero, List.getElem_cons_succ]
  (refine wpList_step fun K hK => ?_; replace hK := hide hK; go_simp; refine unhide hK _ _ ?_; clear hK K)
  (refine wpList_step fun K hK => ?_; replace hK := hide hK; go_simp; refine unhide hK _ _ ?_; clear hK K)
  refine wpList_nil ?_
  go_upto_region 18 with fail
  refine wp_region_lit ?_
  refine list_val (.slice (some ⟨p0, q0, none⟩) n cap) (by kernel_rfl) (by kernel_rfl) ?_
  simp only [Act.put, List.setIfInBounds_toArray, List.set_cons_zero, List.set_cons_succ, List.getElem_toArray, List.getElem_cons_zero, List.getElem_cons_succ]
  refine list_val (.int .i64 (n : Int)) (by kernel_rfl) (by kernel_rfl) ?_
  simp only [Act.put, List.setIfInBounds_toArray, List.set_cons_zero, List.set_cons_succ, List.getElem_toArray, List.getElem_cons_zero, List.getElem_cons_succ]
  refine list_val (.int .i64 x) (by kernel_rfl) (by go_simp) ?_
  simp only [Act.put, List.setIfInBounds_toArray, List.set_cons_zero, List.set_cons_succ, List.getElem_toArray, List.getElem_cons_zero, List.getElem_cons_succ]
  refine list_call 41 #[.int .i64 x] (by kernel_rfl) (by kernel_rfl) ((qrp_ok x v16).mono ?_)
  rintro r v17 ⟨hdn, rfl, hhdn, rfl⟩
  rw [hRx, decide_eq_false_iff_not] at hhdn
  refine ⟨_, rfl, ?_⟩
  simp only [Act.put, List.setIfInBounds_toArray, List.set_cons_zero, List.set_cons_succ, List.getElem_toArray, List.getElem_cons_zero, List.getElem_cons_succ]
  refine list_val (.bool false) (by kernel_rfl) (by go_simp) ?_
  simp only [Act.put, List.setIfInBounds_toArray, List.set_cons_zero, List.set_cons_succ, List.getElem_toArray, List.getElem_cons_zero, List.getElem_cons_succ]
  refine wpList_nil ?_
  go_upto_region 23 with fail
  refine wp_region_lit ?_
  refine list_val (.int .i64 240) (by kernel_rfl) (by kernel_rfl) ?_
  simp only [Act.put, List.setIfInBounds_toArray, List.set_cons_zero, List.set_cons_succ, List.getElem_toArray, List.getElem_cons_zero, List.getElem_cons_succ]
  refine list_val (.int .i64 240) (by kernel_rfl) (by kernel_rfl) ?_
  simp only [Act.put, List.setIfInBounds_toArray, List.set_cons_zero, List.set_cons_succ, List.getElem_toArray, List.getElem_cons_zero, List.getElem_cons_succ]
  refine list_val (.bool true) (by kernel_rfl) (by kernel_rfl) ?_
  simp only [Act.put, List.setIfInBounds_toArray, List.set_cons_zero, List.set_cons_succ, List.getElem_toArray, List.getElem_cons_zero, List.getElem_cons_succ]
  refine list_val (.bool true) (by kernel_rfl) (by kernel_rfl) ?_
  simp only [Act.put, List.setIfInBounds_toArray, List.set_cons_zero, List.set_cons_succ, List.getElem_toArray, List.getElem_cons_zero, List.getElem_cons_succ]
  refine list_val (.pointer (some ⟨qdn, 0, none⟩)) (by kernel_rfl) (by kernel_rfl) ?_
  simp only [Act.put, List.setIfInBounds_toArray, List.set_cons_zero, List.set_cons_succ, List.getElem_toArray, List.getElem_cons_zero, List.getElem_cons_succ]
  refine list_val (.int .i64 0) (by kernel_rfl) (exec_i64 _ (.tmp 158) rfl qdn 0 (by kernel_rfl) 0 (cell_of ((unhide hW).get 1 (x := ⟨qdn, #[.int .i64 0, .int .i64 0, .int .u64 0, .slice none 0 0], 80⟩) rfl) (i := 0) rfl)) ?_
  simp only [Act.put, List.setIfInBounds_toArray, List.set_cons_zero, List.set_cons_succ, List.getElem_toArray, List.getElem_cons_zero, List.getElem_cons_succ]
  refine list_val (.bool true) (by kernel_rfl) (by kernel_rfl) ?_
  simp only [Act.put, List.setIfInBounds_toArray, List.set_cons_zero, List.set_cons_succ, List.getElem_toArray, List.getElem_cons_zero, List.getElem_cons_succ]
  refine list_val (.bool true) (by kernel_rfl) (by kernel_rfl) ?_
  simp only [Act.put, List.setIfInBounds_toArray, List.set_cons_zero, List.set_cons_succ, List.getElem_toArray, List.getElem_cons_zero, List.getElem_cons_succ]
  refine list_val (.bool true) (by kernel_rfl) (by kernel_rfl) ?_
  simp only [Act.put, List.setIfInBounds_toArray, List.set_cons_zero, List.set_cons_succ, List.getElem_toArray, List.getElem_cons_zero, List.getElem_cons_succ]
  refine list_val (.pointer (some ⟨qdn, 1, none⟩)) (by kernel_rfl) (by kernel_rfl) ?_
  simp only [Act.put, List.setIfInBounds_toArray, List.set_cons_zero, List.set_cons_succ, List.getElem_toArray, List.getElem_cons_zero, List.getElem_cons_succ]
  refine list_val (.int .i64 0) (by kernel_rfl) (exec_i64 _ (.tmp 163) rfl qdn 1 (by kernel_rfl) 0 (cell_of ((unhide hW).get 1 (x := ⟨qdn, #[.int .i64 0, .int .i64 0, .int .u64 0, .slice none 0 0], 80⟩) rfl) (i := 1) rfl)) ?_
  simp only [Act.put, List.setIfInBounds_toArray, List.set_cons_zero, List.set_cons_succ, List.getElem_toArray, List.getElem_cons_zero, List.getElem_cons_succ]
  refine list_val (.bool true) (by kernel_rfl) (by kernel_rfl) ?_
  simp only [Act.put, List.setIfInBounds_toArray, List.set_cons_zero, List.set_cons_succ, List.getElem_toArray, List.getElem_cons_zero, List.getElem_cons_succ]
  refine list_val (.bool true) (by kernel_rfl) (by kernel_rfl) ?_
  simp only [Act.put, List.setIfInBounds_toArray, List.set_cons_zero, List.set_cons_succ, List.getElem_toArray, List.getElem_cons_zero, List.getElem_cons_succ]
  refine list_val (.bool true) (by kernel_rfl) (by kernel_rfl) ?_
  simp only [Act.put, List.setIfInBounds_toArray, List.set_cons_zero, List.set_cons_succ, List.getElem_toArray, List.getElem_cons_zero, List.getElem_cons_succ]
  refine list_val (.pointer (some ⟨qdn, 2, none⟩)) (by kernel_rfl) (by kernel_rfl) ?_
  simp only [Act.put, List.setIfInBounds_toArray, List.set_cons_zero, List.set_cons_succ, List.getElem_toArray, List.getElem_cons_zero, List.getElem_cons_succ]
  refine list_val (.int .u64 0) (by kernel_rfl) (exec_u64 _ (.tmp 168) rfl qdn 2 (by kernel_rfl) 0 (cell_of ((unhide hW).get 1 (x := ⟨qdn, #[.int .i64 0, .int .i64 0, .int .u64 0, .slice none 0 0], 80⟩) rfl) (i := 2) rfl)) ?_
  simp only [Act.put, List.setIfInBounds_toArray, List.set_cons_zero, List.set_cons_succ, List.getElem_toArray, List.getElem_cons_zero, List.getElem_cons_succ]
  refine list_val (.bool true) (by kernel_rfl) (by kernel_rfl) ?_
  simp only [Act.put, List.setIfInBounds_toArray, List.set_cons_zero, List.set_cons_succ, List.getElem_toArray, List.getElem_cons_zero, List.getElem_cons_succ]
  refine list_val (.bool true) (by kernel_rfl) (by kernel_rfl) ?_
  simp only [Act.put, List.setIfInBounds_toArray, List.set_cons_zero, List.set_cons_succ, List.getElem_toArray, List.getElem_cons_zero, List.getElem_cons_succ]
  refine list_val (.bool true) (by kernel_rfl) (by kernel_rfl) ?_
  simp only [Act.put, List.setIfInBounds_toArray, List.set_cons_zero, List.set_cons_succ, List.getElem_toArray, List.getElem_cons_zero, List.getElem_cons_succ]
  refine list_val (.pointer (some ⟨qdn, 3, none⟩)) (by kernel_rfl) (by kernel_rfl) ?_
  simp only [Act.put, List.setIfInBounds_toArray, List.set_cons_zero, List.set_cons_succ, List.getElem_toArray, List.getElem_cons_zero, List.getElem_cons_succ]
  refine list_val (.slice none 0 0) (by kernel_rfl) (exec_sby _ (.tmp 173) rfl qdn 3 (by kernel_rfl) none 0 0 (cell_of ((unhide hW).get 1 (x := ⟨qdn, #[.int .i64 0, .int .i64 0, .int .u64 0, .slice none 0 0], 80⟩) rfl) (i := 3) rfl)) ?_
  simp only [Act.put, List.setIfInBounds_toArray, List.set_cons_zero, List.set_cons_succ, List.getElem_toArray, List.getElem_cons_zero, List.getElem_cons_succ]
  refine list_val (.int .i64 0) (by kernel_rfl) (by kernel_rfl) ?_
  simp only [Act.put, List.setIfInBounds_toArray, List.set_cons_zero, List.set_cons_succ, List.getElem_toArray, List.getElem_cons_zero, List.getElem_cons_succ]
  refine list_val (.bool true) (by kernel_rfl) (by kernel_rfl) ?_
  simp only [Act.put, List.setIfInBounds_toArray, List.set_cons_zero, List.set_cons_succ, List.getElem_toArray, List.getElem_cons_zero, List.getElem_cons_succ]
  refine list_val (.bool true) (by kernel_rfl) (by kernel_rfl) ?_
  simp only [Act.put, List.setIfInBounds_toArray, List.set_cons_zero, List.set_cons_succ, List.getElem_toArray, List.getElem_cons_zero, List.getElem_cons_succ]
  (refine wpList_step fun K hK => ?_; replace hK := hide hK; go_simp; refine unhide hK _ _ ?_; clear hK K)
  refine wpList_nil ?_
  have hZ : Hid (Woke w (.returned (.bool true)) v17) := ⟨rfl, (unhide hWg).trans (unhide hW).gr⟩
  go_wp2_with fail
  rw [unhide hT]
  exact unhide hZ
set_option maxHeartbeats 4000000 in
theorem reads_ng (l : List Int) (s : Option Addr) (len cap : Nat) (w : World) (lb : Lb w s len cap l) (hO : onS (((min len 1000 : Nat) : Int) - 11) = false) (hR : rpS (((min len 1000 : Nat) : Int) - 11) = true) (hE : (decide ((l.take (min len 1000)).getD 0 0 = 3) && pkE (l.take (min len 1000))) = true) : Calls Try.prog 7 #[.slice s len cap] w (Woke w) := by
  obtain ⟨T, hT⟩ : ∃ T, T = Woke w := ⟨_, rfl⟩
  rw [← hT]
  replace hT := hide hT
  replace lb := hide lb
  obtain ⟨n, hn0⟩ : ∃ n, n = min len 1000 := ⟨_, rfl⟩
  obtain ⟨L, hL0⟩ : ∃ L, L = l.take n := ⟨_, rfl⟩
  have hn9 : n ≤ 1000 := by omega
  rw [← hn0] at hO hR hE
  rw [← hL0] at hE
  have hn12 : 11 < n := by have h9 := hR; unfold rpS at h9; rw [decide_eq_true_iff] at h9; omega
  obtain ⟨x, hx⟩ : ∃ x : Int, x = (n : Int) - 11 := ⟨_, rfl⟩
  have hnw : IntKind.i64.wrap ((n : Int) - 11) = x := by rw [IntKind.wrap_i64]; omega
  replace hx := hide hx
  have hOx : onS x = false := by rw [unhide hx]; exact hO
  have hRx : rpS x = true := by rw [unhide hx]; exact hR
  have hF : L.getD 0 0 = 3 ∧ pkE L = true := by rw [Bool.and_eq_true, decide_eq_true_iff] at hE; exact hE
  obtain ⟨x1, hx1⟩ : ∃ x, x = L.getD 1 0 := ⟨_, rfl⟩
  obtain ⟨x2, hx2⟩ : ∃ x, x = L.getD 2 0 := ⟨_, rfl⟩
  obtain ⟨x3, hx3⟩ : ∃ x, x = lowN ((L.drop 3).take 8) := ⟨_, rfl⟩
  replace hx1 := hide hx1; replace hx2 := hide hx2; replace hx3 := hide hx3; replace hF := hide hF
  replace hn0 := hide hn0; replace hL0 := hide hL0; replace hO := hide hO; replace hR := hide hR
  go_enter Try.func7, Try.ntmps7
  go_upto_region 1 with fail
  refine wp_region_lit ?_
  refine list_call 9 #[] (by kernel_rfl) (by kernel_rfl) ((jwakes_ok w).mono ?_)
  rintro r u1 ⟨rfl, hg⟩
  have hWg := hide hg
  clear hg
  refine ⟨_, rfl, ?_⟩
  simp only [Act.put, List.setIfInBounds_toArray, List.set_cons_zero, List.set_cons_succ, List.getElem_toArray, List.getElem_cons_zero, List.getElem_cons_succ]
  refine list_val (.bool false) (by kernel_rfl) (by kernel_rfl) ?_
  simp only [Act.put, List.setIfInBounds_toArray, List.set_cons_zero, List.set_cons_succ, List.getElem_toArray, List.getElem_cons_zero, List.getElem_cons_succ]
  refine wpList_nil ?_
  go_upto_region 3 with fail
  refine wp_region_lit ?_
  refine list_val (.slice s len cap) (by kernel_rfl) (by kernel_rfl) ?_
  simp only [Act.put, List.setIfInBounds_toArray, List.set_cons_zero, List.set_cons_succ, List.getElem_toArray, List.getElem_cons_zero, List.getElem_cons_succ]
  refine list_call 10 #[.slice s len cap] (by kernel_rfl) (by kernel_rfl) ((jcut_ok l s len cap u1 ((unhide lb).gr (unhide hWg))).mono ?_)
  rintro r u2 ⟨s1, rfl, hs1, rfl⟩
  have hl := hs1 w (unhide lb)
  rw [← unhide hn0, ← unhide hL0] at hl
  rw [← unhide hn0]
  clear hs1 lb hL0 hn0
  have hLl := hl.len
  have hLb := hide hl.isB
  obtain ⟨p0, q0, rfl, hl⟩ := hl.some (by omega)
  replace hl := hide hl
  refine ⟨_, rfl, ?_⟩
  simp only [Act.put, List.setIfInBounds_toArray, List.set_cons_zero, List.set_cons_succ, List.getElem_toArray, List.getElem_cons_zero, List.getElem_cons_succ]
  (refine wpList_step fun K hK => ?_; replace hK := hide hK; go_simp; refine unhide hK _ _ ?_; clear hK K)
  refine wpList_nil ?_
  go_upto_region 4 with fail
  refine wp_region_lit ?_
  refine list_val (.slice (some ⟨p0, q0, none⟩) n cap) (by kernel_rfl) (by kernel_rfl) ?_
  simp only [Act.put, List.setIfInBounds_toArray, List.set_cons_zero, List.set_cons_succ, List.getElem_toArray, List.getElem_cons_zero, List.getElem_cons_succ]
  refine list_call 18 #[.slice (some ⟨p0, q0, none⟩) n cap] (by kernel_rfl) (by kernel_rfl) ((jroom_ok L (some ⟨p0, q0, none⟩) n cap hn9 u2 ((unhide hl).gr (unhide hWg))).mono ?_)
  rintro r u6 ⟨go, co, rfl, hc1, hc2, hgo, hat, hg⟩
  rw [hLl] at hc1 ⊢
  have hlo : Lb u6 (some ⟨go, 0, none⟩) n co L := by
    have h9 := hat.take n
    rw [List.take_append_of_le_length (by rw [hLl]; exact Nat.le_refl _), List.take_of_length_le (by rw [hLl]; exact Nat.le_refl _)] at h9
    exact ⟨hLl, unhide hLb, .inr ⟨go, 0, rfl, h9⟩, by omega, hc2⟩
  replace hlo := hide hlo
  replace hWg := hide ((unhide hWg).trans hg)
  replace hl := hide ((unhide hl).gr (unhide hWg))
  clear hg hat hc1 hc2 hgo
  have hW := hide (Bl.nil u6)
  refine ⟨_, rfl, ?_⟩
  simp only [Act.put, List.setIfInBounds_toArray, List.set_cons_zero, List.set_cons_succ, List.getElem_toArray, List.getElem_cons_zero, List.getElem_cons_succ]
  (refine wpList_step fun K hK => ?_; replace hK := hide hK; go_simp; refine unhide hK _ _ ?_; clear hK K)
  refine wpList_nil ?_
  go_upto_region 5 with fail
  refine wp_region_lit ?_
  refine list_val (.slice (some ⟨go, 0, none⟩) n co) (by kernel_rfl) (by kernel_rfl) ?_
  simp only [Act.put, List.setIfInBounds_toArray, List.set_cons_zero, List.set_cons_succ, List.getElem_toArray, List.getElem_cons_zero, List.getElem_cons_succ]
  refine list_call 42 #[.slice (some ⟨go, 0, none⟩) n co] (by kernel_rfl) (by kernel_rfl) ((fgetup_no (some ⟨go, 0, none⟩) n co (by omega) (unhide hO) u6).mono ?_)
  rintro r v1 ⟨rfl, hg⟩
  replace hW := hide ((unhide hW).more hg)
  clear hg
  refine ⟨_, rfl, ?_⟩
  simp only [Act.put, List.setIfInBounds_toArray, List.set_cons_zero, List.set_cons_succ, List.getElem_toArray, List.getElem_cons_zero, List.getElem_cons_succ]
  refine list_val (.tuple #[.agg #[.int .i64 0, .int .i64 0, .int .u64 0, .slice none 0 0], .int .i64 240]) (by kernel_rfl) (by kernel_rfl) ?_
  simp only [Act.put, List.setIfInBounds_toArray, List.set_cons_zero, List.set_cons_succ, List.getElem_toArray, List.getElem_cons_zero, List.getElem_cons_succ]
  refine list_val (.agg #[.int .i64 0, .int .i64 0, .int .u64 0, .slice none 0 0]) (by kernel_rfl) (by kernel_rfl) ?_
  simp only [Act.put, List.setIfInBounds_toArray, List.set_cons_zero, List.set_cons_succ, List.getElem_toArray, List.getElem_cons_zero, List.getElem_cons_succ]
  refine list_val (.int .i64 240) (by kernel_rfl) (by kernel_rfl) ?_
  simp only [Act.put, List.setIfInBounds_toArray, List.set_cons_zero, List.set_cons_succ, List.getElem_toArray, List.getElem_cons_zero, List.getElem_cons_succ]
  refine list_valw (.pointer (some ⟨v1.heap.size, 0, none⟩)) (v1.alloc (.cells #[.int .i64 0, .int .i64 0, .int .u64 0, .slice none 0 0] 78 (0, 0))) (by kernel_rfl) (by kernel_rfl) ?_
  have hW2 := (unhide hW).new #[.int .i64 0, .int .i64 0, .int .u64 0, .slice none 0 0] 78
  simp only [List.nil_append, List.cons_append] at hW2
  clear hW
  generalize World.alloc _ _ = v2 at *
  generalize v1.heap.size = qup at *
  replace hW2 : Bl u6 [⟨qup, #[.int .i64 0, .int .i64 0, .int .u64 0, .slice none 0 0], 78⟩] v2 := hW2
  have hW := hide hW2
  clear hW2
  simp only [Act.put, List.setIfInBounds_toArray, List.set_cons_zero, List.set_cons_succ, List.getElem_toArray, List.getElem_cons_zero, List.getElem_cons_succ]
  have hq9 := ((unhide hW).get 0 (x := ⟨qup, #[.int .i64 0, .int .i64 0, .int .u64 0, .slice none 0 0], 78⟩) rfl)
  dsimp only at hq9
  refine list_store 78 (.tmp 4) (.tmp 21) qup #[.int .i64 0, .int .i64 0, .int .u64 0, .slice none 0 0] 78 #[.int .i64 0, .int .i64 0, .int .u64 0, .slice none 0 0] (by kernel_rfl) rfl (by kernel_rfl) (by kernel_rfl) hq9 (by rw [Try.infoU]; rfl) rfl (by simp [Value.oneCell']) ?_
  have hW2 := (unhide hW).set 0 (x := ⟨qup, #[.int .i64 0, .int .i64 0, .int .u64 0, .slice none 0 0], 78⟩) rfl #[.int .i64 0, .int .i64 0, .int .u64 0, .slice none 0 0]
  simp only [List.set_cons_zero, List.set_cons_succ] at hW2
  clear hW hq9
  generalize World.setRow _ _ _ = v3 at *
  replace hW2 : Bl u6 [⟨qup, #[.int .i64 0, .int .i64 0, .int .u64 0, .slice none 0 0], 78⟩] v3 := hW2
  have hW := hide hW2
  clear hW2
  simp only [Act.put, List.setIfInBounds_toArray, List.set_cons_zero, List.set_cons_succ, List.getElem_toArray, List.getElem_cons_zero, List.getElem_cons_succ]
  (refine wpList_step fun K hK => ?_; replace hK := hide hK; go_simp; refine unhide hK _ _ ?_; clear hK K)
  refine wpList_nil ?_
  go_upto_region 6 with fail
  refine wp_region_lit ?_
  refine list_val (.slice (some ⟨go, 0, none⟩) n co) (by kernel_rfl) (by kernel_rfl) ?_
  simp only [Act.put, List.setIfInBounds_toArray, List.set_cons_zero, List.set_cons_succ, List.getElem_toArray, List.getElem_cons_zero, List.getElem_cons_succ]
  refine list_call 43 #[.slice (some ⟨go, 0, none⟩) n co] (by kernel_rfl) (by kernel_rfl) ((fgetdn_ok L (some ⟨go, 0, none⟩) n co (unhide hR) (unhide hF).1 (unhide hF).2 v3 ((unhide hlo).gr (unhide hW).gr)).mono ?_)
  rintro r v4 ⟨v, rfl, hO_, hg⟩
  replace hO_ := ob_base hO_ (unhide hW).gr.size
  obtain ⟨va1, vc1, rfl, _⟩ := ob_lb hO_ (isB_drop (unhide hLb) 11) (n := n - 11) (by rw [List.length_drop, hLl])
  unfold pkv
  rw [← unhide hx1, ← unhide hx2, ← unhide hx3]
  have hA1 := hide hO_
  clear hO_
  replace hW := hide ((unhide hW).more hg)
  clear hg
  refine ⟨_, rfl, ?_⟩
  simp only [Act.put, List.setIfInBounds_toArray, List.set_cons_zero, List.set_cons_succ, List.getElem_toArray, List.getElem_cons_zero, List.getElem_cons_succ]
  refine list_val (.tuple #[.agg #[.int .i64 x1, .int .i64 x2, .int .u64 x3, .slice va1 (n - 11) vc1], .int .i64 0]) (by kernel_rfl) (by kernel_rfl) ?_
  simp only [Act.put, List.setIfInBounds_toArray, List.set_cons_zero, List.set_cons_succ, List.getElem_toArray, List.getElem_cons_zero, List.getElem_cons_succ]
  refine list_val (.agg #[.int .i64 x1, .int .i64 x2, .int .u64 x3, .slice va1 (n - 11) vc1]) (by kernel_rfl) (by kernel_rfl) ?_
  simp only [Act.put, List.setIfInBounds_toArray, List.set_cons_zero, List.set_cons_succ, List.getElem_toArray, List.getElem_cons_zero, List.getElem_cons_succ]
  refine list_val (.int .i64 0) (by kernel_rfl) (by kernel_rfl) ?_
  simp only [Act.put, List.setIfInBounds_toArray, List.set_cons_zero, List.set_cons_succ, List.getElem_toArray, List.getElem_cons_zero, List.getElem_cons_succ]
  refine list_valw (.pointer (some ⟨v4.heap.size, 0, none⟩)) (v4.alloc (.cells #[.int .i64 0, .int .i64 0, .int .u64 0, .slice none 0 0] 80 (0, 0))) (by kernel_rfl) (by kernel_rfl) ?_
  replace hA1 := hide ((unhide hA1).gr ((Gr.refl v4).alloc (.cells #[.int .i64 0, .int .i64 0, .int .u64 0, .slice none 0 0] 80 (0, 0))))
  have hW2 := (unhide hW).new #[.int .i64 0, .int .i64 0, .int .u64 0, .slice none 0 0] 80
  simp only [List.nil_append, List.cons_append] at hW2
  clear hW
  generalize World.alloc _ _ = v5 at *
  generalize v4.heap.size = qdn at *
  replace hW2 : Bl u6 [⟨qup, #[.int .i64 0, .int .i64 0, .int .u64 0, .slice none 0 0], 78⟩, ⟨qdn, #[.int .i64 0, .int .i64 0, .int .u64 0, .slice none 0 0], 80⟩] v5 := hW2
  have hW := hide hW2
  clear hW2
  simp only [Act.put, List.setIfInBounds_toArray, List.set_cons_zero, List.set_cons_succ, List.getElem_toArray, List.getElem_cons_zero, List.getElem_cons_succ]
  have hq9 := ((unhide hW).get 1 (x := ⟨qdn, #[.int .i64 0, .int .i64 0, .int .u64 0, .slice none 0 0], 80⟩) rfl)
  dsimp only at hq9
  refine list_store 80 (.tmp 6) (.tmp 26) qdn #[.int .i64 x1, .int .i64 x2, .int .u64 x3, .slice va1 (n - 11) vc1] 80 #[.int .i64 0, .int .i64 0, .int .u64 0, .slice none 0 0] (by kernel_rfl) rfl (by kernel_rfl) (by kernel_rfl) hq9 (by rw [Try.infoD]; rfl) rfl (by simp [Value.oneCell']) ?_
  replace hA1 := hide (ob_bt (unhide hA1) hq9 (by decide) (setRow_bt v5 qdn #[.int .i64 x1, .int .i64 x2, .int .u64 x3, .slice va1 (n - 11) vc1]))
  have hW2 := (unhide hW).set 1 (x := ⟨qdn, #[.int .i64 0, .int .i64 0, .int .u64 0, .slice none 0 0], 80⟩) rfl #[.int .i64 x1, .int .i64 x2, .int .u64 x3, .slice va1 (n - 11) vc1]
  simp only [List.set_cons_zero, List.set_cons_succ] at hW2
  clear hW hq9
  generalize World.setRow _ _ _ = v6 at *
  replace hW2 : Bl u6 [⟨qup, #[.int .i64 0, .int .i64 0, .int .u64 0, .slice none 0 0], 78⟩, ⟨qdn, #[.int .i64 x1, .int .i64 x2, .int .u64 x3, .slice va1 (n - 11) vc1], 80⟩] v6 := hW2
  have hW := hide hW2
  clear hW2
  simp only [Act.put, List.setIfInBounds_toArray, List.set_cons_zero, List.set_cons_succ, List.getElem_toArray, List.getElem_cons_zero, List.getElem_cons_succ]
  (refine wpList_step fun K hK => ?_; replace hK := hide hK; go_simp; refine unhide hK _ _ ?_; clear hK K)
  refine wpList_nil ?_
  go_upto_region 7 with fail
  refine wp_region_lit ?_
  refine list_val (.slice (some ⟨go, 0, none⟩) n co) (by kernel_rfl) (by kernel_rfl) ?_
  simp only [Act.put, List.setIfInBounds_toArray, List.set_cons_zero, List.set_cons_succ, List.getElem_toArray, List.getElem_cons_zero, List.getElem_cons_succ]
  refine list_call 44 #[.slice (some ⟨go, 0, none⟩) n co] (by kernel_rfl) (by kernel_rfl) ((fkind_ok L (some ⟨go, 0, none⟩) n co v6 ((unhide hlo).gr (unhide hW).gr)).mono ?_)
  rintro r v7 ⟨rfl, hg⟩
  generalize hkk : kindO L = kk_ at *
  replace hW := hide ((unhide hW).more hg)
  replace hA1 := hide ((unhide hA1).gr hg)
  clear hg
  refine ⟨_, rfl, ?_⟩
  simp only [Act.put, List.setIfInBounds_toArray, List.set_cons_zero, List.set_cons_succ, List.getElem_toArray, List.getElem_cons_zero, List.getElem_cons_succ]
  refine list_val (.slice (some ⟨p0, q0, none⟩) n cap) (by kernel_rfl) (by kernel_rfl) ?_
  simp only [Act.put, List.setIfInBounds_toArray, List.set_cons_zero, List.set_cons_succ, List.getElem_toArray, List.getElem_cons_zero, List.getElem_cons_succ]
  refine list_call 45 #[.slice (some ⟨p0, q0, none⟩) n cap] (by kernel_rfl) (by kernel_rfl) ((qkind_ok L (some ⟨p0, q0, none⟩) n cap hn9 v7 ((unhide hl).gr (unhide hW).gr)).mono ?_)
  rintro r v8 ⟨rfl, hg⟩
  rw [hkk]
  replace hW := hide ((unhide hW).more hg)
  replace hA1 := hide ((unhide hA1).gr hg)
  clear hg
  refine ⟨_, rfl, ?_⟩
  simp only [Act.put, List.setIfInBounds_toArray, List.set_cons_zero, List.set_cons_succ, List.getElem_toArray, List.getElem_cons_zero, List.getElem_cons_succ]
  refine list_val (.bool false) (by kernel_rfl) (by go_simp) ?_
  simp only [Act.put, List.setIfInBounds_toArray, List.set_cons_zero, List.set_cons_succ, List.getElem_toArray, List.getElem_cons_zero, List.getElem_cons_succ]
  refine list_val (.bool false) (by kernel_rfl) (by kernel_rfl) ?_
  simp only [Act.put, List.setIfInBounds_toArray, List.set_cons_zero, List.set_cons_succ, List.getElem_toArray, List.getElem_cons_zero, List.getElem_cons_succ]
  refine list_val (.slice (some ⟨go, 0, none⟩) n co) (by kernel_rfl) (by kernel_rfl) ?_
  simp only [Act.put, List.setIfInBounds_toArray, List.set_cons_zero, List.set_cons_succ, List.getElem_toArray, List.getElem_cons_zero, List.getElem_cons_succ]
  refine list_val (.slice (some ⟨p0, q0, none⟩) n cap) (by kernel_rfl) (by kernel_rfl) ?_
  simp only [Act.put, List.setIfInBounds_toArray, List.set_cons_zero, List.set_cons_succ, List.getElem_toArray, List.getElem_cons_zero, List.getElem_cons_succ]
  refine list_call 11 #[.slice (some ⟨go, 0, none⟩) n co, .slice (some ⟨p0, q0, none⟩) n cap] (by kernel_rfl) (by kernel_rfl) ((beq_ok L L (some ⟨go, 0, none⟩) (some ⟨p0, q0, none⟩) n n co cap v8 ((unhide hlo).gr (unhide hW).gr) ((unhide hl).gr (unhide hW).gr)).mono ?_)
  rintro r v9 ⟨rfl, hg⟩
  rw [decide_eq_true rfl]
  replace hW := hide ((unhide hW).more hg)
  replace hA1 := hide ((unhide hA1).gr hg)
  clear hg
  refine ⟨_, rfl, ?_⟩
  simp only [Act.put, List.setIfInBounds_toArray, List.set_cons_zero, List.set_cons_succ, List.getElem_toArray, List.getElem_cons_zero, List.getElem_cons_succ]
  refine list_val (.bool false) (by kernel_rfl) (by kernel_rfl) ?_
  simp only [Act.put, List.setIfInBounds_toArray, List.set_cons_zero, List.set_cons_succ, List.getElem_toArray, List.getElem_cons_zero, List.getElem_cons_succ]
  refine list_val (.bool false) (by kernel_rfl) (by kernel_rfl) ?_
  simp only [Act.put, List.setIfInBounds_toArray, List.set_cons_zero, List.set_cons_succ, List.getElem_toArray, List.getElem_cons_zero, List.getElem_cons_succ]
  refine wpList_nil ?_
  go_upto_region 9 with fail
  refine wp_region_lit ?_
  refine list_val (.agg #[.int .i64 0, .int .i64 0, .int .u64 0, .slice none 0 0]) (by kernel_rfl) (by kernel_rfl) ?_
  simp only [Act.put, List.setIfInBounds_toArray, List.set_cons_zero, List.set_cons_succ, List.getElem_toArray, List.getElem_cons_zero, List.getElem_cons_succ]
  refine list_valw (.pointer (some ⟨v9.heap.size, 0, none⟩)) (v9.alloc (.cells #[.int .i64 0, .int .i64 0, .int .u64 0, .slice none 0 0] 78 (0, 0))) (by kernel_rfl) (by kernel_rfl) ?_
  replace hA1 := hide ((unhide hA1).gr ((Gr.refl v9).alloc (.cells #[.int .i64 0, .int .i64 0, .int .u64 0, .slice none 0 0] 78 (0, 0))))
  have hW2 := (unhide hW).new #[.int .i64 0, .int .i64 0, .int .u64 0, .slice none 0 0] 78
  simp only [List.nil_append, List.cons_append] at hW2
  clear hW
  generalize World.alloc _ _ = v10 at *
  generalize v9.heap.size = rup at *
  replace hW2 : Bl u6 [⟨qup, #[.int .i64 0, .int .i64 0, .int .u64 0, .slice none 0 0], 78⟩, ⟨qdn, #[.int .i64 x1, .int .i64 x2, .int .u64 x3, .slice va1 (n - 11) vc1], 80⟩, ⟨rup, #[.int .i64 0, .int .i64 0, .int .u64 0, .slice none 0 0], 78⟩] v10 := hW2
  have hW := hide hW2
  clear hW2
  simp only [Act.put, List.setIfInBounds_toArray, List.set_cons_zero, List.set_cons_succ, List.getElem_toArray, List.getElem_cons_zero, List.getElem_cons_succ]
  have hq9 := ((unhide hW).get 2 (x := ⟨rup, #[.int .i64 0, .int .i64 0, .int .u64 0, .slice none 0 0], 78⟩) rfl)
  dsimp only at hq9
  refine list_store 78 (.tmp 8) (.tmp 39) rup #[.int .i64 0, .int .i64 0, .int .u64 0, .slice none 0 0] 78 #[.int .i64 0, .int .i64 0, .int .u64 0, .slice none 0 0] (by kernel_rfl) rfl (by kernel_rfl) (by kernel_rfl) hq9 (by rw [Try.infoU]; rfl) rfl (by simp [Value.oneCell']) ?_
  replace hA1 := hide (ob_bt (unhide hA1) hq9 (by decide) (setRow_bt v10 rup #[.int .i64 0, .int .i64 0, .int .u64 0, .slice none 0 0]))
  have hW2 := (unhide hW).set 2 (x := ⟨rup, #[.int .i64 0, .int .i64 0, .int .u64 0, .slice none 0 0], 78⟩) rfl #[.int .i64 0, .int .i64 0, .int .u64 0, .slice none 0 0]
  simp only [List.set_cons_zero, List.set_cons_succ] at hW2
  clear hW hq9
  generalize World.setRow _ _ _ = v11 at *
  replace hW2 : Bl u6 [⟨qup, #[.int .i64 0, .int .i64 0, .int .u64 0, .slice none 0 0], 78⟩, ⟨qdn, #[.int .i64 x1, .int .i64 x2, .int .u64 x3, .slice va1 (n - 11) vc1], 80⟩, ⟨rup, #[.int .i64 0, .int .i64 0, .int .u64 0, .slice none 0 0], 78⟩] v11 := hW2
  have hW := hide hW2
  clear hW2
  simp only [Act.put, List.setIfInBounds_toArray, List.set_cons_zero, List.set_cons_succ, List.getElem_toArray, List.getElem_cons_zero, List.getElem_cons_succ]
  (refine wpList_step fun K hK => ?_; replace hK := hide hK; go_simp; refine unhide hK _ _ ?_; clear hK K)
  (refine wpList_step fun K hK => ?_; replace hK := hide hK; go_simp; refine unhide hK _ _ ?_; clear hK K)
  refine wpList_nil ?_
  go_upto_region 10 with fail
  refine wp_region_lit ?_
  refine list_val (.slice (some ⟨p0, q0, none⟩) n cap) (by kernel_rfl) (by kernel_rfl) ?_
  simp only [Act.put, List.setIfInBounds_toArray, List.set_cons_zero, List.set_cons_succ, List.getElem_toArray, List.getElem_cons_zero, List.getElem_cons_succ]
  refine list_val (.int .i64 (n : Int)) (by kernel_rfl) (by kernel_rfl) ?_
  simp only [Act.put, List.setIfInBounds_toArray, List.set_cons_zero, List.set_cons_succ, List.getElem_toArray, List.getElem_cons_zero, List.getElem_cons_succ]
  refine list_val (.int .i64 x) (by kernel_rfl) (by go_simp) ?_
  simp only [Act.put, List.setIfInBounds_toArray, List.set_cons_zero, List.set_cons_succ, List.getElem_toArray, List.getElem_cons_zero, List.getElem_cons_succ]
  refine list_call 39 #[.int .i64 x] (by kernel_rfl) (by kernel_rfl) ((qon_ok x v11).mono ?_)
  rintro r v12 ⟨hup, rfl, hhup, rfl⟩
  rw [hOx, decide_eq_false_iff_not] at hhup
  refine ⟨_, rfl, ?_⟩
  simp only [Act.put, List.setIfInBounds_toArray, List.set_cons_zero, List.set_cons_succ, List.getElem_toArray, List.getElem_cons_zero, List.getElem_cons_succ]
  refine list_val (.bool false) (by kernel_rfl) (by go_simp) ?_
  simp only [Act.put, List.setIfInBounds_toArray, List.set_cons_zero, List.set_cons_succ, List.getElem_toArray, List.getElem_cons_zero, List.getElem_cons_succ]
  refine wpList_nil ?_
  go_upto_region 13 with fail
  refine wp_region_lit ?_
  refine list_val (.bool false) (by kernel_rfl) (by kernel_rfl) ?_
  simp only [Act.put, List.setIfInBounds_toArray, List.set_cons_zero, List.set_cons_succ, List.getElem_toArray, List.getElem_cons_zero, List.getElem_cons_succ]
  refine list_val_offs 31 (.bool false) (by kernel_rfl) (by kernel_rfl) (by kernel_rfl) ?_
  simp only [List.drop_succ_cons, List.drop_zero, List.take_succ_cons, List.take_zero, putU]
  simp only [Act.put, List.setIfInBounds_toArray, List.set_cons_zero, List.set_cons_succ, List.getElem_toArray, List.getElem_cons_zero, List.getElem_cons_succ]
  refine list_val (.bool false) (by kernel_rfl) (by kernel_rfl) ?_
  simp only [Act.put, List.setIfInBounds_toArray, List.set_cons_zero, List.set_cons_succ, List.getElem_toArray, List.getElem_cons_zero, List.getElem_cons_succ]
  refine wpList_nil ?_
  go_upto_region 15 with fail
  refine wp_region_lit ?_
  refine list_val (.bool false) (by kernel_rfl) (by kernel_rfl) ?_
  simp only [Act.put, List.setIfInBounds_toArray, List.set_cons_zero, List.set_cons_succ, List.getElem_toArray, List.getElem_cons_zero, List.getElem_cons_succ]
  refine list_val (.bool true) (by kernel_rfl) (by kernel_rfl) ?_
  simp only [Act.put, List.setIfInBounds_toArray, List.set_cons_zero, List.set_cons_succ, List.getElem_toArray, List.getElem_cons_zero, List.getElem_cons_succ]
  refine list_val (.bool true) (by kernel_rfl) (by kernel_rfl) ?_
  simp only [Act.put, List.setIfInBounds_toArray, List.set_cons_zero, List.set_cons_succ, List.getElem_toArray, List.getElem_cons_zero, List.getElem_cons_succ]
  refine list_val (.int .i64 240) (by kernel_rfl) (by kernel_rfl) ?_
  simp only [Act.put, List.setIfInBounds_toArray, List.set_cons_zero, List.set_cons_succ, List.getElem_toArray, List.getElem_cons_zero, List.getElem_cons_succ]
  refine list_val (.int .i64 240) (by kernel_rfl) (by kernel_rfl) ?_
  simp only [Act.put, List.setIfInBounds_toArray, List.set_cons_zero, List.set_cons_succ, List.getElem_toArray, List.getElem_cons_zero, List.getElem_cons_succ]
  refine list_val (.bool false) (by kernel_rfl) (by kernel_rfl) ?_
  simp only [Act.put, List.setIfInBounds_toArray, List.set_cons_zero, List.set_cons_succ, List.getElem_toArray, List.getElem_cons_zero, List.getElem_cons_succ]
  refine list_val (.bool false) (by kernel_rfl) (by kernel_rfl) ?_
  simp only [Act.put, List.setIfInBounds_toArray, List.set_cons_zero, List.set_cons_succ, List.getElem_toArray, List.getElem_cons_zero, List.getElem_cons_succ]
  refine list_val (.pointer (some ⟨qup, 0, none⟩)) (by kernel_rfl) (by kernel_rfl) ?_
  simp only [Act.put, List.setIfInBounds_toArray, List.set_cons_zero, List.set_cons_succ, List.getElem_toArray, List.getElem_cons_zero, List.getElem_cons_succ]
  refine list_val (.int .i64 0) (by kernel_rfl) (exec_i64 _ (.tmp 91) rfl qup 0 (by kernel_rfl) 0 (cell_of ((unhide hW).get 0 (x := ⟨qup, #[.int .i64 0, .int .i64 0, .int .u64 0, .slice none 0 0], 78⟩) rfl) (i := 0) rfl)) ?_
  simp only [Act.put, List.setIfInBounds_toArray, List.set_cons_zero, List.set_cons_succ, List.getElem_toArray, List.getElem_cons_zero, List.getElem_cons_succ]
  refine list_val (.bool false) (by kernel_rfl) (by kernel_rfl) ?_
  simp only [Act.put, List.setIfInBounds_toArray, List.set_cons_zero, List.set_cons_succ, List.getElem_toArray, List.getElem_cons_zero, List.getElem_cons_succ]
  refine list_val (.bool false) (by kernel_rfl) (by kernel_rfl) ?_
  simp only [Act.put, List.setIfInBounds_toArray, List.set_cons_zero, List.set_cons_succ, List.getElem_toArray, List.getElem_cons_zero, List.getElem_cons_succ]
  refine list_val (.bool false) (by kernel_rfl) (by kernel_rfl) ?_
  simp only [Act.put, List.setIfInBounds_toArray, List.set_cons_zero, List.set_cons_succ, List.getElem_toArray, List.getElem_cons_zero, List.getElem_cons_succ]
  refine list_val (.pointer (some ⟨qup, 1, none⟩)) (by kernel_rfl) (by kernel_rfl) ?_
  simp only [Act.put, List.setIfInBounds_toArray, List.set_cons_zero, List.set_cons_succ, List.getElem_toArray, List.getElem_cons_zero, List.getElem_cons_succ]
  refine list_val (.int .i64 0) (by kernel_rfl) (exec_i64 _ (.tmp 96) rfl qup 1 (by kernel_rfl) 0 (cell_of ((unhide hW).get 0 (x := ⟨qup, #[.int .i64 0, .int .i64 0, .int .u64 0, .slice none 0 0], 78⟩) rfl) (i := 1) rfl)) ?_
  simp only [Act.put, List.setIfInBounds_toArray, List.set_cons_zero, List.set_cons_succ, List.getElem_toArray, List.getElem_cons_zero, List.getElem_cons_succ]
  refine list_val (.bool false) (by kernel_rfl) (by kernel_rfl) ?_
  simp only [Act.put, List.setIfInBounds_toArray, List.set_cons_zero, List.set_cons_succ, List.getElem_toArray, List.getElem_cons_zero, List.getElem_cons_succ]
  refine list_val (.bool false) (by kernel_rfl) (by kernel_rfl) ?_
  simp only [Act.put, List.setIfInBounds_toArray, List.set_cons_zero, List.set_cons_succ, List.getElem_toArray, List.getElem_cons_zero, List.getElem_cons_succ]
  refine list_val (.bool false) (by kernel_rfl) (by kernel_rfl) ?_
  simp only [Act.put, List.setIfInBounds_toArray, List.set_cons_zero, List.set_cons_succ, List.getElem_toArray, List.getElem_cons_zero, List.getElem_cons_succ]
  refine list_val (.pointer (some ⟨qup, 2, none⟩)) (by kernel_rfl) (by kernel_rfl) ?_
  simp only [Act.put, List.setIfInBounds_toArray, List.set_cons_zero, List.set_cons_succ, List.getElem_toArray, List.getElem_cons_zero, List.getElem_cons_succ]
  refine list_val (.int .u64 0) (by kernel_rfl) (exec_u64 _ (.tmp 101) rfl qup 2 (by kernel_rfl) 0 (cell_of ((unhide hW).get 0 (x := ⟨qup, #[.int .i64 0, .int .i64 0, .int .u64 0, .slice none 0 0], 78⟩) rfl) (i := 2) rfl)) ?_
  simp only [Act.put, List.setIfInBounds_toArray, List.set_cons_zero, List.set_cons_succ, List.getElem_toArray, List.getElem_cons_zero, List.getElem_cons_succ]
  refine list_val (.bool false) (by kernel_rfl) (by kernel_rfl) ?_
  simp only [Act.put, List.setIfInBounds_toArray, List.set_cons_zero, List.set_cons_succ, List.getElem_toArray, List.getElem_cons_zero, List.getElem_cons_succ]
  refine list_val (.bool false) (by kernel_rfl) (by kernel_rfl) ?_
  simp only [Act.put, List.setIfInBounds_toArray, List.set_cons_zero, List.set_cons_succ, List.getElem_toArray, List.getElem_cons_zero, List.getElem_cons_succ]
  refine list_val (.bool false) (by kernel_rfl) (by kernel_rfl) ?_
  simp only [Act.put, List.setIfInBounds_toArray, List.set_cons_zero, List.set_cons_succ, List.getElem_toArray, List.getElem_cons_zero, List.getElem_cons_succ]
  refine list_val (.pointer (some ⟨qup, 3, none⟩)) (by kernel_rfl) (by kernel_rfl) ?_
  simp only [Act.put, List.setIfInBounds_toArray, List.set_cons_zero, List.set_cons_succ, List.getElem_toArray, List.getElem_cons_zero, List.getElem_cons_succ]
  refine list_val (.slice none 0 0) (by kernel_rfl) (exec_sby _ (.tmp 106) rfl qup 3 (by kernel_rfl) none 0 0 (cell_of ((unhide hW).get 0 (x := ⟨qup, #[.int .i64 0, .int .i64 0, .int .u64 0, .slice none 0 0], 78⟩) rfl) (i := 3) rfl)) ?_
  simp only [Act.put, List.setIfInBounds_toArray, List.set_cons_zero, List.set_cons_succ, List.getElem_toArray, List.getElem_cons_zero, List.getElem_cons_succ]
  refine list_val (.int .i64 0) (by kernel_rfl) (by kernel_rfl) ?_
  simp only [Act.put, List.setIfInBounds_toArray, List.set_cons_zero, List.set_cons_succ, List.getElem_toArray, List.getElem_cons_zero, List.getElem_cons_succ]
  refine list_val (.bool false) (by kernel_rfl) (by kernel_rfl) ?_
  simp only [Act.put, List.setIfInBounds_toArray, List.set_cons_zero, List.set_cons_succ, List.getElem_toArray, List.getElem_cons_zero, List.getElem_cons_succ]
  refine list_val (.bool false) (by kernel_rfl) (by kernel_rfl) ?_
  simp only [Act.put, List.setIfInBounds_toArray, List.set_cons_zero, List.set_cons_succ, List.getElem_toArray, List.getElem_cons_zero, List.getElem_cons_succ]
  refine list_val (.bool false) (by kernel_rfl) (by kernel_rfl) ?_
  simp only [Act.put, List.setIfInBounds_toArray, List.set_cons_zero, List.set_cons_succ, List.getElem_toArray, List.getElem_cons_zero, List.getElem_cons_succ]
  refine wpList_nil ?_
  go_upto_region 17 with fail
  refine wp_region_lit ?_
  refine list_val (.agg #[.int .i64 0, .int .i64 0, .int .u64 0, .slice none 0 0]) (by kernel_rfl) (by kernel_rfl) ?_
  simp only [Act.put, List.setIfInBounds_toArray, List.set_cons_zero, List.set_cons_succ, List.getElem_toArray, List.getElem_cons_zero, List.getElem_cons_succ]
  refine list_valw (.pointer (some ⟨v12.heap.size, 0, none⟩)) (v12.alloc (.cells #[.int .i64 0, .int .i64 0, .int .u64 0, .slice none 0 0] 80 (0, 0))) (by kernel_rfl) (by kernel_rfl) ?_
  replace hA1 := hide ((unhide hA1).gr ((Gr.refl v12).alloc (.cells #[.int .i64 0, .int .i64 0, .int .u64 0, .slice none 0 0] 80 (0, 0))))
  have hW2 := (unhide hW).new #[.int .i64 0, .int .i64 0, .int .u64 0, .slice none 0 0] 80
  simp only [List.nil_append, List.cons_append] at hW2
  clear hW
  generalize World.alloc _ _ = v13 at *
  generalize v12.heap.size = rdn at *
  replace hW2 : Bl u6 [⟨qup, #[.int .i64 0, .int .i64 0, .int .u64 0, .slice none 0 0], 78⟩, ⟨qdn, #[.int .i64 x1, .int .i64 x2, .int .u64 x3, .slice va1 (n - 11) vc1], 80⟩, ⟨rup, #[.int .i64 0, .int .i64 0, .int .u64 0, .slice none 0 0], 78⟩, ⟨rdn, #[.int .i64 0, .int .i64 0, .int .u64 0, .slice none 0 0], 80⟩] v13 := hW2
  have hW := hide hW2
  clear hW2
  simp only [Act.put, List.setIfInBounds_toArray, List.set_cons_zero, List.set_cons_succ, List.getElem_toArray, List.getElem_cons_zero, List.getElem_cons_succ]
  have hq9 := ((unhide hW).get 3 (x := ⟨rdn, #[.int .i64 0, .int .i64 0, .int .u64 0, .slice none 0 0], 80⟩) rfl)
  dsimp only at hq9
  refine list_store 80 (.tmp 11) (.tmp 112) rdn #[.int .i64 0, .int .i64 0, .int .u64 0, .slice none 0 0] 80 #[.int .i64 0, .int .i64 0, .int .u64 0, .slice none 0 0] (by kernel_rfl) rfl (by kernel_rfl) (by kernel_rfl) hq9 (by rw [Try.infoD]; rfl) rfl (by simp [Value.oneCell']) ?_
  replace hA1 := hide (ob_bt (unhide hA1) hq9 (by decide) (setRow_bt v13 rdn #[.int .i64 0, .int .i64 0, .int .u64 0, .slice none 0 0]))
  have hW2 := (unhide hW).set 3 (x := ⟨rdn, #[.int .i64 0, .int .i64 0, .int .u64 0, .slice none 0 0], 80⟩) rfl #[.int .i64 0, .int .i64 0, .int .u64 0, .slice none 0 0]
  simp only [List.set_cons_zero, List.set_cons_succ] at hW2
  clear hW hq9
  generalize World.setRow _ _ _ = v14 at *
  replace hW2 : Bl u6 [⟨qup, #[.int .i64 0, .int .i64 0, .int .u64 0, .slice none 0 0], 78⟩, ⟨qdn, #[.int .i64 x1, .int .i64 x2, .int .u64 x3, .slice va1 (n - 11) vc1], 80⟩, ⟨rup, #[.int .i64 0, .int .i64 0, .int .u64 0, .slice none 0 0], 78⟩, ⟨rdn, #[.int .i64 0, .int .i64 0, .int .u64 0, .slice none 0 0], 80⟩] v14 := hW2
  have hW := hide hW2
  clear hW2
  simp only [Act.put, List.setIfInBounds_toArray, List.set_cons_zero, List.set_cons_succ, List.getElem_toArray, List.getElem_cons_zero, List.getElem_cons_succ]
  (refine wpList_step fun K hK => ?_; replace hK := hide hK; go_simp; refine unhide hK _ _ ?_; clear hK K)
  (refine wpList_step fun K hK => ?_; replace hK := hide hK; go_simp; refine unhide hK _ _ ?_; clear hK K)
  refine wpList_nil ?_
  go_upto_region 18 with fail
  refine wp_region_lit ?_
  refine list_val (.slice (some ⟨p0, q0, none⟩) n cap) (by kernel_rfl) (by kernel_rfl) ?_
  simp only [Act.put, List.setIfInBounds_toArray, List.set_cons_zero, List.set_cons_succ, List.getElem_toArray, List.getElem_cons_zero, List.getElem_cons_succ]
  refine list_val (.int .i64 (n : Int)) (by kernel_rfl) (by kernel_rfl) ?_
  simp only [Act.put, List.setIfInBounds_toArray, List.set_cons_zero, List.set_cons_succ, List.getElem_toArray, List.getElem_cons_zero, List.getElem_cons_succ]
  refine list_val (.int .i64 x) (by kernel_rfl) (by go_simp) ?_
  simp only [Act.put, List.setIfInBounds_toArray, List.set_cons_zero, List.set_cons_succ, List.getElem_toArray, List.getElem_cons_zero, List.getElem_cons_succ]
  refine list_call 41 #[.int .i64 x] (by kernel_rfl) (by kernel_rfl) ((qrp_ok x v14).mono ?_)
  rintro r v15 ⟨hdn, rfl, hhdn, rfl⟩
  rw [hRx, decide_eq_true_iff] at hhdn
  refine ⟨_, rfl, ?_⟩
  simp only [Act.put, List.setIfInBounds_toArray, List.set_cons_zero, List.set_cons_succ, List.getElem_toArray, List.getElem_cons_zero, List.getElem_cons_succ]
  refine list_val (.bool true) (by kernel_rfl) (by go_simp) ?_
  simp only [Act.put, List.setIfInBounds_toArray, List.set_cons_zero, List.set_cons_succ, List.getElem_toArray, List.getElem_cons_zero, List.getElem_cons_succ]
  refine wpList_nil ?_
  go_upto_region 20 with fail
  refine wp_region_lit ?_
  refine list_val (.slice (some ⟨p0, q0, none⟩) n cap) (by kernel_rfl) (by kernel_rfl) ?_
  simp only [Act.put, List.setIfInBounds_toArray, List.set_cons_zero, List.set_cons_succ, List.getElem_toArray, List.getElem_cons_zero, List.getElem_cons_succ]
  refine list_call 47 #[.slice (some ⟨p0, q0, none⟩) n cap] (by kernel_rfl) (by kernel_rfl) ((qgetdn_ok L p0 q0 n cap hn12 hn9 v15 ((unhide hl).gr (unhide hW).gr)).mono ?_)
  rintro r v16 ⟨va2, vc2, rfl, hO_, hg⟩
  rw [hE]
  rw [hLl] at hO_ ⊢
  replace hO_ := ob_base hO_ (unhide hW).gr.size
  unfold pkv
  rw [← unhide hx1, ← unhide hx2, ← unhide hx3]
  have hA2 := hide hO_
  clear hO_
  replace hW := hide ((unhide hW).more hg)
  replace hA1 := hide ((unhide hA1).gr hg)
  clear hg
  refine ⟨_, rfl, ?_⟩
  simp only [Act.put, List.setIfInBounds_toArray, List.set_cons_zero, List.set_cons_succ, List.getElem_toArray, List.getElem_cons_zero, List.getElem_cons_succ]
  refine list_val (.tuple #[.agg #[.int .i64 x1, .int .i64 x2, .int .u64 x3, .slice va2 (n - 11) vc2], .bool true]) (by kernel_rfl) (by kernel_rfl) ?_
  simp only [Act.put, List.setIfInBounds_toArray, List.set_cons_zero, List.set_cons_succ, List.getElem_toArray, List.getElem_cons_zero, List.getElem_cons_succ]
  refine list_val (.agg #[.int .i64 x1, .int .i64 x2, .int .u64 x3, .slice va2 (n - 11) vc2]) (by kernel_rfl) (by kernel_rfl) ?_
  simp only [Act.put, List.setIfInBounds_toArray, List.set_cons_zero, List.set_cons_succ, List.getElem_toArray, List.getElem_cons_zero, List.getElem_cons_succ]
  refine list_val (.bool true) (by kernel_rfl) (by kernel_rfl) ?_
  simp only [Act.put, List.setIfInBounds_toArray, List.set_cons_zero, List.set_cons_succ, List.getElem_toArray, List.getElem_cons_zero, List.getElem_cons_succ]
  have hq9 := ((unhide hW).get 3 (x := ⟨rdn, #[.int .i64 0, .int .i64 0, .int .u64 0, .slice none 0 0], 80⟩) rfl)
  dsimp only at hq9
  refine list_store 80 (.tmp 11) (.tmp 121) rdn #[.int .i64 x1, .int .i64 x2, .int .u64 x3, .slice va2 (n - 11) vc2] 80 #[.int .i64 0, .int .i64 0, .int .u64 0, .slice none 0 0] (by kernel_rfl) rfl (by kernel_rfl) (by kernel_rfl) hq9 (by rw [Try.infoD]; rfl) rfl (by simp [Value.oneCell']) ?_
  replace hA1 := hide (ob_bt (unhide hA1) hq9 (by decide) (setRow_bt v16 rdn #[.int .i64 x1, .int .i64 x2, .int .u64 x3, .slice va2 (n - 11) vc2]))
  replace hA2 := hide (ob_bt (unhide hA2) hq9 (by decide) (setRow_bt v16 rdn #[.int .i64 x1, .int .i64 x2, .int .u64 x3, .slice va2 (n - 11) vc2]))
  have hW2 := (unhide hW).set 3 (x := ⟨rdn, #[.int .i64 0, .int .i64 0, .int .u64 0, .slice none 0 0], 80⟩) rfl #[.int .i64 x1, .int .i64 x2, .int .u64 x3, .slice va2 (n - 11) vc2]
  simp only [List.set_cons_zero, List.set_cons_succ] at hW2
  clear hW hq9
  generalize World.setRow _ _ _ = v17 at *
  replace hW2 : Bl u6 [⟨qup, #[.int .i64 0, .int .i64 0, .int .u64 0, .slice none 0 0], 78⟩, ⟨qdn, #[.int .i64 x1, .int .i64 x2, .int .u64 x3, .slice va1 (n - 11) vc1], 80⟩, ⟨rup, #[.int .i64 0, .int .i64 0, .int .u64 0, .slice none 0 0], 78⟩, ⟨rdn, #[.int .i64 x1, .int .i64 x2, .int .u64 x3, .slice va2 (n - 11) vc2], 80⟩] v17 := hW2
  have hW := hide hW2
  clear hW2
  simp only [Act.put, List.setIfInBounds_toArray, List.set_cons_zero, List.set_cons_succ, List.getElem_toArray, List.getElem_cons_zero, List.getElem_cons_succ]
  (refine wpList_step fun K hK => ?_; replace hK := hide hK; go_simp; refine unhide hK _ _ ?_; clear hK K)
  refine wpList_nil ?_
  go_upto_region 22 with fail
  refine wp_region_lit ?_
  refine list_val (.int .i64 0) (by kernel_rfl) (by kernel_rfl) ?_
  simp only [Act.put, List.setIfInBounds_toArray, List.set_cons_zero, List.set_cons_succ, List.getElem_toArray, List.getElem_cons_zero, List.getElem_cons_succ]
  refine list_val (.bool true) (by kernel_rfl) (by kernel_rfl) ?_
  simp only [Act.put, List.setIfInBounds_toArray, List.set_cons_zero, List.set_cons_succ, List.getElem_toArray, List.getElem_cons_zero, List.getElem_cons_succ]
  refine list_val (.bool true) (by kernel_rfl) (by kernel_rfl) ?_
  simp only [Act.put, List.setIfInBounds_toArray, List.set_cons_zero, List.set_cons_succ, List.getElem_toArray, List.getElem_cons_zero, List.getElem_cons_succ]
  refine list_val (.pointer (some ⟨qdn, 0, none⟩)) (by kernel_rfl) (by kernel_rfl) ?_
  simp only [Act.put, List.setIfInBounds_toArray, List.set_cons_zero, List.set_cons_succ, List.getElem_toArray, List.getElem_cons_zero, List.getElem_cons_succ]
  refine list_val (.int .i64 x1) (by kernel_rfl) (exec_i64 _ (.tmp 127) rfl qdn 0 (by kernel_rfl) x1 (cell_of ((unhide hW).get 1 (x := ⟨qdn, #[.int .i64 x1, .int .i64 x2, .int .u64 x3, .slice va1 (n - 11) vc1], 80⟩) rfl) (i := 0) rfl)) ?_
  simp only [Act.put, List.setIfInBounds_toArray, List.set_cons_zero, List.set_cons_succ, List.getElem_toArray, List.getElem_cons_zero, List.getElem_cons_succ]
  refine list_val (.pointer (some ⟨rdn, 0, none⟩)) (by kernel_rfl) (by kernel_rfl) ?_
  simp only [Act.put, List.setIfInBounds_toArray, List.set_cons_zero, List.set_cons_succ, List.getElem_toArray, List.getElem_cons_zero, List.getElem_cons_succ]
  refine list_val (.int .i64 x1) (by kernel_rfl) (exec_i64 _ (.tmp 129) rfl rdn 0 (by kernel_rfl) x1 (cell_of ((unhide hW).get 3 (x := ⟨rdn, #[.int .i64 x1, .int .i64 x2, .int .u64 x3, .slice va2 (n - 11) vc2], 80⟩) rfl) (i := 0) rfl)) ?_
  simp only [Act.put, List.setIfInBounds_toArray, List.set_cons_zero, List.set_cons_succ, List.getElem_toArray, List.getElem_cons_zero, List.getElem_cons_succ]
  refine list_val (.bool true) (by kernel_rfl) (by go_simp) ?_
  simp only [Act.put, List.setIfInBounds_toArray, List.set_cons_zero, List.set_cons_succ, List.getElem_toArray, List.getElem_cons_zero, List.getElem_cons_succ]
  refine list_val (.bool true) (by kernel_rfl) (by kernel_rfl) ?_
  simp only [Act.put, List.setIfInBounds_toArray, List.set_cons_zero, List.set_cons_succ, List.getElem_toArray, List.getElem_cons_zero, List.getElem_cons_succ]
  refine list_val (.bool true) (by kernel_rfl) (by kernel_rfl) ?_
  simp only [Act.put, List.setIfInBounds_toArray, List.set_cons_zero, List.set_cons_succ, List.getElem_toArray, List.getElem_cons_zero, List.getElem_cons_succ]
  refine list_val (.pointer (some ⟨qdn, 1, none⟩)) (by kernel_rfl) (by kernel_rfl) ?_
  simp only [Act.put, List.setIfInBounds_toArray, List.set_cons_zero, List.set_cons_succ, List.getElem_toArray, List.getElem_cons_zero, List.getElem_cons_succ]
  refine list_val (.int .i64 x2) (by kernel_rfl) (exec_i64 _ (.tmp 134) rfl qdn 1 (by kernel_rfl) x2 (cell_of ((unhide hW).get 1 (x := ⟨qdn, #[.int .i64 x1, .int .i64 x2, .int .u64 x3, .slice va1 (n - 11) vc1], 80⟩) rfl) (i := 1) rfl)) ?_
  simp only [Act.put, List.setIfInBounds_toArray, List.set_cons_zero, List.set_cons_succ, List.getElem_toArray, List.getElem_cons_zero, List.getElem_cons_succ]
  refine list_val (.pointer (some ⟨rdn, 1, none⟩)) (by kernel_rfl) (by kernel_rfl) ?_
  simp only [Act.put, List.setIfInBounds_toArray, List.set_cons_zero, List.set_cons_succ, List.getElem_toArray, List.getElem_cons_zero, List.getElem_cons_succ]
  refine list_val (.int .i64 x2) (by kernel_rfl) (exec_i64 _ (.tmp 136) rfl rdn 1 (by kernel_rfl) x2 (cell_of ((unhide hW).get 3 (x := ⟨rdn, #[.int .i64 x1, .int .i64 x2, .int .u64 x3, .slice va2 (n - 11) vc2], 80⟩) rfl) (i := 1) rfl)) ?_
  simp only [Act.put, List.setIfInBounds_toArray, List.set_cons_zero, List.set_cons_succ, List.getElem_toArray, List.getElem_cons_zero, List.getElem_cons_succ]
  refine list_val (.bool true) (by kernel_rfl) (by go_simp) ?_
  simp only [Act.put, List.setIfInBounds_toArray, List.set_cons_zero, List.set_cons_succ, List.getElem_toArray, List.getElem_cons_zero, List.getElem_cons_succ]
  refine list_val (.bool true) (by kernel_rfl) (by kernel_rfl) ?_
  simp only [Act.put, List.setIfInBounds_toArray, List.set_cons_zero, List.set_cons_succ, List.getElem_toArray, List.getElem_cons_zero, List.getElem_cons_succ]
  refine list_val (.bool true) (by kernel_rfl) (by kernel_rfl) ?_
  simp only [Act.put, List.setIfInBounds_toArray, List.set_cons_zero, List.set_cons_succ, List.getElem_toArray, List.getElem_cons_zero, List.getElem_cons_succ]
  refine list_val (.pointer (some ⟨qdn, 2, none⟩)) (by kernel_rfl) (by kernel_rfl) ?_
  simp only [Act.put, List.setIfInBounds_toArray, List.set_cons_zero, List.set_cons_succ, List.getElem_toArray, List.getElem_cons_zero, List.getElem_cons_succ]
  refine list_val (.int .u64 x3) (by kernel_rfl) (exec_u64 _ (.tmp 141) rfl qdn 2 (by kernel_rfl) x3 (cell_of ((unhide hW).get 1 (x := ⟨qdn, #[.int .i64 x1, .int .i64 x2, .int .u64 x3, .slice va1 (n - 11) vc1], 80⟩) rfl) (i := 2) rfl)) ?_
  simp only [Act.put, List.setIfInBounds_toArray, List.set_cons_zero, List.set_cons_succ, List.getElem_toArray, List.getElem_cons_zero, List.getElem_cons_succ]
  refine list_val (.pointer (some ⟨rdn, 2, none⟩)) (by kernel_rfl) (by kernel_rfl) ?_
  simp only [Act.put, List.setIfInBounds_toArray, List.set_cons_zero, List.set_cons_succ, List.getElem_toArray, List.getElem_cons_zero, List.getElem_cons_succ]
  refine list_val (.int .u64 x3) (by kernel_rfl) (exec_u64 _ (.tmp 143) rfl rdn 2 (by kernel_rfl) x3 (cell_of ((unhide hW).get 3 (x := ⟨rdn, #[.int .i64 x1, .int .i64 x2, .int .u64 x3, .slice va2 (n - 11) vc2], 80⟩) rfl) (i := 2) rfl)) ?_
  simp only [Act.put, List.setIfInBounds_toArray, List.set_cons_zero, List.set_cons_succ, List.getElem_toArray, List.getElem_cons_zero, List.getElem_cons_succ]
  refine list_val (.bool true) (by kernel_rfl) (by go_simp) ?_
  simp only [Act.put, List.setIfInBounds_toArray, List.set_cons_zero, List.set_cons_succ, List.getElem_toArray, List.getElem_cons_zero, List.getElem_cons_succ]
  refine list_val (.bool true) (by kernel_rfl) (by kernel_rfl) ?_
  simp only [Act.put, List.setIfInBounds_toArray, List.set_cons_zero, List.set_cons_succ, List.getElem_toArray, List.getElem_cons_zero, List.getElem_cons_succ]
  refine list_val (.bool true) (by kernel_rfl) (by kernel_rfl) ?_
  simp only [Act.put, List.setIfInBounds_toArray, List.set_cons_zero, List.set_cons_succ, List.getElem_toArray, List.getElem_cons_zero, List.getElem_cons_succ]
  refine list_val (.pointer (some ⟨qdn, 3, none⟩)) (by kernel_rfl) (by kernel_rfl) ?_
  simp only [Act.put, List.setIfInBounds_toArray, List.set_cons_zero, List.set_cons_succ, List.getElem_toArray, List.getElem_cons_zero, List.getElem_cons_succ]
  refine list_val (.slice va1 (n - 11) vc1) (by kernel_rfl) (exec_sby _ (.tmp 148) rfl qdn 3 (by kernel_rfl) va1 (n - 11) vc1 (cell_of ((unhide hW).get 1 (x := ⟨qdn, #[.int .i64 x1, .int .i64 x2, .int .u64 x3, .slice va1 (n - 11) vc1], 80⟩) rfl) (i := 3) rfl)) ?_
  simp only [Act.put, List.setIfInBounds_toArray, List.set_cons_zero, List.set_cons_succ, List.getElem_toArray, List.getElem_cons_zero, List.getElem_cons_succ]
  refine list_val (.pointer (some ⟨rdn, 3, none⟩)) (by kernel_rfl) (by kernel_rfl) ?_
  simp only [Act.put, List.setIfInBounds_toArray, List.set_cons_zero, List.set_cons_succ, List.getElem_toArray, List.getElem_cons_zero, List.getElem_cons_succ]
  refine list_val (.slice va2 (n - 11) vc2) (by kernel_rfl) (exec_sby _ (.tmp 150) rfl rdn 3 (by kernel_rfl) va2 (n - 11) vc2 (cell_of ((unhide hW).get 3 (x := ⟨rdn, #[.int .i64 x1, .int .i64 x2, .int .u64 x3, .slice va2 (n - 11) vc2], 80⟩) rfl) (i := 3) rfl)) ?_
  simp only [Act.put, List.setIfInBounds_toArray, List.set_cons_zero, List.set_cons_succ, List.getElem_toArray, List.getElem_cons_zero, List.getElem_cons_succ]
  obtain ⟨_, _, e1_, hb1_⟩ := ob_lb (unhide hA1) (isB_drop (unhide hLb) 11) (n := n - 11) (by rw [List.length_drop, hLl])
  obtain ⟨_, _, e2_, hb2_⟩ := ob_lb (unhide hA2) (isB_drop (unhide hLb) 11) (n := n - 11) (by rw [List.length_drop, hLl])
  injection e1_ with e11 e12 e13
  injection e2_ with e21 e22 e23
  subst e11 e13 e21 e23
  clear e12 e22
  refine list_call 11 #[.slice va1 (n - 11) vc1, .slice va2 (n - 11) vc2] (by kernel_rfl) (by kernel_rfl) ((beq_ok (L.drop 11) (L.drop 11) va1 va2 (n - 11) (n - 11) vc1 vc2 v17 hb1_ hb2_).mono ?_)
  rintro r v18 ⟨rfl, hg⟩
  rw [decide_eq_true rfl]
  clear hb1_ hb2_
  replace hW := hide ((unhide hW).more hg)
  replace hA1 := hide ((unhide hA1).gr hg)
  replace hA2 := hide ((unhide hA2).gr hg)
  clear hg
  refine ⟨_, rfl, ?_⟩
  simp only [Act.put, List.setIfInBounds_toArray, List.set_cons_zero, List.set_cons_succ, List.getElem_toArray, List.getElem_cons_zero, List.getElem_cons_succ]
  refine list_val (.bool true) (by kernel_rfl) (by kernel_rfl) ?_
  simp only [Act.put, List.setIfInBounds_toArray, List.set_cons_zero, List.set_cons_succ, List.getElem_toArray, List.getElem_cons_zero, List.getElem_cons_succ]
  (refine wpList_step fun K hK => ?_; replace hK := hide hK; go_simp; refine unhide hK _ _ ?_; clear hK K)
  refine wpList_nil ?_
  have hZ : Hid (Woke w (.returned (.bool true)) v18) := ⟨rfl, (unhide hWg).trans (unhide hW).gr⟩
  go_wp2_with fail
  rw [unhide hT]
  exact unhide hZ
set_option maxHeartbeats 4000000 in
theorem reads_nb (l : List Int) (s : Option Addr) (len cap : Nat) (w : World) (lb : Lb w s len cap l) (hO : onS (((min len 1000 : Nat) : Int) - 11) = false) (hR : rpS (((min len 1000 : Nat) : Int) - 11) = true) (hE : (decide ((l.take (min len 1000)).getD 0 0 = 3) && pkE (l.take (min len 1000))) = false) : Calls Try.prog 7 #[.slice s len cap] w (Woke w) := by
  obtain ⟨T, hT⟩ : ∃ T, T = Woke w := ⟨_, rfl⟩
  rw [← hT]
  replace hT := hide hT
  replace lb := hide lb
  obtain ⟨n, hn0⟩ : ∃ n, n = min len 1000 := ⟨_, rfl⟩
  obtain ⟨L, hL0⟩ : ∃ L, L = l.take n := ⟨_, rfl⟩
  have hn9 : n ≤ 1000 := by omega
  rw [← hn0] at hO hR hE
  rw [← hL0] at hE
  have hn12 : 11 < n := by have h9 := hR; unfold rpS at h9; rw [decide_eq_true_iff] at h9; omega
  obtain ⟨x, hx⟩ : ∃ x : Int, x = (n : Int) - 11 := ⟨_, rfl⟩
  have hnw : IntKind.i64.wrap ((n : Int) - 11) = x := by rw [IntKind.wrap_i64]; omega
  replace hx := hide hx
  have hOx : onS x = false := by rw [unhide hx]; exact hO
  have hRx : rpS x = true := by rw [unhide hx]; exact hR
  have hF : L.getD 0 0 ≠ 3 ∨ pkE L = false := by
    by_cases h9 : L.getD 0 0 = 3
    · right; rw [decide_eq_true h9, Bool.true_and] at hE; exact hE
    · exact .inl h9
  obtain ⟨x1, hx1⟩ : ∃ x, x = L.getD 1 0 := ⟨_, rfl⟩
  obtain ⟨x2, hx2⟩ : ∃ x, x = L.getD 2 0 := ⟨_, rfl⟩
  obtain ⟨x3, hx3⟩ : ∃ x, x = lowN ((L.drop 3).take 8) := ⟨_, rfl⟩
  replace hx1 := hide hx1; replace hx2 := hide hx2; replace hx3 := hide hx3; replace hF := hide hF
  replace hn0 := hide hn0; replace hL0 := hide hL0; replace hO := hide hO; replace hR := hide hR
  go_enter Try.func7, Try.ntmps7
  go_upto_region 1 with fail
  refine wp_region_lit ?_
  refine list_call 9 #[] (by kernel_rfl) (by kernel_rfl) ((jwakes_ok w).mono ?_)
  rintro r u1 ⟨rfl, hg⟩
  have hWg := hide hg
  clear hg
  refine ⟨_, rfl, ?_⟩
  simp only [Act.put, List.setIfInBounds_toArray, List.set_cons_zero, List.set_cons_succ, List.getElem_toArray, List.getElem_cons_zero, List.getElem_cons_succ]
  refine list_val (.bool false) (by kernel_rfl) (by kernel_rfl) ?_
  simp only [Act.put, List.setIfInBounds_toArray, List.set_cons_zero, List.set_cons_succ, List.getElem_toArray, List.getElem_cons_zero, List.getElem_cons_succ]
  refine wpList_nil ?_
  go_upto_region 3 with fail
  refine wp_region_lit ?_
  refine list_val (.slice s len cap) (by kernel_rfl) (by kernel_rfl) ?_
  simp only [Act.put, List.setIfInBounds_toArray, List.set_cons_zero, List.set_cons_succ, List.getElem_toArray, List.getElem_cons_zero, List.getElem_cons_succ]
  refine list_call 10 #[.slice s len cap] (by kernel_rfl) (by kernel_rfl) ((jcut_ok l s len cap u1 ((unhide lb).gr (unhide hWg))).mono ?_)
  rintro r u2 ⟨s1, rfl, hs1, rfl⟩
  have hl := hs1 w (unhide lb)
  rw [← unhide hn0, ← unhide hL0] at hl
  rw [← unhide hn0]
  clear hs1 lb hL0 hn0
  have hLl := hl.len
  have hLb := hide hl.isB
  obtain ⟨p0, q0, rfl, hl⟩ := hl.some (by omega)
  replace hl := hide hl
  refine ⟨_, rfl, ?_⟩
  simp only [Act.put, List.setIfInBounds_toArray, List.set_cons_zero, List.set_cons_succ, List.getElem_toArray, List.getElem_cons_zero, List.getElem_cons_succ]
  (refine wpList_step fun K hK => ?_; replace hK := hide hK; go_simp; refine unhide hK _ _ ?_; clear hK K)
  refine wpList_nil ?_
  go_upto_region 4 with fail
  refine wp_region_lit ?_
  refine list_val (.slice (some ⟨p0, q0, none⟩) n cap) (by kernel_rfl) (by kernel_rfl) ?_
  simp only [Act.put, List.setIfInBounds_toArray, List.set_cons_zero, List.set_cons_succ, List.getElem_toArray, List.getElem_cons_zero, List.getElem_cons_succ]
  refine list_call 18 #[.slice (some ⟨p0, q0, none⟩) n cap] (by kernel_rfl) (by kernel_rfl) ((jroom_ok L (some ⟨p0, q0, none⟩) n cap hn9 u2 ((unhide hl).gr (unhide hWg))).mono ?_)
  rintro r u6 ⟨go, co, rfl, hc1, hc2, hgo, hat, hg⟩
  rw [hLl] at hc1 ⊢
  have hlo : Lb u6 (some ⟨go, 0, none⟩) n co L := by
    have h9 := hat.take n
    rw [List.take_append_of_le_length (by rw [hLl]; exact Nat.le_refl _), List.take_of_length_le (by rw [hLl]; exact Nat.le_refl _)] at h9
    exact ⟨hLl, unhide hLb, .inr ⟨go, 0, rfl, h9⟩, by omega, hc2⟩
  replace hlo := hide hlo
  replace hWg := hide ((unhide hWg).trans hg)
  replace hl := hide ((unhide hl).gr (unhide hWg))
  clear hg hat hc1 hc2 hgo
  have hW := hide (Bl.nil u6)
  refine ⟨_, rfl, ?_⟩
  simp only [Act.put, List.setIfInBounds_toArray, List.set_cons_zero, List.set_cons_succ, List.getElem_toArray, List.getElem_cons_zero, List.getElem_cons_succ]
  (refine wpList_step fun K hK => ?_; replace hK := hide hK; go_simp; refine unhide hK _ _ ?_; clear hK K)
  refine wpList_nil ?_
  go_upto_region 5 with fail
  refine wp_region_lit ?_
  refine list_val (.slice (some ⟨go, 0, none⟩) n co) (by kernel_rfl) (by kernel_rfl) ?_
  simp only [Act.put, List.setIfInBounds_toArray, List.set_cons_zero, List.set_cons_succ, List.getElem_toArray, List.getElem_cons_zero, List.getElem_cons_succ]
  refine list_call 42 #[.slice (some ⟨go, 0, none⟩) n co] (by kernel_rfl) (by kernel_rfl) ((fgetup_no (some ⟨go, 0, none⟩) n co (by omega) (unhide hO) u6).mono ?_)
  rintro r v1 ⟨rfl, hg⟩
  replace hW := hide ((unhide hW).more hg)
  clear hg
  refine ⟨_, rfl, ?_⟩
  simp only [Act.put, List.setIfInBounds_toArray, List.set_cons_zero, List.set_cons_succ, List.getElem_toArray, List.getElem_cons_zero, List.getElem_cons_succ]
  refine list_val (.tuple #[.agg #[.int .i64 0, .int .i64 0, .int .u64 0, .slice none 0 0], .int .i64 240]) (by kernel_rfl) (by kernel_rfl) ?_
  simp only [Act.put, List.setIfInBounds_toArray, List.set_cons_zero, List.set_cons_succ, List.getElem_toArray, List.getElem_cons_zero, List.getElem_cons_succ]
  refine list_val (.agg #[.int .i64 0, .int .i64 0, .int .u64 0, .slice none 0 0]) (by kernel_rfl) (by kernel_rfl) ?_
  simp only [Act.put, List.setIfInBounds_toArray, List.set_cons_zero, List.set_cons_succ, List.getElem_toArray, List.getElem_cons_zero, List.getElem_cons_succ]
  refine list_val (.int .i64 240) (by kernel_rfl) (by kernel_rfl) ?_
  simp only [Act.put, List.setIfInBounds_toArray, List.set_cons_zero, List.set_cons_succ, List.getElem_toArray, List.getElem_cons_zero, List.getElem_cons_succ]
  refine list_valw (.pointer (some ⟨v1.heap.size, 0, none⟩)) (v1.alloc (.cells #[.int .i64 0, .int .i64 0, .int .u64 0, .slice none 0 0] 78 (0, 0))) (by kernel_rfl) (by kernel_rfl) ?_
  have hW2 := (unhide hW).new #[.int .i64 0, .int .i64 0, .int .u64 0, .slice none 0 0] 78
  simp only [List.nil_append, List.cons_append] at hW2
  clear hW
  generalize World.alloc _ _ = v2 at *
  generalize v1.heap.size = qup at *
  replace hW2 : Bl u6 [⟨qup, #[.int .i64 0, .int .i64 0, .int .u64 0, .slice none 0 0], 78⟩] v2 := hW2
  have hW := hide hW2
  clear hW2
  simp only [Act.put, List.setIfInBounds_toArray, List.set_cons_zero, List.set_cons_succ, List.getElem_toArray, List.getElem_cons_zero, List.getElem_cons_succ]
  have hq9 := ((unhide hW).get 0 (x := ⟨qup, #[.int .i64 0, .int .i64 0, .int .u64 0, .slice none 0 0], 78⟩) rfl)
  dsimp only at hq9
  refine list_store 78 (.tmp 4) (.tmp 21) qup #[.int .i64 0, .int .i64 0, .int .u64 0, .slice none 0 0] 78 #[.int .i64 0, .int .i64 0, .int .u64 0, .slice none 0 0] (by kernel_rfl) rfl (by kernel_rfl) (by kernel_rfl) hq9 (by rw [Try.infoU]; rfl) rfl (by simp [Value.oneCell']) ?_
  have hW2 := (unhide hW).set 0 (x := ⟨qup, #[.int .i64 0, .int .i64 0, .int .u64 0, .slice none 0 0], 78⟩) rfl #[.int .i64 0, .int .i64 0, .int .u64 0, .slice none 0 0]
  simp only [List.set_cons_zero, List.set_cons_succ] at hW2
  clear hW hq9
  generalize World.setRow _ _ _ = v3 at *
  replace hW2 : Bl u6 [⟨qup, #[.int .i64 0, .int .i64 0, .int .u64 0, .slice none 0 0], 78⟩] v3 := hW2
  have hW := hide hW2
  clear hW2
  simp only [Act.put, List.setIfInBounds_toArray, List.set_cons_zero, List.set_cons_succ, List.getElem_toArray, List.getElem_cons_zero, List.getElem_cons_succ]
  (refine wpList_step fun K hK => ?_; replace hK := hide hK; go_simp; refine unhide hK _ _ ?_; clear hK K)
  refine wpList_nil ?_
  go_upto_region 6 with fail
  refine wp_region_lit ?_
  refine list_val (.slice (some ⟨go, 0, none⟩) n co) (by kernel_rfl) (by kernel_rfl) ?_
  simp only [Act.put, List.setIfInBounds_toArray, List.set_cons_zero, List.set_cons_succ, List.getElem_toArray, List.getElem_cons_zero, List.getElem_cons_succ]
  refine list_call 43 #[.slice (some ⟨go, 0, none⟩) n co] (by kernel_rfl) (by kernel_rfl) ((fgetdn_bad L (some ⟨go, 0, none⟩) n co (unhide hR) (unhide hF) v3 ((unhide hlo).gr (unhide hW).gr)).mono ?_)
  rintro r v4 ⟨rfl, hg⟩
  replace hW := hide ((unhide hW).more hg)
  clear hg
  refine ⟨_, rfl, ?_⟩
  simp only [Act.put, List.setIfInBounds_toArray, List.set_cons_zero, List.set_cons_succ, List.getElem_toArray, List.getElem_cons_zero, List.getElem_cons_succ]
  refine list_val (.tuple #[.agg #[.int .i64 0, .int .i64 0, .int .u64 0, .slice none 0 0], .int .i64 241]) (by kernel_rfl) (by kernel_rfl) ?_
  simp only [Act.put, List.setIfInBounds_toArray, List.set_cons_zero, List.set_cons_succ, List.getElem_toArray, List.getElem_cons_zero, List.getElem_cons_succ]
  refine list_val (.agg #[.int .i64 0, .int .i64 0, .int .u64 0, .slice none 0 0]) (by kernel_rfl) (by kernel_rfl) ?_
  simp only [Act.put, List.setIfInBounds_toArray, List.set_cons_zero, List.set_cons_succ, List.getElem_toArray, List.getElem_cons_zero, List.getElem_cons_succ]
  refine list_val (.int .i64 241) (by kernel_rfl) (by kernel_rfl) ?_
  simp only [Act.put, List.setIfInBounds_toArray, List.set_cons_zero, List.set_cons_succ, List.getElem_toArray, List.getElem_cons_zero, List.getElem_cons_succ]
  refine list_valw (.pointer (some ⟨v4.heap.size, 0, none⟩)) (v4.alloc (.cells #[.int .i64 0, .int .i64 0, .int .u64 0, .slice none 0 0] 80 (0, 0))) (by kernel_rfl) (by kernel_rfl) ?_
  have hW2 := (unhide hW).new #[.int .i64 0, .int .i64 0, .int .u64 0, .slice none 0 0] 80
  simp only [List.nil_append, List.cons_append] at hW2
  clear hW
  generalize World.alloc _ _ = v5 at *
  generalize v4.heap.size = qdn at *
  replace hW2 : Bl u6 [⟨qup, #[.int .i64 0, .int .i64 0, .int .u64 0, .slice none 0 0], 78⟩, ⟨qdn, #[.int .i64 0, .int .i64 0, .int .u64 0, .slice none 0 0], 80⟩] v5 := hW2
  have hW := hide hW2
  clear hW2
  simp only [Act.put, List.setIfInBounds_toArray, List.set_cons_zero, List.set_cons_succ, List.getElem_toArray, List.getElem_cons_zero, List.getElem_cons_succ]
  have hq9 := ((unhide hW).get 1 (x := ⟨qdn, #[.int .i64 0, .int .i64 0, .int .u64 0, .slice none 0 0], 80⟩) rfl)
  dsimp only at hq9
  refine list_store 80 (.tmp 6) (.tmp 26) qdn #[.int .i64 0, .int .i64 0, .int .u64 0, .slice none 0 0] 80 #[.int .i64 0, .int .i64 0, .int .u64 0, .slice none 0 0] (by kernel_rfl) rfl (by kernel_rfl) (by kernel_rfl) hq9 (by rw [Try.infoD]; rfl) rfl (by simp [Value.oneCell']) ?_
  have hW2 := (unhide hW).set 1 (x := ⟨qdn, #[.int .i64 0, .int .i64 0, .int .u64 0, .slice none 0 0], 80⟩) rfl #[.int .i64 0, .int .i64 0, .int .u64 0, .slice none 0 0]
  simp only [List.set_cons_zero, List.set_cons_succ] at hW2
  clear hW hq9
  generalize World.setRow _ _ _ = v6 at *
  replace hW2 : Bl u6 [⟨qup, #[.int .i64 0, .int .i64 0, .int .u64 0, .slice none 0 0], 78⟩, ⟨qdn, #[.int .i64 0, .int .i64 0, .int .u64 0, .slice none 0 0], 80⟩] v6 := hW2
  have hW := hide hW2
  clear hW2
  simp only [Act.put, List.setIfInBounds_toArray, List.set_cons_zero, List.set_cons_succ, List.getElem_toArray, List.getElem_cons_zero, List.getElem_cons_succ]
  (refine wpList_step fun K hK => ?_; replace hK := hide hK; go_simp; refine unhide hK _ _ ?_; clear hK K)
  refine wpList_nil ?_
  go_upto_region 7 with fail
  refine wp_region_lit ?_
  refine list_val (.slice (some ⟨go, 0, none⟩) n co) (by kernel_rfl) (by kernel_rfl) ?_
  simp only [Act.put, List.setIfInBounds_toArray, List.set_cons_zero, List.set_cons_succ, List.getElem_toArray, List.getElem_cons_zero, List.getElem_cons_succ]
  refine list_call 44 #[.slice (some ⟨go, 0, none⟩) n co] (by kernel_rfl) (by kernel_rfl) ((fkind_ok L (some ⟨go, 0, none⟩) n co v6 ((unhide hlo).gr (unhide hW).gr)).mono ?_)
  rintro r v7 ⟨rfl, hg⟩
  generalize hkk : kindO L = kk_ at *
  replace hW := hide ((unhide hW).more hg)
  clear hg
  refine ⟨_, rfl, ?_⟩
  simp only [Act.put, List.setIfInBounds_toArray, List.set_cons_zero, List.set_cons_succ, List.getElem_toArray, List.getElem_cons_zero, List.getElem_cons_succ]
  refine list_val (.slice (some ⟨p0, q0, none⟩) n cap) (by kernel_rfl) (by kernel_rfl) ?_
  simp only [Act.put, List.setIfInBounds_toArray, List.set_cons_zero, List.set_cons_succ, List.getElem_toArray, List.getElem_cons_zero, List.getElem_cons_succ]
  refine list_call 45 #[.slice (some ⟨p0, q0, none⟩) n cap] (by kernel_rfl) (by kernel_rfl) ((qkind_ok L (some ⟨p0, q0, none⟩) n cap hn9 v7 ((unhide hl).gr (unhide hW).gr)).mono ?_)
  rintro r v8 ⟨rfl, hg⟩
  rw [hkk]
  replace hW := hide ((unhide hW).more hg)
  clear hg
  refine ⟨_, rfl, ?_⟩
  simp only [Act.put, List.setIfInBounds_toArray, List.set_cons_zero, List.set_cons_succ, List.getElem_toArray, List.getElem_cons_zero, List.getElem_cons_succ]
  refine list_val (.bool false) (by kernel_rfl) (by go_simp) ?_
  simp only [Act.put, List.setIfInBounds_toArray, List.set_cons_zero, List.set_cons_succ, List.getElem_toArray, List.getElem_cons_zero, List.getElem_cons_succ]
  refine list_val (.bool false) (by kernel_rfl) (by kernel_rfl) ?_
  simp only [Act.put, List.setIfInBounds_toArray, List.set_cons_zero, List.set_cons_succ, List.getElem_toArray, List.getElem_cons_zero, List.getElem_cons_succ]
  refine list_val (.slice (some ⟨go, 0, none⟩) n co) (by kernel_rfl) (by kernel_rfl) ?_
  simp only [Act.put, List.setIfInBounds_toArray, List.set_cons_zero, List.set_cons_succ, List.getElem_toArray, List.getElem_cons_zero, List.getElem_cons_succ]
  refine list_val (.slice (some ⟨p0, q0, none⟩) n cap) (by kernel_rfl) (by kernel_rfl) ?_
  simp only [Act.put, List.setIfInBounds_toArray, List.set_cons_zero, List.set_cons_succ, List.getElem_toArray, List.getElem_cons_zero, List.getElem_cons_succ]
  refine list_call 11 #[.slice (some ⟨go, 0, none⟩) n co, .slice (some ⟨p0, q0, none⟩) n cap] (by kernel_rfl) (by kernel_rfl) ((beq_ok L L (some ⟨go, 0, none⟩) (some ⟨p0, q0, none⟩) n n co cap v8 ((unhide hlo).gr (unhide hW).gr) ((unhide hl).gr (unhide hW).gr)).mono ?_)
  rintro r v9 ⟨rfl, hg⟩
  rw [decide_eq_true rfl]
  replace hW := hide ((unhide hW).more hg)
  clear hg
  refine ⟨_, rfl, ?_⟩
  simp only [Act.put, List.setIfInBounds_toArray, List.set_cons_zero, List.set_cons_succ, List.getElem_toArray, List.getElem_cons_zero, List.getElem_cons_succ]
  refine list_val (.bool false) (by kernel_rfl) (by kernel_rfl) ?_
  simp only [Act.put, List.setIfInBounds_toArray, List.set_cons_zero, List.set_cons_succ, List.getElem_toArray, List.getElem_cons_zero, List.getElem_cons_succ]
  refine list_val (.bool false) (by kernel_rfl) (by kernel_rfl) ?_
  simp only [Act.put, List.setIfInBounds_toArray, List.set_cons_zero, List.set_cons_succ, List.getElem_toArray, List.getElem_cons_zero, List.getElem_cons_succ]
  refine wpList_nil ?_
  go_upto_region 9 with fail
  refine wp_region_lit ?_
  refine list_val (.agg #[.int .i64 0, .int .i64 0, .int .u64 0, .slice none 0 0]) (by kernel_rfl) (by kernel_rfl) ?_
  simp only [Act.put, List.setIfInBounds_toArray, List.set_cons_zero, List.set_cons_succ, List.getElem_toArray, List.getElem_cons_zero, List.getElem_cons_succ]
  refine list_valw (.pointer (some ⟨v9.heap.size, 0, none⟩)) (v9.alloc (.cells #[.int .i64 0, .int .i64 0, .int .u64 0, .slice none 0 0] 78 (0, 0))) (by kernel_rfl) (by kernel_rfl) ?_
  have hW2 := (unhide hW).new #[.int .i64 0, .int .i64 0, .int .u64 0, .slice none 0 0] 78
  simp only [List.nil_append, List.cons_append] at hW2
  clear hW
  generalize World.alloc _ _ = v10 at *
  generalize v9.heap.size = rup at *
  replace hW2 : Bl u6 [⟨qup, #[.int .i64 0, .int .i64 0, .int .u64 0, .slice none 0 0], 78⟩, ⟨qdn, #[.int .i64 0, .int .i64 0, .int .u64 0, .slice none 0 0], 80⟩, ⟨rup, #[.int .i64 0, .int .i64 0, .int .u64 0, .slice none 0 0], 78⟩] v10 := hW2
  have hW := hide hW2
  clear hW2
  simp only [Act.put, List.setIfInBounds_toArray, List.set_cons_zero, List.set_cons_succ, List.getElem_toArray, List.getElem_cons_zero, List.getElem_cons_succ]
  have hq9 := ((unhide hW).get 2 (x := ⟨rup, #[.int .i64 0, .int .i64 0, .int .u64 0, .slice none 0 0], 78⟩) rfl)
  dsimp only at hq9
  refine list_store 78 (.tmp 8) (.tmp 39) rup #[.int .i64 0, .int .i64 0, .int .u64 0, .slice none 0 0] 78 #[.int .i64 0, .int .i64 0, .int .u64 0, .slice none 0 0] (by kernel_rfl) rfl (by kernel_rfl) (by kernel_rfl) hq9 (by rw [Try.infoU]; rfl) rfl (by simp [Value.oneCell']) ?_
  have hW2 := (unhide hW).set 2 (x := ⟨rup, #[.int .i64 0, .int .i64 0, .int .u64 0, .slice none 0 0], 78⟩) rfl #[.int .i64 0, .int .i64 0, .int .u64 0, .slice none 0 0]
  simp only [List.set_cons_zero, List.set_cons_succ] at hW2
  clear hW hq9
  generalize World.setRow _ _ _ = v11 at *
  replace hW2 : Bl u6 [⟨qup, #[.int .i64 0, .int .i64 0, .int .u64 0, .slice none 0 0], 78⟩, ⟨qdn, #[.int .i64 0, .int .i64 0, .int .u64 0, .slice none 0 0], 80⟩, ⟨rup, #[.int .i64 0, .int .i64 0, .int .u64 0, .slice none 0 0], 78⟩] v11 := hW2
  have hW := hide hW2
  clear hW2
  simp only [Act.put, List.setIfInBounds_toArray, List.set_cons_zero, List.set_cons_succ, List.getElem_toArray, List.getElem_cons_zero, List.getElem_cons_succ]
  (refine wpList_step fun K hK => ?_; replace hK := hide hK; go_simp; refine unhide hK _ _ ?_; clear hK K)
  (refine wpList_step fun K hK => ?_; replace hK := hide hK; go_simp; refine unhide hK _ _ ?_; clear hK K)
  refine wpList_nil ?_
  go_upto_region 10 with fail
  refine wp_region_lit ?_
  refine list_val (.slice (some ⟨p0, q0, none⟩) n cap) (by kernel_rfl) (by kernel_rfl) ?_
  simp only [Act.put, List.setIfInBounds_toArray, List.set_cons_zero, List.set_cons_succ, List.getElem_toArray, List.getElem_cons_zero, List.getElem_cons_succ]
  refine list_val (.int .i64 (n : Int)) (by kernel_rfl) (by kernel_rfl) ?_
  simp only [Act.put, List.setIfInBounds_toArray, List.set_cons_zero, List.set_cons_succ, List.getElem_toArray, List.getElem_cons_zero, List.getElem_cons_succ]
  refine list_val (.int .i64 x) (by kernel_rfl) (by go_simp) ?_
  simp only [Act.put, List.setIfInBounds_toArray, List.set_cons_zero, List.set_cons_succ, List.getElem_toArray, List.getElem_cons_zero, List.getElem_cons_succ]
  refine list_call 39 #[.int .i64 x] (by kernel_rfl) (by kernel_rfl) ((qon_ok x v11).mono ?_)
  rintro r v12 ⟨hup, rfl, hhup, rfl⟩
  rw [hOx, decide_eq_false_iff_not] at hhup
  refine ⟨_, rfl, ?_⟩
  simp only [Act.put, List.setIfInBounds_toArray, List.set_cons_zero, List.set_cons_succ, List.getElem_toArray, List.getElem_cons_zero, List.getElem_cons_succ]
  refine list_val (.bool false) (by kernel_rfl) (by go_simp) ?_
  simp only [Act.put, List.setIfInBounds_toArray, List.set_cons_zero, List.set_cons_succ, List.getElem_toArray, List.getElem_cons_zero, List.getElem_cons_succ]
  refine wpList_nil ?_
  go_upto_region 13 with fail
  refine wp_region_lit ?_
  refine list_val (.bool false) (by kernel_rfl) (by kernel_rfl) ?_
  simp only [Act.put, List.setIfInBounds_toArray, List.set_cons_zero, List.set_cons_succ, List.getElem_toArray, List.getElem_cons_zero, List.getElem_cons_succ]
  refine list_val_offs 31 (.bool false) (by kernel_rfl) (by kernel_rfl) (by kernel_rfl) ?_
  simp only [List.drop_succ_cons, List.drop_zero, List.take_succ_cons, List.take_zero, putU]
  simp only [Act.put, List.setIfInBounds_toArray, List.set_cons_zero, List.set_cons_succ, List.getElem_toArray, List.getElem_cons_zero, List.getElem_cons_succ]
  refine list_val (.bool false) (by kernel_rfl) (by kernel_rfl) ?_
  simp only [Act.put, List.setIfInBounds_toArray, List.set_cons_zero, List.set_cons_succ, List.getElem_toArray, List.getElem_cons_zero, List.getElem_cons_succ]
  refine wpList_nil ?_
  go_upto_region 15 with fail
  refine wp_region_lit ?_
  refine list_val (.bool false) (by kernel_rfl) (by kernel_rfl) ?_
  simp only [Act.put, List.setIfInBounds_toArray, List.set_cons_zero, List.set_cons_succ, List.getElem_toArray, List.getElem_cons_zero, List.getElem_cons_succ]
  refine list_val (.bool true) (by kernel_rfl) (by kernel_rfl) ?_
  simp only [Act.put, List.setIfInBounds_toArray, List.set_cons_zero, List.set_cons_succ, List.getElem_toArray, List.getElem_cons_zero, List.getElem_cons_succ]
  refine list_val (.bool true) (by kernel_rfl) (by kernel_rfl) ?_
  simp only [Act.put, List.setIfInBounds_toArray, List.set_cons_zero, List.set_cons_succ, List.getElem_toArray, List.getElem_cons_zero, List.getElem_cons_succ]
  refine list_val (.int .i64 240) (by kernel_rfl) (by kernel_rfl) ?_
  simp only [Act.put, List.setIfInBounds_toArray, List.set_cons_zero, List.set_cons_succ, List.getElem_toArray, List.getElem_cons_zero, List.getElem_cons_succ]
  refine list_val (.int .i64 240) (by kernel_rfl) (by kernel_rfl) ?_
  simp only [Act.put, List.setIfInBounds_toArray, List.set_cons_zero, List.set_cons_succ, List.getElem_toArray, List.getElem_cons_zero, List.getElem_cons_succ]
  refine list_val (.bool false) (by kernel_rfl) (by kernel_rfl) ?_
  simp only [Act.put, List.setIfInBounds_toArray, List.set_cons_zero, List.set_cons_succ, List.getElem_toArray, List.getElem_cons_zero, List.getElem_cons_succ]
  refine list_val (.bool false) (by kernel_rfl) (by kernel_rfl) ?_
  simp only [Act.put, List.setIfInBounds_toArray, List.set_cons_zero, List.set_cons_succ, List.getElem_toArray, List.getElem_cons_zero, List.getElem_cons_succ]
  refine list_val (.pointer (some ⟨qup, 0, none⟩)) (by kernel_rfl) (by kernel_rfl) ?_
  simp only [Act.put, List.setIfInBounds_toArray, List.set_cons_zero, List.set_cons_succ, List.getElem_toArray, List.getElem_cons_zero, List.getElem_cons_succ]
  refine list_val (.int .i64 0) (by kernel_rfl) (exec_i64 _ (.tmp 91) rfl qup 0 (by kernel_rfl) 0 (cell_of ((unhide hW).get 0 (x := ⟨qup, #[.int .i64 0, .int .i64 0, .int .u64 0, .slice none 0 0], 78⟩) rfl) (i := 0) rfl)) ?_
  simp only [Act.put, List.setIfInBounds_toArray, List.set_cons_zero, List.set_cons_succ, List.getElem_toArray, List.getElem_cons_zero, List.getElem_cons_succ]
  refine list_val (.bool false) (by kernel_rfl) (by kernel_rfl) ?_
  simp only [Act.put, List.setIfInBounds_toArray, List.set_cons_zero, List.set_cons_succ, List.getElem_toArray, List.getElem_cons_zero, List.getElem_cons_succ]
  refine list_val (.bool false) (by kernel_rfl) (by kernel_rfl) ?_
  simp only [Act.put, List.setIfInBounds_toArray, List.set_cons_zero, List.set_cons_succ, List.getElem_toArray, List.getElem_cons_zero, List.getElem_cons_succ]
  refine list_val (.bool false) (by kernel_rfl) (by kernel_rfl) ?_
  simp only [Act.put, List.setIfInBounds_toArray, List.set_cons_zero, List.set_cons_succ, List.getElem_toArray, List.getElem_cons_zero, List.getElem_cons_succ]
  refine list_val (.pointer (some ⟨qup, 1, none⟩)) (by kernel_rfl) (by kernel_rfl) ?_
  simp only [Act.put, List.setIfInBounds_toArray, List.set_cons_zero, List.set_cons_succ, List.getElem_toArray, List.getElem_cons_zero, List.getElem_cons_succ]
  refine list_val (.int .i64 0) (by kernel_rfl) (exec_i64 _ (.tmp 96) rfl qup 1 (by kernel_rfl) 0 (cell_of ((unhide hW).get 0 (x := ⟨qup, #[.int .i64 0, .int .i64 0, .int .u64 0, .slice none 0 0], 78⟩) rfl) (i := 1) rfl)) ?_
  simp only [Act.put, List.setIfInBounds_toArray, List.set_cons_zero, List.set_cons_succ, List.getElem_toArray, List.getElem_cons_zero, List.getElem_cons_succ]
  refine list_val (.bool false) (by kernel_rfl) (by kernel_rfl) ?_
  simp only [Act.put, List.setIfInBounds_toArray, List.set_cons_zero, List.set_cons_succ, List.getElem_toArray, List.getElem_cons_zero, List.getElem_cons_succ]
  refine list_val (.bool false) (by kernel_rfl) (by kernel_rfl) ?_
  simp only [Act.put, List.setIfInBounds_toArray, List.set_cons_zero, List.set_cons_succ, List.getElem_toArray, List.getElem_cons_zero, List.getElem_cons_succ]
  refine list_val (.bool false) (by kernel_rfl) (by kernel_rfl) ?_
  simp only [Act.put, List.setIfInBounds_toArray, List.set_cons_zero, List.set_cons_succ, List.getElem_toArray, List.getElem_cons_zero, List.getElem_cons_succ]
  refine list_val (.pointer (some ⟨qup, 2, none⟩)) (by kernel_rfl) (by kernel_rfl) ?_
  simp only [Act.put, List.setIfInBounds_toArray, List.set_cons_zero, List.set_cons_succ, List.getElem_toArray, List.getElem_cons_zero, List.getElem_cons_succ]
  refine list_val (.int .u64 0) (by kernel_rfl) (exec_u64 _ (.tmp 101) rfl qup 2 (by kernel_rfl) 0 (cell_of ((unhide hW).get 0 (x := ⟨qup, #[.int .i64 0, .int .i64 0, .int .u64 0, .slice none 0 0], 78⟩) rfl) (i := 2) rfl)) ?_
  simp only [Act.put, List.setIfInBounds_toArray, List.set_cons_zero, List.set_cons_succ, List.getElem_toArray, List.getElem_cons_zero, List.getElem_cons_succ]
  refine list_val (.bool false) (by kernel_rfl) (by kernel_rfl) ?_
  simp only [Act.put, List.setIfInBounds_toArray, List.set_cons_zero, List.set_cons_succ, List.getElem_toArray, List.getElem_cons_zero, List.getElem_cons_succ]
  refine list_val (.bool false) (by kernel_rfl) (by kernel_rfl) ?_
  simp only [Act.put, List.setIfInBounds_toArray, List.set_cons_zero, List.set_cons_succ, List.getElem_toArray, List.getElem_cons_zero, List.getElem_cons_succ]
  refine list_val (.bool false) (by kernel_rfl) (by kernel_rfl) ?_
  simp only [Act.put, List.setIfInBounds_toArray, List.set_cons_zero, List.set_cons_succ, List.getElem_toArray, List.getElem_cons_zero, List.getElem_cons_succ]
  refine list_val (.pointer (some ⟨qup, 3, none⟩)) (by kernel_rfl) (by kernel_rfl) ?_
  simp only [Act.put, List.setIfInBounds_toArray, List.set_cons_zero, List.set_cons_succ, List.getElem_toArray, List.getElem_cons_zero, List.getElem_cons_succ]
  refine list_val (.slice none 0 0) (by kernel_rfl) (exec_sby _ (.tmp 106) rfl qup 3 (by kernel_rfl) none 0 0 (cell_of ((unhide hW).get 0 (x := ⟨qup, #[.int .i64 0, .int .i64 0, .int .u64 0, .slice none 0 0], 78⟩) rfl) (i := 3) rfl)) ?_
  simp only [Act.put, List.setIfInBounds_toArray, List.set_cons_zero, List.set_cons_succ, List.getElem_toArray, List.getElem_cons_zero, List.getElem_cons_succ]
  refine list_val (.int .i64 0) (by kernel_rfl) (by kernel_rfl) ?_
  simp only [Act.put, List.setIfInBounds_toArray, List.set_cons_zero, List.set_cons_succ, List.getElem_toArray, List.getElem_cons_zero, List.getElem_cons_succ]
  refine list_val (.bool false) (by kernel_rfl) (by kernel_rfl) ?_
  simp only [Act.put, List.setIfInBounds_toArray, List.set_cons_zero, List.set_cons_succ, List.getElem_toArray, List.getElem_cons_zero, List.getElem_cons_succ]
  refine list_val (.bool false) (by kernel_rfl) (by kernel_rfl) ?_
  simp only [Act.put, List.setIfInBounds_toArray, List.set_cons_zero, List.set_cons_succ, List.getElem_toArray, List.getElem_cons_zero, List.getElem_cons_succ]
  refine list_val (.bool false) (by kernel_rfl) (by kernel_rfl) ?_
  simp only [Act.put, List.setIfInBounds_toArray, List.set_cons_zero, List.set_cons_succ, List.getElem_toArray, List.getElem_cons_zero, List.getElem_cons_succ]
  refine wpList_nil ?_
  go_upto_region 17 with fail
  refine wp_region_lit ?_
  refine list_val (.agg #[.int .i64 0, .int .i64 0, .int .u64 0, .slice none 0 0]) (by kernel_rfl) (by kernel_rfl) ?_
  simp only [Act.put, List.setIfInBounds_toArray, List.set_cons_zero, List.set_cons_succ, List.getElem_toArray, List.getElem_cons_zero, List.getElem_cons_succ]
  refine list_valw (.pointer (some ⟨v12.heap.size, 0, none⟩)) (v12.alloc (.cells #[.int .i64 0, .int .i64 0, .int .u64 0, .slice none 0 0] 80 (0, 0))) (by kernel_rfl) (by kernel_rfl) ?_
  have hW2 := (unhide hW).new #[.int .i64 0, .int .i64 0, .int .u64 0, .slice none 0 0] 80
  simp only [List.nil_append, List.cons_append] at hW2
  clear hW
  generalize World.alloc _ _ = v13 at *
  generalize v12.heap.size = rdn at *
  replace hW2 : Bl u6 [⟨qup, #[.int .i64 0, .int .i64 0, .int .u64 0, .slice none 0 0], 78⟩, ⟨qdn, #[.int .i64 0, .int .i64 0, .int .u64 0, .slice none 0 0], 80⟩, ⟨rup, #[.int .i64 0, .int .i64 0, .int .u64 0, .slice none 0 0], 78⟩, ⟨rdn, #[.int .i64 0, .int .i64 0, .int .u64 0, .slice none 0 0], 80⟩] v13 := hW2
  have hW := hide hW2
  clear hW2
  simp only [Act.put, List.setIfInBounds_toArray, List.set_cons_zero, List.set_cons_succ, List.getElem_toArray, List.getElem_cons_zero, List.getElem_cons_succ]
  have hq9 := ((unhide hW).get 3 (x := ⟨rdn, #[.int .i64 0, .int .i64 0, .int .u64 0, .slice none 0 0], 80⟩) rfl)
  dsimp only at hq9
  refine list_store 80 (.tmp 11) (.tmp 112) rdn #[.int .i64 0, .int .i64 0, .int .u64 0, .slice none 0 0] 80 #[.int .i64 0, .int .i64 0, .int .u64 0, .slice none 0 0] (by kernel_rfl) rfl (by kernel_rfl) (by kernel_rfl) hq9 (by rw [Try.infoD]; rfl) rfl (by simp [Value.oneCell']) ?_
  have hW2 := (unhide hW).set 3 (x := ⟨rdn, #[.int .i64 0, .int .i64 0, .int .u64 0, .slice none 0 0], 80⟩) rfl #[.int .i64 0, .int .i64 0, .int .u64 0, .slice none 0 0]
  simp only [List.set_cons_zero, List.set_cons_succ] at hW2
  clear hW hq9
  generalize World.setRow _ _ _ = v14 at *
  replace hW2 : Bl u6 [⟨qup, #[.int .i64 0, .int .i64 0, .int .u64 0, .slice none 0 0], 78⟩, ⟨qdn, #[.int .i64 0, .int .i64 0, .int .u64 0, .slice none 0 0], 80⟩, ⟨rup, #[.int .i64 0, .int .i64 0, .int .u64 0, .slice none 0 0], 78⟩, ⟨rdn, #[.int .i64 0, .int .i64 0, .int .u64 0, .slice none 0 0], 80⟩] v14 := hW2
  have hW := hide hW2
  clear hW2
  simp only [Act.put, List.setIfInBounds_toArray, List.set_cons_zero, List.set_cons_succ, List.getElem_toArray, List.getElem_cons_zero, List.getElem_cons_succ]
  (refine wpList_step fun K hK => ?_; replace hK := hide hK; go_simp; refine unhide hK _ _ ?_; clear hK K)
  (refine wpList_step fun K hK => ?_; replace hK := hide hK; go_simp; refine unhide hK _ _ ?_; clear hK K)
  refine wpList_nil ?_
  go_upto_region 18 with fail
  refine wp_region_lit ?_
  refine list_val (.slice (some ⟨p0, q0, none⟩) n cap) (by kernel_rfl) (by kernel_rfl) ?_
  simp only [Act.put, List.setIfInBounds_toArray, List.set_cons_zero, List.set_cons_succ, List.getElem_toArray, List.getElem_cons_zero, List.getElem_cons_succ]
  refine list_val (.int .i64 (n : Int)) (by kernel_rfl) (by kernel_rfl) ?_
  simp only [Act.put, List.setIfInBounds_toArray, List.set_cons_zero, List.set_cons_succ, List.getElem_toArray, List.getElem_cons_zero, List.getElem_cons_succ]
  refine list_val (.int .i64 x) (by kernel_rfl) (by go_simp) ?_
  simp only [Act.put, List.setIfInBounds_toArray, List.set_cons_zero, List.set_cons_succ, List.getElem_toArray, List.getElem_cons_zero, List.getElem_cons_succ]
  refine list_call 41 #[.int .i64 x] (by kernel_rfl) (by kernel_rfl) ((qrp_ok x v14).mono ?_)
  rintro r v15 ⟨hdn, rfl, hhdn, rfl⟩
  rw [hRx, decide_eq_true_iff] at hhdn
  refine ⟨_, rfl, ?_⟩
  simp only [Act.put, List.setIfInBounds_toArray, List.set_cons_zero, List.set_cons_succ, List.getElem_toArray, List.getElem_cons_zero, List.getElem_cons_succ]
  refine list_val (.bool true) (by kernel_rfl) (by go_simp) ?_
  simp only [Act.put, List.setIfInBounds_toArray, List.set_cons_zero, List.set_cons_succ, List.getElem_toArray, List.getElem_cons_zero, List.getElem_cons_succ]
  refine wpList_nil ?_
  go_upto_region 20 with fail
  refine wp_region_lit ?_
  refine list_val (.slice (some ⟨p0, q0, none⟩) n cap) (by kernel_rfl) (by kernel_rfl) ?_
  simp only [Act.put, List.setIfInBounds_toArray, List.set_cons_zero, List.set_cons_succ, List.getElem_toArray, List.getElem_cons_zero, List.getElem_cons_succ]
  refine list_call 47 #[.slice (some ⟨p0, q0, none⟩) n cap] (by kernel_rfl) (by kernel_rfl) ((qgetdn_ok L p0 q0 n cap hn12 hn9 v15 ((unhide hl).gr (unhide hW).gr)).mono ?_)
  rintro r v16 ⟨va2, vc2, rfl, hO_, hg⟩
  rw [hE]
  rw [hLl] at hO_ ⊢
  replace hO_ := ob_base hO_ (unhide hW).gr.size
  unfold pkv
  rw [← unhide hx1, ← unhide hx2, ← unhide hx3]
  have hA2 := hide hO_
  clear hO_
  replace hW := hide ((unhide hW).more hg)
  clear hg
  refine ⟨_, rfl, ?_⟩
  simp only [Act.put, List.setIfInBounds_toArray, List.set_cons_zero, List.set_cons_succ, List.getElem_toArray, List.getElem_cons_zero, List.getElem_cons_succ]
  refine list_val (.tuple #[.agg #[.int .i64 x1, .int .i64 x2, .int .u64 x3, .slice va2 (n - 11) vc2], .bool false]) (by kernel_rfl) (by kernel_rfl) ?_
  simp only [Act.put, List.setIfInBounds_toArray, List.set_cons_zero, List.set_cons_succ, List.getElem_toArray, List.getElem_cons_zero, List.getElem_cons_succ]
  refine list_val (.agg #[.int .i64 x1, .int .i64 x2, .int .u64 x3, .slice va2 (n - 11) vc2]) (by kernel_rfl) (by kernel_rfl) ?_
  simp only [Act.put, List.setIfInBounds_toArray, List.set_cons_zero, List.set_cons_succ, List.getElem_toArray, List.getElem_cons_zero, List.getElem_cons_succ]
  refine list_val (.bool false) (by kernel_rfl) (by kernel_rfl) ?_
  simp only [Act.put, List.setIfInBounds_toArray, List.set_cons_zero, List.set_cons_succ, List.getElem_toArray, List.getElem_cons_zero, List.getElem_cons_succ]
  have hq9 := ((unhide hW).get 3 (x := ⟨rdn, #[.int .i64 0, .int .i64 0, .int .u64 0, .slice none 0 0], 80⟩) rfl)
  dsimp only at hq9
  refine list_store 80 (.tmp 11) (.tmp 121) rdn #[.int .i64 x1, .int .i64 x2, .int .u64 x3, .slice va2 (n - 11) vc2] 80 #[.int .i64 0, .int .i64 0, .int .u64 0, .slice none 0 0] (by kernel_rfl) rfl (by kernel_rfl) (by kernel_rfl) hq9 (by rw [Try.infoD]; rfl) rfl (by simp [Value.oneCell']) ?_
  replace hA2 := hide (ob_bt (unhide hA2) hq9 (by decide) (setRow_bt v16 rdn #[.int .i64 x1, .int .i64 x2, .int .u64 x3, .slice va2 (n - 11) vc2]))
  have hW2 := (unhide hW).set 3 (x := ⟨rdn, #[.int .i64 0, .int .i64 0, .int .u64 0, .slice none 0 0], 80⟩) rfl #[.int .i64 x1, .int .i64 x2, .int .u64 x3, .slice va2 (n - 11) vc2]
  simp only [List.set_cons_zero, List.set_cons_succ] at hW2
  clear hW hq9
  generalize World.setRow _ _ _ = v17 at *
  replace hW2 : Bl u6 [⟨qup, #[.int .i64 0, .int .i64 0, .int .u64 0, .slice none 0 0], 78⟩, ⟨qdn, #[.int .i64 0, .int .i64 0, .int .u64 0, .slice none 0 0], 80⟩, ⟨rup, #[.int .i64 0, .int .i64 0, .int .u64 0, .slice none 0 0], 78⟩, ⟨rdn, #[.int .i64 x1, .int .i64 x2, .int .u64 x3, .slice va2 (n - 11) vc2], 80⟩] v17 := hW2
  have hW := hide hW2
  clear hW2
  simp only [Act.put, List.setIfInBounds_toArray, List.set_cons_zero, List.set_cons_succ, List.getElem_toArray, List.getElem_cons_zero, List.getElem_cons_succ]
  (refine wpList_step fun K hK => ?_; replace hK := hide hK; go_simp; refine unhide hK _ _ ?_; clear hK K)
  refine wpList_nil ?_
  go_upto_region 23 with fail
  refine wp_region_lit ?_
  refine list_val (.int .i64 241) (by kernel_rfl) (by kernel_rfl) ?_
  simp only [Act.put, List.setIfInBounds_toArray, List.set_cons_zero, List.set_cons_succ, List.getElem_toArray, List.getElem_cons_zero, List.getElem_cons_succ]
  refine list_val (.int .i64 241) (by kernel_rfl) (by kernel_rfl) ?_
  simp only [Act.put, List.setIfInBounds_toArray, List.set_cons_zero, List.set_cons_succ, List.getElem_toArray, List.getElem_cons_zero, List.getElem_cons_succ]
  refine list_val (.bool true) (by kernel_rfl) (by kernel_rfl) ?_
  simp only [Act.put, List.setIfInBounds_toArray, List.set_cons_zero, List.set_cons_succ, List.getElem_toArray, List.getElem_cons_zero, List.getElem_cons_succ]
  refine list_val (.bool true) (by kernel_rfl) (by kernel_rfl) ?_
  simp only [Act.put, List.setIfInBounds_toArray, List.set_cons_zero, List.set_cons_succ, List.getElem_toArray, List.getElem_cons_zero, List.getElem_cons_succ]
  refine list_val (.pointer (some ⟨qdn, 0, none⟩)) (by kernel_rfl) (by kernel_rfl) ?_
  simp only [Act.put, List.setIfInBounds_toArray, List.set_cons_zero, List.set_cons_succ, List.getElem_toArray, List.getElem_cons_zero, List.getElem_cons_succ]
  refine list_val (.int .i64 0) (by kernel_rfl) (exec_i64 _ (.tmp 158) rfl qdn 0 (by kernel_rfl) 0 (cell_of ((unhide hW).get 1 (x := ⟨qdn, #[.int .i64 0, .int .i64 0, .int .u64 0, .slice none 0 0], 80⟩) rfl) (i := 0) rfl)) ?_
  simp only [Act.put, List.setIfInBounds_toArray, List.set_cons_zero, List.set_cons_succ, List.getElem_toArray, List.getElem_cons_zero, List.getElem_cons_succ]
  refine list_val (.bool true) (by kernel_rfl) (by kernel_rfl) ?_
  simp only [Act.put, List.setIfInBounds_toArray, List.set_cons_zero, List.set_cons_succ, List.getElem_toArray, List.getElem_cons_zero, List.getElem_cons_succ]
  refine list_val (.bool true) (by kernel_rfl) (by kernel_rfl) ?_
  simp only [Act.put, List.setIfInBounds_toArray, List.set_cons_zero, List.set_cons_succ, List.getElem_toArray, List.getElem_cons_zero, List.getElem_cons_succ]
  refine list_val (.bool true) (by kernel_rfl) (by kernel_rfl) ?_
  simp only [Act.put, List.setIfInBounds_toArray, List.set_cons_zero, List.set_cons_succ, List.getElem_toArray, List.getElem_cons_zero, List.getElem_cons_succ]
  refine list_val (.pointer (some ⟨qdn, 1, none⟩)) (by kernel_rfl) (by kernel_rfl) ?_
  simp only [Act.put, List.setIfInBounds_toArray, List.set_cons_zero, List.set_cons_succ, List.getElem_toArray, List.getElem_cons_zero, List.getElem_cons_succ]
  refine list_val (.int .i64 0) (by kernel_rfl) (exec_i64 _ (.tmp 163) rfl qdn 1 (by kernel_rfl) 0 (cell_of ((unhide hW).get 1 (x := ⟨qdn, #[.int .i64 0, .int .i64 0, .int .u64 0, .slice none 0 0], 80⟩) rfl) (i := 1) rfl)) ?_
  simp only [Act.put, List.setIfInBounds_toArray, List.set_cons_zero, List.set_cons_succ, List.getElem_toArray, List.getElem_cons_zero, List.getElem_cons_succ]
  refine list_val (.bool true) (by kernel_rfl) (by kernel_rfl) ?_
  simp only [Act.put, List.setIfInBounds_toArray, List.set_cons_zero, List.set_cons_succ, List.getElem_toArray, List.getElem_cons_zero, List.getElem_cons_succ]
  refine list_val (.bool true) (by kernel_rfl) (by kernel_rfl) ?_
  simp only [Act.put, List.setIfInBounds_toArray, List.set_cons_zero, List.set_cons_succ, List.getElem_toArray, List.getElem_cons_zero, List.getElem_cons_succ]
  refine list_val (.bool true) (by kernel_rfl) (by kernel_rfl) ?_
  simp only [Act.put, List.setIfInBounds_toArray, List.set_cons_zero, List.set_cons_succ, List.getElem_toArray, List.getElem_cons_zero, List.getElem_cons_succ]
  refine list_val (.pointer (some ⟨qdn, 2, none⟩)) (by kernel_rfl) (by kernel_rfl) ?_
  simp only [Act.put, List.setIfInBounds_toArray, List.set_cons_zero, List.set_cons_succ, List.getElem_toArray, List.getElem_cons_zero, List.getElem_cons_succ]
  refine list_val (.int .u64 0) (by kernel_rfl) (exec_u64 _ (.tmp 168) rfl qdn 2 (by kernel_rfl) 0 (cell_of ((unhide hW).get 1 (x := ⟨qdn, #[.int .i64 0, .int .i64 0, .int .u64 0, .slice none 0 0], 80⟩) rfl) (i := 2) rfl)) ?_
  simp only [Act.put, List.setIfInBounds_toArray, List.set_cons_zero, List.set_cons_succ, List.getElem_toArray, List.getElem_cons_zero, List.getElem_cons_succ]
  refine list_val (.bool true) (by kernel_rfl) (by kernel_rfl) ?_
  simp only [Act.put, List.setIfInBounds_toArray, List.set_cons_zero, List.set_cons_succ, List.getElem_toArray, List.getElem_cons_zero, List.getElem_cons_succ]
  refine list_val (.bool true) (by kernel_rfl) (by kernel_rfl) ?_
  simp only [Act.put, List.setIfInBounds_toArray, List.set_cons_zero, List.set_cons_succ, List.getElem_toArray, List.getElem_cons_zero, List.getElem_cons_succ]
  refine list_val (.bool true) (by kernel_rfl) (by kernel_rfl) ?_
  simp only [Act.put, List.setIfInBounds_toArray, List.set_cons_zero, List.set_cons_succ, List.getElem_toArray, List.getElem_cons_zero, List.getElem_cons_succ]
  refine list_val (.pointer (some ⟨qdn, 3, none⟩)) (by kernel_rfl) (by kernel_rfl) ?_
  simp only [Act.put, List.setIfInBounds_toArray, List.set_cons_zero, List.set_cons_succ, List.getElem_toArray, List.getElem_cons_zero, List.getElem_cons_succ]
  refine list_val (.slice none 0 0) (by kernel_rfl) (exec_sby _ (.tmp 173) rfl qdn 3 (by kernel_rfl) none 0 0 (cell_of ((unhide hW).get 1 (x := ⟨qdn, #[.int .i64 0, .int .i64 0, .int .u64 0, .slice none 0 0], 80⟩) rfl) (i := 3) rfl)) ?_
  simp only [Act.put, List.setIfInBounds_toArray, List.set_cons_zero, List.set_cons_succ, List.getElem_toArray, List.getElem_cons_zero, List.getElem_cons_succ]
  refine list_val (.int .i64 0) (by kernel_rfl) (by kernel_rfl) ?_
  simp only [Act.put, List.setIfInBounds_toArray, List.set_cons_zero, List.set_cons_succ, List.getElem_toArray, List.getElem_cons_zero, List.getElem_cons_succ]
  refine list_val (.bool true) (by kernel_rfl) (by kernel_rfl) ?_
  simp only [Act.put, List.setIfInBounds_toArray, List.set_cons_zero, List.set_cons_succ, List.getElem_toArray, List.getElem_cons_zero, List.getElem_cons_succ]
  refine list_val (.bool true) (by kernel_rfl) (by kernel_rfl) ?_
  simp only [Act.put, List.setIfInBounds_toArray, List.set_cons_zero, List.set_cons_succ, List.getElem_toArray, List.getElem_cons_zero, List.getElem_cons_succ]
  (refine wpList_step fun K hK => ?_; replace hK := hide hK; go_simp; refine unhide hK _ _ ?_; clear hK K)
  refine wpList_nil ?_
  have hZ : Hid (Woke w (.returned (.bool true)) v17) := ⟨rfl, (unhide hWg).trans (unhide hW).gr⟩
  go_wp2_with fail
  rw [unhide hT]
  exact unhide hZ
set_option maxHeartbeats 4000000 in
theorem reads_nn (l : List Int) (s : Option Addr) (len cap : Nat) (w : World) (lb : Lb w s len cap l) (hO : onS (((min len 1000 : Nat) : Int) - 11) = false) (hR : rpS (((min len 1000 : Nat) : Int) - 11) = false) : Calls Try.prog 7 #[.slice s len cap] w (Woke w) := by
  obtain ⟨T, hT⟩ : ∃ T, T = Woke w := ⟨_, rfl⟩
  rw [← hT]
  replace hT := hide hT
  replace lb := hide lb
  obtain ⟨n, hn0⟩ : ∃ n, n = min len 1000 := ⟨_, rfl⟩
  obtain ⟨L, hL0⟩ : ∃ L, L = l.take n := ⟨_, rfl⟩
  have hn9 : n ≤ 1000 := by omega
  rw [← hn0] at hO hR
  obtain ⟨x, hx⟩ : ∃ x : Int, x = (n : Int) - 11 := ⟨_, rfl⟩
  have hnw : IntKind.i64.wrap ((n : Int) - 11) = x := by rw [IntKind.wrap_i64]; omega
  replace hx := hide hx
  have hOx : onS x = false := by rw [unhide hx]; exact hO
  have hRx : rpS x = false := by rw [unhide hx]; exact hR
  replace hn0 := hide hn0; replace hL0 := hide hL0; replace hO := hide hO; replace hR := hide hR
  go_enter Try.func7, Try.ntmps7
  go_upto_region 1 with fail
  refine wp_region_lit ?_
  refine list_call 9 #[] (by kernel_rfl) (by kernel_rfl) ((jwakes_ok w).mono ?_)
  rintro r u1 ⟨rfl, hg⟩
  have hWg := hide hg
  clear hg
  refine ⟨_, rfl, ?_⟩
  simp only [Act.put, List.setIfInBounds_toArray, List.set_cons_zero, List.set_cons_succ, List.getElem_toArray, List.getElem_cons_zero, List.getElem_cons_succ]
  refine list_val (.bool false) (by kernel_rfl) (by kernel_rfl) ?_
  simp only [Act.put, List.setIfInBounds_toArray, List.set_cons_zero, List.set_cons_succ, List.getElem_toArray, List.getElem_cons_zero, List.getElem_cons_succ]
  refine wpList_nil ?_
  go_upto_region 3 with fail
  refine wp_region_lit ?_
  refine list_val (.slice s len cap) (by kernel_rfl) (by kernel_rfl) ?_
  simp only [Act.put, List.setIfInBounds_toArray, List.set_cons_zero, List.set_cons_succ, List.getElem_toArray, List.getElem_cons_zero, List.getElem_cons_succ]
  refine list_call 10 #[.slice s len cap] (by kernel_rfl) (by kernel_rfl) ((jcut_ok l s len cap u1 ((unhide lb).gr (unhide hWg))).mono ?_)
  rintro r u2 ⟨s1, rfl, hs1, rfl⟩
  have hl := hs1 w (unhide lb)
  rw [← unhide hn0, ← unhide hL0] at hl
  rw [← unhide hn0]
  clear hs1 lb hL0 hn0
  have hLl := hl.len
  have hLb := hide hl.isB
  replace hl := hide hl
  refine ⟨_, rfl, ?_⟩
  simp only [Act.put, List.setIfInBounds_toArray, List.set_cons_zero, List.set_cons_succ, List.getElem_toArray, List.getElem_cons_zero, List.getElem_cons_succ]
  (refine wpList_step fun K hK => ?_; replace hK := hide hK; go_simp; refine unhide hK _ _ ?_; clear hK K)
  refine wpList_nil ?_
  go_upto_region 4 with fail
  refine wp_region_lit ?_
  refine list_val (.slice s1 n cap) (by kernel_rfl) (by kernel_rfl) ?_
  simp only [Act.put, List.setIfInBounds_toArray, List.set_cons_zero, List.set_cons_succ, List.getElem_toArray, List.getElem_cons_zero, List.getElem_cons_succ]
  refine list_call 18 #[.slice s1 n cap] (by kernel_rfl) (by kernel_rfl) ((jroom_ok L s1 n cap hn9 u2 ((unhide hl).gr (unhide hWg))).mono ?_)
  rintro r u6 ⟨go, co, rfl, hc1, hc2, hgo, hat, hg⟩
  rw [hLl] at hc1 ⊢
  have hlo : Lb u6 (some ⟨go, 0, none⟩) n co L := by
    have h9 := hat.take n
    rw [List.take_append_of_le_length (by rw [hLl]; exact Nat.le_refl _), List.take_of_length_le (by rw [hLl]; exact Nat.le_refl _)] at h9
    exact ⟨hLl, unhide hLb, .inr ⟨go, 0, rfl, h9⟩, by omega, hc2⟩
  replace hlo := hide hlo
  replace hWg := hide ((unhide hWg).trans hg)
  replace hl := hide ((unhide hl).gr (unhide hWg))
  clear hg hat hc1 hc2 hgo
  have hW := hide (Bl.nil u6)
  refine ⟨_, rfl, ?_⟩
  simp only [Act.put, List.setIfInBounds_toArray, List.set_cons_zero, List.set_cons_succ, List.getElem_toArray, List.getElem_cons_zero, List.getElem_cons_succ]
  (refine wpList_step fun K hK => ?_; replace hK := hide hK; go_simp; refine unhide hK _ _ ?_; clear hK K)
  refine wpList_nil ?_
  go_upto_region 5 with fail
  refine wp_region_lit ?_
  refine list_val (.slice (some ⟨go, 0, none⟩) n co) (by kernel_rfl) (by kernel_rfl) ?_
  simp only [Act.put, List.setIfInBounds_toArray, List.set_cons_zero, List.set_cons_succ, List.getElem_toArray, List.getElem_cons_zero, List.getElem_cons_succ]
  refine list_call 42 #[.slice (some ⟨go, 0, none⟩) n co] (by kernel_rfl) (by kernel_rfl) ((fgetup_no (some ⟨go, 0, none⟩) n co (by omega) (unhide hO) u6).mono ?_)
  rintro r v1 ⟨rfl, hg⟩
  replace hW := hide ((unhide hW).more hg)
  clear hg
  refine ⟨_, rfl, ?_⟩
  simp only [Act.put, List.setIfInBounds_toArray, List.set_cons_zero, List.set_cons_succ, List.getElem_toArray, List.getElem_cons_zero, List.getElem_cons_succ]
  refine list_val (.tuple #[.agg #[.int .i64 0, .int .i64 0, .int .u64 0, .slice none 0 0], .int .i64 240]) (by kernel_rfl) (by kernel_rfl) ?_
  simp only [Act.put, List.setIfInBounds_toArray, List.set_cons_zero, List.set_cons_succ, List.getElem_toArray, List.getElem_cons_zero, List.getElem_cons_succ]
  refine list_val (.agg #[.int .i64 0, .int .i64 0, .int .u64 0, .slice none 0 0]) (by kernel_rfl) (by kernel_rfl) ?_
  simp only [Act.put, List.setIfInBounds_toArray, List.set_cons_zero, List.set_cons_succ, List.getElem_toArray, List.getElem_cons_zero, List.getElem_cons_succ]
  refine list_val (.int .i64 240) (by kernel_rfl) (by kernel_rfl) ?_
  simp only [Act.put, List.setIfInBounds_toArray, List.set_cons_zero, List.set_cons_succ, List.getElem_toArray, List.getElem_cons_zero, List.getElem_cons_succ]
  refine list_valw (.pointer (some ⟨v1.heap.size, 0, none⟩)) (v1.alloc (.cells #[.int .i64 0, .int .i64 0, .int .u64 0, .slice none 0 0] 78 (0, 0))) (by kernel_rfl) (by kernel_rfl) ?_
  have hW2 := (unhide hW).new #[.int .i64 0, .int .i64 0, .int .u64 0, .slice none 0 0] 78
  simp only [List.nil_append, List.cons_append] at hW2
  clear hW
  generalize World.alloc _ _ = v2 at *
  generalize v1.heap.size = qup at *
  replace hW2 : Bl u6 [⟨qup, #[.int .i64 0, .int .i64 0, .int .u64 0, .slice none 0 0], 78⟩] v2 := hW2
  have hW := hide hW2
  clear hW2
  simp only [Act.put, List.setIfInBounds_toArray, List.set_cons_zero, List.set_cons_succ, List.getElem_toArray, List.getElem_cons_zero, List.getElem_cons_succ]
  have hq9 := ((unhide hW).get 0 (x := ⟨qup, #[.int .i64 0, .int .i64 0, .int .u64 0, .slice none 0 0], 78⟩) rfl)
  dsimp only at hq9
  refine list_store 78 (.tmp 4) (.tmp 21) qup #[.int .i64 0, .int .i64 0, .int .u64 0, .slice none 0 0] 78 #[.int .i64 0, .int .i64 0, .int .u64 0, .slice none 0 0] (by kernel_rfl) rfl (by kernel_rfl) (by kernel_rfl) hq9 (by rw [Try.infoU]; rfl) rfl (by simp [Value.oneCell']) ?_
  have hW2 := (unhide hW).set 0 (x := ⟨qup, #[.int .i64 0, .int .i64 0, .int .u64 0, .slice none 0 0], 78⟩) rfl #[.int .i64 0, .int .i64 0, .int .u64 0, .slice none 0 0]
  simp only [List.set_cons_zero, List.set_cons_succ] at hW2
  clear hW hq9
  generalize World.setRow _ _ _ = v3 at *
  replace hW2 : Bl u6 [⟨qup, #[.int .i64 0, .int .i64 0, .int .u64 0, .slice none 0 0], 78⟩] v3 := hW2
  have hW := hide hW2
  clear hW2
  simp only [Act.put, List.setIfInBounds_toArray, List.set_cons_zero, List.set_cons_succ, List.getElem_toArray, List.getElem_cons_zero, List.getElem_cons_succ]
  (refine wpList_step fun K hK => ?_; replace hK := hide hK; go_simp; refine unhide hK _ _ ?_; clear hK K)
  refine wpList_nil ?_
  go_upto_region 6 with fail
  refine wp_region_lit ?_
  refine list_val (.slice (some ⟨go, 0, none⟩) n co) (by kernel_rfl) (by kernel_rfl) ?_
  simp only [Act.put, List.setIfInBounds_toArray, List.set_cons_zero, List.set_cons_succ, List.getElem_toArray, List.getElem_cons_zero, List.getElem_cons_succ]
  refine list_call 43 #[.slice (some ⟨go, 0, none⟩) n co] (by kernel_rfl) (by kernel_rfl) ((fgetdn_no (some ⟨go, 0, none⟩) n co (by omega) (unhide hR) v3).mono ?_)
  rintro r v4 ⟨rfl, hg⟩
  replace hW := hide ((unhide hW).more hg)
  clear hg
  refine ⟨_, rfl, ?_⟩
  simp only [Act.put, List.setIfInBounds_toArray, List.set_cons_zero, List.set_cons_succ, List.getElem_toArray, List.getElem_cons_zero, List.getElem_cons_succ]
  refine list_val (.tuple #[.agg #[.int .i64 0, .int .i64 0, .int .u64 0, .slice none 0 0], .int .i64 240]) (by kernel_rfl) (by kernel_rfl) ?_
  simp only [Act.put, List.setIfInBounds_toArray, List.set_cons_zero, List.set_cons_succ, List.getElem_toArray, List.getElem_cons_zero, List.getElem_cons_succ]
  refine list_val (.agg #[.int .i64 0, .int .i64 0, .int .u64 0, .slice none 0 0]) (by kernel_rfl) (by kernel_rfl) ?_
  simp only [Act.put, List.setIfInBounds_toArray, List.set_cons_zero, List.set_cons_succ, List.getElem_toArray, List.getElem_cons_zero, List.getElem_cons_succ]
  refine list_val (.int .i64 240) (by kernel_rfl) (by kernel_rfl) ?_
  simp only [Act.put, List.setIfInBounds_toArray, List.set_cons_zero, List.set_cons_succ, List.getElem_toArray, List.getElem_cons_zero, List.getElem_cons_succ]
  refine list_valw (.pointer (some ⟨v4.heap.size, 0, none⟩)) (v4.alloc (.cells #[.int .i64 0, .int .i64 0, .int .u64 0, .slice none 0 0] 80 (0, 0))) (by kernel_rfl) (by kernel_rfl) ?_
  have hW2 := (unhide hW).new #[.int .i64 0, .int .i64 0, .int .u64 0, .slice none 0 0] 80
  simp only [List.nil_append, List.cons_append] at hW2
  clear hW
  generalize World.alloc _ _ = v5 at *
  generalize v4.heap.size = qdn at *
  replace hW2 : Bl u6 [⟨qup, #[.int .i64 0, .int .i64 0, .int .u64 0, .slice none 0 0], 78⟩, ⟨qdn, #[.int .i64 0, .int .i64 0, .int .u64 0, .slice none 0 0], 80⟩] v5 := hW2
  have hW := hide hW2
  clear hW2
  simp only [Act.put, List.setIfInBounds_toArray, List.set_cons_zero, List.set_cons_succ, List.getElem_toArray, List.getElem_cons_zero, List.getElem_cons_succ]
  have hq9 := ((unhide hW).get 1 (x := ⟨qdn, #[.int .i64 0, .int .i64 0, .int .u64 0, .slice none 0 0], 80⟩) rfl)
  dsimp only at hq9
  refine list_store 80 (.tmp 6) (.tmp 26) qdn #[.int .i64 0, .int .i64 0, .int .u64 0, .slice none 0 0] 80 #[.int .i64 0, .int .i64 0, .int .u64 0, .slice none 0 0] (by kernel_rfl) rfl (by kernel_rfl) (by kernel_rfl) hq9 (by rw [Try.infoD]; rfl) rfl (by simp [Value.oneCell']) ?_
  have hW2 := (unhide hW).set 1 (x := ⟨qdn, #[.int .i64 0, .int .i64 0, .int .u64 0, .slice none 0 0], 80⟩) rfl #[.int .i64 0, .int .i64 0, .int .u64 0, .slice none 0 0]
  simp only [List.set_cons_zero, List.set_cons_succ] at hW2
  clear hW hq9
  generalize World.setRow _ _ _ = v6 at *
  replace hW2 : Bl u6 [⟨qup, #[.int .i64 0, .int .i64 0, .int .u64 0, .slice none 0 0], 78⟩, ⟨qdn, #[.int .i64 0, .int .i64 0, .int .u64 0, .slice none 0 0], 80⟩] v6 := hW2
  have hW := hide hW2
  clear hW2
  simp only [Act.put, List.setIfInBounds_toArray, List.set_cons_zero, List.set_cons_succ, List.getElem_toArray, List.getElem_cons_zero, List.getElem_cons_succ]
  (refine wpList_step fun K hK => ?_; replace hK := hide hK; go_simp; refine unhide hK _ _ ?_; clear hK K)
  refine wpList_nil ?_
  go_upto_region 7 with fail
  refine wp_region_lit ?_
  refine list_val (.slice (some ⟨go, 0, none⟩) n co) (by kernel_rfl) (by kernel_rfl) ?_
  simp only [Act.put, List.setIfInBounds_toArray, List.set_cons_zero, List.set_cons_succ, List.getElem_toArray, List.getElem_cons_zero, List.getElem_cons_succ]
  refine list_call 44 #[.slice (some ⟨go, 0, none⟩) n co] (by kernel_rfl) (by kernel_rfl) ((fkind_ok L (some ⟨go, 0, none⟩) n co v6 ((unhide hlo).gr (unhide hW).gr)).mono ?_)
  rintro r v7 ⟨rfl, hg⟩
  generalize hkk : kindO L = kk_ at *
  replace hW := hide ((unhide hW).more hg)
  clear hg
  refine ⟨_, rfl, ?_⟩
  simp only [Act.put, List.setIfInBounds_toArray, List.set_cons_zero, List.set_cons_succ, List.getElem_toArray, List.getElem_cons_zero, List.getElem_cons_succ]
  refine list_val (.slice s1 n cap) (by kernel_rfl) (by kernel_rfl) ?_
  simp only [Act.put, List.setIfInBounds_toArray, List.set_cons_zero, List.set_cons_succ, List.getElem_toArray, List.getElem_cons_zero, List.getElem_cons_succ]
  refine list_call 45 #[.slice s1 n cap] (by kernel_rfl) (by kernel_rfl) ((qkind_ok L s1 n cap hn9 v7 ((unhide hl).gr (unhide hW).gr)).mono ?_)
  rintro r v8 ⟨rfl, hg⟩
  rw [hkk]
  replace hW := hide ((unhide hW).more hg)
  clear hg
  refine ⟨_, rfl, ?_⟩
  simp only [Act.put, List.setIfInBounds_toArray, List.set_cons_zero, List.set_cons_succ, List.getElem_toArray, List.getElem_cons_zero, List.getElem_cons_succ]
  refine list_val (.bool false) (by kernel_rfl) (by go_simp) ?_
  simp only [Act.put, List.setIfInBounds_toArray, List.set_cons_zero, List.set_cons_succ, List.getElem_toArray, List.getElem_cons_zero, List.getElem_cons_succ]
  refine list_val (.bool false) (by kernel_rfl) (by kernel_rfl) ?_
  simp only [Act.put, List.setIfInBounds_toArray, List.set_cons_zero, List.set_cons_succ, List.getElem_toArray, List.getElem_cons_zero, List.getElem_cons_succ]
  refine list_val (.slice (some ⟨go, 0, none⟩) n co) (by kernel_rfl) (by kernel_rfl) ?_
  simp only [Act.put, List.setIfInBounds_toArray, List.set_cons_zero, List.set_cons_succ, List.getElem_toArray, List.getElem_cons_zero, List.getElem_cons_succ]
  refine list_val (.slice s1 n cap) (by kernel_rfl) (by kernel_rfl) ?_
  simp only [Act.put, List.setIfInBounds_toArray, List.set_cons_zero, List.set_cons_succ, List.getElem_toArray, List.getElem_cons_zero, List.getElem_cons_succ]
  refine list_call 11 #[.slice (some ⟨go, 0, none⟩) n co, .slice s1 n cap] (by kernel_rfl) (by kernel_rfl) ((beq_ok L L (some ⟨go, 0, none⟩) s1 n n co cap v8 ((unhide hlo).gr (unhide hW).gr) ((unhide hl).gr (unhide hW).gr)).mono ?_)
  rintro r v9 ⟨rfl, hg⟩
  rw [decide_eq_true rfl]
  replace hW := hide ((unhide hW).more hg)
  clear hg
  refine ⟨_, rfl, ?_⟩
  simp only [Act.put, List.setIfInBounds_toArray, List.set_cons_zero, List.set_cons_succ, List.getElem_toArray, List.getElem_cons_zero, List.getElem_cons_succ]
  refine list_val (.bool false) (by kernel_rfl) (by kernel_rfl) ?_
  simp only [Act.put, List.setIfInBounds_toArray, List.set_cons_zero, List.set_cons_succ, List.getElem_toArray, List.getElem_cons_zero, List.getElem_cons_succ]
  refine list_val (.bool false) (by kernel_rfl) (by kernel_rfl) ?_
  simp only [Act.put, List.setIfInBounds_toArray, List.set_cons_zero, List.set_cons_succ, List.getElem_toArray, List.getElem_cons_zero, List.getElem_cons_succ]
  refine wpList_nil ?_
  go_upto_region 9 with fail
  refine wp_region_lit ?_
  refine list_val (.agg #[.int .i64 0, .int .i64 0, .int .u64 0, .slice none 0 0]) (by kernel_rfl) (by kernel_rfl) ?_
  simp only [Act.put, List.setIfInBounds_toArray, List.set_cons_zero, List.set_cons_succ, List.getElem_toArray, List.getElem_cons_zero, List.getElem_cons_succ]
  refine list_valw (.pointer (some ⟨v9.heap.size, 0, none⟩)) (v9.alloc (.cells #[.int .i64 0, .int .i64 0, .int .u64 0, .slice none 0 0] 78 (0, 0))) (by kernel_rfl) (by kernel_rfl) ?_
  have hW2 := (unhide hW).new #[.int .i64 0, .int .i64 0, .int .u64 0, .slice none 0 0] 78
  simp only [List.nil_append, List.cons_append] at hW2
  clear hW
  generalize World.alloc _ _ = v10 at *
  generalize v9.heap.size = rup at *
  replace hW2 : Bl u6 [⟨qup, #[.int .i64 0, .int .i64 0, .int .u64 0, .slice none 0 0], 78⟩, ⟨qdn, #[.int .i64 0, .int .i64 0, .int .u64 0, .slice none 0 0], 80⟩, ⟨rup, #[.int .i64 0, .int .i64 0, .int .u64 0, .slice none 0 0], 78⟩] v10 := hW2
  have hW := hide hW2
  clear hW2
  simp only [Act.put, List.setIfInBounds_toArray, List.set_cons_zero, List.set_cons_succ, List.getElem_toArray, List.getElem_cons_zero, List.getElem_cons_succ]
  have hq9 := ((unhide hW).get 2 (x := ⟨rup, #[.int .i64 0, .int .i64 0, .int .u64 0, .slice none 0 0], 78⟩) rfl)
  dsimp only at hq9
  refine list_store 78 (.tmp 8) (.tmp 39) rup #[.int .i64 0, .int .i64 0, .int .u64 0, .slice none 0 0] 78 #[.int .i64 0, .int .i64 0, .int .u64 0, .slice none 0 0] (by kernel_rfl) rfl (by kernel_rfl) (by kernel_rfl) hq9 (by rw [Try.infoU]; rfl) rfl (by simp [Value.oneCell']) ?_
  have hW2 := (unhide hW).set 2 (x := ⟨rup, #[.int .i64 0, .int .i64 0, .int .u64 0, .slice none 0 0], 78⟩) rfl #[.int .i64 0, .int .i64 0, .int .u64 0, .slice none 0 0]
  simp only [List.set_cons_zero, List.set_cons_succ] at hW2
  clear hW hq9
  generalize World.setRow _ _ _ = v11 at *
  replace hW2 : Bl u6 [⟨qup, #[.int .i64 0, .int .i64 0, .int .u64 0, .slice none 0 0], 78⟩, ⟨qdn, #[.int .i64 0, .int .i64 0, .int .u64 0, .slice none 0 0], 80⟩, ⟨rup, #[.int .i64 0, .int .i64 0, .int .u64 0, .slice none 0 0], 78⟩] v11 := hW2
  have hW := hide hW2
  clear hW2
  simp only [Act.put, List.setIfInBounds_toArray, List.set_cons_zero, List.set_cons_succ, List.getElem_toArray, List.getElem_cons_zero, List.getElem_cons_succ]
  (refine wpList_step fun K hK => ?_; replace hK := hide hK; go_simp; refine unhide hK _ _ ?_; clear hK K)
  (refine wpList_step fun K hK => ?_; replace hK := hide hK; go_simp; refine unhide hK _ _ ?_; clear hK K)
  refine wpList_nil ?_
  go_upto_region 10 with fail
  refine wp_region_lit ?_
  refine list_val (.slice s1 n cap) (by kernel_rfl) (by kernel_rfl) ?_
  simp only [Act.put, List.setIfInBounds_toArray, List.set_cons_zero, List.set_cons_succ, List.getElem_toArray, List.getElem_cons_zero, List.getElem_cons_succ]
  refine list_val (.int .i64 (n : Int)) (by kernel_rfl) (by kernel_rfl) ?_
  simp only [Act.put, List.setIfInBounds_toArray, List.set_cons_zero, List.set_cons_succ, List.getElem_toArray, List.getElem_cons_zero, List.getElem_cons_succ]
  refine list_val (.int .i64 x) (by kernel_rfl) (by go_simp) ?_
  simp only [Act.put, List.setIfInBounds_toArray, List.set_cons_zero, List.set_cons_succ, List.getElem_toArray, List.getElem_cons_zero, List.getElem_cons_succ]
  refine list_call 39 #[.int .i64 x] (by kernel_rfl) (by kernel_rfl) ((qon_ok x v11).mono ?_)
  rintro r v12 ⟨hup, rfl, hhup, rfl⟩
  rw [hOx, decide_eq_false_iff_not] at hhup
  refine ⟨_, rfl, ?_⟩
  simp only [Act.put, List.setIfInBounds_toArray, List.set_cons_zero, List.set_cons_succ, List.getElem_toArray, List.getElem_cons_zero, List.getElem_cons_succ]
  refine list_val (.bool false) (by kernel_rfl) (by go_simp) ?_
  simp only [Act.put, List.setIfInBounds_toArray, List.set_cons_zero, List.set_cons_succ, List.getElem_toArray, List.getElem_cons_zero, List.getElem_cons_succ]
  refine wpList_nil ?_
  go_upto_region 13 with fail
  refine wp_region_lit ?_
  refine list_val (.bool false) (by kernel_rfl) (by kernel_rfl) ?_
  simp only [Act.put, List.setIfInBounds_toArray, List.set_cons_zero, List.set_cons_succ, List.getElem_toArray, List.getElem_cons_zero, List.getElem_cons_succ]
  refine list_val_offs 31 (.bool false) (by kernel_rfl) (by kernel_rfl) (by kernel_rfl) ?_
  simp only [List.drop_succ_cons, List.drop_zero, List.take_succ_cons, List.take_zero, putU]
  simp only [Act.put, List.setIfInBounds_toArray, List.set_cons_zero, List.set_cons_succ, List.getElem_toArray, List.getElem_cons_zero, List.getElem_cons_succ]
  refine list_val (.bool false) (by kernel_rfl) (by kernel_rfl) ?_
  simp only [Act.put, List.setIfInBounds_toArray, List.set_cons_zero, List.set_cons_succ, List.getElem_toArray, List.getElem_cons_zero, List.getElem_cons_succ]
  refine wpList_nil ?_
  go_upto_region 15 with fail
  refine wp_region_lit ?_
  refine list_val (.bool false) (by kernel_rfl) (by kernel_rfl) ?_
  simp only [Act.put, List.setIfInBounds_toArray, List.set_cons_zero, List.set_cons_succ, List.getElem_toArray, List.getElem_cons_zero, List.getElem_cons_succ]
  refine list_val (.bool true) (by kernel_rfl) (by kernel_rfl) ?_
  simp only [Act.put, List.setIfInBounds_toArray, List.set_cons_zero, List.set_cons_succ, List.getElem_toArray, List.getElem_cons_zero, List.getElem_cons_succ]
  refine list_val (.bool true) (by kernel_rfl) (by kernel_rfl) ?_
  simp only [Act.put, List.setIfInBounds_toArray, List.set_cons_zero, List.set_cons_succ, List.getElem_toArray, List.getElem_cons_zero, List.getElem_cons_succ]
  refine list_val (.int .i64 240) (by kernel_rfl) (by kernel_rfl) ?_
  simp only [Act.put, List.setIfInBounds_toArray, List.set_cons_zero, List.set_cons_succ, List.getElem_toArray, List.getElem_cons_zero, List.getElem_cons_succ]
  refine list_val (.int .i64 240) (by kernel_rfl) (by kernel_rfl) ?_
  simp only [Act.put, List.setIfInBounds_toArray, List.set_cons_zero, List.set_cons_succ, List.getElem_toArray, List.getElem_cons_zero, List.getElem_cons_succ]
  refine list_val (.bool false) (by kernel_rfl) (by kernel_rfl) ?_
  simp only [Act.put, List.setIfInBounds_toArray, List.set_cons_zero, List.set_cons_succ, List.getElem_toArray, List.getElem_cons_zero, List.getElem_cons_succ]
  refine list_val (.bool false) (by kernel_rfl) (by kernel_rfl) ?_
  simp only [Act.put, List.setIfInBounds_toArray, List.set_cons_zero, List.set_cons_succ, List.getElem_toArray, List.getElem_cons_zero, List.getElem_cons_succ]
  refine list_val (.pointer (some ⟨qup, 0, none⟩)) (by kernel_rfl) (by kernel_rfl) ?_
  simp only [Act.put, List.setIfInBounds_toArray, List.set_cons_zero, List.set_cons_succ, List.getElem_toArray, List.getElem_cons_zero, List.getElem_cons_succ]
  refine list_val (.int .i64 0) (by kernel_rfl) (exec_i64 _ (.tmp 91) rfl qup 0 (by kernel_rfl) 0 (cell_of ((unhide hW).get 0 (x := ⟨qup, #[.int .i64 0, .int .i64 0, .int .u64 0, .slice none 0 0], 78⟩) rfl) (i := 0) rfl)) ?_
  simp only [Act.put, List.setIfInBounds_toArray, List.set_cons_zero, List.set_cons_succ, List.getElem_toArray, List.getElem_cons_zero, List.getElem_cons_succ]
  refine list_val (.bool false) (by kernel_rfl) (by kernel_rfl) ?_
  simp only [Act.put, List.setIfInBounds_toArray, List.set_cons_zero, List.set_cons_succ, List.getElem_toArray, List.getElem_cons_zero, List.getElem_cons_succ]
  refine list_val (.bool false) (by kernel_rfl) (by kernel_rfl) ?_
  simp only [Act.put, List.setIfInBounds_toArray, List.set_cons_zero, List.set_cons_succ, List.getElem_toArray, List.getElem_cons_zero, List.getElem_cons_succ]
  refine list_val (.bool false) (by kernel_rfl) (by kernel_rfl) ?_
  simp only [Act.put, List.setIfInBounds_toArray, List.set_cons_zero, List.set_cons_succ, List.getElem_toArray, List.getElem_cons_zero, List.getElem_cons_succ]
  refine list_val (.pointer (some ⟨qup, 1, none⟩)) (by kernel_rfl) (by kernel_rfl) ?_
  simp only [Act.put, List.setIfInBounds_toArray, List.set_cons_zero, List.set_cons_succ, List.getElem_toArray, List.getElem_cons_zero, List.getElem_cons_succ]
  refine list_val (.int .i64 0) (by kernel_rfl) (exec_i64 _ (.tmp 96) rfl qup 1 (by kernel_rfl) 0 (cell_of ((unhide hW).get 0 (x := ⟨qup, #[.int .i64 0, .int .i64 0, .int .u64 0, .slice none 0 0], 78⟩) rfl) (i := 1) rfl)) ?_
  simp only [Act.put, List.setIfInBounds_toArray, List.set_cons_zero, List.set_cons_succ, List.getElem_toArray, List.getElem_cons_zero, List.getElem_cons_succ]
  refine list_val (.bool false) (by kernel_rfl) (by kernel_rfl) ?_
  simp only [Act.put, List.setIfInBounds_toArray, List.set_cons_zero, List.set_cons_succ, List.getElem_toArray, List.getElem_cons_zero, List.getElem_cons_succ]
  refine list_val (.bool false) (by kernel_rfl) (by kernel_rfl) ?_
  simp only [Act.put, List.setIfInBounds_toArray, List.set_cons_zero, List.set_cons_succ, List.getElem_toArray, List.getElem_cons_zero, List.getElem_cons_succ]
  refine list_val (.bool false) (by kernel_rfl) (by kernel_rfl) ?_
  simp only [Act.put, List.setIfInBounds_toArray, List.set_cons_zero, List.set_cons_succ, List.getElem_toArray, List.getElem_cons_zero, List.getElem_cons_succ]
  refine list_val (.pointer (some ⟨qup, 2, none⟩)) (by kernel_rfl) (by kernel_rfl) ?_
  simp only [Act.put, List.setIfInBounds_toArray, List.set_cons_zero, List.set_cons_succ, List.getElem_toArray, List.getElem_cons_zero, List.getElem_cons_succ]
  refine list_val (.int .u64 0) (by kernel_rfl) (exec_u64 _ (.tmp 101) rfl qup 2 (by kernel_rfl) 0 (cell_of ((unhide hW).get 0 (x := ⟨qup, #[.int .i64 0, .int .i64 0, .int .u64 0, .slice none 0 0], 78⟩) rfl) (i := 2) rfl)) ?_
  simp only [Act.put, List.setIfInBounds_toArray, List.set_cons_zero, List.set_cons_succ, List.getElem_toArray, List.getElem_cons_zero, List.getElem_cons_succ]
  refine list_val (.bool false) (by kernel_rfl) (by kernel_rfl) ?_
  simp only [Act.put, List.setIfInBounds_toArray, List.set_cons_zero, List.set_cons_succ, List.getElem_toArray, List.getElem_cons_zero, List.getElem_cons_succ]
  refine list_val (.bool false) (by kernel_rfl) (by kernel_rfl) ?_
  simp only [Act.put, List.setIfInBounds_toArray, List.set_cons_zero, List.set_cons_succ, List.getElem_toArray, List.getElem_cons_zero, List.getElem_cons_succ]
  refine list_val (.bool false) (by kernel_rfl) (by kernel_rfl) ?_
  simp only [Act.put, List.setIfInBounds_toArray, List.set_cons_zero, List.set_cons_succ, List.getElem_toArray, List.getElem_cons_zero, List.getElem_cons_succ]
  refine list_val (.pointer (some ⟨qup, 3, none⟩)) (by kernel_rfl) (by kernel_rfl) ?_
  simp only [Act.put, List.setIfInBounds_toArray, List.set_cons_zero, List.set_cons_succ, List.getElem_toArray, List.getElem_cons_zero, List.getElem_cons_succ]
  refine list_val (.slice none 0 0) (by kernel_rfl) (exec_sby _ (.tmp 106) rfl qup 3 (by kernel_rfl) none 0 0 (cell_of ((unhide hW).get 0 (x := ⟨qup, #[.int .i64 0, .int .i64 0, .int .u64 0, .slice none 0 0], 78⟩) rfl) (i := 3) rfl)) ?_
  simp only [Act.put, List.setIfInBounds_toArray, List.set_cons_zero, List.set_cons_succ, List.getElem_toArray, List.getElem_cons_zero, List.getElem_cons_succ]
  refine list_val (.int .i64 0) (by kernel_rfl) (by kernel_rfl) ?_
  simp only [Act.put, List.setIfInBounds_toArray, List.set_cons_zero, List.set_cons_succ, List.getElem_toArray, List.getElem_cons_zero, List.getElem_cons_succ]
  refine list_val (.bool false) (by kernel_rfl) (by kernel_rfl) ?_
  simp only [Act.put, List.setIfInBounds_toArray, List.set_cons_zero, List.set_cons_succ, List.getElem_toArray, List.getElem_cons_zero, List.getElem_cons_succ]
  refine list_val (.bool false) (by kernel_rfl) (by kernel_rfl) ?_
  simp only [Act.put, List.setIfInBounds_toArray, List.set_cons_zero, List.set_cons_succ, List.getElem_toArray, List.getElem_cons_zero, List.getElem_cons_succ]
  refine list_val (.bool false) (by kernel_rfl) (by kernel_rfl) ?_
  simp only [Act.put, List.setIfInBounds_toArray, List.set_cons_zero, List.set_cons_succ, List.getElem_toArray, List.getElem_cons_zero, List.getElem_cons_succ]
  refine wpList_nil ?_
  go_upto_region 17 with fail
  refine wp_region_lit ?_
  refine list_val (.agg #[.int .i64 0, .int .i64 0, .int .u64 0, .slice none 0 0]) (by kernel_rfl) (by kernel_rfl) ?_
  simp only [Act.put, List.setIfInBounds_toArray, List.set_cons_zero, List.set_cons_succ, List.getElem_toArray, List.getElem_cons_zero, List.getElem_cons_succ]
  refine list_valw (.pointer (some ⟨v12.heap.size, 0, none⟩)) (v12.alloc (.cells #[.int .i64 0, .int .i64 0, .int .u64 0, .slice none 0 0] 80 (0, 0))) (by kernel_rfl) (by kernel_rfl) ?_
  have hW2 := (unhide hW).new #[.int .i64 0, .int .i64 0, .int .u64 0, .slice none 0 0] 80
  simp only [List.nil_append, List.cons_append] at hW2
  clear hW
  generalize World.alloc _ _ = v13 at *
  generalize v12.heap.size = rdn at *
  replace hW2 : Bl u6 [⟨qup, #[.int .i64 0, .int .i64 0, .int .u64 0, .slice none 0 0], 78⟩, ⟨qdn, #[.int .i64 0, .int .i64 0, .int .u64 0, .slice none 0 0], 80⟩, ⟨rup, #[.int .i64 0, .int .i64 0, .int .u64 0, .slice none 0 0], 78⟩, ⟨rdn, #[.int .i64 0, .int .i64 0, .int .u64 0, .slice none 0 0], 80⟩] v13 := hW2
  have hW := hide hW2
  clear hW2
  simp only [Act.put, List.setIfInBounds_toArray, List.set_cons_zero, List.set_cons_succ, List.getElem_toArray, List.getElem_cons_zero, List.getElem_cons_succ]
  have hq9 := ((unhide hW).get 3 (x := ⟨rdn, #[.int .i64 0, .int .i64 0, .int .u64 0, .slice none 0 0], 80⟩) rfl)
  dsimp only at hq9
  refine list_store 80 (.tmp 11) (.tmp 112) rdn #[.int .i64 0, .int .i64 0, .int .u64 0, .slice none 0 0] 80 #[.int .i64 0, .int .i64 0, .int .u64 0, .slice none 0 0] (by kernel_rfl) rfl (by kernel_rfl) (by kernel_rfl) hq9 (by rw [Try.infoD]; rfl) rfl (by simp [Value.oneCell']) ?_
  have hW2 := (unhide hW).set 3 (x := ⟨rdn, #[.int .i64 0, .int .i64 0, .int .u64 0, .slice none 0 0], 80⟩) rfl #[.int .i64 0, .int .i64 0, .int .u64 0, .slice none 0 0]
  simp only [List.set_cons_zero, List.set_cons_succ] at hW2
  clear hW hq9
  generalize World.setRow _ _ _ = v14 at *
  replace hW2 : Bl u6 [⟨qup, #[.int .i64 0, .int .i64 0, .int .u64 0, .slice none 0 0], 78⟩, ⟨qdn, #[.int .i64 0, .int .i64 0, .int .u64 0, .slice none 0 0], 80⟩, ⟨rup, #[.int .i64 0, .int .i64 0, .int .u64 0, .slice none 0 0], 78⟩, ⟨rdn, #[.int .i64 0, .int .i64 0, .int .u64 0, .slice none 0 0], 80⟩] v14 := hW2
  have hW := hide hW2
  clear hW2
  simp only [Act.put, List.setIfInBounds_toArray, List.set_cons_zero, List.set_cons_succ, List.getElem_toArray, List.getElem_cons_zero, List.getElem_cons_succ]
  (refine wpList_step fun K hK => ?_; replace hK := hide hK; go_simp; refine unhide hK _ _ ?_; clear hK K)
  (refine wpList_step fun K hK => ?_; replace hK := hide hK; go_simp; refine unhide hK _ _ ?_; clear hK K)
  refine wpList_nil ?_
  go_upto_region 18 with fail
  refine wp_region_lit ?_
  refine list_val (.slice s1 n cap) (by kernel_rfl) (by kernel_rfl) ?_
  simp only [Act.put, List.setIfInBounds_toArray, List.set_cons_zero, List.set_cons_succ, List.getElem_toArray, List.getElem_cons_zero, List.getElem_cons_succ]
  refine list_val (.int .i64 (n : Int)) (by kernel_rfl) (by kernel_rfl) ?_
  simp only [Act.put, List.setIfInBounds_toArray, List.set_cons_zero, List.set_cons_succ, List.getElem_toArray, List.getElem_cons_zero, List.getElem_cons_succ]
  refine list_val (.int .i64 x) (by kernel_rfl) (by go_simp) ?_
  simp only [Act.put, List.setIfInBounds_toArray, List.set_cons_zero, List.set_cons_succ, List.getElem_toArray, List.getElem_cons_zero, List.getElem_cons_succ]
  refine list_call 41 #[.int .i64 x] (by kernel_rfl) (by kernel_rfl) ((qrp_ok x v14).mono ?_)
  rintro r v15 ⟨hdn, rfl, hhdn, rfl⟩
  rw [hRx, decide_eq_false_iff_not] at hhdn
  refine ⟨_, rfl, ?_⟩
  simp only [Act.put, List.setIfInBounds_toArray, List.set_cons_zero, List.set_cons_succ, List.getElem_toArray, List.getElem_cons_zero, List.getElem_cons_succ]
  refine list_val (.bool false) (by kernel_rfl) (by go_simp) ?_
  simp only [Act.put, List.setIfInBounds_toArray, List.set_cons_zero, List.set_cons_succ, List.getElem_toArray, List.getElem_cons_zero, List.getElem_cons_succ]
  refine wpList_nil ?_
  go_upto_region 23 with fail
  refine wp_region_lit ?_
  refine list_val (.int .i64 240) (by kernel_rfl) (by kernel_rfl) ?_
  simp only [Act.put, List.setIfInBounds_toArray, List.set_cons_zero, List.set_cons_succ, List.getElem_toArray, List.getElem_cons_zero, List.getElem_cons_succ]
  refine list_val (.int .i64 240) (by kernel_rfl) (by kernel_rfl) ?_
  simp only [Act.put, List.setIfInBounds_toArray, List.set_cons_zero, List.set_cons_succ, List.getElem_toArray, List.getElem_cons_zero, List.getElem_cons_succ]
  refine list_val (.bool true) (by kernel_rfl) (by kernel_rfl) ?_
  simp only [Act.put, List.setIfInBounds_toArray, List.set_cons_zero, List.set_cons_succ, List.getElem_toArray, List.getElem_cons_zero, List.getElem_cons_succ]
  refine list_val (.bool true) (by kernel_rfl) (by kernel_rfl) ?_
  simp only [Act.put, List.setIfInBounds_toArray, List.set_cons_zero, List.set_cons_succ, List.getElem_toArray, List.getElem_cons_zero, List.getElem_cons_succ]
  refine list_val (.pointer (some ⟨qdn, 0, none⟩)) (by kernel_rfl) (by kernel_rfl) ?_
  simp only [Act.put, List.setIfInBounds_toArray, List.set_cons_zero, List.set_cons_succ, List.getElem_toArray, List.getElem_cons_zero, List.getElem_cons_succ]
  refine list_val (.int .i64 0) (by kernel_rfl) (exec_i64 _ (.tmp 158) rfl qdn 0 (by kernel_rfl) 0 (cell_of ((unhide hW).get 1 (x := ⟨qdn, #[.int .i64 0, .int .i64 0, .int .u64 0, .slice none 0 0], 80⟩) rfl) (i := 0) rfl)) ?_
  simp only [Act.put, List.setIfInBounds_toArray, List.set_cons_zero, List.set_cons_succ, List.getElem_toArray, List.getElem_cons_zero, List.getElem_cons_succ]
  refine list_val (.bool true) (by kernel_rfl) (by kernel_rfl) ?_
  simp only [Act.put, List.setIfInBounds_toArray, List.set_cons_zero, List.set_cons_succ, List.getElem_toArray, List.getElem_cons_zero, List.getElem_cons_succ]
  refine list_val (.bool true) (by kernel_rfl) (by kernel_rfl) ?_
  simp only [Act.put, List.setIfInBounds_toArray, List.set_cons_zero, List.set_cons_succ, List.getElem_toArray, List.getElem_cons_zero, List.getElem_cons_succ]
  refine list_val (.bool true) (by kernel_rfl) (by kernel_rfl) ?_
  simp only [Act.put, List.setIfInBounds_toArray, List.set_cons_zero, List.set_cons_succ, List.getElem_toArray, List.getElem_cons_zero, List.getElem_cons_succ]
  refine list_val (.pointer (some ⟨qdn, 1, none⟩)) (by kernel_rfl) (by kernel_rfl) ?_
  simp only [Act.put, List.setIfInBounds_toArray, List.set_cons_zero, List.set_cons_succ, List.getElem_toArray, List.getElem_cons_zero, List.getElem_cons_succ]
  refine list_val (.int .i64 0) (by kernel_rfl) (exec_i64 _ (.tmp 163) rfl qdn 1 (by kernel_rfl) 0 (cell_of ((unhide hW).get 1 (x := ⟨qdn, #[.int .i64 0, .int .i64 0, .int .u64 0, .slice none 0 0], 80⟩) rfl) (i := 1) rfl)) ?_
  simp only [Act.put, List.setIfInBounds_toArray, List.set_cons_zero, List.set_cons_succ, List.getElem_toArray, List.getElem_cons_zero, List.getElem_cons_succ]
  refine list_val (.bool true) (by kernel_rfl) (by kernel_rfl) ?_
  simp only [Act.put, List.setIfInBounds_toArray, List.set_cons_zero, List.set_cons_succ, List.getElem_toArray, List.getElem_cons_zero, List.getElem_cons_succ]
  refine list_val (.bool true) (by kernel_rfl) (by kernel_rfl) ?_
  simp only [Act.put, List.setIfInBounds_toArray, List.set_cons_zero, List.set_cons_succ, List.getElem_toArray, List.getElem_cons_zero, List.getElem_cons_succ]
  refine list_val (.bool true) (by kernel_rfl) (by kernel_rfl) ?_
  simp only [Act.put, List.setIfInBounds_toArray, List.set_cons_zero, List.set_cons_succ, List.getElem_toArray, List.getElem_cons_zero, List.getElem_cons_succ]
  refine list_val (.pointer (some ⟨qdn, 2, none⟩)) (by kernel_rfl) (by kernel_rfl) ?_
  simp only [Act.put, List.setIfInBounds_toArray, List.set_cons_zero, List.set_cons_succ, List.getElem_toArray, List.getElem_cons_zero, List.getElem_cons_succ]
  refine list_val (.int .u64 0) (by kernel_rfl) (exec_u64 _ (.tmp 168) rfl qdn 2 (by kernel_rfl) 0 (cell_of ((unhide hW).get 1 (x := ⟨qdn, #[.int .i64 0, .int .i64 0, .int .u64 0, .slice none 0 0], 80⟩) rfl) (i := 2) rfl)) ?_
  simp only [Act.put, List.setIfInBounds_toArray, List.set_cons_zero, List.set_cons_succ, List.getElem_toArray, List.getElem_cons_zero, List.getElem_cons_succ]
  refine list_val (.bool true) (by kernel_rfl) (by kernel_rfl) ?_
  simp only [Act.put, List.setIfInBounds_toArray, List.set_cons_zero, List.set_cons_succ, List.getElem_toArray, List.getElem_cons_zero, List.getElem_cons_succ]
  refine list_val (.bool true) (by kernel_rfl) (by kernel_rfl) ?_
  simp only [Act.put, List.setIfInBounds_toArray, List.set_cons_zero, List.set_cons_succ, List.getElem_toArray, List.getElem_cons_zero, List.getElem_cons_succ]
  refine list_val (.bool true) (by kernel_rfl) (by kernel_rfl) ?_
  simp only [Act.put, List.setIfInBounds_toArray, List.set_cons_zero, List.set_cons_succ, List.getElem_toArray, List.getElem_cons_zero, List.getElem_cons_succ]
  refine list_val (.pointer (some ⟨qdn, 3, none⟩)) (by kernel_rfl) (by kernel_rfl) ?_
  simp only [Act.put, List.setIfInBounds_toArray, List.set_cons_zero, List.set_cons_succ, List.getElem_toArray, List.getElem_cons_zero, List.getElem_cons_succ]
  refine list_val (.slice none 0 0) (by kernel_rfl) (exec_sby _ (.tmp 173) rfl qdn 3 (by kernel_rfl) none 0 0 (cell_of ((unhide hW).get 1 (x := ⟨qdn, #[.int .i64 0, .int .i64 0, .int .u64 0, .slice none 0 0], 80⟩) rfl) (i := 3) rfl)) ?_
  simp only [Act.put, List.setIfInBounds_toArray, List.set_cons_zero, List.set_cons_succ, List.getElem_toArray, List.getElem_cons_zero, List.getElem_cons_succ]
  refine list_val (.int .i64 0) (by kernel_rfl) (by kernel_rfl) ?_
  simp only [Act.put, List.setIfInBounds_toArray, List.set_cons_zero, List.set_cons_succ, List.getElem_toArray, List.getElem_cons_zero, List.getElem_cons_succ]
  refine list_val (.bool true) (by kernel_rfl) (by kernel_rfl) ?_
  simp only [Act.put, List.setIfInBounds_toArray, List.set_cons_zero, List.set_cons_succ, List.getElem_toArray, List.getElem_cons_zero, List.getElem_cons_succ]
  refine list_val (.bool true) (by kernel_rfl) (by kernel_rfl) ?_
  simp only [Act.put, List.setIfInBounds_toArray, List.set_cons_zero, List.set_cons_succ, List.getElem_toArray, List.getElem_cons_zero, List.getElem_cons_succ]
  (refine wpList_step fun K hK => ?_; replace hK := hide hK; go_simp; refine unhide hK _ _ ?_; clear hK K)
  refine wpList_nil ?_
  have hZ : Hid (Woke w (.returned (.bool true)) v15) := ⟨rfl, (unhide hWg).trans (unhide hW).gr⟩
  go_wp2_with fail
  rw [unhide hT]
  exact unhide hZ
theorem reads_law (l : List Int) (s : Option Addr) (len cap : Nat) (w : World) (lb : Lb w s len cap l) : Calls Try.prog 7 #[.slice s len cap] w (Woke w) := by
  cases hO : onS (((min len 1000 : Nat) : Int) - 11)
  · cases hR : rpS (((min len 1000 : Nat) : Int) - 11)
    · exact reads_nn l s len cap w lb hO hR
    · cases hE : (decide ((l.take (min len 1000)).getD 0 0 = 3) && pkE (l.take (min len 1000)))
      · exact reads_nb l s len cap w lb hO hR hE
      · exact reads_ng l s len cap w lb hO hR hE
  · cases hE : (decide ((l.take (min len 1000)).getD 0 0 = 2) && pkE (l.take (min len 1000)))
    · exact reads_bn l s len cap w lb hO (on_rp hO) hE
    · exact reads_gn l s len cap w lb hO (on_rp hO) hE
end Go.Proofs.Ytfmocneoffkmpaa
