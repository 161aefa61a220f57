/-
  Parts in memory of their own; Extract.
-/
import Derived.Test.YthnmebhljkccnaaDoorKdfI
namespace Go.Proofs.YthnmebhljkccnaaDoor
open Go.RowKit
set_option maxRecDepth 100000
set_option linter.unusedSimpArgs false
set_option linter.unusedVariables false

theorem Tryd.infoB : (Tryd.prog.info? 22).map (fun i => (i.zero, i.size, i.bytes)) = some (some (.slice none 0 0), 1, 24) := by kernel_rfl
/-- a row of lists that the call itself has made -/
def Ov (b : Nat) (w : World) (v : Value) (xs : List Value) : Prop := w.ownsRow b 22 1 v xs.length xs
theorem Ov.gr {b : Nat} {w u : World} {v : Value} {xs : List Value} (h : Ov b w v xs) (k : Gr w u) : Ov b u v xs := by
  obtain ⟨h1, h2 | ⟨g, cap, cur, h2, h3, h4, h5⟩⟩ := h
  · exact ⟨h1, .inl h2⟩
  · exact ⟨h1, .inr ⟨g, cap, cur, h2, h3, k.blk h4, h5⟩⟩
theorem Ov.grown {b : Nat} {w u u' : World} {v : Value} {xs : List Value} (h : Ov b u v xs) (hb : w.heap.size ≤ b) (k : Gr w u) (g : u.grownBy u' v.ownBlock) : Gr w u' := by
  refine ⟨g.os.trans k.os, g.tape.trans k.tape, g.output.trans k.output, Nat.le_trans k.size g.size, fun i hi => (g.block i (Nat.lt_of_lt_of_le hi k.size) ?_).trans (k.block i hi)⟩
  intro e
  have := (World.ownsRow.lt h i e.symm).1
  omega
/-- a list of bytes stays while the row is written: their blocks are of two types -/
theorem Ob.beside {b b' : Nat} {u u' : World} {v x : Value} {L : List Int} {xs : List Value} (h : Ob b u v L) (k : Ov b' u x xs) (g : u.grownBy u' x.ownBlock) : Ob b u' v L := by
  obtain ⟨h1, h2 | ⟨p, cap, cur, h2, h3, h4, h5⟩⟩ := h
  · exact ⟨h1, .inl h2⟩
  · refine ⟨h1, .inr ⟨p, cap, cur, h2, h3, ?_, h5⟩⟩
    rw [g.block p (lt_of_block h4) ?_]
    · exact h4
    · intro e
      rcases k.2 with ⟨k1, _⟩ | ⟨q, cap2, cur2, k1, _, k3, _⟩
      · rw [k1] at e; cases e
      · rw [k1] at e
        have e2 : q = p := by simpa [Value.ownBlock] using e.symm
        rw [e2, h4] at k3
        have k4 := Option.some.inj k3
        simp at k4
theorem app_row {w : World} {ops : Array Oper} {rest : List Oper} {o : Oper} {a : Act} {Q : Exit → Act → World → Prop} (hgd : o.guard = none) (s x : Operand)
    (ho : o.op = .call { callee := .builtin .append, args := #[s, x], argTypes := #[23, 23] }) (b : Nat) (v : Value) (xs : List Value) (hs : a.eval s = v) (hown : Ov b w v xs)
    (g : Nat) (y : Value) (t : TypeId) (hx : a.eval x = .slice (some ⟨g, 0, none⟩) 1 1) (hg : w.heap[g]? = some (.cells #[y] t (0, 0))) (hy : y.oneCell' = true) (hbig : xs.length ≤ 1000000) (hB : b ≤ w.heap.size)
    (h : ∀ v' w', Ov b w' v' (xs ++ [y]) → w.grownBy w' v.ownBlock → wpList Tryd.prog ops Q rest (a.put o.dst v') w') :
    wpList Tryd.prog ops Q (o :: rest) a w := by
  obtain ⟨i0, hi, hz0, hz1, hz2⟩ := info_parts Tryd.infoB
  refine wpList_append_own_wide w hgd s x 23 ho b 22 i0 (.slice none 0 0) 1 24 Tryd.underlying23 hi hz0 hz1 hz2 rfl (by decide) v xs.length xs hs hown ⟨g, 0, none⟩ 1 1 [y] hx rfl ?_ ?_ (by unfold maxLen; omega) (by omega) hB ?_
  · intro j u hj
    have hj0 : j = 0 := by have := (List.getElem?_eq_some_iff.1 hj).1; simp at this; exact this
    subst hj0
    have hu : y = u := by simpa using hj
    subst hu
    rw [Addr.add_mid]
    exact cell_of hg rfl
  · intro u hu
    have : u = y := by simpa using hu
    subst this
    exact hy
  · intro v' w' h1 h2 _
    refine h v' w' ?_ h2
    unfold Ov
    rw [List.length_append]
    exact h1
/-- the first k parts, copied -/
structure CI (w : World) (ps : List (List Int)) (k : Nat) (v3 : Value) (xs : List Value) (v : World) : Prop where
  ov : Ov w.heap.size v v3 xs
  len : xs.length = k
  ea : ∀ j, j < k → ∃ a n c, xs[j]? = some (.slice a n c) ∧ Ob w.heap.size v (.slice a n c) (ps.getD j [])
  gr : Gr w v
theorem CI.more {w : World} {ps : List (List Int)} {k : Nat} {v3 : Value} {xs : List Value} {u v : World} (h : CI w ps k v3 xs u) (g : Gr u v) : CI w ps k v3 xs v :=
  ⟨h.ov.gr g, h.len, fun j hj => by obtain ⟨a, n, c, h1, h2⟩ := h.ea j hj; exact ⟨a, n, c, h1, h2.gr g⟩, h.gr.trans g⟩
def Copd (ps : List (List Int)) (w : World) (r : Ending) (w' : World) : Prop := ∃ a c, r = .returned (.slice a ps.length c) ∧ Pr w' a ps ∧ Gr w w'
theorem CI.done {w : World} {ps : List (List Int)} {k : Nat} {v3 : Value} {xs : List Value} {v : World} (h : CI w ps k v3 xs v) (hk : ps.length = k) (hb : ∀ p ∈ ps, IsB p) : ∃ a c, v3 = .slice a k c ∧ Pr v a ps := by
  rcases h.ov.2 with ⟨h1, h2⟩ | ⟨g, cap, cur, h1, h2, h3, h4, h5, h6, h7⟩
  · have h0 : k = 0 := by rw [← h.len]; exact h2
    subst h0
    exact ⟨none, 0, h1, .inl (List.eq_nil_of_length_eq_zero hk)⟩
  · rw [h.len] at h1 h7 h4
    refine ⟨_, cap, h1, .inr ⟨g, 0, rfl, fun j hj => ?_⟩⟩
    obtain ⟨a, n, c, h8, h9⟩ := h.ea j (by omega)
    obtain ⟨a2, c2, e2, h10, h11, h12⟩ := h9.slice
    obtain ⟨rfl, rfl, rfl⟩ := (Value.slice.injEq _ _ _ _ _ _).mp e2
    refine ⟨a, _, c, ?_, rfl, hb _ (by rw [List.getD_eq_getElem?_getD, List.getElem?_eq_getElem hj]; exact List.getElem_mem _), h12, h10, by unfold maxLen at h11; omega⟩
    rw [Nat.zero_add]
    refine cell_of h3 ?_
    rw [← Array.getElem?_toList]
    rw [← h7, Nat.mul_one, List.getElem?_take, if_pos (by omega)] at h8
    exact h8
set_option maxHeartbeats 2000000 in
theorem copied_ok (ps : List (List Int)) (ap : Option Addr) (m cp : Nat) (hm : ps.length = m) (hmb : m ≤ 1000) (hbig : ps.flatten.length ≤ 100000) (w : World) (hP : Pr w ap ps) : Calls Tryd.prog 14 #[.slice ap m cp] w (Copd ps w) := by
  obtain ⟨T, hT⟩ : ∃ T, T = Copd ps w := ⟨_, rfl⟩
  rw [← hT]
  have hPb := hide hP.isB
  replace hT := hide hT
  replace hP := hide hP
  replace hm := hide hm
  replace hbig := hide hbig
  have hC : Hid (CI w ps 0 (.slice none 0 0) [] w) := ⟨⟨rfl, .inl ⟨rfl, rfl⟩⟩, rfl, (fun j hj => by omega), Gr.refl w⟩
  go_enter Tryd.func14, Tryd.ntmps14
  go_wp2_with fail
  go_loopw [3, 8] (fun x i wr => ∃ (k : Nat) (a3 : Option Addr) (c3 : Nat) (xs : List Value), k ≤ m ∧ i = .int .i64 k ∧ x = .slice a3 k c3 ∧ Hid (CI w ps k (.slice a3 k c3) xs wr)) (fun _ i _ => m - (intOf i).toNat)
  case atStart => exact ⟨0, none, 0, [], by omega, rfl, rfl, hC⟩
  case round =>
  clear hC
  obtain ⟨k, a3, c3, xs, hk, rfl, rfl, hC⟩ := hrel
  by_cases hl : k < m
  · have kI : (k : Int) < (m : Int) := by omega
    have kJ : 0 ≤ (k : Int) ∧ (k : Int) < (m : Int) := by omega
    obtain ⟨p, o, rfl, hq⟩ : ∃ p o, ap = some ⟨p, o, none⟩ ∧ Pq w p o ps := by
      rcases (unhide hP) with h | ⟨p, o, h1, h2⟩
      · have := unhide hm; rw [h] at this; simp at this; omega
      · exact ⟨p, o, h1, h2⟩
    obtain ⟨aP, nP, cP, cc, hPl, hPb2, hPs, hPc, hPm⟩ := hq k (by rw [unhide hm]; exact hl)
    replace cc := (unhide hC).gr.cell cc
    clear hq
    have hle := flat_le ps (k + 1)
    have hb4 := unhide hbig
    rw [flat_next ps k (by rw [unhide hm]; exact hl), List.length_append, hPl] at hle
    have hnP : nP ≤ 100000 := by omega
    clear hle hb4
    obtain ⟨P, hPd⟩ : ∃ P, P = ps.getD k [] := ⟨_, rfl⟩
    rw [← hPd] at hPl hPb2 hPs
    replace hPd := hide hPd
    replace hPs := hide hPs
    replace hPb2 := hide hPb2
    replace hPl := hide hPl
    go_upto_region 5 with fail
    refine wp_region_lit ?_
    iterate 1 (refine wpList_step fun K hK => ?_; replace hK := hide hK; go_simp; refine unhide hK _ _ ?_; clear hK K)
    refine list_valw (.slice (some ⟨wr.heap.size, 0, none⟩) 0 0) (wr.alloc (.cells (kc []) 5 (0, 0))) (by kernel_rfl) (by kernel_rfl) ?_
    simp only [Act.put, List.setIfInBounds_toArray, List.set_cons_zero, List.set_cons_succ, List.getElem_toArray, List.getElem_cons_zero, List.getElem_cons_succ]
    have hO := blk_bytes (w := wr) (b := wr.heap.size) [] (Nat.le_refl _) (by simp)
    replace hO : Ob wr.heap.size (wr.alloc (.cells (kc []) 5 (0, 0))) (.slice (some ⟨wr.heap.size, 0, none⟩) 0 0) [] := hO
    have hg := (Gr.refl wr).alloc (.cells (kc []) 5 (0, 0))
    generalize World.alloc _ _ = v1 at *
    replace hO := hide hO
    replace hg := hide hg
    iterate 1 (refine wpList_step fun K hK => ?_; replace hK := hide hK; go_simp; refine unhide hK _ _ ?_; clear hK K)
    refine app_bs (by kernel_rfl) (.tmp 13) (.tmp 14) rfl wr.heap.size _ [] (by kernel_rfl) (unhide hO) aP nP cP P (by kernel_rfl) (unhide hPl) ((unhide hPs).gr ((unhide hC).gr.trans (unhide hg))) (by simp; omega) (unhide hg).size ?_
    intro x2 v2 hO2 hgb
    have hg2 := (unhide hO).grown (Nat.le_refl _) (unhide hg) hgb
    rw [List.nil_append] at hO2
    clear hO hg hgb
    have hC2 := (unhide hC).more hg2
    have hwsz := (unhide hC).gr.size
    clear hC hg2
    simp only [Act.put, List.setIfInBounds_toArray, List.set_cons_zero, List.set_cons_succ, List.getElem_toArray, List.getElem_cons_zero, List.getElem_cons_succ]
    obtain ⟨a2, c2, rfl, h10, h11, h12⟩ := hO2.slice
    rw [unhide hPl] at hO2
    rw [unhide hPl]
    clear h10 h11 h12
    replace hO2 := hO2.up hwsz
    refine list_valw (.slice (some ⟨v2.heap.size, 0, none⟩) 1 1) (v2.alloc (.cells #[.slice a2 nP c2] 22 (0, 0))) (by kernel_rfl) (by kernel_rfl) ?_
    simp only [Act.put, List.setIfInBounds_toArray, List.set_cons_zero, List.set_cons_succ, List.getElem_toArray, List.getElem_cons_zero, List.getElem_cons_succ]
    have hg := (Gr.refl v2).alloc (.cells #[.slice a2 nP c2] 22 (0, 0))
    have hnew := blk_new v2 (.cells #[.slice a2 nP c2] 22 (0, 0))
    replace hC2 := hC2.more hg
    replace hO2 := hO2.gr hg
    generalize World.alloc _ _ = v3 at *
    generalize v2.heap.size = g3 at *
    clear hg hwsz
    refine app_row rfl (.tmp 12) (.tmp 16) rfl w.heap.size (.slice a3 k c3) xs (by kernel_rfl) hC2.ov g3 (.slice a2 nP c2) 22 (by kernel_rfl) hnew rfl (by rw [hC2.len]; omega) hC2.gr.size ?_
    intro x4 v4 hV hgb
    have hG4 := hC2.ov.grown (Nat.le_refl _) hC2.gr hgb
    have hC4 : CI w ps (k + 1) x4 (xs ++ [.slice a2 nP c2]) v4 := by
      refine ⟨hV, by rw [List.length_append, hC2.len]; rfl, ?_, hG4⟩
      intro j hj
      by_cases hjk : j < k
      · obtain ⟨a, n, c, h1, h2⟩ := hC2.ea j hjk
        exact ⟨a, n, c, by rw [List.getElem?_append_left (by rw [hC2.len]; exact hjk)]; exact h1, h2.beside hC2.ov hgb⟩
      · have hjk2 : j = k := by omega
        subst hjk2
        refine ⟨a2, nP, c2, by rw [List.getElem?_append_right (by rw [hC2.len]; omega), hC2.len]; simp, ?_⟩
        rw [← unhide hPd]
        exact hO2.beside hC2.ov hgb
    clear hC2 hO2 hgb hnew hG4 hV
    obtain ⟨a5, c5, rfl⟩ : ∃ a5 c5, x4 = .slice a5 (k + 1) c5 := by
      rcases hC4.ov.2 with ⟨h1, h2⟩ | ⟨g, cap, cur, h1, _⟩
      · rw [hC4.len] at h2; omega
      · rw [hC4.len] at h1; exact ⟨_, _, h1⟩
    simp only [Act.put, List.setIfInBounds_toArray, List.set_cons_zero, List.set_cons_succ, List.getElem_toArray, List.getElem_cons_zero, List.getElem_cons_succ]
    replace hC4 := hide hC4
    iterate 1 (refine wpList_step fun K hK => ?_; replace hK := hide hK; go_simp; refine unhide hK _ _ ?_; clear hK K)
    refine wpList_nil ?_
    go_wp2_with fail
    go_roundw
    case rel => exact ⟨k + 1, a5, c5, _, by omega, by go_num, rfl, hC4⟩
    case measure => simp [intOf]; omega
  · have e : k = m := by omega
    subst e
    have hPd : Hid (Copd ps w (.returned (.slice a3 k c3)) wr) := by
      obtain ⟨a, c, e, hp⟩ := (unhide hC).done (unhide hm) (unhide hPb)
      obtain ⟨rfl, _, rfl⟩ := (Value.slice.injEq _ _ _ _ _ _).mp e
      exact ⟨a3, c3, by rw [unhide hm], hp, (unhide hC).gr⟩
    clear hC
    go_wp2_with fail
    rw [unhide hT]
    exact unhide hPd
set_option maxHeartbeats 1000000 in
theorem extract_ok (A X : List Int) (a b : Option Addr) (n c m d : Nat) (hnb : n ≤ 1000000) (hmb : m ≤ 1000000) (w : World) (hF : Fst w) (hA : Lb w a n c A) (hX : Lb w b m d X) : Calls Tryd.prog 15 #[.slice a n c, .slice b m d] w (Coded A X w) := by
  obtain ⟨T, hT⟩ : ∃ T, T = Coded A X w := ⟨_, rfl⟩
  rw [← hT]
  replace hT := hide hT
  replace hF := hide hF
  replace hA := hide hA
  replace hX := hide hX
  go_enter Tryd.func15, Tryd.ntmps15
  go_upto_region 1 with fail
  have hB := (Bl.nil w).new #[.int .u8 0, .int .u8 0, .int .u8 0, .int .u8 0, .int .u8 0, .int .u8 0, .int .u8 0, .int .u8 0, .int .u8 0, .int .u8 0, .int .u8 0, .int .u8 0, .int .u8 0, .int .u8 0, .int .u8 0, .int .u8 0, .int .u8 0, .int .u8 0, .int .u8 0, .int .u8 0, .int .u8 0, .int .u8 0, .int .u8 0, .int .u8 0, .int .u8 0, .int .u8 0, .int .u8 0, .int .u8 0, .int .u8 0, .int .u8 0, .int .u8 0, .int .u8 0] 28
  simp only [List.nil_append] at hB
  generalize World.alloc _ _ = u1 at *
  replace hB : Bl w [⟨w.heap.size, kc Z32, 28⟩] u1 := hB
  refine wp_region_lit ?_
  replace hB := hide hB
  iterate 2 (refine wpList_step fun K hK => ?_; replace hK := hide hK; go_simp; refine unhide hK _ _ ?_; clear hK K)
  refine list_valw (.slice (some ⟨u1.heap.size, 0, none⟩) 1 1) (u1.alloc (.cells #[.slice b m d] 22 (0, 0))) (by kernel_rfl) (by kernel_rfl) ?_
  simp only [Act.put, List.setIfInBounds_toArray, List.set_cons_zero, List.set_cons_succ, List.getElem_toArray, List.getElem_cons_zero, List.getElem_cons_succ]
  have hg := (Gr.refl u1).alloc (.cells #[.slice b m d] 22 (0, 0))
  have hnew := blk_new u1 (.cells #[.slice b m d] 22 (0, 0))
  replace hB := (unhide hB).more hg
  generalize World.alloc _ _ = u2 at *
  generalize u1.heap.size = g2 at *
  clear hg
  have lA := (unhide hA).gr hB.gr
  refine list_call 13 #[.slice a n c, .slice (some ⟨g2, 0, none⟩) 1 1] (by kernel_rfl) (by kernel_rfl) ((hmac_ok A lA.isB n lA.len (by omega) a c lA.cap lA.max [X] _ 1 1 rfl (by omega) (by have := (unhide hX).len; simp; omega) _ ((unhide hF).gr hB.gr) lA.sl (Pr.one hnew ((unhide hX).gr hB.gr))).mono ?_)
  rintro r u3 ⟨rfl, hg⟩
  refine ⟨_, rfl, ?_⟩
  rw [show ([X] : List (List Int)).flatten = X by simp]
  replace hB := hB.more hg
  clear hg hnew lA
  simp only [Act.put, List.setIfInBounds_toArray, List.set_cons_zero, List.set_cons_succ, List.getElem_toArray, List.getElem_cons_zero, List.getElem_cons_succ]
  have hRl : (hmacL A X).length = 32 := hmacL_len _ _
  obtain ⟨R, hR⟩ : ∃ R, R = hmacL A X := ⟨_, rfl⟩
  rw [← hR] at hRl
  rw [← hR]
  refine list_store 28 (.tmp 4) (.tmp 8) w.heap.size (kc R) 28 (kc Z32) (by kernel_rfl) rfl (by kernel_rfl) (by kernel_rfl) (hB.get 0 (x := ⟨w.heap.size, kc Z32, 28⟩) rfl) (by rw [Tryd.infoKey, kc_size, hRl]) ((show (kc Z32).size = 32 from rfl).trans ((kc_size _).trans hRl).symm) (kc_one _) ?_
  replace hB := hB.set 0 (x := ⟨w.heap.size, kc Z32, 28⟩) rfl (kc R)
  simp only [List.set_cons_zero, List.set_cons_succ] at hB
  generalize World.setRow _ _ _ = u4 at *
  simp only [Act.put, List.setIfInBounds_toArray, List.set_cons_zero, List.set_cons_succ, List.getElem_toArray, List.getElem_cons_zero, List.getElem_cons_succ]
  refine wpList_nil ?_
  go_wp2_with fail
  rw [unhide hT]
  exact bodyPost_ret (v := .agg (kc R)) (results_cell_row Tryd.results15 _ _ w.heap.size 28 (kc R) (0, 0) _ rfl (hB.get 0 (x := ⟨w.heap.size, kc R, 28⟩) rfl) Tryd.underlying28 rfl (by rw [Tryd.infoKey, kc_size, hRl])) rfl ⟨by rw [hR], hB.gr⟩
end Go.Proofs.YthnmebhljkccnaaDoor
