/-
  The code of whatever key and parts is the document's: the walk.
-/
import Derived.Test.YthnmebhljkccnaaDoorKdfJ
namespace Go.Proofs.YthnmebhljkccnaaDoor
open Go.RowKit
set_option maxRecDepth 100000
set_option linter.unusedSimpArgs false
set_option linter.unusedVariables false

/-- append, as an operation of a region that draws its order -/
theorem app_op {w : World} {o : Oper} {a : Act} {K : Act → World → Prop} {Q : Exit → Act → World → Prop} (s x : Operand)
    (ho : o.op = .call { callee := .builtin .append, args := #[s, x], argTypes := #[22, 22] }) (b : Nat) (v : Value) (L : List Int) (hs : a.eval s = v) (hown : Ob b w v L)
    (sp : Option Addr) (n sc : Nat) (l : List Int) (hx : a.eval x = .slice sp n sc) (hn : l.length = n) (hsl : Sl w sp l) (hbig : L.length + n ≤ 180000000000000) (hB : b ≤ w.heap.size)
    (h : ∀ v' w', Ob b w' v' (L ++ l) → w.grownBy w' v.ownBlock → K (a.put o.dst v') w') : o.wp Tryd.prog a w K Q := by
  subst hn
  obtain ⟨i0, hi, hz0, hz1, hz2⟩ := info_parts Tryd.info5
  rcases hsl with rfl | ⟨p, q, rfl, hat⟩
  · obtain ⟨a', c', rfl, hc, _, _⟩ := hown.slice
    have hrun : (Builtin.append_ #[22, 22] o.type #[.slice a' L.length c', .slice sp 0 sc]).run Tryd.prog w = .ok (.slice a' L.length c') w := by
      cases a' <;> cases sp <;> simp [Builtin.append_, run_underlying Tryd.underlying22, sizeOf, typeInfo, hi, Builtin.lenOf, Builtin.firstCells, loadCells, loadCellsFrom, storeCells, hc]
    unfold Oper.wp
    simp [execOp, ho, resolve, invoke, builtin, hs, hx, hrun, Result.andThen]
    exact h _ _ (by rw [List.append_nil]; exact hown) (World.grownBy.refl _ _)
  · refine wp_append_own_wide w s x 22 ho b 5 i0 (.int .u8 0) 1 1 Tryd.underlying22 hi hz0 hz1 hz2 rfl (by decide) v L.length _ hs hown ⟨p, q, none⟩ l.length sc (l.map (Value.int .u8)) hx (by simp) ?_ ?_ (by unfold maxLen; omega) (by omega) hB ?_
    · intro j u hj
      have hjl : j < l.length := by have := (List.getElem?_eq_some_iff.1 hj).1; simpa using this
      rw [Addr.add_mid, hat j hjl]
      simp [hjl] at hj ⊢
      exact hj
    · intro u hu
      obtain ⟨y, _, rfl⟩ := List.mem_map.1 hu
      rfl
    · intro v' w' h1 h2 _
      refine h v' w' ?_ h2
      unfold Ob
      rw [List.length_append, List.map_append]
      exact h1
/-- where bytes lie, if there are any -/
theorem Lb.old {w : World} {a : Option Addr} {n c : Nat} {D : List Int} (h : Lb w a n c D) : ∀ y, a = some y → y.block < w.heap.size ∨ D = [] := by
  intro y hy
  rcases h.sl with h1 | ⟨p, o, e, h2⟩
  · exact .inr h1
  · by_cases h0 : D = []
    · exact .inr h0
    · rw [e] at hy
      have hy2 : y = ⟨p, o, none⟩ := (Option.some.inj hy).symm
      have := lt_of_cell (h2 0 (by cases hh : D with | nil => exact absurd hh h0 | cons x r => simp))
      rw [hy2]
      exact .inl this
theorem Lb.app2 {u v : World} {b : Nat} {x : Value} {L D : List Int} {a : Option Addr} {n c : Nat} (h : Lb u a n c D) (hold : ∀ y, a = some y → y.block < b ∨ D = []) (ho : Ob b u x L) (k : u.grownBy v x.ownBlock) : Lb v a n c D := by
  refine ⟨h.len, h.isB, ?_, h.cap, h.max⟩
  rcases h.sl with h1 | ⟨p, o, h1, h2⟩
  · exact .inl h1
  · rcases hold _ h1 with h3 | h3
    · refine .inr ⟨p, o, h1, fun j hj => ?_⟩
      have h4 := h2 j hj
      dsimp only at h3
      rw [cell_heap (k.block p (lt_of_cell h4) (fun e => by have := (World.ownsRow.lt ho _ e.symm).1; omega))]
      exact h4
    · exact .inl h3
set_option maxHeartbeats 4000000 in
theorem codes_ok (A : List Int) (a : Option Addr) (n c : Nat) (ps : List (List Int)) (ap : Option Addr) (m cp : Nat) (hm : ps.length = m) (hmb : m ≤ 140737488351232) (hps : ∀ p ∈ ps, p.length ≤ 140737488351232) (hnb : n ≤ 140737488351232) (w : World) (hF : Fst w) (hA : Lb w a n c A) (hP : Pr w ap ps) :
    Calls Tryd.prog 3 #[.slice a n c, .slice ap m cp] w (Woke w) := by
  obtain ⟨T, hT⟩ : ∃ T, T = Woke w := ⟨_, rfl⟩
  rw [← hT]
  replace hT := hide hT
  replace hF := hide hF
  have la := hide hA.len
  replace hA := hide hA
  replace hP := hide hP
  replace hm := hide hm
  replace hps := hide hps
  go_enter Tryd.func3, Tryd.ntmps3
  go_upto_region 3 with (go_at_call 9; refine (wakes_ok _ (unhide hF)).mono ?_; rintro e u1 ⟨rfl, hG⟩)
  replace hG := hide hG
  refine wp_region_lit ?_
  iterate 1 (refine wpList_step fun K hK => ?_; replace hK := hide hK; go_simp; refine unhide hK _ _ ?_; clear hK K)
  refine list_call 10 #[.slice ap m cp] (by kernel_rfl) (by kernel_rfl) ((small_ok ps ap m cp (unhide hm) hmb (unhide hps) _ ((unhide hP).gr (unhide hG))).mono ?_)
  rintro r u2 ⟨b1, rfl, hs1, _, rfl⟩
  refine ⟨_, rfl, ?_⟩
  simp only [Act.put, List.setIfInBounds_toArray, List.set_cons_zero, List.set_cons_succ, List.getElem_toArray, List.getElem_cons_zero, List.getElem_cons_succ]
  cases b1
  · clear hs1
    iterate 7 (refine wpList_step fun K hK => ?_; replace hK := hide hK; go_simp; refine unhide hK _ _ ?_; clear hK K)
    refine wpList_nil ?_
    go_wp2_with fail
    rw [unhide hT]
    exact ⟨rfl, unhide hG⟩
  replace hs1 := hs1 rfl
  iterate 3 (refine wpList_step fun K hK => ?_; replace hK := hide hK; go_simp; refine unhide hK _ _ ?_; clear hK K)
  refine list_valw (.slice (some ⟨u2.heap.size, 0, none⟩) 1 1) (u2.alloc (.cells #[.slice a n c] 22 (0, 0))) (by kernel_rfl) (by kernel_rfl) ?_
  simp only [Act.put, List.setIfInBounds_toArray, List.set_cons_zero, List.set_cons_succ, List.getElem_toArray, List.getElem_cons_zero, List.getElem_cons_succ]
  have hg := (Gr.refl u2).alloc (.cells #[.slice a n c] 22 (0, 0))
  have hnew := blk_new u2 (.cells #[.slice a n c] 22 (0, 0))
  replace hG := hide ((unhide hG).trans hg)
  generalize World.alloc _ _ = u3 at *
  generalize u2.heap.size = g3 at *
  clear hg
  refine list_call 10 #[.slice (some ⟨g3, 0, none⟩) 1 1] (by kernel_rfl) (by kernel_rfl) ((small_ok [A] (some ⟨g3, 0, none⟩) 1 1 rfl (by omega) (by intro p hp; simp at hp; subst hp; rw [unhide la]; exact hnb) _ (Pr.one hnew ((unhide hA).gr (unhide hG)))).mono ?_)
  rintro r u4 ⟨b2, rfl, hs2, _, rfl⟩
  refine ⟨_, rfl, ?_⟩
  clear hnew
  simp only [Act.put, List.setIfInBounds_toArray, List.set_cons_zero, List.set_cons_succ, List.getElem_toArray, List.getElem_cons_zero, List.getElem_cons_succ]
  cases b2
  · clear hs2
    iterate 2 (refine wpList_step fun K hK => ?_; replace hK := hide hK; go_simp; refine unhide hK _ _ ?_; clear hK K)
    refine wpList_nil ?_
    go_wp2_with fail
    rw [unhide hT]
    exact ⟨rfl, unhide hG⟩
  replace hs2 := (hs2 rfl).1
  have hn4 : n ≤ 4096 := by rw [show ([A] : List (List Int)).flatten = A by simp, unhide la] at hs2; exact hs2
  have hm4 : m ≤ 100 := by rw [← unhide hm]; exact hs1.2
  have hfl := hide hs1.1
  clear hs1 hs2
  iterate 2 (refine wpList_step fun K hK => ?_; replace hK := hide hK; go_simp; refine unhide hK _ _ ?_; clear hK K)
  refine wpList_nil ?_
  go_upto_region 5 with fail
  refine wp_region_lit ?_
  iterate 1 (refine wpList_step fun K hK => ?_; replace hK := hide hK; go_simp; refine unhide hK _ _ ?_; clear hK K)
  refine list_call 11 #[.slice ap m cp] (by kernel_rfl) (by kernel_rfl) ((join_ok ps ap m cp (unhide hm) (by omega) (by have := unhide hfl; omega) _ ((unhide hP).gr (unhide hG))).mono ?_)
  rintro r u5 ⟨v5, rfl, hO, hg⟩
  refine ⟨_, rfl, ?_⟩
  have hXb : IsB ps.flatten := by have := (unhide hP).isB' ps.length; rw [List.take_of_length_le (Nat.le_refl _)] at this; exact this
  obtain ⟨a5, c5, rfl, l5⟩ := hO.lb hXb
  replace hG := hide ((unhide hG).trans hg)
  clear hO hg hXb
  obtain ⟨X, hX⟩ : ∃ X, X = ps.flatten := ⟨_, rfl⟩
  rw [← hX] at l5 hfl
  rw [← hX]
  obtain ⟨n5, hn5⟩ : ∃ n5, n5 = X.length := ⟨_, rfl⟩
  have hn5b : n5 ≤ 4096 := by rw [hn5]; exact unhide hfl
  rw [← hn5] at l5
  rw [← hn5]
  replace hX := hide hX
  replace hn5 := hide hn5
  simp only [Act.put, List.setIfInBounds_toArray, List.set_cons_zero, List.set_cons_succ, List.getElem_toArray, List.getElem_cons_zero, List.getElem_cons_succ]
  replace l5 := hide l5
  iterate 1 (refine wpList_step fun K hK => ?_; replace hK := hide hK; go_simp; refine unhide hK _ _ ?_; clear hK K)
  refine wpList_nil ?_
  go_upto_region 6 with fail
  refine wp_region_lit ?_
  iterate 2 (refine wpList_step fun K hK => ?_; replace hK := hide hK; go_simp; refine unhide hK _ _ ?_; clear hK K)
  refine list_call 12 #[.slice a n c, .slice a5 n5 c5] (by kernel_rfl) (by kernel_rfl) ((rhmac_ok A X a a5 n c n5 c5 (by omega) (by omega) _ ((unhide hA).gr (unhide hG)) (unhide l5)).mono ?_)
  rintro r u6 ⟨rfl, hg⟩
  refine ⟨_, rfl, ?_⟩
  replace hG := hide ((unhide hG).trans hg)
  replace l5 := hide ((unhide l5).gr hg)
  clear hg
  simp only [Act.put, List.setIfInBounds_toArray, List.set_cons_zero, List.set_cons_succ, List.getElem_toArray, List.getElem_cons_zero, List.getElem_cons_succ]
  obtain ⟨kk, hkk0⟩ : ∃ kk, kk = hmacL A X := ⟨_, rfl⟩
  have hkk : kk.length = 32 := by rw [hkk0]; exact hmacL_len _ _
  rw [← hkk0]
  replace hkk0 := hide hkk0
  iterate 1 (refine wpList_step fun K hK => ?_; replace hK := hide hK; go_simp; refine unhide hK _ _ ?_; clear hK K)
  have hL := (Bl.nil u6).new #[.int .u8 0, .int .u8 0, .int .u8 0, .int .u8 0, .int .u8 0, .int .u8 0, .int .u8 0, .int .u8 0, .int .u8 0, .int .u8 0, .int .u8 0, .int .u8 0, .int .u8 0, .int .u8 0, .int .u8 0, .int .u8 0, .int .u8 0, .int .u8 0, .int .u8 0, .int .u8 0, .int .u8 0, .int .u8 0, .int .u8 0, .int .u8 0, .int .u8 0, .int .u8 0, .int .u8 0, .int .u8 0, .int .u8 0, .int .u8 0, .int .u8 0, .int .u8 0] 28
  simp only [List.nil_append] at hL
  generalize World.alloc _ _ = u7 at *
  replace hL : Bl u6 [⟨u6.heap.size, kc Z32, 28⟩] u7 := hL
  refine list_store 28 (.tmp 6) (.tmp 22) u6.heap.size (kc kk) 28 (kc Z32) (by kernel_rfl) rfl (by kernel_rfl) (by kernel_rfl) (hL.get 0 (x := ⟨u6.heap.size, kc Z32, 28⟩) rfl) (by rw [Tryd.infoKey, kc_size, hkk]) ((show (kc Z32).size = 32 from rfl).trans ((kc_size _).trans hkk).symm) (kc_one _) ?_
  replace hL := hL.set 0 (x := ⟨u6.heap.size, kc Z32, 28⟩) rfl (kc kk)
  simp only [List.set_cons_zero, List.set_cons_succ] at hL
  generalize World.setRow _ _ _ = u8 at *
  simp only [Act.put, List.setIfInBounds_toArray, List.set_cons_zero, List.set_cons_succ, List.getElem_toArray, List.getElem_cons_zero, List.getElem_cons_succ]
  refine wpList_nil ?_
  have hk := hL.get 0 (x := ⟨u6.heap.size, kc kk, 28⟩) rfl
  dsimp only at hk
  replace hG := hide ((unhide hG).trans hL.gr)
  replace l5 := hide ((unhide l5).gr hL.gr)
  generalize u6.heap.size = gk at *
  clear hL
  go_upto_region 7 with fail
  refine any_start (S := fun v => v.heap[gk]? = some (.cells (kc kk) 28 (0, 0))) (by kernel_rfl) ?_
  have hg := (Gr.refl u8).drew
  generalize World.drew _ = u9 at *
  replace hG := hide ((unhide hG).trans hg)
  replace l5 := hide ((unhide l5).gr hg)
  replace hk := hg.blk hk
  clear hg
  simp only [List.size_toArray, List.length_cons, List.length_nil, Array.replicate, List.replicate]
  refine any_take (i := 1) (v := (.slice a n c)) #[false, false, false, false, false, false, false, false, false, false, false, false, false, false, false, false] rfl (by kernel_rfl) (by kernel_rfl) (by kernel_rfl) (by kernel_rfl) (fun _ _ _ h => h) (.inl ⟨by kernel_rfl, fun x_ hu => by kernel_rfl⟩) hk ?_
  simp only [Act.put, List.setIfInBounds_toArray, List.set_cons_zero, List.set_cons_succ, List.getElem_toArray, List.getElem_cons_zero, List.getElem_cons_succ]
  refine any_take (i := 3) (v := (.slice ap m cp)) #[false, true, false, false, false, false, false, false, false, false, false, false, false, false, false, false] rfl (by kernel_rfl) (by kernel_rfl) (by kernel_rfl) (by kernel_rfl) (fun _ _ _ h => h) (.inl ⟨by kernel_rfl, fun x_ hu => by kernel_rfl⟩) hk ?_
  simp only [Act.put, List.setIfInBounds_toArray, List.set_cons_zero, List.set_cons_succ, List.getElem_toArray, List.getElem_cons_zero, List.getElem_cons_succ]
  refine any_take (i := 6) (v := (.agg (kc kk))) #[false, true, false, true, false, false, false, false, false, false, false, false, false, false, false, false] rfl (by kernel_rfl) (by kernel_rfl) (by kernel_rfl) (by kernel_rfl) (fun _ _ _ h => h) (.inl ⟨by kernel_rfl, fun x_ hu => exec_arr x_ 28 (.tmp 6) rfl gk (by kernel_rfl) (kc kk) 28 _ hu Tryd.underlying28 rfl (by rw [Tryd.infoKey, kc_size, hkk])⟩) hk ?_
  simp only [Act.put, List.setIfInBounds_toArray, List.set_cons_zero, List.set_cons_succ, List.getElem_toArray, List.getElem_cons_zero, List.getElem_cons_succ]
  refine any_one (i := 0) (by kernel_rfl) rfl (fun K hK => ?_)
  have hO := blk_bytes (w := u9) (b := u9.heap.size) [] (Nat.le_refl _) (by simp)
  replace hO : Ob u9.heap.size (u9.alloc (.cells (kc []) 5 (0, 0))) (.slice (some ⟨u9.heap.size, 0, none⟩) 0 0) [] := hO
  have hg := (Gr.refl u9).alloc (.cells (kc []) 5 (0, 0))
  have hgs := hg.size
  have hw9 : w.heap.size ≤ u9.heap.size := (unhide hG).size
  have hlt9 := lt_of_block hk
  have ol5 := hide (unhide l5).old
  refine step_val (.slice (some ⟨u9.heap.size, 0, none⟩) 0 0) (u9.alloc (.cells (kc []) 5 (0, 0))) (by kernel_rfl) (by kernel_rfl) ?_
  replace hG := hide ((unhide hG).trans hg)
  replace l5 := hide ((unhide l5).gr hg)
  replace hk := hg.blk hk
  clear hg
  generalize World.alloc _ _ = u10 at *
  generalize u9.heap.size = g9 at *
  refine hK.out _ _ hk (fun _ => ?_)
  clear hK K
  simp only [Act.put, List.setIfInBounds_toArray, List.set_cons_zero, List.set_cons_succ, List.getElem_toArray, List.getElem_cons_zero, List.getElem_cons_succ]
  refine any_one (i := 2) (by kernel_rfl) rfl (fun K hK => ?_)
  rw [if_pos (by kernel_rfl)]
  refine app_op (.tmp 23) (.tmp 24) rfl g9 _ [] (by kernel_rfl) hO a n c A (by kernel_rfl) (unhide la) ((unhide hA).gr (unhide hG)).sl (by simp; omega) hgs ?_
  intro x11 u11 hO2 hgb
  rw [List.nil_append] at hO2
  obtain ⟨a11, c11, rfl, l11⟩ := hO2.lb (unhide hA).isB
  rw [(unhide la)] at l11
  rw [(unhide la)]
  replace hG := hide (hO.grown hw9 (unhide hG) hgb)
  replace hk : u11.heap[gk]? = some (.cells (kc kk) 28 (0, 0)) := by
    rw [hgb.block gk (lt_of_block hk) (fun e => by have := (World.ownsRow.lt hO _ e.symm).1; omega)]
    exact hk
  replace l5 := hide ((unhide l5).app2 (unhide ol5) hO hgb)
  clear ol5
  clear hO hO2 hgb
  refine hK.out _ _ hk (fun _ => ?_)
  clear hK K
  simp only [Act.put, List.setIfInBounds_toArray, List.set_cons_zero, List.set_cons_succ, List.getElem_toArray, List.getElem_cons_zero, List.getElem_cons_succ]
  refine any_one (i := 4) (by kernel_rfl) rfl (fun K hK => ?_)
  refine step_callw (by kernel_rfl) 14 #[.slice ap m cp] (by kernel_rfl) ((copied_ok ps ap m cp (unhide hm) (by omega) (by rw [← unhide hX]; have := unhide hfl; omega) _ ((unhide hP).gr (unhide hG))).mono ?_)
  rintro r u12 ⟨a12, c12, rfl, hP12, hg⟩
  refine ⟨_, rfl, ?_⟩
  rw [unhide hm]
  replace hG := hide ((unhide hG).trans hg)
  replace l5 := hide ((unhide l5).gr hg)
  replace hk := hg.blk hk
  replace l11 := l11.gr hg
  clear hg
  refine hK.out _ _ hk (fun _ => ?_)
  clear hK K
  simp only [Act.put, List.setIfInBounds_toArray, List.set_cons_zero, List.set_cons_succ, List.getElem_toArray, List.getElem_cons_zero, List.getElem_cons_succ]
  refine any_one (i := 5) (by kernel_rfl) rfl (fun K hK => ?_)
  refine step_callw (by kernel_rfl) 13 #[.slice a11 n c11, .slice a12 m c12] (by kernel_rfl) ((hmac_ok A l11.isB n l11.len (by omega) a11 c11 l11.cap l11.max ps a12 m c12 (unhide hm) (by omega) (by rw [← unhide hX]; have := unhide hfl; omega) _ ((unhide hF).gr (unhide hG)) l11.sl hP12).mono ?_)
  rintro r u13 ⟨rfl, hg⟩
  refine ⟨_, rfl, ?_⟩
  rw [← unhide hX, ← unhide hkk0]
  replace hG := hide ((unhide hG).trans hg)
  replace l5 := hide ((unhide l5).gr hg)
  replace hk := hg.blk hk
  clear hg hP12 l11
  refine hK.out _ _ hk (fun _ => ?_)
  clear hK K
  simp only [Act.put, List.setIfInBounds_toArray, List.set_cons_zero, List.set_cons_succ, List.getElem_toArray, List.getElem_cons_zero, List.getElem_cons_succ]
  refine any_take (i := 7) (v := (.bool true)) #[true, true, true, true, true, true, true, false, false, false, false, false, false, false, false, false] rfl (by kernel_rfl) (by kernel_rfl) (by kernel_rfl) (by kernel_rfl) (fun _ _ _ h => h) (.inl ⟨by kernel_rfl, fun x_ hu => by have e := key_refl kk hkk; go_simp⟩) hk ?_
  simp only [Act.put, List.setIfInBounds_toArray, List.set_cons_zero, List.set_cons_succ, List.getElem_toArray, List.getElem_cons_zero, List.getElem_cons_succ]
  refine any_take (i := 8) (v := (.bool true)) #[true, true, true, true, true, true, true, true, false, false, false, false, false, false, false, false] rfl (by kernel_rfl) (by kernel_rfl) (by kernel_rfl) (by kernel_rfl) (fun _ _ _ h => h) (.inl ⟨by kernel_rfl, fun x_ hu => by kernel_rfl⟩) hk ?_
  simp only [Act.put, List.setIfInBounds_toArray, List.set_cons_zero, List.set_cons_succ, List.getElem_toArray, List.getElem_cons_zero, List.getElem_cons_succ]
  refine any_take (i := 9) (v := (.slice a n c)) #[true, true, true, true, true, true, true, true, true, false, false, false, false, false, false, false] rfl (by kernel_rfl) (by kernel_rfl) (by kernel_rfl) (by kernel_rfl) (fun _ _ _ h => h) (.inl ⟨by kernel_rfl, fun x_ hu => by kernel_rfl⟩) hk ?_
  simp only [Act.put, List.setIfInBounds_toArray, List.set_cons_zero, List.set_cons_succ, List.getElem_toArray, List.getElem_cons_zero, List.getElem_cons_succ]
  refine any_take (i := 10) (v := (.slice a5 n5 c5)) #[true, true, true, true, true, true, true, true, true, true, false, false, false, false, false, false] rfl (by kernel_rfl) (by kernel_rfl) (by kernel_rfl) (by kernel_rfl) (fun _ _ _ h => h) (.inl ⟨by kernel_rfl, fun x_ hu => by kernel_rfl⟩) hk ?_
  simp only [Act.put, List.setIfInBounds_toArray, List.set_cons_zero, List.set_cons_succ, List.getElem_toArray, List.getElem_cons_zero, List.getElem_cons_succ]
  refine any_take (i := 12) (v := (.agg (kc kk))) #[true, true, true, true, true, true, true, true, true, true, true, false, false, false, false, false] rfl (by kernel_rfl) (by kernel_rfl) (by kernel_rfl) (by kernel_rfl) (fun _ _ _ h => h) (.inl ⟨by kernel_rfl, fun x_ hu => exec_arr x_ 28 (.tmp 6) rfl gk (by kernel_rfl) (kc kk) 28 _ hu Tryd.underlying28 rfl (by rw [Tryd.infoKey, kc_size, hkk])⟩) hk ?_
  simp only [Act.put, List.setIfInBounds_toArray, List.set_cons_zero, List.set_cons_succ, List.getElem_toArray, List.getElem_cons_zero, List.getElem_cons_succ]
  refine any_one (i := 11) (by kernel_rfl) rfl (fun K hK => ?_)
  refine step_callw (by kernel_rfl) 15 #[.slice a n c, .slice a5 n5 c5] (by kernel_rfl) ((extract_ok A X a a5 n c n5 c5 (by omega) (by omega) _ ((unhide hF).gr (unhide hG)) ((unhide hA).gr (unhide hG)) (unhide l5)).mono ?_)
  rintro r u14 ⟨rfl, hg⟩
  refine ⟨_, rfl, ?_⟩
  rw [← unhide hkk0]
  replace hG := hide ((unhide hG).trans hg)
  replace l5 := hide ((unhide l5).gr hg)
  replace hk := hg.blk hk
  clear hg
  refine hK.out _ _ hk (fun _ => ?_)
  clear hK K
  simp only [Act.put, List.setIfInBounds_toArray, List.set_cons_zero, List.set_cons_succ, List.getElem_toArray, List.getElem_cons_zero, List.getElem_cons_succ]
  refine any_take (i := 13) (v := (.bool true)) #[true, true, true, true, true, true, true, true, true, true, true, true, true, false, false, false] rfl (by kernel_rfl) (by kernel_rfl) (by kernel_rfl) (by kernel_rfl) (fun _ _ _ h => h) (.inl ⟨by kernel_rfl, fun x_ hu => by have e := key_refl kk hkk; go_simp⟩) hk ?_
  simp only [Act.put, List.setIfInBounds_toArray, List.set_cons_zero, List.set_cons_succ, List.getElem_toArray, List.getElem_cons_zero, List.getElem_cons_succ]
  refine any_take (i := 14) (v := (.bool true)) #[true, true, true, true, true, true, true, true, true, true, true, true, true, true, false, false] rfl (by kernel_rfl) (by kernel_rfl) (by kernel_rfl) (by kernel_rfl) (fun _ _ _ h => h) (.inl ⟨by kernel_rfl, fun x_ hu => by kernel_rfl⟩) hk ?_
  simp only [Act.put, List.setIfInBounds_toArray, List.set_cons_zero, List.set_cons_succ, List.getElem_toArray, List.getElem_cons_zero, List.getElem_cons_succ]
  refine any_one (i := 15) (by kernel_rfl) rfl (fun K hK => ?_)
  replace hK := hide hK
  go_simp
  refine (unhide hK).out _ _ hk (fun _ => ?_)
  clear hK K
  refine any_done (by kernel_rfl) ?_
  clear hk l5
  go_wp2_with fail
  rw [unhide hT]
  exact ⟨rfl, unhide hG⟩
end Go.Proofs.YthnmebhljkccnaaDoor
