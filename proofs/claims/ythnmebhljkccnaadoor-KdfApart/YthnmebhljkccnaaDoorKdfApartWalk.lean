/-
  Labels and parts are told apart: the walk.
-/
import Derived.Test.YthnmebhljkccnaaDoorKdfG
namespace Go.Proofs.YthnmebhljkccnaaDoor
open Go.RowKit
set_option maxRecDepth 100000
set_option linter.unusedSimpArgs false
set_option linter.unusedVariables false

theorem infoL_none (l : List Int) : infoL l [] = tpart l := by unfold infoL infL; simp
theorem infoL_one (l p : List Int) : infoL l [p] = tpart l ++ tpart p := by unfold infoL infL; simp
theorem kc_lb {w : World} {g : Nat} {D : List Int} (h : w.heap[g]? = some (.cells (kc D) 28 (0, 0))) (hl : D.length = 32) (hb : IsB D) : Lb w (some ⟨g, 0, none⟩) 32 32 D := ⟨hl, hb, .inr ⟨g, 0, rfl, kc_at h⟩, Nat.le_refl _, by omega⟩
/-- the worlds of a law that has a key in a box -/
structure AI (w : World) (KK : Array Value) (v : World) : Prop where
  bk : v.heap[w.heap.size]? = some (.cells KK 28 (0, 0))
  gr : Gr w v
theorem AI.more {w : World} {KK : Array Value} {u v : World} (h : AI w KK u) (k : Gr u v) : AI w KK v := ⟨k.blk h.bk, h.gr.trans k⟩
theorem AI.lt {w : World} {KK : Array Value} {u : World} (h : AI w KK u) : w.heap.size < u.heap.size := lt_of_block h.bk
theorem AI.app {w : World} {KK : Array Value} {u v : World} {b : Nat} {x : Value} {L : List Int} (h : AI w KK u) (ho : Ob b u x L) (hb : w.heap.size < b) (k : u.grownBy v x.ownBlock) : AI w KK v :=
  ⟨by rw [k.block w.heap.size h.lt (fun e => by have := (World.ownsRow.lt ho _ e.symm).1; omega)]; exact h.bk, ho.grown (by omega) h.gr k⟩
theorem Lb.app {u v : World} {b : Nat} {x : Value} {L D : List Int} {a : Option Addr} {n c : Nat} (h : Lb u a n c D) (hold : ∀ y, a = some y → y.block < b) (ho : Ob b u x L) (k : u.grownBy v x.ownBlock) : Lb v a n c D := by
  refine ⟨h.len, h.isB, ?_, h.cap, h.max⟩
  rcases h.sl with h1 | ⟨p, o, h1, h2⟩
  · exact .inl h1
  · refine .inr ⟨p, o, h1, fun j hj => ?_⟩
    have h3 := hold _ h1
    have h4 := h2 j hj
    dsimp only at h3
    rw [cell_heap (k.block p (lt_of_cell h4) (fun e => by have := (World.ownsRow.lt ho _ e.symm).1; omega))]
    exact h4
set_option maxHeartbeats 4000000 in
theorem apart_ok (Ky : List Int) (hKb : IsB Ky) (hKl : Ky.length = 32) (t : ByteArray) (htb : t.size ≤ 140737488351232) (P : List Int) (a : Option Addr) (n c : Nat) (w : World) (hF : Fst w) (hA : Lb w a n c P) :
    Calls Tryd.prog 8 #[.agg (kc Ky), .string t, .slice a n c] w (Woke w) := by
  obtain ⟨T, hT⟩ : ∃ T, T = Woke w := ⟨_, rfl⟩
  rw [← hT]
  obtain ⟨KK, hKK⟩ : ∃ KK, KK = kc Ky := ⟨_, rfl⟩
  rw [← hKK]
  have hKs : KK.size = 32 := by rw [hKK, kc_size, hKl]
  replace hT := hide hT
  replace hF := hide hF
  have la := hide hA.len
  replace hA := hide hA
  replace hKK := hide hKK
  replace hKb := hide hKb
  have hI : Hid (AI w KK (w.alloc (.cells KK 28))) := ⟨blk_new _ _, (Gr.refl w).alloc _⟩
  have hF2 := hide ((unhide hF).gr (unhide hI).gr)
  by_cases hbig : 1000 < t.size ∨ 1000 < n
  · by_cases h1 : 1000 < t.size
    · have h1' : (1000 : Int) < (t.size : Int) := by omega
      go_enter Tryd.func8, Tryd.ntmps8
      go_wp2_with (go_at_call 9; refine (wakes_ok _ (unhide hF2)).mono ?_; rintro e u1 ⟨rfl, hG⟩)
      rw [unhide hT]
      exact ⟨rfl, (unhide hI).gr.trans hG⟩
    · have h1' : ¬ (1000 : Int) < (t.size : Int) := by omega
      have h2' : (1000 : Int) < (n : Int) := by omega
      go_enter Tryd.func8, Tryd.ntmps8
      go_wp2_with (go_at_call 9; refine (wakes_ok _ (unhide hF2)).mono ?_; rintro e u1 ⟨rfl, hG⟩)
      rw [unhide hT]
      exact ⟨rfl, (unhide hI).gr.trans hG⟩
  have h1' : ¬ (1000 : Int) < (t.size : Int) := by omega
  have h2' : ¬ (1000 : Int) < (n : Int) := by omega
  have e1 : IntKind.u32.wrap (t.size : Int) = (t.size : Int) := by rw [IntKind.wrap_u32]; omega
  have e2 : IntKind.u32.wrap (n : Int) = (n : Int) := by rw [IntKind.wrap_u32]; omega
  have ht1 : t.size ≤ 1000 := by omega
  have hn1 : n ≤ 1000 := by omega
  have I1b : Hid (IsB (tpart (tb t))) := tpart_isB (tb_isB t)
  have I1l : Hid ((tpart (tb t)).length = t.size + 4) := by unfold tpart; rw [List.length_append, lw_len, tb_len]; exact Nat.add_comm _ _
  have I2b : Hid (IsB (tpart (tb t) ++ tpart P)) := isB_append (tpart_isB (tb_isB t)) (tpart_isB (unhide hA).isB)
  have I2l : Hid ((tpart (tb t) ++ tpart P).length = t.size + n + 8) := by
    have e : (tpart (tb t) ++ tpart P).length = t.size + n + 8 := by unfold tpart; rw [List.length_append, List.length_append, List.length_append, lw_len, lw_len, tb_len, unhide la]; omega
    exact e
  clear htb
  go_enter Tryd.func8, Tryd.ntmps8
  go_upto_region 5 with (go_at_call 9; refine (wakes_ok _ (unhide hF2)).mono ?_; rintro e u1 ⟨rfl, hG⟩)
  replace hI := hide ((unhide hI).more hG)
  clear hG hF2
  refine wp_region_lit ?_
  iterate 3 (refine wpList_step fun K hK => ?_; replace hK := hide hK; go_simp; refine unhide hK _ _ ?_; clear hK K)
  refine list_call 25 #[.slice none 0 0, .int .u32 t.size] (by kernel_rfl) (by kernel_rfl) ((put32_ok [] none 0 0 t.size (by omega) (by omega) _ (Lb.nil _)).mono ?_)
  rintro r u2 ⟨g1, rfl, h1, h2, hg⟩
  refine ⟨_, rfl, ?_⟩
  have hO := Putd.ob (B := []) (n := 0) rfl h1 h2 (by omega)
  rw [List.nil_append] at hO
  have hus := hg.size
  have hb1 := (unhide hI).lt
  replace hI := hide ((unhide hI).more hg)
  clear h1 h2 hg
  simp only [Act.put, List.setIfInBounds_toArray, List.set_cons_zero, List.set_cons_succ, List.getElem_toArray, List.getElem_cons_zero, List.getElem_cons_succ]
  replace hO := hide hO
  iterate 1 (refine wpList_step fun K hK => ?_; replace hK := hide hK; go_simp; refine unhide hK _ _ ?_; clear hK K)
  refine app_str rfl (.tmp 28) (.tmp 29) rfl u1.heap.size _ (lw t.size 4) (by kernel_rfl) (unhide hO) t (by kernel_rfl) (by rw [lw_len]; omega) hus ?_
  intro v3 u3 hO3 hgb
  replace hI := hide ((unhide hI).app (unhide hO) hb1 hgb)
  clear hgb hO hus
  have hO4 : Ob u1.heap.size u3 v3 (tpart (tb t)) := by unfold tpart; rw [tb_len]; exact hO3
  clear hO3
  obtain ⟨a3, c3, rfl, l3⟩ := hO4.lb (unhide I1b)
  clear hO4 hb1
  rw [unhide I1l] at l3
  rw [unhide I1l]
  simp only [Act.put, List.setIfInBounds_toArray, List.set_cons_zero, List.set_cons_succ, List.getElem_toArray, List.getElem_cons_zero, List.getElem_cons_succ]
  replace l3 := hide l3
  iterate 1 (refine wpList_step fun K hK => ?_; replace hK := hide hK; go_simp; refine unhide hK _ _ ?_; clear hK K)
  refine wpList_nil ?_
  go_upto_region 6 with fail
  refine wp_region_lit ?_
  refine list_val (.agg KK) (by kernel_rfl) (exec_arr _ 28 (.tmp 3) rfl w.heap.size (by kernel_rfl) KK 28 _ (unhide hI).bk Tryd.underlying28 rfl (by rw [Tryd.infoKey, hKs])) ?_
  simp only [Act.put, List.setIfInBounds_toArray, List.set_cons_zero, List.set_cons_succ, List.getElem_toArray, List.getElem_cons_zero, List.getElem_cons_succ]
  iterate 1 (refine wpList_step fun K hK => ?_; replace hK := hide hK; go_simp; refine unhide hK _ _ ?_; clear hK K)
  rw [unhide hKK]
  refine list_call 16 #[.agg (kc Ky), .slice a3 (t.size + 4) c3, .int .i64 32] (by kernel_rfl) (by kernel_rfl) ((expand_ok Ky hKl (unhide hKb) (tpart (tb t)) a3 (t.size + 4) c3 32 (by omega) (by omega) _ ((unhide hF).gr (unhide hI).gr) (unhide l3)).mono ?_)
  rintro r u4 ⟨a4, rfl, l4, hg⟩
  refine ⟨_, rfl, ?_⟩
  rw [← unhide hKK]
  replace hI := hide ((unhide hI).more hg)
  replace l3 := hide ((unhide l3).gr hg)
  clear hg
  simp only [Act.put, List.setIfInBounds_toArray, List.set_cons_zero, List.set_cons_succ, List.getElem_toArray, List.getElem_cons_zero, List.getElem_cons_succ]
  replace l4 := hide l4
  iterate 5 (refine wpList_step fun K hK => ?_; replace hK := hide hK; go_simp; refine unhide hK _ _ ?_; clear hK K)
  refine wpList_nil ?_
  go_upto_region 7 with fail
  refine wp_region_lit ?_
  iterate 4 (refine wpList_step fun K hK => ?_; replace hK := hide hK; go_simp; refine unhide hK _ _ ?_; clear hK K)
  refine list_call 25 #[.slice a3 (t.size + 4) c3, .int .u32 n] (by kernel_rfl) (by kernel_rfl) ((put32_ok (tpart (tb t)) a3 (t.size + 4) c3 n (by omega) (by omega) _ (unhide l3)).mono ?_)
  rintro r u5 ⟨g5, rfl, h1, h2, hg⟩
  refine ⟨_, rfl, ?_⟩
  have hO := Putd.ob (B := tpart (tb t)) (unhide I1l) h1 h2 (by omega)
  have hus := hg.size
  have hb1 := (unhide hI).lt
  have hold : ∀ y, a4 = some y → y.block < u4.heap.size := by
    intro y hy
    rcases (unhide l4).sl with h | ⟨p, o, h3, h4⟩
    · have := (unhide l4).len; rw [h] at this; simp at this
    · rw [h3] at hy
      have hy2 : y = ⟨p, o, none⟩ := (Option.some.inj hy).symm
      have h5 := h4 0 (by rw [(unhide l4).len]; omega)
      have := lt_of_cell h5
      rw [hy2]
      exact this
  replace hI := hide ((unhide hI).more hg)
  replace l4 := (unhide l4).gr hg
  clear h1 h2 hg l3
  simp only [Act.put, List.setIfInBounds_toArray, List.set_cons_zero, List.set_cons_succ, List.getElem_toArray, List.getElem_cons_zero, List.getElem_cons_succ]
  replace hO := hide hO
  replace l4 := hide l4
  replace hold := hide hold
  iterate 1 (refine wpList_step fun K hK => ?_; replace hK := hide hK; go_simp; refine unhide hK _ _ ?_; clear hK K)
  refine app_bs (by kernel_rfl) (.tmp 41) (.tmp 42) rfl u4.heap.size _ (tpart (tb t) ++ lw n 4) (by kernel_rfl) (unhide hO) a n c P (by kernel_rfl) (unhide la) ((unhide hA).gr (unhide hI).gr).sl (by rw [List.length_append, lw_len, unhide I1l]; omega) hus ?_
  intro v6 u6 hO6 hgb
  replace hI := hide ((unhide hI).app (unhide hO) hb1 hgb)
  replace l4 := (unhide l4).app (unhide hold) (unhide hO) hgb
  clear hgb hO hus hold hb1
  have hO7 : Ob u4.heap.size u6 v6 (tpart (tb t) ++ tpart P) := by
    have e : tpart P = lw n 4 ++ P := by unfold tpart; rw [unhide la]
    rw [e, ← List.append_assoc]
    exact hO6
  clear hO6
  obtain ⟨a6, c6, rfl, l6⟩ := hO7.lb (unhide I2b)
  clear hO7
  rw [unhide I2l] at l6
  rw [unhide I2l]
  simp only [Act.put, List.setIfInBounds_toArray, List.set_cons_zero, List.set_cons_succ, List.getElem_toArray, List.getElem_cons_zero, List.getElem_cons_succ]
  replace l6 := hide l6
  replace l4 := hide l4
  iterate 1 (refine wpList_step fun K hK => ?_; replace hK := hide hK; go_simp; refine unhide hK _ _ ?_; clear hK K)
  refine wpList_nil ?_
  go_upto_region 8 with fail
  refine wp_region_lit ?_
  refine list_val (.agg KK) (by kernel_rfl) (exec_arr _ 28 (.tmp 3) rfl w.heap.size (by kernel_rfl) KK 28 _ (unhide hI).bk Tryd.underlying28 rfl (by rw [Tryd.infoKey, hKs])) ?_
  simp only [Act.put, List.setIfInBounds_toArray, List.set_cons_zero, List.set_cons_succ, List.getElem_toArray, List.getElem_cons_zero, List.getElem_cons_succ]
  iterate 1 (refine wpList_step fun K hK => ?_; replace hK := hide hK; go_simp; refine unhide hK _ _ ?_; clear hK K)
  rw [unhide hKK]
  refine list_call 16 #[.agg (kc Ky), .slice a6 (t.size + n + 8) c6, .int .i64 64] (by kernel_rfl) (by kernel_rfl) ((expand_ok Ky hKl (unhide hKb) (tpart (tb t) ++ tpart P) a6 (t.size + n + 8) c6 64 (by omega) (by omega) _ ((unhide hF).gr (unhide hI).gr) (unhide l6)).mono ?_)
  rintro r u7 ⟨a7, rfl, l7, hg⟩
  refine ⟨_, rfl, ?_⟩
  rw [← unhide hKK]
  replace hI := hide ((unhide hI).more hg)
  replace l4 := hide ((unhide l4).gr hg)
  clear hg l6
  simp only [Act.put, List.setIfInBounds_toArray, List.set_cons_zero, List.set_cons_succ, List.getElem_toArray, List.getElem_cons_zero, List.getElem_cons_succ]
  replace l7 := hide l7
  iterate 5 (refine wpList_step fun K hK => ?_; replace hK := hide hK; go_simp; refine unhide hK _ _ ?_; clear hK K)
  refine wpList_nil ?_
  go_upto_region 9 with fail
  refine wp_region_lit ?_
  refine list_val (.agg KK) (by kernel_rfl) (exec_arr _ 28 (.tmp 3) rfl w.heap.size (by kernel_rfl) KK 28 _ (unhide hI).bk Tryd.underlying28 rfl (by rw [Tryd.infoKey, hKs])) ?_
  simp only [Act.put, List.setIfInBounds_toArray, List.set_cons_zero, List.set_cons_succ, List.getElem_toArray, List.getElem_cons_zero, List.getElem_cons_succ]
  iterate 2 (refine wpList_step fun K hK => ?_; replace hK := hide hK; go_simp; refine unhide hK _ _ ?_; clear hK K)
  refine list_valw (.slice (some ⟨u7.heap.size, 0, none⟩) 1 1) (u7.alloc (.cells #[.slice a n c] 22 (0, 0))) (by kernel_rfl) (by kernel_rfl) ?_
  simp only [Act.put, List.setIfInBounds_toArray, List.set_cons_zero, List.set_cons_succ, List.getElem_toArray, List.getElem_cons_zero, List.getElem_cons_succ]
  have hg := (Gr.refl u7).alloc (.cells #[.slice a n c] 22 (0, 0))
  have hnew := blk_new u7 (.cells #[.slice a n c] 22 (0, 0))
  replace hI := hide ((unhide hI).more hg)
  replace l4 := hide ((unhide l4).gr hg)
  replace l7 := hide ((unhide l7).gr hg)
  generalize World.alloc _ _ = u8 at *
  generalize u7.heap.size = g8 at *
  clear hg
  have hP8 := Pr.one hnew ((unhide hA).gr (unhide hI).gr)
  rw [unhide hKK]
  refine list_call 19 #[.agg (kc Ky), .string t, .slice (some ⟨g8, 0, none⟩) 1 1] (by kernel_rfl) (by kernel_rfl) ((two_ok Ky hKl (unhide hKb) t ht1 [P] _ 1 1 rfl ⟨by simp, by intro p hp; simp at hp; subst hp; rw [unhide la]; omega⟩ _ ((unhide hF).gr (unhide hI).gr) hP8).mono ?_)
  rintro r u9 ⟨rfl, hg⟩
  refine ⟨_, rfl, ?_⟩
  rw [← unhide hKK]
  replace hI := hide ((unhide hI).more hg)
  replace l4 := hide ((unhide l4).gr hg)
  replace l7 := hide ((unhide l7).gr hg)
  clear hg hnew hP8
  rw [infoL_one]
  simp only [Act.put, List.setIfInBounds_toArray, List.set_cons_zero, List.set_cons_succ, List.getElem_toArray, List.getElem_cons_zero, List.getElem_cons_succ]
  have l7a := hide (Sl.cutl (unhide l7) 32 (by omega))
  have l7b := hide (Sl.cutr (unhide l7) 32 (by omega))
  obtain ⟨E, hE⟩ : ∃ E, E = spL Ky (tpart (tb t) ++ tpart P) 64 := ⟨_, rfl⟩
  have hEl : E.length = 64 := by rw [hE]; exact spL_len _ _ _
  have hEb : IsB E := by rw [hE]; exact spL_isB _ _ _
  rw [← hE] at l7a l7b
  rw [← hE]
  clear hE l7
  obtain ⟨D1, hD1⟩ : ∃ D, D = E.take 32 := ⟨_, rfl⟩
  obtain ⟨D2, hD2⟩ : ∃ D, D = E.drop 32 := ⟨_, rfl⟩
  have hDl1 : D1.length = 32 := by rw [hD1, List.length_take, hEl]; rfl
  have hDl2 : D2.length = 32 := by rw [hD2, List.length_drop, hEl]
  have hDb1 : Hid (IsB D1) := by rw [hD1]; exact isB_take hEb _
  have hDb2 : Hid (IsB D2) := by rw [hD2]; exact isB_drop hEb _
  rw [← hD1] at l7a
  rw [← hD2] at l7b
  rw [← hD1, ← hD2]
  clear hD1 hD2 hEb hEl
  iterate 5 (refine wpList_step fun K hK => ?_; replace hK := hide hK; go_simp; refine unhide hK _ _ ?_; clear hK K)
  have hL := ((Bl.nil u9).new #[.int .u8 0, .int .u8 0, .int .u8 0, .int .u8 0, .int .u8 0, .int .u8 0, .int .u8 0, .int .u8 0, .int .u8 0, .int .u8 0, .int .u8 0, .int .u8 0, .int .u8 0, .int .u8 0, .int .u8 0, .int .u8 0, .int .u8 0, .int .u8 0, .int .u8 0, .int .u8 0, .int .u8 0, .int .u8 0, .int .u8 0, .int .u8 0, .int .u8 0, .int .u8 0, .int .u8 0, .int .u8 0, .int .u8 0, .int .u8 0, .int .u8 0, .int .u8 0] 28).new #[.int .u8 0, .int .u8 0, .int .u8 0, .int .u8 0, .int .u8 0, .int .u8 0, .int .u8 0, .int .u8 0, .int .u8 0, .int .u8 0, .int .u8 0, .int .u8 0, .int .u8 0, .int .u8 0, .int .u8 0, .int .u8 0, .int .u8 0, .int .u8 0, .int .u8 0, .int .u8 0, .int .u8 0, .int .u8 0, .int .u8 0, .int .u8 0, .int .u8 0, .int .u8 0, .int .u8 0, .int .u8 0, .int .u8 0, .int .u8 0, .int .u8 0, .int .u8 0] 28
  simp only [List.nil_append, List.cons_append, size_alloc] at hL
  generalize World.alloc _ _ = u10 at *
  replace hL : Bl u9 [⟨u9.heap.size, kc Z32, 28⟩, ⟨u9.heap.size + 1, kc Z32, 28⟩] u10 := hL
  refine list_store 28 (.tmp 12) (.tmp 56) u9.heap.size (kc D1) 28 (kc Z32) (by kernel_rfl) rfl (by kernel_rfl) (by kernel_rfl) (hL.get 0 (x := ⟨u9.heap.size, kc Z32, 28⟩) rfl) (by rw [Tryd.infoKey, kc_size, hDl1]) ((show (kc Z32).size = 32 from rfl).trans ((kc_size _).trans hDl1).symm) (kc_one _) ?_
  replace hL := hL.set 0 (x := ⟨u9.heap.size, kc Z32, 28⟩) rfl (kc D1)
  simp only [List.set_cons_zero, List.set_cons_succ] at hL
  generalize World.setRow _ _ _ = u11 at *
  simp only [Act.put, List.setIfInBounds_toArray, List.set_cons_zero, List.set_cons_succ, List.getElem_toArray, List.getElem_cons_zero, List.getElem_cons_succ]
  refine list_store 28 (.tmp 13) (.tmp 57) (u9.heap.size + 1) (kc D2) 28 (kc Z32) (by kernel_rfl) rfl (by kernel_rfl) (by kernel_rfl) (hL.get 1 (x := ⟨u9.heap.size + 1, kc Z32, 28⟩) rfl) (by rw [Tryd.infoKey, kc_size, hDl2]) ((show (kc Z32).size = 32 from rfl).trans ((kc_size _).trans hDl2).symm) (kc_one _) ?_
  replace hL := hL.set 1 (x := ⟨u9.heap.size + 1, kc Z32, 28⟩) rfl (kc D2)
  simp only [List.set_cons_zero, List.set_cons_succ] at hL
  generalize World.setRow _ _ _ = u12 at *
  simp only [Act.put, List.setIfInBounds_toArray, List.set_cons_zero, List.set_cons_succ, List.getElem_toArray, List.getElem_cons_zero, List.getElem_cons_succ]
  refine wpList_nil ?_
  have k1 := hide (hL.get 0 (x := ⟨u9.heap.size, kc D1, 28⟩) rfl)
  have k2 := hide (hL.get 1 (x := ⟨u9.heap.size + 1, kc D2, 28⟩) rfl)
  dsimp only at k1 k2
  replace hI := hide ((unhide hI).more hL.gr)
  replace l4 := hide ((unhide l4).gr hL.gr)
  replace l7a := hide ((unhide l7a).gr hL.gr)
  replace l7b := hide ((unhide l7b).gr hL.gr)
  clear hL
  generalize u9.heap.size + 1 = gy at *
  generalize u9.heap.size = gx at *
  go_upto_region 10 with fail
  refine wp_region_lit ?_
  refine list_val (.agg KK) (by kernel_rfl) (exec_arr _ 28 (.tmp 3) rfl w.heap.size (by kernel_rfl) KK 28 _ (unhide hI).bk Tryd.underlying28 rfl (by rw [Tryd.infoKey, hKs])) ?_
  simp only [Act.put, List.setIfInBounds_toArray, List.set_cons_zero, List.set_cons_succ, List.getElem_toArray, List.getElem_cons_zero, List.getElem_cons_succ]
  iterate 1 (refine wpList_step fun K hK => ?_; replace hK := hide hK; go_simp; refine unhide hK _ _ ?_; clear hK K)
  rw [unhide hKK]
  refine list_call 23 #[.agg (kc Ky), .string t, .slice none 0 0] (by kernel_rfl) (by kernel_rfl) ((derive_ok Ky hKl (unhide hKb) t ht1 [] none 0 0 rfl ⟨by simp, by intro p hp; cases hp⟩ _ ((unhide hF).gr (unhide hI).gr) (.inl rfl)).mono ?_)
  rintro r u13 ⟨rfl, hg⟩
  refine ⟨_, rfl, ?_⟩
  rw [← unhide hKK]
  replace hI := hide ((unhide hI).more hg)
  replace l4 := hide ((unhide l4).gr hg)
  replace l7a := hide ((unhide l7a).gr hg)
  replace l7b := hide ((unhide l7b).gr hg)
  replace k1 := hide (hg.blk (unhide k1))
  replace k2 := hide (hg.blk (unhide k2))
  clear hg
  rw [infoL_none]
  simp only [Act.put, List.setIfInBounds_toArray, List.set_cons_zero, List.set_cons_succ, List.getElem_toArray, List.getElem_cons_zero, List.getElem_cons_succ]
  obtain ⟨D3, hD3⟩ : ∃ D, D = spL Ky (tpart (tb t)) 32 := ⟨_, rfl⟩
  have hDl3 : D3.length = 32 := by rw [hD3]; exact spL_len _ _ _
  have hDb3 : Hid (IsB D3) := by rw [hD3]; exact spL_isB _ _ _
  rw [← hD3] at l4
  rw [← hD3]
  clear hD3
  iterate 1 (refine wpList_step fun K hK => ?_; replace hK := hide hK; go_simp; refine unhide hK _ _ ?_; clear hK K)
  have hL := (Bl.nil u13).new #[.int .u8 0, .int .u8 0, .int .u8 0, .int .u8 0, .int .u8 0, .int .u8 0, .int .u8 0, .int .u8 0, .int .u8 0, .int .u8 0, .int .u8 0, .int .u8 0, .int .u8 0, .int .u8 0, .int .u8 0, .int .u8 0, .int .u8 0, .int .u8 0, .int .u8 0, .int .u8 0, .int .u8 0, .int .u8 0, .int .u8 0, .int .u8 0, .int .u8 0, .int .u8 0, .int .u8 0, .int .u8 0, .int .u8 0, .int .u8 0, .int .u8 0, .int .u8 0] 28
  simp only [List.nil_append] at hL
  generalize World.alloc _ _ = u13a at *
  replace hL : Bl u13 [⟨u13.heap.size, kc Z32, 28⟩] u13a := hL
  refine list_store 28 (.tmp 14) (.tmp 60) u13.heap.size (kc D3) 28 (kc Z32) (by kernel_rfl) rfl (by kernel_rfl) (by kernel_rfl) (hL.get 0 (x := ⟨u13.heap.size, kc Z32, 28⟩) rfl) (by rw [Tryd.infoKey, kc_size, hDl3]) ((show (kc Z32).size = 32 from rfl).trans ((kc_size _).trans hDl3).symm) (kc_one _) ?_
  replace hL := hL.set 0 (x := ⟨u13.heap.size, kc Z32, 28⟩) rfl (kc D3)
  simp only [List.set_cons_zero, List.set_cons_succ] at hL
  generalize World.setRow _ _ _ = u13b at *
  simp only [Act.put, List.setIfInBounds_toArray, List.set_cons_zero, List.set_cons_succ, List.getElem_toArray, List.getElem_cons_zero, List.getElem_cons_succ]
  refine wpList_nil ?_
  have k3 := hide (hL.get 0 (x := ⟨u13.heap.size, kc D3, 28⟩) rfl)
  dsimp only at k3
  replace hI := hide ((unhide hI).more hL.gr)
  replace l4 := hide ((unhide l4).gr hL.gr)
  replace l7a := hide ((unhide l7a).gr hL.gr)
  replace l7b := hide ((unhide l7b).gr hL.gr)
  replace k1 := hide (hL.gr.blk (unhide k1))
  replace k2 := hide (hL.gr.blk (unhide k2))
  clear hL
  generalize u13.heap.size = gz at *
  obtain ⟨a8, ha8⟩ : ∃ a8, a8 = Option.map (fun x => x.add 32) a7 := ⟨_, rfl⟩
  replace l7b : Hid (Lb u13b a8 32 32 D2) := by
    have h := unhide l7b
    rw [if_neg (by omega)] at h
    rw [ha8]
    exact h
  replace ha8 := hide ha8
  go_upto_region 11 with fail
  refine any_start (S := fun _ => True) (by kernel_rfl) ?_
  have hg := (Gr.refl u13b).drew
  generalize World.drew _ = u14 at *
  replace hI := hide ((unhide hI).more hg)
  replace l4 := hide ((unhide l4).gr hg)
  replace l7a := hide ((unhide l7a).gr hg)
  replace l7b := hide ((unhide l7b).gr hg)
  replace k1 := hide (hg.blk (unhide k1))
  replace k2 := hide (hg.blk (unhide k2))
  replace k3 := hide (hg.blk (unhide k3))
  clear hg
  simp only [List.size_toArray, List.length_cons, List.length_nil, Array.replicate, List.replicate]
  refine any_take (i := 0) (v := (.int .i64 0)) #[false, false, false, false, false, false, false, false, false, false, false, false, false, false, false, false, false, false, false, false, false, false, false, false] rfl (by kernel_rfl) (by kernel_rfl) (by kernel_rfl) (by kernel_rfl) (fun _ _ _ h => h) (.inl ⟨by kernel_rfl, fun x_ hu => by kernel_rfl⟩) trivial ?_
  simp only [Act.put, List.setIfInBounds_toArray, List.set_cons_zero, List.set_cons_succ, List.getElem_toArray, List.getElem_cons_zero, List.getElem_cons_succ]
  refine any_take (i := 1) (v := (.bool true)) #[true, false, false, false, false, false, false, false, false, false, false, false, false, false, false, false, false, false, false, false, false, false, false, false] rfl (by kernel_rfl) (by kernel_rfl) (by kernel_rfl) (by kernel_rfl) (fun _ _ _ h => h) (.inl ⟨by kernel_rfl, fun x_ hu => by kernel_rfl⟩) trivial ?_
  simp only [Act.put, List.setIfInBounds_toArray, List.set_cons_zero, List.set_cons_succ, List.getElem_toArray, List.getElem_cons_zero, List.getElem_cons_succ]
  refine any_take (i := 2) (v := (.bool true)) #[true, true, false, false, false, false, false, false, false, false, false, false, false, false, false, false, false, false, false, false, false, false, false, false] rfl (by kernel_rfl) (by kernel_rfl) (by kernel_rfl) (by kernel_rfl) (fun _ _ _ h => h) (.inl ⟨by kernel_rfl, fun x_ hu => by kernel_rfl⟩) trivial ?_
  simp only [Act.put, List.setIfInBounds_toArray, List.set_cons_zero, List.set_cons_succ, List.getElem_toArray, List.getElem_cons_zero, List.getElem_cons_succ]
  refine any_take (i := 3) (v := (.int .i64 0)) #[true, true, true, false, false, false, false, false, false, false, false, false, false, false, false, false, false, false, false, false, false, false, false, false] rfl (by kernel_rfl) (by kernel_rfl) (by kernel_rfl) (by kernel_rfl) (fun _ _ _ h => h) (.inl ⟨by kernel_rfl, fun x_ hu => by kernel_rfl⟩) trivial ?_
  simp only [Act.put, List.setIfInBounds_toArray, List.set_cons_zero, List.set_cons_succ, List.getElem_toArray, List.getElem_cons_zero, List.getElem_cons_succ]
  refine any_take (i := 4) (v := (.bool true)) #[true, true, true, true, false, false, false, false, false, false, false, false, false, false, false, false, false, false, false, false, false, false, false, false] rfl (by kernel_rfl) (by kernel_rfl) (by kernel_rfl) (by kernel_rfl) (fun _ _ _ h => h) (.inl ⟨by kernel_rfl, fun x_ hu => by kernel_rfl⟩) trivial ?_
  simp only [Act.put, List.setIfInBounds_toArray, List.set_cons_zero, List.set_cons_succ, List.getElem_toArray, List.getElem_cons_zero, List.getElem_cons_succ]
  refine any_take (i := 5) (v := (.bool true)) #[true, true, true, true, true, false, false, false, false, false, false, false, false, false, false, false, false, false, false, false, false, false, false, false] rfl (by kernel_rfl) (by kernel_rfl) (by kernel_rfl) (by kernel_rfl) (fun _ _ _ h => h) (.inl ⟨by kernel_rfl, fun x_ hu => by kernel_rfl⟩) trivial ?_
  simp only [Act.put, List.setIfInBounds_toArray, List.set_cons_zero, List.set_cons_succ, List.getElem_toArray, List.getElem_cons_zero, List.getElem_cons_succ]
  refine any_take (i := 6) (v := (.bool true)) #[true, true, true, true, true, true, false, false, false, false, false, false, false, false, false, false, false, false, false, false, false, false, false, false] rfl (by kernel_rfl) (by kernel_rfl) (by kernel_rfl) (by kernel_rfl) (fun _ _ _ h => h) (.inl ⟨by kernel_rfl, fun x_ hu => by kernel_rfl⟩) trivial ?_
  simp only [Act.put, List.setIfInBounds_toArray, List.set_cons_zero, List.set_cons_succ, List.getElem_toArray, List.getElem_cons_zero, List.getElem_cons_succ]
  refine any_take (i := 7) (v := (.slice a4 32 32)) #[true, true, true, true, true, true, true, false, false, false, false, false, false, false, false, false, false, false, false, false, false, false, false, false] rfl (by kernel_rfl) (by kernel_rfl) (by kernel_rfl) (by kernel_rfl) (fun _ _ _ h => h) (.inl ⟨by kernel_rfl, fun x_ hu => by kernel_rfl⟩) trivial ?_
  simp only [Act.put, List.setIfInBounds_toArray, List.set_cons_zero, List.set_cons_succ, List.getElem_toArray, List.getElem_cons_zero, List.getElem_cons_succ]
  refine any_take (i := 8) (v := (.slice (some ⟨gz, 0, none⟩) 32 32)) #[true, true, true, true, true, true, true, true, false, false, false, false, false, false, false, false, false, false, false, false, false, false, false, false] rfl (by kernel_rfl) (by kernel_rfl) (by kernel_rfl) (by kernel_rfl) (fun _ _ _ h => h) (.inl ⟨by kernel_rfl, fun x_ hu => by go_simp⟩) trivial ?_
  simp only [Act.put, List.setIfInBounds_toArray, List.set_cons_zero, List.set_cons_succ, List.getElem_toArray, List.getElem_cons_zero, List.getElem_cons_succ]
  refine any_one (i := 9) (by kernel_rfl) rfl (fun K hK => ?_)
  refine step_callw (by kernel_rfl) 24 #[.slice a4 32 32, .slice (some ⟨gz, 0, none⟩) 32 32] (by kernel_rfl) ((equal_ok D3 a4 (some ⟨gz, 0, none⟩) 32 32 32 _ (unhide l4) (kc_lb (unhide k3) hDl3 (unhide hDb3)) (by omega)).mono ?_)
  rintro r e1 ⟨rfl, rfl⟩
  refine ⟨_, rfl, ?_⟩
  refine hK.out _ _ trivial (fun _ => ?_)
  clear hK K
  simp only [Act.put, List.setIfInBounds_toArray, List.set_cons_zero, List.set_cons_succ, List.getElem_toArray, List.getElem_cons_zero, List.getElem_cons_succ]
  refine any_take (i := 10) (v := (.bool true)) #[true, true, true, true, true, true, true, true, true, true, false, false, false, false, false, false, false, false, false, false, false, false, false, false] rfl (by kernel_rfl) (by kernel_rfl) (by kernel_rfl) (by kernel_rfl) (fun _ _ _ h => h) (.inl ⟨by kernel_rfl, fun x_ hu => by kernel_rfl⟩) trivial ?_
  simp only [Act.put, List.setIfInBounds_toArray, List.set_cons_zero, List.set_cons_succ, List.getElem_toArray, List.getElem_cons_zero, List.getElem_cons_succ]
  refine any_take (i := 11) (v := (.bool true)) #[true, true, true, true, true, true, true, true, true, true, true, false, false, false, false, false, false, false, false, false, false, false, false, false] rfl (by kernel_rfl) (by kernel_rfl) (by kernel_rfl) (by kernel_rfl) (fun _ _ _ h => h) (.inl ⟨by kernel_rfl, fun x_ hu => by kernel_rfl⟩) trivial ?_
  simp only [Act.put, List.setIfInBounds_toArray, List.set_cons_zero, List.set_cons_succ, List.getElem_toArray, List.getElem_cons_zero, List.getElem_cons_succ]
  refine any_take (i := 12) (v := (.slice a7 64 64)) #[true, true, true, true, true, true, true, true, true, true, true, true, false, false, false, false, false, false, false, false, false, false, false, false] rfl (by kernel_rfl) (by kernel_rfl) (by kernel_rfl) (by kernel_rfl) (fun _ _ _ h => h) (.inl ⟨by kernel_rfl, fun x_ hu => by kernel_rfl⟩) trivial ?_
  simp only [Act.put, List.setIfInBounds_toArray, List.set_cons_zero, List.set_cons_succ, List.getElem_toArray, List.getElem_cons_zero, List.getElem_cons_succ]
  refine any_take (i := 13) (v := (.slice a7 32 64)) #[true, true, true, true, true, true, true, true, true, true, true, true, true, false, false, false, false, false, false, false, false, false, false, false] rfl (by kernel_rfl) (by kernel_rfl) (by kernel_rfl) (by kernel_rfl) (fun _ _ _ h => h) (.inl ⟨by kernel_rfl, fun x_ hu => by go_simp⟩) trivial ?_
  simp only [Act.put, List.setIfInBounds_toArray, List.set_cons_zero, List.set_cons_succ, List.getElem_toArray, List.getElem_cons_zero, List.getElem_cons_succ]
  refine any_take (i := 14) (v := (.slice (some ⟨gx, 0, none⟩) 32 32)) #[true, true, true, true, true, true, true, true, true, true, true, true, true, true, false, false, false, false, false, false, false, false, false, false] rfl (by kernel_rfl) (by kernel_rfl) (by kernel_rfl) (by kernel_rfl) (fun _ _ _ h => h) (.inl ⟨by kernel_rfl, fun x_ hu => by go_simp⟩) trivial ?_
  simp only [Act.put, List.setIfInBounds_toArray, List.set_cons_zero, List.set_cons_succ, List.getElem_toArray, List.getElem_cons_zero, List.getElem_cons_succ]
  refine any_one (i := 15) (by kernel_rfl) rfl (fun K hK => ?_)
  refine step_callw (by kernel_rfl) 24 #[.slice a7 32 64, .slice (some ⟨gx, 0, none⟩) 32 32] (by kernel_rfl) ((equal_ok D1 a7 (some ⟨gx, 0, none⟩) 32 64 32 _ (unhide l7a) (kc_lb (unhide k1) hDl1 (unhide hDb1)) (by omega)).mono ?_)
  rintro r e2 ⟨rfl, rfl⟩
  refine ⟨_, rfl, ?_⟩
  refine hK.out _ _ trivial (fun _ => ?_)
  clear hK K
  simp only [Act.put, List.setIfInBounds_toArray, List.set_cons_zero, List.set_cons_succ, List.getElem_toArray, List.getElem_cons_zero, List.getElem_cons_succ]
  refine any_take (i := 16) (v := (.bool true)) #[true, true, true, true, true, true, true, true, true, true, true, true, true, true, true, true, false, false, false, false, false, false, false, false] rfl (by kernel_rfl) (by kernel_rfl) (by kernel_rfl) (by kernel_rfl) (fun _ _ _ h => h) (.inl ⟨by kernel_rfl, fun x_ hu => by kernel_rfl⟩) trivial ?_
  simp only [Act.put, List.setIfInBounds_toArray, List.set_cons_zero, List.set_cons_succ, List.getElem_toArray, List.getElem_cons_zero, List.getElem_cons_succ]
  refine any_take (i := 17) (v := (.bool true)) #[true, true, true, true, true, true, true, true, true, true, true, true, true, true, true, true, true, false, false, false, false, false, false, false] rfl (by kernel_rfl) (by kernel_rfl) (by kernel_rfl) (by kernel_rfl) (fun _ _ _ h => h) (.inl ⟨by kernel_rfl, fun x_ hu => by kernel_rfl⟩) trivial ?_
  simp only [Act.put, List.setIfInBounds_toArray, List.set_cons_zero, List.set_cons_succ, List.getElem_toArray, List.getElem_cons_zero, List.getElem_cons_succ]
  refine any_take (i := 18) (v := (.slice a7 64 64)) #[true, true, true, true, true, true, true, true, true, true, true, true, true, true, true, true, true, true, false, false, false, false, false, false] rfl (by kernel_rfl) (by kernel_rfl) (by kernel_rfl) (by kernel_rfl) (fun _ _ _ h => h) (.inl ⟨by kernel_rfl, fun x_ hu => by kernel_rfl⟩) trivial ?_
  simp only [Act.put, List.setIfInBounds_toArray, List.set_cons_zero, List.set_cons_succ, List.getElem_toArray, List.getElem_cons_zero, List.getElem_cons_succ]
  refine any_take (i := 19) (v := (.slice a8 32 32)) #[true, true, true, true, true, true, true, true, true, true, true, true, true, true, true, true, true, true, true, false, false, false, false, false] rfl (by kernel_rfl) (by kernel_rfl) (by kernel_rfl) (by kernel_rfl) (fun _ _ _ h => h) (.inl ⟨by kernel_rfl, fun x_ hu => by rw [unhide ha8]; go_simp⟩) trivial ?_
  simp only [Act.put, List.setIfInBounds_toArray, List.set_cons_zero, List.set_cons_succ, List.getElem_toArray, List.getElem_cons_zero, List.getElem_cons_succ]
  refine any_take (i := 20) (v := (.slice (some ⟨gy, 0, none⟩) 32 32)) #[true, true, true, true, true, true, true, true, true, true, true, true, true, true, true, true, true, true, true, true, false, false, false, false] rfl (by kernel_rfl) (by kernel_rfl) (by kernel_rfl) (by kernel_rfl) (fun _ _ _ h => h) (.inl ⟨by kernel_rfl, fun x_ hu => by go_simp⟩) trivial ?_
  simp only [Act.put, List.setIfInBounds_toArray, List.set_cons_zero, List.set_cons_succ, List.getElem_toArray, List.getElem_cons_zero, List.getElem_cons_succ]
  refine any_one (i := 21) (by kernel_rfl) rfl (fun K hK => ?_)
  refine step_callw (by kernel_rfl) 24 #[.slice a8 32 32, .slice (some ⟨gy, 0, none⟩) 32 32] (by kernel_rfl) ((equal_ok D2 a8 (some ⟨gy, 0, none⟩) 32 32 32 _ (unhide l7b) (kc_lb (unhide k2) hDl2 (unhide hDb2)) (by omega)).mono ?_)
  rintro r e3 ⟨rfl, rfl⟩
  refine ⟨_, rfl, ?_⟩
  refine hK.out _ _ trivial (fun _ => ?_)
  clear hK K
  simp only [Act.put, List.setIfInBounds_toArray, List.set_cons_zero, List.set_cons_succ, List.getElem_toArray, List.getElem_cons_zero, List.getElem_cons_succ]
  refine any_take (i := 22) (v := (.bool true)) #[true, true, true, true, true, true, true, true, true, true, true, true, true, true, true, true, true, true, true, true, true, true, false, false] rfl (by kernel_rfl) (by kernel_rfl) (by kernel_rfl) (by kernel_rfl) (fun _ _ _ h => h) (.inl ⟨by kernel_rfl, fun x_ hu => by kernel_rfl⟩) trivial ?_
  simp only [Act.put, List.setIfInBounds_toArray, List.set_cons_zero, List.set_cons_succ, List.getElem_toArray, List.getElem_cons_zero, List.getElem_cons_succ]
  refine any_one (i := 23) (by kernel_rfl) rfl (fun K hK => ?_)
  replace hK := hide hK
  go_simp
  refine (unhide hK).out _ _ trivial (fun _ => ?_)
  clear hK K
  refine any_done (by kernel_rfl) ?_
  clear l4 l7a l7b k1 k2 k3
  go_wp2_with fail
  rw [unhide hT]
  exact ⟨rfl, (unhide hI).gr⟩
end Go.Proofs.YthnmebhljkccnaaDoor
