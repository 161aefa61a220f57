/-
  What Tag answers.
-/
import Derived.Test.YtdekjbdkpchbjaaAeB
namespace Go.Proofs.Ytdekjbdkpchbjaa
open Go.RowKit
set_option maxRecDepth 100000
set_option linter.unusedSimpArgs false
set_option linter.unusedVariables false
theorem nocode {a b c d : Blk} (ha : a.t ≠ 71) (hb : b.t ≠ 71) (hc : c.t ≠ 71) (hd : d.t ≠ 71) : ∀ x ∈ [a, b, c, d], x.t ≠ 71 := by
  intro x hx
  simp only [List.mem_cons, List.not_mem_nil, or_false] at hx
  rcases hx with rfl | rfl | rfl | rfl <;> assumption
set_option maxHeartbeats 4000000 in
theorem atag_ok (K N : List Int) (hK : K.length = 32) (hN : N.length = 12) (hKb : IsB K) (hNb : IsB N) (A C : List Int) (s s2 : Option Addr) (n n2 cap cap2 : Nat) (w : World) (la : Lb w s n cap A) (lc : Lb w s2 n2 cap2 C) : Calls Try.prog 18 #[.agg (kc K), .agg (kc N), .slice s n cap, .slice s2 n2 cap2] w (Tg (tagL K N A C) w) := by
  obtain ⟨T, hT⟩ : ∃ T, T = Tg (tagL K N A C) w := ⟨_, rfl⟩
  rw [← hT]
  replace hT := hide hT
  obtain ⟨SK, hSK⟩ : ∃ S, S = kc K := ⟨_, rfl⟩
  obtain ⟨SN, hSN⟩ : ∃ S, S = kc N := ⟨_, rfl⟩
  rw [← hSK, ← hSN]
  replace hSK := hide hSK
  replace hSN := hide hSN
  have e1 : IntKind.u64.wrap (n : Int) = (n : Int) := by have h1 := la.cap; have h2 := la.max; rw [IntKind.wrap_u64]; omega
  have e2 : IntKind.u64.wrap (n2 : Int) = (n2 : Int) := by have h1 := lc.cap; have h2 := lc.max; rw [IntKind.wrap_u64]; omega
  have hAl := hide la.len
  have hCl := hide lc.len
  replace hKb := hide hKb
  replace hNb := hide hNb
  replace la := hide la
  replace lc := hide lc
  go_enter Try.func18, Try.ntmps18
  go_upto_region 1 with fail
  have hB := ((((Bl.nil w).new SK 23).new SN 25).new #[.int .u8 0, .int .u8 0, .int .u8 0, .int .u8 0, .int .u8 0, .int .u8 0, .int .u8 0, .int .u8 0, .int .u8 0, .int .u8 0, .int .u8 0, .int .u8 0, .int .u8 0, .int .u8 0, .int .u8 0, .int .u8 0] 41)
  simp only [size_alloc, List.nil_append, List.cons_append] at hB
  generalize World.alloc _ _ = u at *
  rw [unhide hSK, unhide hSN] at hB
  replace hB : Bl w [⟨w.heap.size, kc K, 23⟩, ⟨w.heap.size + 1, kc N, 25⟩, ⟨w.heap.size + 1 + 1, kc ZT, 41⟩] u := hB
  refine wp_region_lit ?_
  refine list_val (.agg (kc K)) (by kernel_rfl) (exec_arr _ 23 (.tmp 4) rfl (w.heap.size) (by kernel_rfl) (kc K) 23 _ (hB.get 0 (x := ⟨w.heap.size, kc K, 23⟩) rfl) Try.underlying23 rfl (by rw [Try.infoKey, kc_size, hK])) ?_
  simp only [Act.put, List.setIfInBounds_toArray, List.set_cons_zero, List.set_cons_succ, List.getElem_toArray, List.getElem_cons_zero, List.getElem_cons_succ]
  refine list_val (.agg (kc N)) (by kernel_rfl) (exec_arr _ 25 (.tmp 5) rfl (w.heap.size + 1) (by kernel_rfl) (kc N) 25 _ (hB.get 1 (x := ⟨w.heap.size + 1, kc N, 25⟩) rfl) Try.underlying25 rfl (by rw [Try.infoN, kc_size, hN])) ?_
  simp only [Act.put, List.setIfInBounds_toArray, List.set_cons_zero, List.set_cons_succ, List.getElem_toArray, List.getElem_cons_zero, List.getElem_cons_succ]
  refine list_call 26 #[.agg (kc K), .agg (kc N)] (by kernel_rfl) (by kernel_rfl) ((once_ok K N hK hN (unhide hKb) (unhide hNb) _).mono ?_)
  rintro r u1 ⟨rfl, hg⟩
  refine ⟨_, rfl, ?_⟩
  replace hB := hB.more hg
  clear hg
  have hTg : Hid (∀ A C, tagL K N A C = mcL (otk K N) (tin A C)) := fun _ _ => rfl
  have hOl := otk_len K N
  have hOb := hide (otk_isB K N)
  generalize otk K N = O at *
  simp only [Act.put, List.setIfInBounds_toArray, List.set_cons_zero, List.set_cons_succ, List.getElem_toArray, List.getElem_cons_zero, List.getElem_cons_succ]
  refine list_call 25 #[.agg (kc O)] (by kernel_rfl) (by kernel_rfl) ((new_ok O hOl (unhide hOb) _).mono ?_)
  rintro r u2 ⟨gc, rfl, hgc, cd, hg⟩
  refine ⟨_, rfl, ?_⟩
  have hgw : w.heap.size ≤ gc := Nat.le_trans hB.gr.size hgc
  replace hB := hB.more hg
  clear hg hgc
  simp only [Act.put, List.setIfInBounds_toArray, List.set_cons_zero, List.set_cons_succ, List.getElem_toArray, List.getElem_cons_zero, List.getElem_cons_succ]
  replace hB := hide hB
  (refine wpList_step fun K hK => ?_; replace hK := hide hK; go_simp; refine unhide hK _ _ ?_; clear hK K)
  replace cd := cd.gr ((Gr.refl u2).alloc (.cells #[.pointer none] 49 (0, 0)))
  replace hB := (unhide hB).new #[.pointer none] 49
  simp only [List.nil_append, List.cons_append] at hB
  generalize World.alloc _ _ = u3 at *
  generalize u2.heap.size = h9 at *
  replace hB : Bl w [⟨w.heap.size, kc K, 23⟩, ⟨w.heap.size + 1, kc N, 25⟩, ⟨w.heap.size + 1 + 1, kc ZT, 41⟩, ⟨h9, #[.pointer none], 49⟩] u3 := hB
  have c4 := cell_of (i := 0) (hB.get 3 (x := ⟨h9, #[.pointer none], 49⟩) rfl) rfl
  have fz := froz_of (i := 0) (hB.get 3 (x := ⟨h9, #[.pointer none], 49⟩) rfl)
  have hne := cd.ne (hB.get 3 (x := ⟨h9, #[.pointer none], 49⟩) rfl) (show (49 : TypeId) ≠ 71 by decide)
  have hB2 := hB.cell 3 (x := ⟨h9, #[.pointer none], 49⟩) rfl 0 (.pointer (some ⟨gc, 0, none⟩))
  have hB3 : Bl w [⟨w.heap.size, kc K, 23⟩, ⟨w.heap.size + 1, kc N, 25⟩, ⟨w.heap.size + 1 + 1, kc ZT, 41⟩, ⟨h9, #[.pointer (some ⟨gc, 0, none⟩)], 49⟩] _ := hB2
  replace cd : Cd O gc [] (World.setCell u3 ⟨h9, 0, none⟩ (.pointer (some ⟨gc, 0, none⟩))) := cd.keep (Below.heap_setCell u3 ⟨h9, 0, none⟩ _ gc hne.symm)
  clear hB hB2
  dsimp only at c4 fz
  replace hB3 := hide hB3
  replace cd := hide cd
  (refine wpList_step fun K hK => ?_; replace hK := hide hK; go_simp; refine unhide hK _ _ ?_; clear hK K)
  clear c4 fz
  generalize World.setCell _ _ _ = u4 at *
  have hB := unhide hB3
  replace cd := unhide cd
  clear hB3
  refine wpList_nil ?_
  replace hB := hide hB
  replace cd := hide cd
  go_upto_region 2 with fail
  replace hB := unhide hB
  replace cd := unhide cd
  refine wp_region_lit ?_
  refine list_val (.func (.func 27) #[] #[.pointer (some ⟨h9, 0, none⟩)]) (by kernel_rfl) (by kernel_rfl) ?_
  simp only [Act.put, List.setIfInBounds_toArray, List.set_cons_zero, List.set_cons_succ, List.getElem_toArray, List.getElem_cons_zero, List.getElem_cons_succ]
  (refine wpList_step fun K hK => ?_; replace hK := hide hK; go_simp; refine unhide hK _ _ ?_; clear hK K)
  refine wpList_nil ?_
  replace hB := hide hB
  replace cd := hide cd
  go_upto_region 3 with fail
  replace hB := unhide hB
  replace cd := unhide cd
  refine wp_region_lit ?_
  refine list_val (.func (.func 27) #[] #[.pointer (some ⟨h9, 0, none⟩)]) (by kernel_rfl) (by kernel_rfl) ?_
  simp only [Act.put, List.setIfInBounds_toArray, List.set_cons_zero, List.set_cons_succ, List.getElem_toArray, List.getElem_cons_zero, List.getElem_cons_succ]
  refine list_val (.slice s n cap) (by kernel_rfl) (by kernel_rfl) ?_
  simp only [Act.put, List.setIfInBounds_toArray, List.set_cons_zero, List.set_cons_succ, List.getElem_toArray, List.getElem_cons_zero, List.getElem_cons_succ]
  refine list_call 27 #[.slice s n cap, .pointer (some ⟨h9, 0, none⟩)] (by kernel_rfl) (by kernel_rfl) ((fill_ok O [] A gc h9 s n cap _ cd (hB.get 3 (x := ⟨h9, #[.pointer (some ⟨gc, 0, none⟩)], 49⟩) rfl) (fun v h => (unhide la).gr (h.gr hB.gr hgw))).mono ?_)
  rintro r u5 ⟨rfl, cd2, hb⟩
  refine ⟨_, rfl, ?_⟩
  replace hB := hB.beside cd hb hgw (nocode (show (23 : TypeId) ≠ 71 by decide) (show (25 : TypeId) ≠ 71 by decide) (show (41 : TypeId) ≠ 71 by decide) (show (49 : TypeId) ≠ 71 by decide))
  clear cd hb
  have cd := cd2
  clear cd2
  simp only [Act.put, List.setIfInBounds_toArray, List.set_cons_zero, List.set_cons_succ, List.getElem_toArray, List.getElem_cons_zero, List.getElem_cons_succ]
  refine wpList_nil ?_
  rw [List.nil_append] at cd
  replace hB := hide hB
  replace cd := hide cd
  go_upto_region 4 with fail
  replace hB := unhide hB
  replace cd := unhide cd
  refine wp_region_lit ?_
  refine list_val (.func (.func 27) #[] #[.pointer (some ⟨h9, 0, none⟩)]) (by kernel_rfl) (by kernel_rfl) ?_
  simp only [Act.put, List.setIfInBounds_toArray, List.set_cons_zero, List.set_cons_succ, List.getElem_toArray, List.getElem_cons_zero, List.getElem_cons_succ]
  refine list_val (.slice s2 n2 cap2) (by kernel_rfl) (by kernel_rfl) ?_
  simp only [Act.put, List.setIfInBounds_toArray, List.set_cons_zero, List.set_cons_succ, List.getElem_toArray, List.getElem_cons_zero, List.getElem_cons_succ]
  refine list_call 27 #[.slice s2 n2 cap2, .pointer (some ⟨h9, 0, none⟩)] (by kernel_rfl) (by kernel_rfl) ((fill_ok O (pd A) C gc h9 s2 n2 cap2 _ cd (hB.get 3 (x := ⟨h9, #[.pointer (some ⟨gc, 0, none⟩)], 49⟩) rfl) (fun v h => (unhide lc).gr (h.gr hB.gr hgw))).mono ?_)
  rintro r u6 ⟨rfl, cd2, hb⟩
  refine ⟨_, rfl, ?_⟩
  replace hB := hB.beside cd hb hgw (nocode (show (23 : TypeId) ≠ 71 by decide) (show (25 : TypeId) ≠ 71 by decide) (show (41 : TypeId) ≠ 71 by decide) (show (49 : TypeId) ≠ 71 by decide))
  clear cd hb
  have cd := cd2
  clear cd2
  simp only [Act.put, List.setIfInBounds_toArray, List.set_cons_zero, List.set_cons_succ, List.getElem_toArray, List.getElem_cons_zero, List.getElem_cons_succ]
  refine wpList_nil ?_
  replace hB := hide hB
  replace cd := hide cd
  go_upto_region 5 with fail
  replace hB := unhide hB
  replace cd := unhide cd
  refine any_start (S := fun v => Bl w [⟨w.heap.size, kc K, 23⟩, ⟨w.heap.size + 1, kc N, 25⟩, ⟨w.heap.size + 1 + 1, kc ZT, 41⟩, ⟨h9, #[.pointer (some ⟨gc, 0, none⟩)], 49⟩] v) (by kernel_rfl) ?_
  replace hB := hB.drew
  replace cd := cd.gr (Gr.refl _).drew
  generalize World.drew _ = x0 at *
  simp only [List.size_toArray, List.length_cons, List.length_nil, Array.replicate, List.replicate]
  refine any_take (i := 0) (v := (.pointer (some ⟨gc, 0, none⟩))) #[false, false, false, false, false, false, false, false, false, false] rfl (by kernel_rfl) (by kernel_rfl) (by kernel_rfl) (by kernel_rfl) (fun _ _ _ h => h) (.inl ⟨by kernel_rfl, fun x_ hu => exec_ptr _ (.tmp 9) rfl h9 0 (by kernel_rfl) (some ⟨gc, 0, none⟩) (cell_of (hu.get 3 (x := ⟨h9, #[.pointer (some ⟨gc, 0, none⟩)], 49⟩) rfl) rfl)⟩) hB ?_
  simp only [Act.put, List.setIfInBounds_toArray, List.set_cons_zero, List.set_cons_succ, List.getElem_toArray, List.getElem_cons_zero, List.getElem_cons_succ]
  refine any_take (i := 1) (v := (.slice s n cap)) #[true, false, false, false, false, false, false, false, false, false] rfl (by kernel_rfl) (by kernel_rfl) (by kernel_rfl) (by kernel_rfl) (fun _ _ _ h => h) (.inl ⟨by kernel_rfl, fun x_ hu => by kernel_rfl⟩) hB ?_
  simp only [Act.put, List.setIfInBounds_toArray, List.set_cons_zero, List.set_cons_succ, List.getElem_toArray, List.getElem_cons_zero, List.getElem_cons_succ]
  refine any_take (i := 2) (v := (.int .i64 n)) #[true, true, false, false, false, false, false, false, false, false] rfl (by kernel_rfl) (by kernel_rfl) (by kernel_rfl) (by kernel_rfl) (fun _ _ _ h => h) (.inl ⟨by kernel_rfl, fun x_ hu => by kernel_rfl⟩) hB ?_
  simp only [Act.put, List.setIfInBounds_toArray, List.set_cons_zero, List.set_cons_succ, List.getElem_toArray, List.getElem_cons_zero, List.getElem_cons_succ]
  refine any_take (i := 3) (v := (.int .u64 n)) #[true, true, true, false, false, false, false, false, false, false] rfl (by kernel_rfl) (by kernel_rfl) (by kernel_rfl) (by kernel_rfl) (fun _ _ _ h => h) (.inl ⟨by kernel_rfl, fun x_ hu => by go_simp⟩) hB ?_
  simp only [Act.put, List.setIfInBounds_toArray, List.set_cons_zero, List.set_cons_succ, List.getElem_toArray, List.getElem_cons_zero, List.getElem_cons_succ]
  refine any_take (i := 5) (v := (.slice s2 n2 cap2)) #[true, true, true, true, false, false, false, false, false, false] rfl (by kernel_rfl) (by kernel_rfl) (by kernel_rfl) (by kernel_rfl) (fun _ _ _ h => h) (.inl ⟨by kernel_rfl, fun x_ hu => by kernel_rfl⟩) hB ?_
  simp only [Act.put, List.setIfInBounds_toArray, List.set_cons_zero, List.set_cons_succ, List.getElem_toArray, List.getElem_cons_zero, List.getElem_cons_succ]
  refine any_take (i := 6) (v := (.int .i64 n2)) #[true, true, true, true, false, true, false, false, false, false] rfl (by kernel_rfl) (by kernel_rfl) (by kernel_rfl) (by kernel_rfl) (fun _ _ _ h => h) (.inl ⟨by kernel_rfl, fun x_ hu => by kernel_rfl⟩) hB ?_
  simp only [Act.put, List.setIfInBounds_toArray, List.set_cons_zero, List.set_cons_succ, List.getElem_toArray, List.getElem_cons_zero, List.getElem_cons_succ]
  refine any_take (i := 7) (v := (.int .u64 n2)) #[true, true, true, true, false, true, true, false, false, false] rfl (by kernel_rfl) (by kernel_rfl) (by kernel_rfl) (by kernel_rfl) (fun _ _ _ h => h) (.inl ⟨by kernel_rfl, fun x_ hu => by go_simp⟩) hB ?_
  simp only [Act.put, List.setIfInBounds_toArray, List.set_cons_zero, List.set_cons_succ, List.getElem_toArray, List.getElem_cons_zero, List.getElem_cons_succ]
  refine any_one (i := 4) (by kernel_rfl) rfl (fun K_ hQ => ?_)
  refine step_callw (by kernel_rfl) 29 #[.slice none 0 0, .int .u64 n] (by kernel_rfl) ((put64_ok [] none 0 0 n (by omega) (by omega) _ (Lb.nil0 _)).mono ?_)
  rintro r v1 ⟨ga, rfl, hga, ha, hg⟩
  refine ⟨_, rfl, ?_⟩
  replace hB := hB.more hg
  replace cd := cd.gr hg
  rw [List.nil_append] at ha
  have l1 : Lb v1 (some ⟨ga, 0, none⟩) 8 8 (lowL (n : Int) 8) := kc_lb ha (lowL_len _ _) (lowL_isB _ _) (by omega)
  clear hg ha hga
  rw [List.nil_append, lowL_len]
  refine hQ.out _ _ hB (fun _ => ?_)
  clear hQ K_
  simp only [Act.put, List.setIfInBounds_toArray, List.set_cons_zero, List.set_cons_succ, List.getElem_toArray, List.getElem_cons_zero, List.getElem_cons_succ]
  refine any_one (i := 8) (by kernel_rfl) rfl (fun K_ hQ => ?_)
  refine step_callw (by kernel_rfl) 29 #[.slice (some ⟨ga, 0, none⟩) 8 8, .int .u64 n2] (by kernel_rfl) ((put64_ok (lowL (n : Int) 8) _ 8 8 n2 (by omega) (by omega) _ l1).mono ?_)
  rintro r v2 ⟨gb, rfl, hgb, hb, hg⟩
  refine ⟨_, rfl, ?_⟩
  replace hB := hB.more hg
  replace cd := cd.gr hg
  have l2 : Lb v2 (some ⟨gb, 0, none⟩) 16 16 (lowL (n : Int) 8 ++ lowL (n2 : Int) 8) := kc_lb hb (by rw [List.length_append, lowL_len, lowL_len]) ((lowL_isB _ _).append (lowL_isB _ _)) (by omega)
  have hnb := cd.ne hb (by decide)
  clear hg l1 hgb
  rw [List.length_append, lowL_len, lowL_len]
  refine hQ.out _ _ hB (fun _ => ?_)
  clear hQ K_
  simp only [Act.put, List.setIfInBounds_toArray, List.set_cons_zero, List.set_cons_succ, List.getElem_toArray, List.getElem_cons_zero, List.getElem_cons_succ]
  refine any_one (i := 9) (by kernel_rfl) rfl (fun K_ hQ => ?_)
  refine step_callw (by kernel_rfl) 28 #[.pointer (some ⟨gc, 0, none⟩), .slice (some ⟨gb, 0, none⟩) 16 16] (by kernel_rfl) ((write_ok O (pd A ++ pd C) (lowL (n : Int) 8 ++ lowL (n2 : Int) 8) gc _ 16 16 _ cd (fun v h => kc_lb (h.blk hb hnb) (by rw [List.length_append, lowL_len, lowL_len]) ((lowL_isB _ _).append (lowL_isB _ _)) (by omega))).mono ?_)
  rintro r v3 ⟨rfl, cd2, hbt⟩
  refine ⟨_, rfl, ?_⟩
  replace hB := hB.beside cd hbt hgw (nocode (show (23 : TypeId) ≠ 71 by decide) (show (25 : TypeId) ≠ 71 by decide) (show (41 : TypeId) ≠ 71 by decide) (show (49 : TypeId) ≠ 71 by decide))
  clear hbt cd l2 hb hnb
  refine hQ.out _ _ hB (fun _ => ?_)
  clear hQ K_
  simp only [Act.put, List.setIfInBounds_toArray, List.set_cons_zero, List.set_cons_succ, List.getElem_toArray, List.getElem_cons_zero, List.getElem_cons_succ]
  refine any_done (by kernel_rfl) ?_
  have hXt := unhide hTg A C
  unfold tin at hXt
  rw [unhide hAl, unhide hCl] at hXt
  replace hXt := hide hXt
  replace hB := hide hB
  replace cd2 := hide cd2
  go_upto_region 6 with fail
  replace hB := unhide hB
  replace cd2 := unhide cd2
  refine wp_region_lit ?_
  refine list_val (.pointer (some ⟨gc, 0, none⟩)) (by kernel_rfl) (exec_ptr _ (.tmp 9) rfl h9 0 (by kernel_rfl) (some ⟨gc, 0, none⟩) (cell_of (hB.get 3 (x := ⟨h9, #[.pointer (some ⟨gc, 0, none⟩)], 49⟩) rfl) rfl)) ?_
  simp only [Act.put, List.setIfInBounds_toArray, List.set_cons_zero, List.set_cons_succ, List.getElem_toArray, List.getElem_cons_zero, List.getElem_cons_succ]
  refine list_call 30 #[.pointer (some ⟨gc, 0, none⟩)] (by kernel_rfl) (by kernel_rfl) ((ctag_ok O _ gc _ cd2).mono ?_)
  rintro r v4 ⟨rfl, hg⟩
  refine ⟨_, rfl, ?_⟩
  replace hB := hB.more hg
  clear hg cd2
  rw [← unhide hXt]
  have hXl := tagL_len K N A C
  clear hXt
  generalize tagL K N A C = X at *
  simp only [Act.put, List.setIfInBounds_toArray, List.set_cons_zero, List.set_cons_succ, List.getElem_toArray, List.getElem_cons_zero, List.getElem_cons_succ]
  refine list_store 41 (.tmp 8) (.tmp 33) (w.heap.size + 1 + 1) (kc X) 41 (kc ZT) (by kernel_rfl) rfl (by kernel_rfl) (by kernel_rfl) (hB.get 2 (x := ⟨w.heap.size + 1 + 1, kc ZT, 41⟩) rfl) (by rw [Try.infoT, kc_size, hXl]) ((show (kc ZT).size = 16 from rfl).trans ((kc_size _).trans hXl).symm) (kc_one _) ?_
  replace hB := hB.set 2 (x := ⟨w.heap.size + 1 + 1, kc ZT, 41⟩) rfl (kc X)
  simp only [List.set_cons_zero, List.set_cons_succ] at hB
  generalize World.setRow _ _ _ = v5 at *
  simp only [Act.put, List.setIfInBounds_toArray, List.set_cons_zero, List.set_cons_succ, List.getElem_toArray, List.getElem_cons_zero, List.getElem_cons_succ]
  refine wpList_nil ?_
  replace hB := hide hB
  go_wp2_with fail
  replace hB := unhide hB
  rw [unhide hT]
  exact bodyPost_ret (v := .agg (kc X)) (results_cell_row Try.results18 _ _ (w.heap.size + 1 + 1) 41 (kc X) (0, 0) _ rfl (hB.get 2 (x := ⟨w.heap.size + 1 + 1, kc X, 41⟩) rfl) Try.underlying41 rfl (by rw [Try.infoT, kc_size, hXl])) rfl (⟨rfl, hB.gr⟩)
end Go.Proofs.Ytdekjbdkpchbjaa
