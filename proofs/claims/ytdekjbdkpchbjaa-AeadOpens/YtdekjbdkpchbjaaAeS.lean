/-
  The reference: what Tag, Seal, Open and Count answer.
-/
import Derived.Test.YtdekjbdkpchbjaaAeR
namespace Go.Proofs.Ytdekjbdkpchbjaa
open Go.RowKit
set_option maxRecDepth 100000
set_option linter.unusedSimpArgs false
set_option linter.unusedVariables false
theorem nobyte {a b c d e : Blk} (ha : a.t ≠ 5) (hb : b.t ≠ 5) (hc : c.t ≠ 5) (hd : d.t ≠ 5) (he : e.t ≠ 5) : ∀ x ∈ [a, b, c, d, e], x.t ≠ 5 := by
  intro x hx
  simp only [List.mem_cons, List.not_mem_nil, or_false] at hx
  rcases hx with rfl | rfl | rfl | rfl | rfl <;> assumption
set_option maxHeartbeats 4000000 in
theorem rtag_ok (K N : List Int) (hK : K.length = 32) (hN : N.length = 12) (hKb : IsB K) (hNb : IsB N) (A C : List Int) (s s2 : Option Addr) (n n2 cap cap2 : Nat) (hbn : n ≤ 20000) (hbn2 : n2 ≤ 20000) (w : World) (la : Lb w s n cap A) (lc : Lb w s2 n2 cap2 C) : Calls Try.prog 19 #[.agg (kc K), .agg (kc N), .slice s n cap, .slice s2 n2 cap2] w (Tg (tagL K N A C) w) := by
  obtain ⟨T, hT⟩ : ∃ T, T = Tg (tagL K N A C) w := ⟨_, rfl⟩
  rw [← hT]
  replace hT := hide hT
  obtain ⟨SK, hSK⟩ : ∃ S, S = kc K := ⟨_, rfl⟩
  obtain ⟨SN, hSN⟩ : ∃ S, S = kc N := ⟨_, rfl⟩
  rw [← hSK, ← hSN]
  replace hSK := hide hSK
  replace hSN := hide hSN
  have e1 : IntKind.u64.wrap (n : Int) = (n : Int) := by rw [IntKind.wrap_u64]; omega
  have e2 : IntKind.u64.wrap (n2 : Int) = (n2 : Int) := by rw [IntKind.wrap_u64]; omega
  have hAl := hide la.len
  have hCl := hide lc.len
  have hAb := hide la.isB
  have hCb := hide lc.isB
  replace hKb := hide hKb
  replace hNb := hide hNb
  replace la := hide la
  replace lc := hide lc
  go_enter Try.func19, Try.ntmps19
  go_upto_region 1 with fail
  have hB := ((((Bl.nil w).new SK 23).new SN 25).new #[.int .u8 0, .int .u8 0, .int .u8 0, .int .u8 0, .int .u8 0, .int .u8 0, .int .u8 0, .int .u8 0, .int .u8 0, .int .u8 0, .int .u8 0, .int .u8 0, .int .u8 0, .int .u8 0, .int .u8 0, .int .u8 0] 41)
  simp only [size_alloc, List.nil_append, List.cons_append] at hB
  generalize World.alloc _ _ = u at *
  rw [unhide hSK, unhide hSN] at hB
  replace hB : Bl w [⟨w.heap.size, kc K, 23⟩, ⟨w.heap.size + 1, kc N, 25⟩, ⟨w.heap.size + 1 + 1, kc ZT, 41⟩] u := hB
  refine wp_region_lit ?_
  refine list_val (.agg (kc K)) (by kernel_rfl) (exec_arr _ 23 (.tmp 4) rfl (w.heap.size) (by kernel_rfl) (kc K) 23 _ (hB.get 0 (x := ⟨w.heap.size, kc K, 23⟩) rfl) Try.underlying23 rfl (by rw [Try.infoKey, kc_size, hK])) ?_
  simp only [Act.put, List.setIfInBounds_toArray, List.set_cons_zero, List.set_cons_succ, List.getElem_toArray, List.getElem_cons_zero, List.getElem_cons_succ]
  refine list_val (.agg (kc N)) (by kernel_rfl) (exec_arr _ 25 (.tmp 5) rfl (w.heap.size + 1) (by kernel_rfl) (kc N) 25 _ (hB.get 1 (x := ⟨w.heap.size + 1, kc N, 25⟩) rfl) Try.underlying25 rfl (by rw [Try.infoN, kc_size, hN])) ?_
  simp only [Act.put, List.setIfInBounds_toArray, List.set_cons_zero, List.set_cons_succ, List.getElem_toArray, List.getElem_cons_zero, List.getElem_cons_succ]
  refine list_call 31 #[.agg (kc K), .int .u32 0, .agg (kc N)] (by kernel_rfl) (by kernel_rfl) ((rblock_ok K N hK hN (unhide hKb) (unhide hNb) 0 _).mono ?_)
  rintro r u1 ⟨rfl, hg⟩
  refine ⟨_, rfl, ?_⟩
  replace hB := hB.more hg
  clear hg
  obtain ⟨D, hD⟩ : ∃ D, D = bk K N 0 := ⟨_, rfl⟩
  rw [← hD]
  have hDl : D.length = 64 := by rw [hD, bk_len]
  replace hD := hide hD
  simp only [Act.put, List.setIfInBounds_toArray, List.set_cons_zero, List.set_cons_succ, List.getElem_toArray, List.getElem_cons_zero, List.getElem_cons_succ]
  replace hB := hide hB
  (refine wpList_step fun K hK => ?_; replace hK := hide hK; go_simp; refine unhide hK _ _ ?_; clear hK K)
  replace hB := (unhide hB).new #[.int .u8 0, .int .u8 0, .int .u8 0, .int .u8 0, .int .u8 0, .int .u8 0, .int .u8 0, .int .u8 0, .int .u8 0, .int .u8 0, .int .u8 0, .int .u8 0, .int .u8 0, .int .u8 0, .int .u8 0, .int .u8 0, .int .u8 0, .int .u8 0, .int .u8 0, .int .u8 0, .int .u8 0, .int .u8 0, .int .u8 0, .int .u8 0, .int .u8 0, .int .u8 0, .int .u8 0, .int .u8 0, .int .u8 0, .int .u8 0, .int .u8 0, .int .u8 0, .int .u8 0, .int .u8 0, .int .u8 0, .int .u8 0, .int .u8 0, .int .u8 0, .int .u8 0, .int .u8 0, .int .u8 0, .int .u8 0, .int .u8 0, .int .u8 0, .int .u8 0, .int .u8 0, .int .u8 0, .int .u8 0, .int .u8 0, .int .u8 0, .int .u8 0, .int .u8 0, .int .u8 0, .int .u8 0, .int .u8 0, .int .u8 0, .int .u8 0, .int .u8 0, .int .u8 0, .int .u8 0, .int .u8 0, .int .u8 0, .int .u8 0, .int .u8 0] 56
  simp only [List.nil_append, List.cons_append] at hB
  generalize World.alloc _ _ = u2 at *
  generalize u1.heap.size = h9 at *
  replace hB : Bl w [⟨w.heap.size, kc K, 23⟩, ⟨w.heap.size + 1, kc N, 25⟩, ⟨w.heap.size + 1 + 1, kc ZT, 41⟩, ⟨h9, kc Z64, 56⟩] u2 := hB
  refine list_store 56 (.tmp 9) (.tmp 14) (h9) (kc D) 56 (kc Z64) (by kernel_rfl) rfl (by kernel_rfl) (by kernel_rfl) (hB.get 3 (x := ⟨h9, kc Z64, 56⟩) rfl) (by rw [Try.info64, kc_size, hDl]) ((show (kc Z64).size = 64 from rfl).trans ((kc_size _).trans hDl).symm) (kc_one _) ?_
  replace hB := hB.set 3 (x := ⟨h9, kc Z64, 56⟩) rfl (kc D)
  simp only [List.set_cons_zero, List.set_cons_succ] at hB
  generalize World.setRow _ _ _ = u3 at *
  simp only [Act.put, List.setIfInBounds_toArray, List.set_cons_zero, List.set_cons_succ, List.getElem_toArray, List.getElem_cons_zero, List.getElem_cons_succ]
  refine wpList_nil ?_
  replace hB := hide hB
  go_upto_region 2 with fail
  replace hB := unhide hB
  refine wp_region_lit ?_
  replace hB := hide hB
  (refine wpList_step fun K hK => ?_; replace hK := hide hK; go_simp; refine unhide hK _ _ ?_; clear hK K)
  replace hB := (unhide hB).new #[.int .u8 0, .int .u8 0, .int .u8 0, .int .u8 0, .int .u8 0, .int .u8 0, .int .u8 0, .int .u8 0, .int .u8 0, .int .u8 0, .int .u8 0, .int .u8 0, .int .u8 0, .int .u8 0, .int .u8 0, .int .u8 0, .int .u8 0, .int .u8 0, .int .u8 0, .int .u8 0, .int .u8 0, .int .u8 0, .int .u8 0, .int .u8 0, .int .u8 0, .int .u8 0, .int .u8 0, .int .u8 0, .int .u8 0, .int .u8 0, .int .u8 0, .int .u8 0] 23
  simp only [List.nil_append, List.cons_append] at hB
  generalize World.alloc _ _ = u4 at *
  generalize u3.heap.size = h10 at *
  replace hB : Bl w [⟨w.heap.size, kc K, 23⟩, ⟨w.heap.size + 1, kc N, 25⟩, ⟨w.heap.size + 1 + 1, kc ZT, 41⟩, ⟨h9, kc D, 56⟩, ⟨h10, kc ZK, 23⟩] u4 := hB
  refine wpList_nil ?_
  replace hB := hide hB
  go_upto_region 3 with fail
  replace hB := unhide hB
  refine any_start (S := fun _ => True) (by kernel_rfl) ?_
  replace hB := hB.drew
  generalize World.drew _ = x0 at *
  simp only [List.size_toArray, List.length_cons, List.length_nil, Array.replicate, List.replicate]
  refine any_take (i := 0) (v := (.slice (some ⟨h10, 0, none⟩) 32 32)) #[false, false, false] rfl (by kernel_rfl) (by kernel_rfl) (by kernel_rfl) (by kernel_rfl) (fun _ _ _ h => h) (.inl ⟨by kernel_rfl, fun x_ hu => by kernel_rfl⟩) trivial ?_
  simp only [Act.put, List.setIfInBounds_toArray, List.set_cons_zero, List.set_cons_succ, List.getElem_toArray, List.getElem_cons_zero, List.getElem_cons_succ]
  refine any_take (i := 1) (v := (.slice (some ⟨h9, 0, none⟩) 32 64)) #[true, false, false] rfl (by kernel_rfl) (by kernel_rfl) (by kernel_rfl) (by kernel_rfl) (fun _ _ _ h => h) (.inl ⟨by kernel_rfl, fun x_ hu => by kernel_rfl⟩) trivial ?_
  simp only [Act.put, List.setIfInBounds_toArray, List.set_cons_zero, List.set_cons_succ, List.getElem_toArray, List.getElem_cons_zero, List.getElem_cons_succ]
  refine any_one (i := 2) (by kernel_rfl) rfl (fun K_ hQ => ?_)
  rw [if_pos (by kernel_rfl)]
  obtain ⟨E, hE⟩ : ∃ E, E = D.take 32 := ⟨_, rfl⟩
  have hEl : E.length = 32 := by rw [hE, List.length_take, hDl]; rfl
  refine copy_wp (.tmp 15) (.tmp 16) rfl h10 0 32 32 (some ⟨h9, 0, none⟩) 32 64 (by kernel_rfl) (by kernel_rfl) (ZK.map (Value.int .u8)) 23 (hB.get 4 (x := ⟨h10, kc ZK, 23⟩) rfl) E (by rw [hEl]; rfl) (.inr ⟨h9, 0, rfl, by rw [hE]; exact (kc_at (hB.get 3 (x := ⟨h9, kc D, 56⟩) rfl)).take 32⟩) (by rw [hEl]; exact Nat.le_refl _) ?_
  have hcell := laid (S := E) (o := 0) (hB.get 4 (x := ⟨h10, kc ZK, 23⟩) rfl) (by rw [hEl]; exact Nat.le_refl _)
  rw [lay_all ZK E hEl] at hcell
  have hB2 := hB.but (setCells_bt (E.map (Value.int .u8)) x0 h10 0) 4 (x := ⟨h10, kc ZK, 23⟩) rfl rfl hcell
  simp only [List.set_cons_zero, List.set_cons_succ] at hB2
  clear hcell hB
  generalize World.setCells _ _ _ _ = x1 at *
  refine hQ.out _ _ trivial (fun _ => ?_)
  clear hQ K_
  simp only [Act.put, List.setIfInBounds_toArray, List.set_cons_zero, List.set_cons_succ, List.getElem_toArray, List.getElem_cons_zero, List.getElem_cons_succ]
  refine any_done (by kernel_rfl) ?_
  rw [hEl]
  have hB := hB2
  clear hB2
  have hTg : Hid (tagL K N A C = mcL E (tin A C)) := by
    show tagL K N A C = _
    unfold tagL otk
    rw [hE, unhide hD]
  have hEb : Hid (IsB E) := by rw [hE, unhide hD]; exact (bk_isB _ _ _).take 32
  replace hE := hide hE
  replace hB := hide hB
  go_upto_region 4 with fail
  replace hB := unhide hB
  refine wp_region_lit ?_
  refine list_val (.slice s n cap) (by kernel_rfl) (by kernel_rfl) ?_
  simp only [Act.put, List.setIfInBounds_toArray, List.set_cons_zero, List.set_cons_succ, List.getElem_toArray, List.getElem_cons_zero, List.getElem_cons_succ]
  have hgw := hB.gr.size
  refine list_call 32 #[.slice s n cap] (by kernel_rfl) (by kernel_rfl) ((rfilled_ok A s n cap (by omega) _ ((unhide la).gr hB.gr)).mono ?_)
  rintro r x3 ⟨v1, rfl, ob, hg⟩
  refine ⟨_, rfl, ?_⟩
  replace hB := hB.more hg
  replace ob := ob.up hgw
  clear hg hgw
  simp only [Act.put, List.setIfInBounds_toArray, List.set_cons_zero, List.set_cons_succ, List.getElem_toArray, List.getElem_cons_zero, List.getElem_cons_succ]
  refine list_val (.slice s2 n2 cap2) (by kernel_rfl) (by kernel_rfl) ?_
  simp only [Act.put, List.setIfInBounds_toArray, List.set_cons_zero, List.set_cons_succ, List.getElem_toArray, List.getElem_cons_zero, List.getElem_cons_succ]
  refine list_call 32 #[.slice s2 n2 cap2] (by kernel_rfl) (by kernel_rfl) ((rfilled_ok C s2 n2 cap2 (by omega) _ ((unhide lc).gr hB.gr)).mono ?_)
  rintro r x4 ⟨v2, rfl, ob2, hg⟩
  refine ⟨_, rfl, ?_⟩
  replace hB := hB.more hg
  replace ob := ob.gr hg
  obtain ⟨a2, c2, rfl, l2⟩ := ob2.lb (pd_isB (unhide hCb))
  obtain ⟨m2, hm2⟩ : ∃ m, (pd C).length = m := ⟨_, rfl⟩
  rw [hm2] at l2 ⊢
  have hm2b : m2 ≤ 20016 := by rw [← hm2, pd_len, unhide hCl]; have := padz_lt n2; omega
  have hAb2 : (pd A).length ≤ 20016 := by rw [pd_len, unhide hAl]; have := padz_lt n; omega
  clear hg ob2
  simp only [Act.put, List.setIfInBounds_toArray, List.set_cons_zero, List.set_cons_succ, List.getElem_toArray, List.getElem_cons_zero, List.getElem_cons_succ]
  refine app_bs (by kernel_rfl) (.tmp 19) (.tmp 21) rfl w.heap.size v1 (pd A) rfl ob a2 m2 c2 (pd C) rfl hm2 l2.sl (by omega) hB.gr.size ?_
  intro v3 x5 ob3 hgr
  simp only [Act.put, List.setIfInBounds_toArray, List.set_cons_zero, List.set_cons_succ, List.getElem_toArray, List.getElem_cons_zero, List.getElem_cons_succ]
  replace hB := hB.grown ob (Nat.le_refl _) hgr (nobyte (show (23 : TypeId) ≠ 5 by decide) (show (25 : TypeId) ≠ 5 by decide) (show (41 : TypeId) ≠ 5 by decide) (show (56 : TypeId) ≠ 5 by decide) (show (23 : TypeId) ≠ 5 by decide))
  have hLb : (pd A ++ pd C).length ≤ 40032 := by rw [List.length_append, hm2]; omega
  clear hgr ob l2
  (refine wpList_step fun K hK => ?_; replace hK := hide hK; go_simp; refine unhide hK _ _ ?_; clear hK K)
  refine wpList_nil ?_
  replace hB := hide hB
  replace ob3 := hide ob3
  go_upto_region 5 with fail
  replace hB := unhide hB
  replace ob3 := unhide ob3
  refine wp_region_lit ?_
  refine list_val v3 (by kernel_rfl) (by kernel_rfl) ?_
  simp only [Act.put, List.setIfInBounds_toArray, List.set_cons_zero, List.set_cons_succ, List.getElem_toArray, List.getElem_cons_zero, List.getElem_cons_succ]
  refine list_val (.slice s n cap) (by kernel_rfl) (by kernel_rfl) ?_
  simp only [Act.put, List.setIfInBounds_toArray, List.set_cons_zero, List.set_cons_succ, List.getElem_toArray, List.getElem_cons_zero, List.getElem_cons_succ]
  refine list_val (.int .i64 n) (by kernel_rfl) (by kernel_rfl) ?_
  simp only [Act.put, List.setIfInBounds_toArray, List.set_cons_zero, List.set_cons_succ, List.getElem_toArray, List.getElem_cons_zero, List.getElem_cons_succ]
  refine list_val (.int .u64 n) (by kernel_rfl) (by go_simp) ?_
  simp only [Act.put, List.setIfInBounds_toArray, List.set_cons_zero, List.set_cons_succ, List.getElem_toArray, List.getElem_cons_zero, List.getElem_cons_succ]
  refine list_call 33 #[.int .u64 n] (by kernel_rfl) (by kernel_rfl) ((reight_ok n (by omega) (by omega) _).mono ?_)
  rintro r x6 ⟨v4, rfl, obe, hg⟩
  refine ⟨_, rfl, ?_⟩
  replace hB := hB.more hg
  replace ob3 := ob3.gr hg
  obtain ⟨a6, c6, rfl, l6⟩ := obe.lb (lowL_isB _ _)
  rw [lowL_len] at l6 ⊢
  clear hg obe
  simp only [Act.put, List.setIfInBounds_toArray, List.set_cons_zero, List.set_cons_succ, List.getElem_toArray, List.getElem_cons_zero, List.getElem_cons_succ]
  refine app_bs (by kernel_rfl) (.tmp 23) (.tmp 27) rfl w.heap.size v3 (pd A ++ pd C) rfl ob3 a6 8 c6 (lowL (n : Int) 8) rfl (lowL_len _ _) l6.sl (by omega) hB.gr.size ?_
  intro v5 x7 ob5 hgr
  simp only [Act.put, List.setIfInBounds_toArray, List.set_cons_zero, List.set_cons_succ, List.getElem_toArray, List.getElem_cons_zero, List.getElem_cons_succ]
  replace hB := hB.grown ob3 (Nat.le_refl _) hgr (nobyte (show (23 : TypeId) ≠ 5 by decide) (show (25 : TypeId) ≠ 5 by decide) (show (41 : TypeId) ≠ 5 by decide) (show (56 : TypeId) ≠ 5 by decide) (show (23 : TypeId) ≠ 5 by decide))
  clear hgr ob3 l6
  (refine wpList_step fun K hK => ?_; replace hK := hide hK; go_simp; refine unhide hK _ _ ?_; clear hK K)
  refine wpList_nil ?_
  replace hB := hide hB
  replace ob5 := hide ob5
  go_upto_region 6 with fail
  replace hB := unhide hB
  replace ob5 := unhide ob5
  refine any_start (S := fun v => ∃ z, Bl w [⟨w.heap.size, kc K, 23⟩, ⟨w.heap.size + 1, kc N, 25⟩, ⟨w.heap.size + 1 + 1, z, 41⟩, ⟨h9, kc D, 56⟩, ⟨h10, kc E, 23⟩] v) (by kernel_rfl) ?_
  replace hB := hB.drew
  replace ob5 := ob5.gr (Gr.refl _).drew
  generalize World.drew _ = y0 at *
  simp only [List.size_toArray, List.length_cons, List.length_nil, Array.replicate, List.replicate]
  refine any_take (i := 0) (v := (.agg (kc E))) #[false, false, false, false, false, false, false, false, false] rfl (by kernel_rfl) (by kernel_rfl) (by kernel_rfl) (by kernel_rfl) (fun _ _ _ h => h) (.inl ⟨by kernel_rfl, fun x_ hu => by obtain ⟨z, hz⟩ := hu; exact exec_arr _ 23 (.tmp 10) rfl (h10) (by kernel_rfl) (kc E) 23 _ (hz.get 4 (x := ⟨h10, kc E, 23⟩) rfl) Try.underlying23 rfl (by rw [Try.infoKey, kc_size, hEl])⟩) ⟨_, hB⟩ ?_
  simp only [Act.put, List.setIfInBounds_toArray, List.set_cons_zero, List.set_cons_succ, List.getElem_toArray, List.getElem_cons_zero, List.getElem_cons_succ]
  refine any_take (i := 1) (v := v5) #[true, false, false, false, false, false, false, false, false] rfl (by kernel_rfl) (by kernel_rfl) (by kernel_rfl) (by kernel_rfl) (fun _ _ _ h => h) (.inl ⟨by kernel_rfl, fun x_ hu => by kernel_rfl⟩) ⟨_, hB⟩ ?_
  simp only [Act.put, List.setIfInBounds_toArray, List.set_cons_zero, List.set_cons_succ, List.getElem_toArray, List.getElem_cons_zero, List.getElem_cons_succ]
  refine any_take (i := 2) (v := (.slice s2 n2 cap2)) #[true, true, false, false, false, false, false, false, false] rfl (by kernel_rfl) (by kernel_rfl) (by kernel_rfl) (by kernel_rfl) (fun _ _ _ h => h) (.inl ⟨by kernel_rfl, fun x_ hu => by kernel_rfl⟩) ⟨_, hB⟩ ?_
  simp only [Act.put, List.setIfInBounds_toArray, List.set_cons_zero, List.set_cons_succ, List.getElem_toArray, List.getElem_cons_zero, List.getElem_cons_succ]
  refine any_take (i := 3) (v := (.int .i64 n2)) #[true, true, true, false, false, false, false, false, false] rfl (by kernel_rfl) (by kernel_rfl) (by kernel_rfl) (by kernel_rfl) (fun _ _ _ h => h) (.inl ⟨by kernel_rfl, fun x_ hu => by kernel_rfl⟩) ⟨_, hB⟩ ?_
  simp only [Act.put, List.setIfInBounds_toArray, List.set_cons_zero, List.set_cons_succ, List.getElem_toArray, List.getElem_cons_zero, List.getElem_cons_succ]
  refine any_take (i := 4) (v := (.int .u64 n2)) #[true, true, true, true, false, false, false, false, false] rfl (by kernel_rfl) (by kernel_rfl) (by kernel_rfl) (by kernel_rfl) (fun _ _ _ h => h) (.inl ⟨by kernel_rfl, fun x_ hu => by go_simp⟩) ⟨_, hB⟩ ?_
  simp only [Act.put, List.setIfInBounds_toArray, List.set_cons_zero, List.set_cons_succ, List.getElem_toArray, List.getElem_cons_zero, List.getElem_cons_succ]
  refine any_one (i := 5) (by kernel_rfl) rfl (fun K_ hQ => ?_)
  refine step_callw (by kernel_rfl) 33 #[.int .u64 n2] (by kernel_rfl) ((reight_ok n2 (by omega) (by omega) _).mono ?_)
  rintro r y1 ⟨v6, rfl, obe, hg⟩
  refine ⟨_, rfl, ?_⟩
  replace hB := hB.more hg
  replace ob5 := ob5.gr hg
  obtain ⟨a7, c7, rfl, l7⟩ := obe.lb (lowL_isB _ _)
  rw [lowL_len] at l7 ⊢
  clear hg obe
  refine hQ.out _ _ ⟨_, hB⟩ (fun _ => ?_)
  clear hQ K_
  simp only [Act.put, List.setIfInBounds_toArray, List.set_cons_zero, List.set_cons_succ, List.getElem_toArray, List.getElem_cons_zero, List.getElem_cons_succ]
  refine any_one (i := 6) (by kernel_rfl) rfl (fun K_ hQ => ?_)
  rw [if_pos (by kernel_rfl)]
  refine app_op (.tmp 30) (.tmp 34) rfl w.heap.size v5 (pd A ++ pd C ++ lowL (n : Int) 8) rfl ob5 a7 8 c7 (lowL (n2 : Int) 8) rfl (lowL_len _ _) l7.sl (by rw [List.length_append, lowL_len]; omega) hB.gr.size ?_
  intro v8 y2 ob8 hgr
  replace hB := hB.grown ob5 (Nat.le_refl _) hgr (nobyte (show (23 : TypeId) ≠ 5 by decide) (show (25 : TypeId) ≠ 5 by decide) (show (41 : TypeId) ≠ 5 by decide) (show (56 : TypeId) ≠ 5 by decide) (show (23 : TypeId) ≠ 5 by decide))
  clear hgr ob5 l7
  have hti : pd A ++ pd C ++ lowL (n : Int) 8 ++ lowL (n2 : Int) 8 = tin A C := by
    unfold tin
    rw [unhide hAl, unhide hCl, List.append_assoc (pd A ++ pd C)]
  obtain ⟨m8, hm8⟩ : ∃ m, (tin A C).length = m := ⟨_, rfl⟩
  have hm8b : m8 ≤ 40048 := by
    rw [← hm8, ← hti, List.length_append, List.length_append, lowL_len, lowL_len]
    omega
  rw [hti] at ob8
  have htb : IsB (tin A C) := by
    rw [← hti]
    exact (((pd_isB (unhide hAb)).append (pd_isB (unhide hCb))).append (lowL_isB _ _)).append (lowL_isB _ _)
  obtain ⟨a8, c8, rfl, l8⟩ := ob8.lb htb
  rw [hm8] at l8 ⊢
  refine hQ.out _ _ ⟨_, hB⟩ (fun _ => ?_)
  clear hQ K_ ob8 htb
  simp only [Act.put, List.setIfInBounds_toArray, List.set_cons_zero, List.set_cons_succ, List.getElem_toArray, List.getElem_cons_zero, List.getElem_cons_succ]
  refine any_one (i := 7) (by kernel_rfl) rfl (fun K_ hQ => ?_)
  refine step_callw (by kernel_rfl) 34 #[.agg (kc E), .slice a8 m8 c8] (by kernel_rfl) ((rmac_ok E (tin A C) hEl (unhide hEb) a8 m8 c8 (by omega) _ l8).mono ?_)
  rintro r y3 ⟨rfl, hg⟩
  refine ⟨_, rfl, ?_⟩
  replace hB := hB.more hg
  rw [← unhide hTg]
  have hXl := tagL_len K N A C
  clear hTg hg l8 hti
  generalize tagL K N A C = X at *
  refine hQ.out _ _ ⟨_, hB⟩ (fun _ => ?_)
  clear hQ K_
  simp only [Act.put, List.setIfInBounds_toArray, List.set_cons_zero, List.set_cons_succ, List.getElem_toArray, List.getElem_cons_zero, List.getElem_cons_succ]
  refine any_one (i := 8) (by kernel_rfl) rfl (fun K_ hQ => ?_)
  rw [if_pos (by kernel_rfl)]
  refine wp_store_row 41 (.tmp 8) (.tmp 36) rfl (w.heap.size + 1 + 1) (kc X) (by kernel_rfl) (by kernel_rfl) 41 (kc ZT) (hB.get 2 (x := ⟨w.heap.size + 1 + 1, kc ZT, 41⟩) rfl) (by rw [Try.infoT, kc_size, hXl]) ((show (kc ZT).size = 16 from rfl).trans ((kc_size _).trans hXl).symm) (kc_one _) ?_
  have hB9 := hB.set 2 (x := ⟨w.heap.size + 1 + 1, kc ZT, 41⟩) rfl (kc X)
  simp only [List.set_cons_zero, List.set_cons_succ] at hB9
  generalize World.setRow _ _ _ = y4 at *
  refine hQ.out _ _ ⟨_, hB9⟩ (fun _ => ?_)
  clear hQ K_
  simp only [Act.put, List.setIfInBounds_toArray, List.set_cons_zero, List.set_cons_succ, List.getElem_toArray, List.getElem_cons_zero, List.getElem_cons_succ]
  refine any_done (by kernel_rfl) ?_
  clear hB
  replace hB9 := hide hB9
  go_wp2_with fail
  have hB := unhide hB9
  rw [unhide hT]
  exact bodyPost_ret (v := .agg (kc X)) (results_cell_row Try.results19 _ _ (w.heap.size + 1 + 1) 41 (kc X) (0, 0) _ rfl (hB.get 2 (x := ⟨w.heap.size + 1 + 1, kc X, 41⟩) rfl) Try.underlying41 rfl (by rw [Try.infoT, kc_size, hXl])) rfl (⟨rfl, hB.gr⟩)
set_option maxHeartbeats 4000000 in
theorem rseal_ok (K N : List Int) (hK : K.length = 32) (hN : N.length = 12) (hKb : IsB K) (hNb : IsB N) (A P : List Int) (s s2 : Option Addr) (n n2 cap cap2 : Nat) (hbn : n ≤ 20000) (hbig : n2 ≤ 20000) (w : World) (la : Lb w s n cap A) (lp : Lb w s2 n2 cap2 P) : Calls Try.prog 13 #[.agg (kc K), .agg (kc N), .slice s n cap, .slice s2 n2 cap2] w (Obd (sealL K N A P) w) := by
  obtain ⟨T, hT⟩ : ∃ T, T = Obd (sealL K N A P) w := ⟨_, rfl⟩
  rw [← hT]
  replace hT := hide hT
  obtain ⟨SK, hSK⟩ : ∃ S, S = kc K := ⟨_, rfl⟩
  obtain ⟨SN, hSN⟩ : ∃ S, S = kc N := ⟨_, rfl⟩
  rw [← hSK, ← hSN]
  replace hSK := hide hSK
  replace hSN := hide hSN
  have hPl := hide lp.len
  replace hKb := hide hKb
  replace hNb := hide hNb
  replace la := hide la
  replace lp := hide lp
  go_enter Try.func13, Try.ntmps13
  go_upto_region 1 with fail
  have hB := (((Bl.nil w).new SK 23).new SN 25)
  simp only [size_alloc, List.nil_append, List.cons_append] at hB
  generalize World.alloc _ _ = u at *
  rw [unhide hSK, unhide hSN] at hB
  replace hB : Bl w [⟨w.heap.size, kc K, 23⟩, ⟨w.heap.size + 1, kc N, 25⟩] u := hB
  refine wp_region_lit ?_
  refine list_val (.agg (kc K)) (by kernel_rfl) (exec_arr _ 23 (.tmp 4) rfl (w.heap.size) (by kernel_rfl) (kc K) 23 _ (hB.get 0 (x := ⟨w.heap.size, kc K, 23⟩) rfl) Try.underlying23 rfl (by rw [Try.infoKey, kc_size, hK])) ?_
  simp only [Act.put, List.setIfInBounds_toArray, List.set_cons_zero, List.set_cons_succ, List.getElem_toArray, List.getElem_cons_zero, List.getElem_cons_succ]
  refine list_val (.agg (kc N)) (by kernel_rfl) (exec_arr _ 25 (.tmp 5) rfl (w.heap.size + 1) (by kernel_rfl) (kc N) 25 _ (hB.get 1 (x := ⟨w.heap.size + 1, kc N, 25⟩) rfl) Try.underlying25 rfl (by rw [Try.infoN, kc_size, hN])) ?_
  simp only [Act.put, List.setIfInBounds_toArray, List.set_cons_zero, List.set_cons_succ, List.getElem_toArray, List.getElem_cons_zero, List.getElem_cons_succ]
  refine list_val (.slice s2 n2 cap2) (by kernel_rfl) (by kernel_rfl) ?_
  simp only [Act.put, List.setIfInBounds_toArray, List.set_cons_zero, List.set_cons_succ, List.getElem_toArray, List.getElem_cons_zero, List.getElem_cons_succ]
  have hgw := hB.gr.size
  refine list_call 22 #[.agg (kc K), .int .u32 1, .agg (kc N), .slice s2 n2 cap2] (by kernel_rfl) (by kernel_rfl) ((rxor_ok K N hK hN (unhide hKb) (unhide hNb) 1 P _ n2 cap2 (by omega) _ ((unhide lp).gr hB.gr)).mono ?_)
  rintro r u1 ⟨vx, rfl, ob, hg⟩
  refine ⟨_, rfl, ?_⟩
  replace hB := hB.more hg
  have hXl : Hid ((xl K N 1 P).length = n2) := by rw [xl_len]; exact unhide hPl
  have hXb := hide (xl_isB K N 1 P)
  have hSe : Hid (sealL K N A P = xl K N 1 P ++ tagL K N A (xl K N 1 P)) := rfl
  generalize xl K N 1 P = X at *
  replace ob := ob.up hgw
  obtain ⟨cs, cc, rfl, lx⟩ := ob.lb (unhide hXb)
  rw [unhide hXl] at lx ob ⊢
  clear hg hgw
  simp only [Act.put, List.setIfInBounds_toArray, List.set_cons_zero, List.set_cons_succ, List.getElem_toArray, List.getElem_cons_zero, List.getElem_cons_succ]
  (refine wpList_step fun K hK => ?_; replace hK := hide hK; go_simp; refine unhide hK _ _ ?_; clear hK K)
  refine wpList_nil ?_
  replace hB := hide hB
  replace ob := hide ob
  replace lx := hide lx
  go_upto_region 2 with fail
  replace hB := unhide hB
  replace ob := unhide ob
  replace lx := unhide lx
  refine wp_region_lit ?_
  refine list_val (.agg (kc K)) (by kernel_rfl) (exec_arr _ 23 (.tmp 4) rfl (w.heap.size) (by kernel_rfl) (kc K) 23 _ (hB.get 0 (x := ⟨w.heap.size, kc K, 23⟩) rfl) Try.underlying23 rfl (by rw [Try.infoKey, kc_size, hK])) ?_
  simp only [Act.put, List.setIfInBounds_toArray, List.set_cons_zero, List.set_cons_succ, List.getElem_toArray, List.getElem_cons_zero, List.getElem_cons_succ]
  refine list_val (.agg (kc N)) (by kernel_rfl) (exec_arr _ 25 (.tmp 5) rfl (w.heap.size + 1) (by kernel_rfl) (kc N) 25 _ (hB.get 1 (x := ⟨w.heap.size + 1, kc N, 25⟩) rfl) Try.underlying25 rfl (by rw [Try.infoN, kc_size, hN])) ?_
  simp only [Act.put, List.setIfInBounds_toArray, List.set_cons_zero, List.set_cons_succ, List.getElem_toArray, List.getElem_cons_zero, List.getElem_cons_succ]
  refine list_val (.slice s n cap) (by kernel_rfl) (by kernel_rfl) ?_
  simp only [Act.put, List.setIfInBounds_toArray, List.set_cons_zero, List.set_cons_succ, List.getElem_toArray, List.getElem_cons_zero, List.getElem_cons_succ]
  refine list_val (.slice cs n2 cc) (by kernel_rfl) (by kernel_rfl) ?_
  simp only [Act.put, List.setIfInBounds_toArray, List.set_cons_zero, List.set_cons_succ, List.getElem_toArray, List.getElem_cons_zero, List.getElem_cons_succ]
  refine list_call 19 #[.agg (kc K), .agg (kc N), .slice s n cap, .slice cs n2 cc] (by kernel_rfl) (by kernel_rfl) ((rtag_ok K N hK hN (unhide hKb) (unhide hNb) A X s cs n n2 cap cc hbn hbig _ ((unhide la).gr hB.gr) lx).mono ?_)
  rintro r u2 ⟨rfl, hg⟩
  refine ⟨_, rfl, ?_⟩
  replace hB := hB.more hg
  replace ob := ob.gr hg
  clear hg lx
  have hYl := tagL_len K N A X
  generalize tagL K N A X = Y at *
  simp only [Act.put, List.setIfInBounds_toArray, List.set_cons_zero, List.set_cons_succ, List.getElem_toArray, List.getElem_cons_zero, List.getElem_cons_succ]
  replace hB := hide hB
  (refine wpList_step fun K hK => ?_; replace hK := hide hK; go_simp; refine unhide hK _ _ ?_; clear hK K)
  replace ob := ob.gr ((Gr.refl u2).alloc (.cells #[.int .u8 0, .int .u8 0, .int .u8 0, .int .u8 0, .int .u8 0, .int .u8 0, .int .u8 0, .int .u8 0, .int .u8 0, .int .u8 0, .int .u8 0, .int .u8 0, .int .u8 0, .int .u8 0, .int .u8 0, .int .u8 0] 41 (0, 0)))
  replace hB := (unhide hB).new #[.int .u8 0, .int .u8 0, .int .u8 0, .int .u8 0, .int .u8 0, .int .u8 0, .int .u8 0, .int .u8 0, .int .u8 0, .int .u8 0, .int .u8 0, .int .u8 0, .int .u8 0, .int .u8 0, .int .u8 0, .int .u8 0] 41
  simp only [List.nil_append, List.cons_append] at hB
  generalize World.alloc _ _ = u3 at *
  generalize u2.heap.size = h10 at *
  replace hB : Bl w [⟨w.heap.size, kc K, 23⟩, ⟨w.heap.size + 1, kc N, 25⟩, ⟨h10, kc ZT, 41⟩] u3 := hB
  have ob2 := ob.other (hB.get 2 (x := ⟨h10, kc ZT, 41⟩) rfl) (show (41 : TypeId) ≠ 5 by decide) (kc Y)
  clear ob
  refine list_store 41 (.tmp 10) (.tmp 19) (h10) (kc Y) 41 (kc ZT) (by kernel_rfl) rfl (by kernel_rfl) (by kernel_rfl) (hB.get 2 (x := ⟨h10, kc ZT, 41⟩) rfl) (by rw [Try.infoT, kc_size, hYl]) ((show (kc ZT).size = 16 from rfl).trans ((kc_size _).trans hYl).symm) (kc_one _) ?_
  replace hB := hB.set 2 (x := ⟨h10, kc ZT, 41⟩) rfl (kc Y)
  simp only [List.set_cons_zero, List.set_cons_succ] at hB
  generalize World.setRow _ _ _ = u4 at *
  simp only [Act.put, List.setIfInBounds_toArray, List.set_cons_zero, List.set_cons_succ, List.getElem_toArray, List.getElem_cons_zero, List.getElem_cons_succ]
  refine wpList_nil ?_
  replace hB := hide hB
  replace ob2 := hide ob2
  go_upto_region 3 with fail
  replace hB := unhide hB
  replace ob2 := unhide ob2
  refine wp_region_lit ?_
  refine list_val (.slice cs n2 cc) (by kernel_rfl) (by kernel_rfl) ?_
  simp only [Act.put, List.setIfInBounds_toArray, List.set_cons_zero, List.set_cons_succ, List.getElem_toArray, List.getElem_cons_zero, List.getElem_cons_succ]
  refine list_val (.slice (some ⟨h10, 0, none⟩) 16 16) (by kernel_rfl) (by kernel_rfl) ?_
  simp only [Act.put, List.setIfInBounds_toArray, List.set_cons_zero, List.set_cons_succ, List.getElem_toArray, List.getElem_cons_zero, List.getElem_cons_succ]
  refine app_bs (by kernel_rfl) (.tmp 20) (.tmp 21) rfl w.heap.size _ X rfl ob2 (some ⟨h10, 0, none⟩) 16 16 Y rfl hYl (.inr ⟨h10, 0, rfl, kc_at (hB.get 2 (x := ⟨h10, kc Y, 41⟩) rfl)⟩) (by rw [unhide hXl]; omega) hB.gr.size ?_
  intro v2 u5 ob5 hgr
  simp only [Act.put, List.setIfInBounds_toArray, List.set_cons_zero, List.set_cons_succ, List.getElem_toArray, List.getElem_cons_zero, List.getElem_cons_succ]
  have hG := Ob.grown ob2 (Nat.le_refl _) hB.gr hgr
  rw [← unhide hSe] at ob5
  clear hgr ob2 hB
  (refine wpList_step fun K hK => ?_; replace hK := hide hK; go_simp; refine unhide hK _ _ ?_; clear hK K)
  refine wpList_nil ?_
  have hP : Hid (Obd (sealL K N A P) w (.returned v2) u5) := ⟨v2, rfl, ob5, hG⟩
  clear ob5 hG
  go_wp2_with fail
  rw [unhide hT]
  exact unhide hP
set_option maxHeartbeats 4000000 in
theorem rcount_ok (n : Int) (hn : 0 ≤ n) (hn2 : n < 18446744073709551616) (w : World) : Calls Try.prog 21 #[.int .u64 n] w (Tg (cntL n) w) := by
  obtain ⟨T, hT⟩ : ∃ T, T = Tg (cntL n) w := ⟨_, rfl⟩
  rw [← hT]
  replace hT := hide hT
  go_enter Try.func21, Try.ntmps21
  go_upto_region 2 with fail
  have hB := (((Bl.nil w).new #[.int .u8 0, .int .u8 0, .int .u8 0, .int .u8 0, .int .u8 0, .int .u8 0, .int .u8 0, .int .u8 0, .int .u8 0, .int .u8 0, .int .u8 0, .int .u8 0] 25).new #[.int .u8 0, .int .u8 0, .int .u8 0, .int .u8 0, .int .u8 0, .int .u8 0, .int .u8 0, .int .u8 0, .int .u8 0, .int .u8 0, .int .u8 0, .int .u8 0] 25)
  simp only [size_alloc, List.nil_append, List.cons_append] at hB
  generalize World.alloc _ _ = u at *
  replace hB : Bl w [⟨w.heap.size, kc ZN, 25⟩, ⟨w.heap.size + 1, kc ZN, 25⟩] u := hB
  refine any_start (S := fun _ => True) (by kernel_rfl) ?_
  replace hB := hB.drew
  generalize World.drew _ = x0 at *
  simp only [List.size_toArray, List.length_cons, List.length_nil, Array.replicate, List.replicate]
  refine any_take (i := 0) (v := (.slice (some ⟨w.heap.size + 1, 4, none⟩) 8 8)) #[false, false, false, false] rfl (by kernel_rfl) (by kernel_rfl) (by kernel_rfl) (by kernel_rfl) (fun _ _ _ h => h) (.inl ⟨by kernel_rfl, fun x_ hu => by kernel_rfl⟩) trivial ?_
  simp only [Act.put, List.setIfInBounds_toArray, List.set_cons_zero, List.set_cons_succ, List.getElem_toArray, List.getElem_cons_zero, List.getElem_cons_succ]
  refine any_take (i := 1) (v := (.int .u64 n)) #[true, false, false, false] rfl (by kernel_rfl) (by kernel_rfl) (by kernel_rfl) (by kernel_rfl) (fun _ _ _ h => h) (.inl ⟨by kernel_rfl, fun x_ hu => by kernel_rfl⟩) trivial ?_
  simp only [Act.put, List.setIfInBounds_toArray, List.set_cons_zero, List.set_cons_succ, List.getElem_toArray, List.getElem_cons_zero, List.getElem_cons_succ]
  refine any_one (i := 2) (by kernel_rfl) rfl (fun K hK => ?_)
  refine step_callw (by kernel_rfl) 33 #[.int .u64 n] (by kernel_rfl) ((reight_ok n hn hn2 _).mono ?_)
  rintro r x1 ⟨v1, rfl, ob, hg⟩
  refine ⟨_, rfl, ?_⟩
  replace hB := hB.more hg
  obtain ⟨sp, cp, rfl, lp⟩ := ob.lb (lowL_isB n 8)
  rw [lowL_len] at lp ⊢
  clear ob hg
  refine hK.out _ _ trivial (fun _ => ?_)
  clear hK K
  simp only [Act.put, List.setIfInBounds_toArray, List.set_cons_zero, List.set_cons_succ, List.getElem_toArray, List.getElem_cons_zero, List.getElem_cons_succ]
  refine any_one (i := 3) (by kernel_rfl) rfl (fun K hK => ?_)
  rw [if_pos (by kernel_rfl)]
  refine copy_wp (.tmp 4) (.tmp 6) rfl (w.heap.size + 1) 4 8 8 sp 8 cp (by kernel_rfl) (by kernel_rfl) (ZN.map (Value.int .u8)) 25 (hB.get 1 (x := ⟨w.heap.size + 1, kc ZN, 25⟩) rfl) (lowL n 8) (by rw [lowL_len]; rfl) lp.sl (by rw [lowL_len]; exact Nat.le_refl _) ?_
  have hcell := laid (S := lowL n 8) (o := 4) (hB.get 1 (x := ⟨w.heap.size + 1, kc ZN, 25⟩) rfl) (by rw [lowL_len]; exact Nat.le_refl _)
  rw [lay_cnt n] at hcell
  have hB2 := hB.but (setCells_bt ((lowL n 8).map (Value.int .u8)) x1 (w.heap.size + 1) 4) 1 (x := ⟨w.heap.size + 1, kc ZN, 25⟩) rfl rfl hcell
  simp only [List.set_cons_zero, List.set_cons_succ] at hB2
  clear hcell hB
  generalize World.setCells _ _ _ _ = x2 at *
  refine hK.out _ _ trivial (fun _ => ?_)
  clear hK K
  simp only [Act.put, List.setIfInBounds_toArray, List.set_cons_zero, List.set_cons_succ, List.getElem_toArray, List.getElem_cons_zero, List.getElem_cons_succ]
  refine any_done (by kernel_rfl) ?_
  rw [lowL_len]
  replace hB2 := hide hB2
  go_upto_region 3 with fail
  have hB := unhide hB2
  clear hB2
  have hXl := cntL_len n
  generalize cntL n = X at *
  refine wp_region_lit ?_
  refine list_val (.agg (kc X)) (by kernel_rfl) (exec_arr _ 25 (.tmp 3) rfl (w.heap.size + 1) (by kernel_rfl) (kc X) 25 _ (hB.get 1 (x := ⟨w.heap.size + 1, kc X, 25⟩) rfl) Try.underlying25 rfl (by rw [Try.infoN, kc_size, hXl])) ?_
  simp only [Act.put, List.setIfInBounds_toArray, List.set_cons_zero, List.set_cons_succ, List.getElem_toArray, List.getElem_cons_zero, List.getElem_cons_succ]
  refine list_store 25 (.tmp 2) (.tmp 8) (w.heap.size) (kc X) 25 (kc ZN) (by kernel_rfl) rfl (by kernel_rfl) (by kernel_rfl) (hB.get 0 (x := ⟨w.heap.size, kc ZN, 25⟩) rfl) (by rw [Try.infoN, kc_size, hXl]) ((show (kc ZN).size = 12 from rfl).trans ((kc_size _).trans hXl).symm) (kc_one _) ?_
  replace hB := hB.set 0 (x := ⟨w.heap.size, kc ZN, 25⟩) rfl (kc X)
  simp only [List.set_cons_zero, List.set_cons_succ] at hB
  generalize World.setRow _ _ _ = x3 at *
  simp only [Act.put, List.setIfInBounds_toArray, List.set_cons_zero, List.set_cons_succ, List.getElem_toArray, List.getElem_cons_zero, List.getElem_cons_succ]
  refine wpList_nil ?_
  replace hB := hide hB
  go_wp2_with fail
  replace hB := unhide hB
  rw [unhide hT]
  exact bodyPost_ret (v := .agg (kc X)) (results_cell_row Try.results21 _ _ (w.heap.size) 25 (kc X) (0, 0) _ rfl (hB.get 0 (x := ⟨w.heap.size, kc X, 25⟩) rfl) Try.underlying25 rfl (by rw [Try.infoN, kc_size, hXl])) rfl (⟨rfl, hB.gr⟩)
end Go.Proofs.Ytdekjbdkpchbjaa
