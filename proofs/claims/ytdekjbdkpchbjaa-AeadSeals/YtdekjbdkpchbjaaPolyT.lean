/-
  What end, Tag, New and Mac answer.
-/
import Derived.Test.YtdekjbdkpchbjaaPlH
namespace Go.Proofs.Ytdekjbdkpchbjaa
open Go.RowKit
set_option maxRecDepth 100000
set_option linter.unusedSimpArgs false
set_option linter.unusedVariables false
theorem Try.infoA16 : (Try.prog.info? 40).map (·.size) = some 16 := by kernel_rfl
theorem nk_whole (L : List Int) (h : L.length % 16 = 0) : nk L.length = L.length / 16 := by unfold nk; omega
theorem nk_some (L : List Int) (h : 0 < L.length % 16) : nk L.length = L.length / 16 + 1 := by unfold nk; omega
theorem Cd.gr {K : List Int} {g : Nat} {L : List Int} {w v : World} (h : Cd K g L w) (k : Gr w v) : Cd K g L v := by
  obtain ⟨l, S, M, A, hH, hr⟩ := h
  exact ⟨l, S, M, A, hH.gr k, hr⟩
/-- the bytes that are left, and a one behind them -/
def endB (D : List Int) : List Int := D ++ 1 :: List.replicate (15 - D.length) 0
theorem endB_len (D : List Int) (h : D.length < 16) : (endB D).length = 16 := by unfold endB; simp; omega
theorem endB_isB (D : List Int) (h : IsB D) : IsB (endB D) := fun x hx => by
  unfold endB at hx
  rcases List.mem_append.1 hx with h1 | h1
  · exact h x h1
  · rcases List.mem_cons.1 h1 with h2 | h2
    · subst h2; omega
    · have := List.eq_of_mem_replicate h2; omega
theorem endB_lay (D : List Int) (h : D.length < 16) : (lay ZT 0 D).set D.length 1 = endB D := by
  unfold lay endB ZT
  rw [List.take_zero, List.nil_append, Nat.zero_add, List.set_append_right _ _ (Nat.le_refl _), Nat.sub_self, List.drop_replicate]
  obtain ⟨k, hk⟩ : ∃ k, 16 - D.length = k + 1 := ⟨15 - D.length, by omega⟩
  rw [hk, show 15 - D.length = k by omega, List.replicate_succ, List.set_cons_zero]
theorem lowN_zero : ∀ n, lowN (List.replicate n 0) = 0
  | 0 => rfl
  | n + 1 => by rw [List.replicate_succ, lowN, lowN_zero n]; rfl
theorem lowN_end (L : List Int) (hb : IsB (L.drop (16 * (L.length / 16)))) : lowN (endB (L.drop (16 * (L.length / 16)))) = ((bN L (L.length / 16) : Nat) : Int) := by
  have hl : (L.drop (16 * (L.length / 16))).length < 16 := by rw [List.length_drop]; omega
  unfold bN endB
  rw [List.take_of_length_le (by omega), V_snoc, lowN_append, lowN, lowN_zero, lowN_V _ hb, nb_len]
  rw [Int.natCast_add, Int.natCast_mul, Int.natCast_pow]
  rfl
set_option maxHeartbeats 4000000 in
theorem end_whole (K L : List Int) (g : Nat) (hL : L.length % 16 = 0) (w : World) (hC : Cd K g L w) : Calls Try.prog 42 #[.pointer (some ⟨g, 0, none⟩)] w (Crd ((acN (rK K) L (nk L.length) : Nat) : Int) w) := by
  obtain ⟨l, S, M, A, hH, hlB, hlt, hc, hMd, hMr, hAd, hAs⟩ := hC
  rw [nk_whole L hL]
  obtain ⟨T, hT⟩ : ∃ T, T = Crd ((acN (rK K) L (L.length / 16) : Nat) : Int) w := ⟨_, rfl⟩
  rw [← hT]
  replace hT := hide hT
  rw [hL] at hH
  have hg1 := (Gr.refl w).alloc (.cells #[.int .u64 0, .int .u64 0, .int .u64 0, .int .u64 0, .int .u64 0] 66 (0, 0))
  have cc : World.cell? (w.alloc (.cells #[.int .u64 0, .int .u64 0, .int .u64 0, .int .u64 0, .int .u64 0] 66 (0, 0))) ⟨g, 16, none⟩ = some (.int .i64 0) := (hH.gr hg1).fill
  replace hg1 := hide hg1
  replace hH := hide hH; replace hlt := hide hlt; replace hc := hide hc
  go_enter Try.func42, Try.ntmps42
  go_upto_region 2 with fail
  have hB := (Bl.nil w).new #[.int .u64 0, .int .u64 0, .int .u64 0, .int .u64 0, .int .u64 0] 66
  simp only [List.nil_append, List.cons_append] at hB
  clear cc hg1
  generalize World.alloc _ _ = u at *
  replace hB : Bl w [⟨w.heap.size, fc 0 0 0 0 0, 66⟩] u := hB
  replace hH := (unhide hH).gr hB.gr
  refine wp_region_lit ?_
  refine list_val (.pointer (some ⟨g, 0, none⟩)) (by kernel_rfl) (by kernel_rfl) ?_
  simp only [Act.put, List.setIfInBounds_toArray, List.set_cons_zero, List.set_cons_succ, List.getElem_toArray, List.getElem_cons_zero, List.getElem_cons_succ]
  refine list_val (.pointer (some ⟨g, 0, none⟩)) (by kernel_rfl) (by kernel_rfl) ?_
  simp only [Act.put, List.setIfInBounds_toArray, List.set_cons_zero, List.set_cons_succ, List.getElem_toArray, List.getElem_cons_zero, List.getElem_cons_succ]
  refine list_val (.pointer (some ⟨g, 17, none⟩)) (by kernel_rfl) (by kernel_rfl) ?_
  simp only [Act.put, List.setIfInBounds_toArray, List.set_cons_zero, List.set_cons_succ, List.getElem_toArray, List.getElem_cons_zero, List.getElem_cons_succ]
  refine list_val (.agg (fc S.a S.b S.c S.d S.e)) (by kernel_rfl) (exec_five _ (.tmp 12) rfl g 17 (by kernel_rfl) S hH.sum) ?_
  simp only [Act.put, List.setIfInBounds_toArray, List.set_cons_zero, List.set_cons_succ, List.getElem_toArray, List.getElem_cons_zero, List.getElem_cons_succ]
  refine list_store 66 (.tmp 2) (.tmp 13) (w.heap.size) (fc S.a S.b S.c S.d S.e) 66 (fc 0 0 0 0 0) (by kernel_rfl) rfl (by kernel_rfl) (by kernel_rfl) (hB.get 0 (x := ⟨w.heap.size, fc 0 0 0 0 0, 66⟩) rfl) Try.infoL rfl (fc_one _ _ _ _ _) ?_
  replace hB := hB.set 0 (x := ⟨w.heap.size, fc 0 0 0 0 0, 66⟩) rfl (fc S.a S.b S.c S.d S.e)
  simp only [List.set_cons_zero, List.set_cons_succ] at hB
  generalize World.setRow _ _ _ = u1 at *
  simp only [Act.put, List.setIfInBounds_toArray, List.set_cons_zero, List.set_cons_succ, List.getElem_toArray, List.getElem_cons_zero, List.getElem_cons_succ]
  refine wpList_nil ?_
  replace hB := hide hB
  clear hH
  go_wp2_with fail
  replace hB := unhide hB
  rw [unhide hT]
  exact bodyPost_ret (v := .agg (fc S.a S.b S.c S.d S.e)) (results_cell_row Try.results42 _ _ (w.heap.size) 66 (fc S.a S.b S.c S.d S.e) (0, 0) _ rfl (hB.get 0 (x := ⟨w.heap.size, fc S.a S.b S.c S.d S.e, 66⟩) rfl) Try.underlying66 rfl Try.infoL) rfl (⟨_, _, _, _, _, rfl, unhide hc, hB.gr⟩)
set_option maxHeartbeats 8000000 in
theorem end_some (K L : List Int) (g : Nat) (hL : 0 < L.length % 16) (w : World) (hC : Cd K g L w) : Calls Try.prog 42 #[.pointer (some ⟨g, 0, none⟩)] w (Crd ((acN (rK K) L (nk L.length) : Nat) : Int) w) := by
  obtain ⟨l, S, M, A, hH, hlB, hlt, hc, hMd, hMr, hAd, hAs⟩ := hC
  rw [nk_some L hL]
  obtain ⟨T, hT⟩ : ∃ T, T = Crd ((acN (rK K) L (L.length / 16 + 1) : Nat) : Int) w := ⟨_, rfl⟩
  rw [← hT]
  replace hT := hide hT
  have hl16 := hH.1
  obtain ⟨f, hf⟩ : ∃ f, f = L.length % 16 := ⟨_, rfl⟩
  rw [← hf] at hH hL hlt
  have f16 : f < 16 := by omega
  have k0 : ¬ (f : Int) = 0 := by omega
  have k00 : ¬ f = 0 := by omega
  have k1 : (f : Int) ≤ 16 := by omega
  have k2 : (f : Int) < 16 := by omega
  have hg1 := (Gr.refl w).alloc (.cells #[.int .u64 0, .int .u64 0, .int .u64 0, .int .u64 0, .int .u64 0] 66 (0, 0))
  have cc : World.cell? (w.alloc (.cells #[.int .u64 0, .int .u64 0, .int .u64 0, .int .u64 0, .int .u64 0] 66 (0, 0))) ⟨g, 16, none⟩ = some (.int .i64 (f : Int)) := (hH.gr hg1).fill
  replace hg1 := hide hg1
  replace hH := hide hH; replace hlt := hide hlt; replace hf := hide hf
  go_enter Try.func42, Try.ntmps42
  go_upto_region 4 with fail
  have hB := ((Bl.nil w).new #[.int .u64 0, .int .u64 0, .int .u64 0, .int .u64 0, .int .u64 0] 66).new #[.int .u8 0, .int .u8 0, .int .u8 0, .int .u8 0, .int .u8 0, .int .u8 0, .int .u8 0, .int .u8 0, .int .u8 0, .int .u8 0, .int .u8 0, .int .u8 0, .int .u8 0, .int .u8 0, .int .u8 0, .int .u8 0] 40
  simp only [size_alloc, List.nil_append, List.cons_append] at hB
  clear cc hg1
  generalize World.alloc _ _ = u at *
  replace hB : Bl w [⟨w.heap.size, fc 0 0 0 0 0, 66⟩, ⟨w.heap.size + 1, kc ZT, 40⟩] u := hB
  replace hH := (unhide hH).gr hB.gr
  refine any_start (S := fun v => v.cell? ⟨g, 16, none⟩ = some (.int .i64 (f : Int))) (by kernel_rfl) ?_
  replace hH := hH.gr (Gr.refl _).drew
  replace hB := hB.drew
  have hS := hH.fill
  generalize World.drew _ = x0 at *
  simp only [List.size_toArray, List.length_cons, List.length_nil, Array.replicate, List.replicate]
  refine any_take (i := 0) (v := (.slice (some ⟨w.heap.size + 1, 0, none⟩) 16 16)) #[false, false, false, false, false, false, false, false, false, false, false, false] rfl (by kernel_rfl) (by kernel_rfl) (by kernel_rfl) (by kernel_rfl) (fun _ _ _ h => h) (.inl ⟨by kernel_rfl, fun x_ hu => by kernel_rfl⟩) hS ?_
  simp only [Act.put, List.setIfInBounds_toArray, List.set_cons_zero, List.set_cons_succ, List.getElem_toArray, List.getElem_cons_zero, List.getElem_cons_succ]
  refine any_take (i := 1) (v := (.pointer (some ⟨g, 0, none⟩))) #[true, false, false, false, false, false, false, false, false, false, false, false] rfl (by kernel_rfl) (by kernel_rfl) (by kernel_rfl) (by kernel_rfl) (fun _ _ _ h => h) (.inl ⟨by kernel_rfl, fun x_ hu => by kernel_rfl⟩) hS ?_
  simp only [Act.put, List.setIfInBounds_toArray, List.set_cons_zero, List.set_cons_succ, List.getElem_toArray, List.getElem_cons_zero, List.getElem_cons_succ]
  refine any_take (i := 2) (v := (.pointer (some ⟨g, 0, none⟩))) #[true, true, false, false, false, false, false, false, false, false, false, false] rfl (by kernel_rfl) (by kernel_rfl) (by kernel_rfl) (by kernel_rfl) (fun _ _ _ h => h) (.inl ⟨by kernel_rfl, fun x_ hu => by kernel_rfl⟩) hS ?_
  simp only [Act.put, List.setIfInBounds_toArray, List.set_cons_zero, List.set_cons_succ, List.getElem_toArray, List.getElem_cons_zero, List.getElem_cons_succ]
  refine any_take (i := 3) (v := (.pointer (some ⟨g, 0, none⟩))) #[true, true, true, false, false, false, false, false, false, false, false, false] rfl (by kernel_rfl) (by kernel_rfl) (by kernel_rfl) (by kernel_rfl) (fun _ _ _ h => h) (.inl ⟨by kernel_rfl, fun x_ hu => by kernel_rfl⟩) hS ?_
  simp only [Act.put, List.setIfInBounds_toArray, List.set_cons_zero, List.set_cons_succ, List.getElem_toArray, List.getElem_cons_zero, List.getElem_cons_succ]
  refine any_take (i := 4) (v := (.pointer (some ⟨g, 0, none⟩))) #[true, true, true, true, false, false, false, false, false, false, false, false] rfl (by kernel_rfl) (by kernel_rfl) (by kernel_rfl) (by kernel_rfl) (fun _ _ _ h => h) (.inl ⟨by kernel_rfl, fun x_ hu => by kernel_rfl⟩) hS ?_
  simp only [Act.put, List.setIfInBounds_toArray, List.set_cons_zero, List.set_cons_succ, List.getElem_toArray, List.getElem_cons_zero, List.getElem_cons_succ]
  refine any_take (i := 5) (v := (.pointer (some ⟨g, 0, none⟩))) #[true, true, true, true, true, false, false, false, false, false, false, false] rfl (by kernel_rfl) (by kernel_rfl) (by kernel_rfl) (by kernel_rfl) (fun _ _ _ h => h) (.inl ⟨by kernel_rfl, fun x_ hu => by kernel_rfl⟩) hS ?_
  simp only [Act.put, List.setIfInBounds_toArray, List.set_cons_zero, List.set_cons_succ, List.getElem_toArray, List.getElem_cons_zero, List.getElem_cons_succ]
  refine any_take (i := 6) (v := (.pointer (some ⟨g, 0, none⟩))) #[true, true, true, true, true, true, false, false, false, false, false, false] rfl (by kernel_rfl) (by kernel_rfl) (by kernel_rfl) (by kernel_rfl) (fun _ _ _ h => h) (.inl ⟨by kernel_rfl, fun x_ hu => by kernel_rfl⟩) hS ?_
  simp only [Act.put, List.setIfInBounds_toArray, List.set_cons_zero, List.set_cons_succ, List.getElem_toArray, List.getElem_cons_zero, List.getElem_cons_succ]
  refine any_take (i := 7) (v := (.pointer (some ⟨g, 0, none⟩))) #[true, true, true, true, true, true, true, false, false, false, false, false] rfl (by kernel_rfl) (by kernel_rfl) (by kernel_rfl) (by kernel_rfl) (fun _ _ _ h => h) (.inl ⟨by kernel_rfl, fun x_ hu => by kernel_rfl⟩) hS ?_
  simp only [Act.put, List.setIfInBounds_toArray, List.set_cons_zero, List.set_cons_succ, List.getElem_toArray, List.getElem_cons_zero, List.getElem_cons_succ]
  refine any_take (i := 8) (v := (.pointer (some ⟨g, 16, none⟩))) #[true, true, true, true, true, true, true, true, false, false, false, false] rfl (by kernel_rfl) (by kernel_rfl) (by kernel_rfl) (by kernel_rfl) (fun _ _ _ h => h) (.inl ⟨by kernel_rfl, fun x_ hu => by kernel_rfl⟩) hS ?_
  simp only [Act.put, List.setIfInBounds_toArray, List.set_cons_zero, List.set_cons_succ, List.getElem_toArray, List.getElem_cons_zero, List.getElem_cons_succ]
  refine any_take (i := 9) (v := (.int .i64 f)) #[true, true, true, true, true, true, true, true, true, false, false, false] rfl (by kernel_rfl) (by kernel_rfl) (by kernel_rfl) (by kernel_rfl) (fun _ _ _ h => h) (.inl ⟨by kernel_rfl, fun x_ hu => exec_i64 _ (.tmp 22) rfl g 16 (by kernel_rfl) f hu⟩) hS ?_
  simp only [Act.put, List.setIfInBounds_toArray, List.set_cons_zero, List.set_cons_succ, List.getElem_toArray, List.getElem_cons_zero, List.getElem_cons_succ]
  refine any_take (i := 10) (v := (.slice (some ⟨g, 0, none⟩) f 16)) #[true, true, true, true, true, true, true, true, true, true, false, false] rfl (by kernel_rfl) (by kernel_rfl) (by kernel_rfl) (by kernel_rfl) (fun _ _ _ h => h) (.inl ⟨by kernel_rfl, fun x_ hu => by go_simp⟩) hS ?_
  simp only [Act.put, List.setIfInBounds_toArray, List.set_cons_zero, List.set_cons_succ, List.getElem_toArray, List.getElem_cons_zero, List.getElem_cons_succ]
  refine any_one (i := 11) (by kernel_rfl) rfl (fun K_ hQ => ?_)
  rw [if_pos (by kernel_rfl)]
  obtain ⟨D, hD⟩ : ∃ D, D = l.take f := ⟨_, rfl⟩
  have hDl : D.length = f := by rw [hD, List.length_take, hl16]; omega
  have hDB : IsB D := by rw [hD]; exact hlB.take f
  refine copy_wp (.tmp 14) (.tmp 24) rfl (w.heap.size + 1) 0 16 16 (some ⟨g, 0, none⟩) f 16 (by kernel_rfl) (by kernel_rfl) (ZT.map (Value.int .u8)) 40 (hB.get 1 (x := ⟨w.heap.size + 1, kc ZT, 40⟩) rfl) D (by rw [hDl]; exact (Nat.min_eq_left (by omega)).symm) (.inr ⟨g, 0, rfl, by rw [hD]; exact hH.left.take f⟩) (by rw [hDl]; show 0 + f ≤ 16; omega) ?_
  have hcell := laid (S := D) (o := 0) (hB.get 1 (x := ⟨w.heap.size + 1, kc ZT, 40⟩) rfl) (by rw [hDl]; show 0 + f ≤ 16; omega)
  have hB2 := hB.but (setCells_bt (D.map (Value.int .u8)) x0 (w.heap.size + 1) 0) 1 (x := ⟨w.heap.size + 1, kc ZT, 40⟩) rfl rfl hcell
  simp only [List.set_cons_zero, List.set_cons_succ] at hB2
  have hne : g ≠ w.heap.size + 1 := by
    intro e
    have h1 := hB.get 1 (x := ⟨w.heap.size + 1, kc ZT, 40⟩) rfl
    have h2 := hH.2
    dsimp only at h1
    rw [e, h1] at h2
    simp only [Option.some.injEq, Obj.cells.injEq] at h2
    exact absurd h2.2.1 (by decide)
  replace hH : Lies g l (f : Int) S M A (World.setCells x0 (w.heap.size + 1) 0 (D.map (Value.int .u8))) := ⟨hH.1, (setCells_other _ x0 (w.heap.size + 1) 0 g hne).trans hH.2⟩
  generalize World.setCells _ _ _ _ = x1 at *
  clear hcell hB
  have hS := hH.fill
  refine hQ.out _ _ hS (fun _ => ?_)
  clear hQ K_
  simp only [Act.put, List.setIfInBounds_toArray, List.set_cons_zero, List.set_cons_succ, List.getElem_toArray, List.getElem_cons_zero, List.getElem_cons_succ]
  refine any_done (by kernel_rfl) ?_
  rw [hDl]
  replace hB2 := hide hB2
  replace hH := hide hH
  replace hD := hide hD
  go_upto_region 5 with fail
  have hB := unhide hB2
  clear hB2
  have hll : (lay ZT 0 D).length = 16 := by rw [lay_len _ _ _ (by rw [hDl]; show 0 + f ≤ 16; omega)]; rfl
  refine wp_region_lit ?_
  refine list_val (.pointer (some ⟨g, 0, none⟩)) (by kernel_rfl) (by kernel_rfl) ?_
  simp only [Act.put, List.setIfInBounds_toArray, List.set_cons_zero, List.set_cons_succ, List.getElem_toArray, List.getElem_cons_zero, List.getElem_cons_succ]
  refine list_val (.pointer (some ⟨g, 0, none⟩)) (by kernel_rfl) (by kernel_rfl) ?_
  simp only [Act.put, List.setIfInBounds_toArray, List.set_cons_zero, List.set_cons_succ, List.getElem_toArray, List.getElem_cons_zero, List.getElem_cons_succ]
  refine list_val (.pointer (some ⟨g, 0, none⟩)) (by kernel_rfl) (by kernel_rfl) ?_
  simp only [Act.put, List.setIfInBounds_toArray, List.set_cons_zero, List.set_cons_succ, List.getElem_toArray, List.getElem_cons_zero, List.getElem_cons_succ]
  refine list_val (.pointer (some ⟨g, 16, none⟩)) (by kernel_rfl) (by kernel_rfl) ?_
  simp only [Act.put, List.setIfInBounds_toArray, List.set_cons_zero, List.set_cons_succ, List.getElem_toArray, List.getElem_cons_zero, List.getElem_cons_succ]
  refine list_val (.int .i64 f) (by kernel_rfl) (exec_i64 _ (.tmp 29) rfl g 16 (by kernel_rfl) f hS) ?_
  simp only [Act.put, List.setIfInBounds_toArray, List.set_cons_zero, List.set_cons_succ, List.getElem_toArray, List.getElem_cons_zero, List.getElem_cons_succ]
  refine list_val (.pointer (some ⟨w.heap.size + 1, f, none⟩)) (by kernel_rfl) (by go_simp) ?_
  simp only [Act.put, List.setIfInBounds_toArray, List.set_cons_zero, List.set_cons_succ, List.getElem_toArray, List.getElem_cons_zero, List.getElem_cons_succ]
  have c4 := kc_cell (hB.get 1 (x := ⟨w.heap.size + 1, kc (lay ZT 0 D), 40⟩) rfl) f (by omega)
  have fz := froz_of (i := f) (hB.get 1 (x := ⟨w.heap.size + 1, kc (lay ZT 0 D), 40⟩) rfl)
  generalize (lay ZT 0 D).getD f 0 = z at c4
  have hB2 := hB.cell 1 (x := ⟨w.heap.size + 1, kc (lay ZT 0 D), 40⟩) rfl f (.int .u8 1)
  have e9 : (lay ZT 0 D).set f 1 = endB D := by
    have h := endB_lay D (by omega)
    rw [hDl] at h
    exact h
  simp only [List.set_cons_zero, List.set_cons_succ, kc_set, e9] at hB2
  replace hH : Lies g l (f : Int) S M A (World.setCell x1 ⟨w.heap.size + 1, f, none⟩ (.int .u8 1)) := ⟨(unhide hH).1, (Below.heap_setCell x1 ⟨w.heap.size + 1, f, none⟩ (.int .u8 1) g hne).trans (unhide hH).2⟩
  clear hB e9 hll hS
  replace hB2 := hide hB2
  replace hH := hide hH
  (refine wpList_step fun K hK => ?_; replace hK := hide hK; go_simp; refine unhide hK _ _ ?_; clear hK K)
  clear c4 fz
  refine wpList_nil ?_
  generalize World.setCell _ _ _ = x2 at *
  have hEl : (endB D).length = 16 := endB_len D (by omega)
  have hEB := endB_isB D hDB
  have hEv : Hid (lowN (endB D) = ((bN L (L.length / 16) : Nat) : Int)) := by
    have e1 : D = L.drop (16 * (L.length / 16)) := by rw [unhide hD, unhide hlt]
    have h1 := lowN_end L (by rw [← e1]; exact hDB)
    rw [← e1] at h1
    exact h1
  generalize endB D = E at *
  go_upto_region 6 with fail
  have hB := unhide hB2
  clear hB2
  replace hH := unhide hH
  refine any_start (S := fun v => Lies g l (f : Int) S M A v) (by kernel_rfl) ?_
  replace hH := hH.gr (Gr.refl _).drew
  replace hB := hB.drew
  generalize World.drew _ = x3 at *
  simp only [List.size_toArray, List.length_cons, List.length_nil, Array.replicate, List.replicate]
  refine any_take (i := 0) (v := (.pointer (some ⟨g, 0, none⟩))) #[false, false, false, false, false, false, false, false, false, false, false, false, false] rfl (by kernel_rfl) (by kernel_rfl) (by kernel_rfl) (by kernel_rfl) (fun _ _ _ h => h) (.inl ⟨by kernel_rfl, fun x_ hu => by kernel_rfl⟩) hH ?_
  simp only [Act.put, List.setIfInBounds_toArray, List.set_cons_zero, List.set_cons_succ, List.getElem_toArray, List.getElem_cons_zero, List.getElem_cons_succ]
  refine any_take (i := 1) (v := (.pointer (some ⟨g, 0, none⟩))) #[true, false, false, false, false, false, false, false, false, false, false, false, false] rfl (by kernel_rfl) (by kernel_rfl) (by kernel_rfl) (by kernel_rfl) (fun _ _ _ h => h) (.inl ⟨by kernel_rfl, fun x_ hu => by kernel_rfl⟩) hH ?_
  simp only [Act.put, List.setIfInBounds_toArray, List.set_cons_zero, List.set_cons_succ, List.getElem_toArray, List.getElem_cons_zero, List.getElem_cons_succ]
  refine any_take (i := 2) (v := (.pointer (some ⟨g, 17, none⟩))) #[true, true, false, false, false, false, false, false, false, false, false, false, false] rfl (by kernel_rfl) (by kernel_rfl) (by kernel_rfl) (by kernel_rfl) (fun _ _ _ h => h) (.inl ⟨by kernel_rfl, fun x_ hu => by kernel_rfl⟩) hH ?_
  simp only [Act.put, List.setIfInBounds_toArray, List.set_cons_zero, List.set_cons_succ, List.getElem_toArray, List.getElem_cons_zero, List.getElem_cons_succ]
  refine any_take (i := 3) (v := (.agg (fc S.a S.b S.c S.d S.e))) #[true, true, true, false, false, false, false, false, false, false, false, false, false] rfl (by kernel_rfl) (by kernel_rfl) (by kernel_rfl) (by kernel_rfl) (fun _ _ _ h => h) (.inl ⟨by kernel_rfl, fun x_ hu => exec_five _ (.tmp 34) rfl g 17 (by kernel_rfl) S hu.sum⟩) hH ?_
  simp only [Act.put, List.setIfInBounds_toArray, List.set_cons_zero, List.set_cons_succ, List.getElem_toArray, List.getElem_cons_zero, List.getElem_cons_succ]
  refine any_take (i := 4) (v := (.slice (some ⟨w.heap.size + 1, 0, none⟩) 16 16)) #[true, true, true, true, false, false, false, false, false, false, false, false, false] rfl (by kernel_rfl) (by kernel_rfl) (by kernel_rfl) (by kernel_rfl) (fun _ _ _ h => h) (.inl ⟨by kernel_rfl, fun x_ hu => by kernel_rfl⟩) hH ?_
  simp only [Act.put, List.setIfInBounds_toArray, List.set_cons_zero, List.set_cons_succ, List.getElem_toArray, List.getElem_cons_zero, List.getElem_cons_succ]
  refine any_take (i := 7) (v := (.pointer (some ⟨g, 0, none⟩))) #[true, true, true, true, true, false, false, false, false, false, false, false, false] rfl (by kernel_rfl) (by kernel_rfl) (by kernel_rfl) (by kernel_rfl) (fun _ _ _ h => h) (.inl ⟨by kernel_rfl, fun x_ hu => by kernel_rfl⟩) hH ?_
  simp only [Act.put, List.setIfInBounds_toArray, List.set_cons_zero, List.set_cons_succ, List.getElem_toArray, List.getElem_cons_zero, List.getElem_cons_succ]
  refine any_take (i := 8) (v := (.pointer (some ⟨g, 0, none⟩))) #[true, true, true, true, true, false, false, true, false, false, false, false, false] rfl (by kernel_rfl) (by kernel_rfl) (by kernel_rfl) (by kernel_rfl) (fun _ _ _ h => h) (.inl ⟨by kernel_rfl, fun x_ hu => by kernel_rfl⟩) hH ?_
  simp only [Act.put, List.setIfInBounds_toArray, List.set_cons_zero, List.set_cons_succ, List.getElem_toArray, List.getElem_cons_zero, List.getElem_cons_succ]
  refine any_take (i := 9) (v := (.pointer (some ⟨g, 22, none⟩))) #[true, true, true, true, true, false, false, true, true, false, false, false, false] rfl (by kernel_rfl) (by kernel_rfl) (by kernel_rfl) (by kernel_rfl) (fun _ _ _ h => h) (.inl ⟨by kernel_rfl, fun x_ hu => by kernel_rfl⟩) hH ?_
  simp only [Act.put, List.setIfInBounds_toArray, List.set_cons_zero, List.set_cons_succ, List.getElem_toArray, List.getElem_cons_zero, List.getElem_cons_succ]
  refine any_take (i := 10) (v := (.agg (fc M.a M.b M.c M.d M.e))) #[true, true, true, true, true, false, false, true, true, true, false, false, false] rfl (by kernel_rfl) (by kernel_rfl) (by kernel_rfl) (by kernel_rfl) (fun _ _ _ h => h) (.inl ⟨by kernel_rfl, fun x_ hu => exec_five _ (.tmp 41) rfl g 22 (by kernel_rfl) M hu.mul⟩) hH ?_
  simp only [Act.put, List.setIfInBounds_toArray, List.set_cons_zero, List.set_cons_succ, List.getElem_toArray, List.getElem_cons_zero, List.getElem_cons_succ]
  refine any_one (i := 5) (by kernel_rfl) rfl (fun K_ hQ => ?_)
  refine step_callw (by kernel_rfl) 38 #[.slice (some ⟨w.heap.size + 1, 0, none⟩) 16 16] (by kernel_rfl) ((number_ok E (w.heap.size + 1) 0 16 hEl hEB (by omega) (by omega) _ (kc_at (hB.get 1 (x := ⟨w.heap.size + 1, kc E, 40⟩) rfl))).mono ?_)
  rintro r x4 ⟨y0, y1, y2, y3, y4, rfl, hy0, hy1, hy2, hy3, hy4, hyv, hgr⟩
  refine ⟨_, rfl, ?_⟩
  replace hB := hB.more hgr
  replace hH := hH.gr hgr
  clear hgr
  obtain ⟨ca, cb, cc, cd_, ce, -, cm⟩ := hc
  unfold Dg at cb cc cd_ ce hy0 hy1 hy2 hy3
  have sm0 : Sm S.a := by unfold Sm; omega
  have sm1 : Sm S.b := by unfold Sm; omega
  have sm2 : Sm S.c := by unfold Sm; omega
  have sm3 : Sm S.d := by unfold Sm; omega
  have sm4 : Sm S.e := by unfold Sm; omega
  have sm5 : Sm y0 := by unfold Sm; omega
  have sm6 : Sm y1 := by unfold Sm; omega
  have sm7 : Sm y2 := by unfold Sm; omega
  have sm8 : Sm y3 := by unfold Sm; omega
  have sm9 : Sm y4 := by unfold Sm; omega
  have tm0 : 0 ≤ S.a + y0 ∧ S.a + y0 < 268435456 := by omega
  have tm1 : 0 ≤ S.b + y1 ∧ S.b + y1 < 268435456 := by omega
  have tm2 : 0 ≤ S.c + y2 ∧ S.c + y2 < 268435456 := by omega
  have tm3 : 0 ≤ S.d + y3 ∧ S.d + y3 < 268435456 := by omega
  have tm4 : 0 ≤ S.e + y4 ∧ S.e + y4 < 268435456 := by omega
  have hval : v5 (S.a + y0) (S.b + y1) (S.c + y2) (S.d + y3) (S.e + y4) * v5 M.a M.b M.c M.d M.e % 1361129467683753853853498429727072845819 = ((acN (rK K) L (L.length / 16 + 1) : Nat) : Int) := by
    have e2 : v5 M.a M.b M.c M.d M.e = (rK K : Int) := hMr
    rw [v5_add, hyv, unhide hEv, e2, acN]
    exact acc_step _ _ _ _ cm
  clear ca cb cc cd_ ce cm hy0 hy1 hy2 hy3 hy4 hyv
  refine hQ.out _ _ hH (fun _ => ?_)
  clear hQ K_
  simp only [Act.put, List.setIfInBounds_toArray, List.set_cons_zero, List.set_cons_succ, List.getElem_toArray, List.getElem_cons_zero, List.getElem_cons_succ]
  refine any_one (i := 6) (by kernel_rfl) rfl (fun K_ hQ => ?_)
  refine step_callw (by kernel_rfl) 44 #[.agg (fc S.a S.b S.c S.d S.e), .agg (fc y0 y1 y2 y3 y4)] (by kernel_rfl) ((plus_ok S.a S.b S.c S.d S.e y0 y1 y2 y3 y4 sm0 sm1 sm2 sm3 sm4 sm5 sm6 sm7 sm8 sm9 _).mono ?_)
  rintro r x5 ⟨rfl, hgr⟩
  refine ⟨_, rfl, ?_⟩
  replace hB := hB.more hgr
  replace hH := hH.gr hgr
  clear hgr
  refine hQ.out _ _ hH (fun _ => ?_)
  clear hQ K_
  simp only [Act.put, List.setIfInBounds_toArray, List.set_cons_zero, List.set_cons_succ, List.getElem_toArray, List.getElem_cons_zero, List.getElem_cons_succ]
  refine any_one (i := 11) (by kernel_rfl) rfl (fun K_ hQ => ?_)
  refine step_callw (by kernel_rfl) 59 #[.agg (fc (S.a + y0) (S.b + y1) (S.c + y2) (S.d + y3) (S.e + y4)), .agg (fc M.a M.b M.c M.d M.e)] (by kernel_rfl) ((times_ok (S.a + y0) (S.b + y1) (S.c + y2) (S.d + y3) (S.e + y4) M.a M.b M.c M.d M.e tm0 tm1 tm2 tm3 tm4 hMd.1 hMd.2.1 hMd.2.2.1 hMd.2.2.2.1 hMd.2.2.2.2 _).mono ?_)
  rintro r x6 ⟨z0, z1, z2, z3, z4, rfl, hz, hgr⟩
  refine ⟨_, rfl, ?_⟩
  rw [hval] at hz
  replace hB := hB.more hgr
  replace hH := hH.gr hgr
  clear hgr
  refine hQ.out _ _ hH (fun _ => ?_)
  clear hQ K_
  simp only [Act.put, List.setIfInBounds_toArray, List.set_cons_zero, List.set_cons_succ, List.getElem_toArray, List.getElem_cons_zero, List.getElem_cons_succ]
  refine any_one (i := 12) (by kernel_rfl) rfl (fun K_ hQ => ?_)
  rw [if_pos (by kernel_rfl)]
  refine wp_store_row 66 (.tmp 2) (.tmp 43) rfl (w.heap.size) (fc z0 z1 z2 z3 z4) (by kernel_rfl) (by kernel_rfl) 66 (fc 0 0 0 0 0) (hB.get 0 (x := ⟨w.heap.size, fc 0 0 0 0 0, 66⟩) rfl) Try.infoL rfl (fc_one _ _ _ _ _) ?_
  have hne0 : g ≠ w.heap.size := by
    intro e
    have h1 := hB.get 0 (x := ⟨w.heap.size, fc 0 0 0 0 0, 66⟩) rfl
    have h2 := hH.2
    dsimp only at h1
    rw [e, h1] at h2
    simp only [Option.some.injEq, Obj.cells.injEq] at h2
    exact absurd h2.2.1 (by decide)
  replace hH : Lies g l (f : Int) S M A (World.setRow x6 (w.heap.size) (fc z0 z1 z2 z3 z4)) := ⟨hH.1, (setRow_other x6 (w.heap.size) g _ hne0).trans hH.2⟩
  replace hB := hB.set 0 (x := ⟨w.heap.size, fc 0 0 0 0 0, 66⟩) rfl (fc z0 z1 z2 z3 z4)
  simp only [List.set_cons_zero, List.set_cons_succ] at hB
  generalize World.setRow _ _ _ = x7 at *
  refine hQ.out _ _ hH (fun _ => ?_)
  clear hQ K_
  simp only [Act.put, List.setIfInBounds_toArray, List.set_cons_zero, List.set_cons_succ, List.getElem_toArray, List.getElem_cons_zero, List.getElem_cons_succ]
  refine any_done (by kernel_rfl) ?_
  replace hB := hide hB
  clear hH hval sm0 sm1 sm2 sm3 sm4 sm5 sm6 sm7 sm8 sm9 tm0 tm1 tm2 tm3 tm4
  replace hz := hide hz
  go_wp2_with fail
  replace hB := unhide hB
  rw [unhide hT]
  exact bodyPost_ret (v := .agg (fc z0 z1 z2 z3 z4)) (results_cell_row Try.results42 _ _ (w.heap.size) 66 (fc z0 z1 z2 z3 z4) (0, 0) _ rfl (hB.get 0 (x := ⟨w.heap.size, fc z0 z1 z2 z3 z4, 66⟩) rfl) Try.underlying66 rfl Try.infoL) rfl (⟨_, _, _, _, _, rfl, unhide hz, hB.gr⟩)
theorem end_ok (K L : List Int) (g : Nat) (w : World) (hC : Cd K g L w) : Calls Try.prog 42 #[.pointer (some ⟨g, 0, none⟩)] w (Crd ((acN (rK K) L (nk L.length) : Nat) : Int) w) := by
  rcases Nat.eq_zero_or_pos (L.length % 16) with h | h
  · exact end_whole K L g h w hC
  · exact end_some K L g h w hC
set_option maxHeartbeats 4000000 in
theorem ctag_ok (K L : List Int) (g : Nat) (w : World) (hC : Cd K g L w) : Calls Try.prog 30 #[.pointer (some ⟨g, 0, none⟩)] w (Tg (mcL K L) w) := by
  obtain ⟨T, hT⟩ : ∃ T, T = Tg (mcL K L) w := ⟨_, rfl⟩
  rw [← hT]
  replace hT := hide hT
  have hXl : (mcL K L).length = 16 := tgL_len _
  replace hC := hide hC
  go_enter Try.func30, Try.ntmps30
  go_upto_region 3 with fail
  have hB := (Bl.nil w).new #[.int .u8 0, .int .u8 0, .int .u8 0, .int .u8 0, .int .u8 0, .int .u8 0, .int .u8 0, .int .u8 0, .int .u8 0, .int .u8 0, .int .u8 0, .int .u8 0, .int .u8 0, .int .u8 0, .int .u8 0, .int .u8 0] 41
  simp only [List.nil_append, List.cons_append] at hB
  generalize World.alloc _ _ = u at *
  replace hB : Bl w [⟨w.heap.size, kc ZT, 41⟩] u := hB
  have hC2 := (unhide hC).gr hB.gr
  clear hC
  have hC3 := hC2
  obtain ⟨l, S, M, A, hH, hlB, hlt, hc, hMd, hMr, hAd, hAs⟩ := hC3
  refine any_start (S := fun v => Lies g l ((L.length % 16 : Nat) : Int) S M A v) (by kernel_rfl) ?_
  replace hC2 := hC2.gr (Gr.refl _).drew
  replace hB := hB.drew
  replace hH := hH.gr (Gr.refl _).drew
  generalize World.drew _ = x0 at *
  simp only [List.size_toArray, List.length_cons, List.length_nil, Array.replicate, List.replicate]
  refine any_take (i := 0) (v := (.pointer (some ⟨g, 0, none⟩))) #[false, false, false, false, false, false, false, false, false, false] rfl (by kernel_rfl) (by kernel_rfl) (by kernel_rfl) (by kernel_rfl) (fun _ _ _ h => h) (.inl ⟨by kernel_rfl, fun x_ hu => by kernel_rfl⟩) hH ?_
  simp only [Act.put, List.setIfInBounds_toArray, List.set_cons_zero, List.set_cons_succ, List.getElem_toArray, List.getElem_cons_zero, List.getElem_cons_succ]
  refine any_take (i := 3) (v := (.pointer (some ⟨g, 0, none⟩))) #[true, false, false, false, false, false, false, false, false, false] rfl (by kernel_rfl) (by kernel_rfl) (by kernel_rfl) (by kernel_rfl) (fun _ _ _ h => h) (.inl ⟨by kernel_rfl, fun x_ hu => by kernel_rfl⟩) hH ?_
  simp only [Act.put, List.setIfInBounds_toArray, List.set_cons_zero, List.set_cons_succ, List.getElem_toArray, List.getElem_cons_zero, List.getElem_cons_succ]
  refine any_take (i := 4) (v := (.pointer (some ⟨g, 0, none⟩))) #[true, false, false, true, false, false, false, false, false, false] rfl (by kernel_rfl) (by kernel_rfl) (by kernel_rfl) (by kernel_rfl) (fun _ _ _ h => h) (.inl ⟨by kernel_rfl, fun x_ hu => by kernel_rfl⟩) hH ?_
  simp only [Act.put, List.setIfInBounds_toArray, List.set_cons_zero, List.set_cons_succ, List.getElem_toArray, List.getElem_cons_zero, List.getElem_cons_succ]
  refine any_take (i := 5) (v := (.pointer (some ⟨g, 27, none⟩))) #[true, false, false, true, true, false, false, false, false, false] rfl (by kernel_rfl) (by kernel_rfl) (by kernel_rfl) (by kernel_rfl) (fun _ _ _ h => h) (.inl ⟨by kernel_rfl, fun x_ hu => by kernel_rfl⟩) hH ?_
  simp only [Act.put, List.setIfInBounds_toArray, List.set_cons_zero, List.set_cons_succ, List.getElem_toArray, List.getElem_cons_zero, List.getElem_cons_succ]
  refine any_take (i := 6) (v := (.agg (fc A.a A.b A.c A.d A.e))) #[true, false, false, true, true, true, false, false, false, false] rfl (by kernel_rfl) (by kernel_rfl) (by kernel_rfl) (by kernel_rfl) (fun _ _ _ h => h) (.inl ⟨by kernel_rfl, fun x_ hu => exec_five _ (.tmp 11) rfl g 27 (by kernel_rfl) A hu.add⟩) hH ?_
  simp only [Act.put, List.setIfInBounds_toArray, List.set_cons_zero, List.set_cons_succ, List.getElem_toArray, List.getElem_cons_zero, List.getElem_cons_succ]
  refine any_one (i := 1) (by kernel_rfl) rfl (fun K_ hQ => ?_)
  refine step_callw (by kernel_rfl) 42 #[.pointer (some ⟨g, 0, none⟩)] (by kernel_rfl) ((end_ok K L g _ hC2).mono ?_)
  rintro r x1 ⟨y0, y1, y2, y3, y4, rfl, hy, hgr⟩
  refine ⟨_, rfl, ?_⟩
  clear hC2
  replace hB := hB.more hgr
  replace hH := hH.gr hgr
  clear hgr
  refine hQ.out _ _ hH (fun _ => ?_)
  clear hQ K_
  simp only [Act.put, List.setIfInBounds_toArray, List.set_cons_zero, List.set_cons_succ, List.getElem_toArray, List.getElem_cons_zero, List.getElem_cons_succ]
  refine any_one (i := 2) (by kernel_rfl) rfl (fun K_ hQ => ?_)
  refine step_callw (by kernel_rfl) 43 #[.agg (fc y0 y1 y2 y3 y4)] (by kernel_rfl) ((least_ok _ y0 y1 y2 y3 y4 hy _).mono ?_)
  rintro r x2 ⟨z0, z1, z2, z3, z4, rfl, hz0, hz1, hz2, hz3, hz4, hzv, hgr⟩
  refine ⟨_, rfl, ?_⟩
  clear hy
  replace hB := hB.more hgr
  replace hH := hH.gr hgr
  clear hgr
  have hAd2 := hAd
  obtain ⟨ba, bb, bc, bd, be⟩ := hAd2
  unfold Dg at ba bb bc bd be hz0 hz1 hz2 hz3 hz4
  have sm0 : Sm z0 := by unfold Sm; omega
  have sm1 : Sm z1 := by unfold Sm; omega
  have sm2 : Sm z2 := by unfold Sm; omega
  have sm3 : Sm z3 := by unfold Sm; omega
  have sm4 : Sm z4 := by unfold Sm; omega
  have sm5 : Sm A.a := by unfold Sm; omega
  have sm6 : Sm A.b := by unfold Sm; omega
  have sm7 : Sm A.c := by unfold Sm; omega
  have sm8 : Sm A.d := by unfold Sm; omega
  have sm9 : Sm A.e := by unfold Sm; omega
  have tm0 : Sm (z0 + A.a) := by unfold Sm; omega
  have tm1 : Sm (z1 + A.b) := by unfold Sm; omega
  have tm2 : Sm (z2 + A.c) := by unfold Sm; omega
  have tm3 : Sm (z3 + A.d) := by unfold Sm; omega
  have tm4 : Sm (z4 + A.e) := by unfold Sm; omega
  have hval : v5 (z0 + A.a) (z1 + A.b) (z2 + A.c) (z3 + A.d) (z4 + A.e) = ((mcN K L : Nat) : Int) := by
    have e2 : v5 A.a A.b A.c A.d A.e = (sK K : Int) := hAs
    rw [v5_add, hzv, e2]
    unfold mcN rK sK
    omega
  refine hQ.out _ _ hH (fun _ => ?_)
  clear hQ K_
  simp only [Act.put, List.setIfInBounds_toArray, List.set_cons_zero, List.set_cons_succ, List.getElem_toArray, List.getElem_cons_zero, List.getElem_cons_succ]
  refine any_one (i := 7) (by kernel_rfl) rfl (fun K_ hQ => ?_)
  refine step_callw (by kernel_rfl) 44 #[.agg (fc z0 z1 z2 z3 z4), .agg (fc A.a A.b A.c A.d A.e)] (by kernel_rfl) ((plus_ok z0 z1 z2 z3 z4 A.a A.b A.c A.d A.e sm0 sm1 sm2 sm3 sm4 sm5 sm6 sm7 sm8 sm9 _).mono ?_)
  rintro r x3 ⟨rfl, hgr⟩
  refine ⟨_, rfl, ?_⟩
  replace hB := hB.more hgr
  replace hH := hH.gr hgr
  clear hgr
  refine hQ.out _ _ hH (fun _ => ?_)
  clear hQ K_
  simp only [Act.put, List.setIfInBounds_toArray, List.set_cons_zero, List.set_cons_succ, List.getElem_toArray, List.getElem_cons_zero, List.getElem_cons_succ]
  refine any_one (i := 8) (by kernel_rfl) rfl (fun K_ hQ => ?_)
  refine step_callw (by kernel_rfl) 45 #[.agg (fc (z0 + A.a) (z1 + A.b) (z2 + A.c) (z3 + A.d) (z4 + A.e))] (by kernel_rfl) ((tag_ok (mcN K L) (z0 + A.a) (z1 + A.b) (z2 + A.c) (z3 + A.d) (z4 + A.e) tm0 tm1 tm2 tm3 tm4 hval _).mono ?_)
  rintro r x4 ⟨rfl, hgr⟩
  refine ⟨_, rfl, ?_⟩
  replace hB := hB.more hgr
  replace hH := hH.gr hgr
  clear hgr
  refine hQ.out _ _ hH (fun _ => ?_)
  clear hQ K_
  simp only [Act.put, List.setIfInBounds_toArray, List.set_cons_zero, List.set_cons_succ, List.getElem_toArray, List.getElem_cons_zero, List.getElem_cons_succ]
  refine any_one (i := 9) (by kernel_rfl) rfl (fun K_ hQ => ?_)
  rw [if_pos (by kernel_rfl)]
  refine wp_store_row 41 (.tmp 2) (.tmp 14) rfl (w.heap.size) (kc (mcL K L)) (by kernel_rfl) (by kernel_rfl) 41 (kc ZT) (hB.get 0 (x := ⟨w.heap.size, kc ZT, 41⟩) rfl) (by rw [Try.infoT, kc_size, hXl]) ((show (kc ZT).size = 16 from rfl).trans ((kc_size _).trans hXl).symm) (kc_one _) ?_
  have hne0 : g ≠ w.heap.size := by
    intro e
    have h1 := hB.get 0 (x := ⟨w.heap.size, kc ZT, 41⟩) rfl
    have h2 := hH.2
    dsimp only at h1
    rw [e, h1] at h2
    simp only [Option.some.injEq, Obj.cells.injEq] at h2
    exact absurd h2.2.1 (by decide)
  replace hH : Lies g l _ S M A (World.setRow x4 (w.heap.size) (kc (mcL K L))) := ⟨hH.1, (setRow_other x4 (w.heap.size) g _ hne0).trans hH.2⟩
  replace hB := hB.set 0 (x := ⟨w.heap.size, kc ZT, 41⟩) rfl (kc (mcL K L))
  simp only [List.set_cons_zero, List.set_cons_succ] at hB
  generalize World.setRow _ _ _ = x5 at *
  refine hQ.out _ _ hH (fun _ => ?_)
  clear hQ K_
  simp only [Act.put, List.setIfInBounds_toArray, List.set_cons_zero, List.set_cons_succ, List.getElem_toArray, List.getElem_cons_zero, List.getElem_cons_succ]
  refine any_done (by kernel_rfl) ?_
  replace hB := hide hB
  clear hH hval sm0 sm1 sm2 sm3 sm4 sm5 sm6 sm7 sm8 sm9 tm0 tm1 tm2 tm3 tm4 hz0 hz1 hz2 hz3 hz4 hzv ba bb bc bd be hc hMd hMr hAd hAs hlt
  go_wp2_with fail
  replace hB := unhide hB
  rw [unhide hT]
  exact bodyPost_ret (v := .agg (kc (mcL K L))) (results_cell_row Try.results30 _ _ (w.heap.size) 41 (kc (mcL K L)) (0, 0) _ rfl (hB.get 0 (x := ⟨w.heap.size, kc (mcL K L), 41⟩) rfl) Try.underlying41 rfl (by rw [Try.infoT, kc_size, hXl])) rfl (⟨rfl, hB.gr⟩)
set_option maxHeartbeats 4000000 in
theorem ctag_nil (w : World) : Calls Try.prog 30 #[.pointer none] w (Tg ZT w) := by
  obtain ⟨T, hT⟩ : ∃ T, T = Tg ZT w := ⟨_, rfl⟩
  rw [← hT]
  replace hT := hide hT
  go_enter Try.func30, Try.ntmps30
  go_upto_region 2 with fail
  have hB := (Bl.nil w).new #[.int .u8 0, .int .u8 0, .int .u8 0, .int .u8 0, .int .u8 0, .int .u8 0, .int .u8 0, .int .u8 0, .int .u8 0, .int .u8 0, .int .u8 0, .int .u8 0, .int .u8 0, .int .u8 0, .int .u8 0, .int .u8 0] 41
  simp only [List.nil_append, List.cons_append] at hB
  generalize World.alloc _ _ = u at *
  replace hB : Bl w [⟨w.heap.size, kc ZT, 41⟩] u := hB
  have hXl : ZT.length = 16 := rfl
  refine wp_region_lit ?_
  refine list_val (.agg (kc ZT)) (by kernel_rfl) (by kernel_rfl) ?_
  simp only [Act.put, List.setIfInBounds_toArray, List.set_cons_zero, List.set_cons_succ, List.getElem_toArray, List.getElem_cons_zero, List.getElem_cons_succ]
  refine list_store 41 (.tmp 2) (.tmp 5) (w.heap.size) (kc ZT) 41 (kc ZT) (by kernel_rfl) rfl (by kernel_rfl) (by kernel_rfl) (hB.get 0 (x := ⟨w.heap.size, kc ZT, 41⟩) rfl) (by rw [Try.infoT, kc_size, hXl]) ((show (kc ZT).size = 16 from rfl).trans ((kc_size _).trans hXl).symm) (kc_one _) ?_
  replace hB := hB.set 0 (x := ⟨w.heap.size, kc ZT, 41⟩) rfl (kc ZT)
  simp only [List.set_cons_zero, List.set_cons_succ] at hB
  generalize World.setRow _ _ _ = u1 at *
  simp only [Act.put, List.setIfInBounds_toArray, List.set_cons_zero, List.set_cons_succ, List.getElem_toArray, List.getElem_cons_zero, List.getElem_cons_succ]
  refine wpList_nil ?_
  replace hB := hide hB
  go_wp2_with fail
  replace hB := unhide hB
  rw [unhide hT]
  exact bodyPost_ret (v := .agg (kc ZT)) (results_cell_row Try.results30 _ _ (w.heap.size) 41 (kc ZT) (0, 0) _ rfl (hB.get 0 (x := ⟨w.heap.size, kc ZT, 41⟩) rfl) Try.underlying41 rfl (by rw [Try.infoT, kc_size, hXl])) rfl (⟨rfl, hB.gr⟩)
/-- what New answers -/
def Newd (K : List Int) (w : World) (r : Ending) (w' : World) : Prop := ∃ g, r = .returned (.pointer (some ⟨g, 0, none⟩)) ∧ w.heap.size ≤ g ∧ Cd K g [] w' ∧ Gr w w'
theorem cd_new (K : List Int) (g : Nat) (M A : F5) (v : World) (h : v.heap[g]? = some (.cells (cd ZT 0 ⟨0, 0, 0, 0, 0⟩ M A) 71 (0, 0))) (hM : Fd M) (hMv : M.v = (rK K : Int)) (hA : Fd A) (hAv : A.v = (sK K : Int)) : Cd K g [] v := by
  refine ⟨ZT, ⟨0, 0, 0, 0, 0⟩, M, A, ⟨rfl, h⟩, ?_, rfl, ?_, hM, hMv, hA, hAv⟩
  · intro x hx
    have := List.eq_of_mem_replicate hx
    omega
  · show Car 0 0 0 0 0 0
    unfold Car Dg v5
    decide
set_option maxHeartbeats 4000000 in
theorem new_ok (K : List Int) (hK : K.length = 32) (hKb : IsB K) (w : World) : Calls Try.prog 25 #[.agg (kc K)] w (Newd K w) := by
  obtain ⟨T, hT⟩ : ∃ T, T = Newd K w := ⟨_, rfl⟩
  rw [← hT]
  replace hT := hide hT
  obtain ⟨SK, hSK⟩ : ∃ S, S = kc K := ⟨_, rfl⟩
  rw [← hSK]
  replace hSK := hide hSK
  replace hKb := hide hKb
  go_enter Try.func25, Try.ntmps25
  go_upto_region 1 with fail
  have hB := (Bl.nil w).new SK 23
  simp only [List.nil_append] at hB
  generalize World.alloc _ _ = u at *
  rw [unhide hSK] at hB
  replace hB : Bl w [⟨w.heap.size, kc K, 23⟩] u := hB
  refine wp_region_lit ?_
  refine list_val (.agg (kc K)) (by kernel_rfl) (exec_arr _ 23 (.tmp 1) rfl (w.heap.size) (by kernel_rfl) (kc K) 23 _ (hB.get 0 (x := ⟨w.heap.size, kc K, 23⟩) rfl) Try.underlying23 rfl (by rw [Try.infoKey, kc_size, hK])) ?_
  simp only [Act.put, List.setIfInBounds_toArray, List.set_cons_zero, List.set_cons_succ, List.getElem_toArray, List.getElem_cons_zero, List.getElem_cons_succ]
  refine list_call 37 #[.agg (kc K)] (by kernel_rfl) (by kernel_rfl) ((clamp_ok K hK (unhide hKb) _).mono ?_)
  rintro r w1 ⟨rfl, hg⟩
  refine ⟨_, rfl, ?_⟩
  replace hB := hB.more hg
  clear hg
  obtain ⟨R, hR⟩ : ∃ R, R = clL K := ⟨_, rfl⟩
  have hRl : R.length = 16 := by rw [hR]; exact clL_len K
  have hRb : Hid (IsB R) := by rw [hR]; exact clL_isB K (unhide hKb)
  have hRv : Hid (lowN R = (rK K : Int)) := by
    show lowN R = _
    rw [lowN_V R (unhide hRb), hR]
    rfl
  rw [← hR]
  replace hR := hide hR
  simp only [Act.put, List.setIfInBounds_toArray, List.set_cons_zero, List.set_cons_succ, List.getElem_toArray, List.getElem_cons_zero, List.getElem_cons_succ]
  replace hB := hide hB
  (refine wpList_step fun K hK => ?_; replace hK := hide hK; go_simp; refine unhide hK _ _ ?_; clear hK K)
  replace hB := (unhide hB).new #[.int .u8 0, .int .u8 0, .int .u8 0, .int .u8 0, .int .u8 0, .int .u8 0, .int .u8 0, .int .u8 0, .int .u8 0, .int .u8 0, .int .u8 0, .int .u8 0, .int .u8 0, .int .u8 0, .int .u8 0, .int .u8 0] 41
  simp only [List.nil_append, List.cons_append] at hB
  generalize World.alloc _ _ = w2 at *
  generalize w1.heap.size = h5 at *
  replace hB : Bl w [⟨w.heap.size, kc K, 23⟩, ⟨h5, kc ZT, 41⟩] w2 := hB
  refine list_store 41 (.tmp 3) (.tmp 5) (h5) (kc R) 41 (kc ZT) (by kernel_rfl) rfl (by kernel_rfl) (by kernel_rfl) (hB.get 1 (x := ⟨h5, kc ZT, 41⟩) rfl) (by rw [Try.infoT, kc_size, hRl]) ((show (kc ZT).size = 16 from rfl).trans ((kc_size _).trans hRl).symm) (kc_one _) ?_
  replace hB := hB.set 1 (x := ⟨h5, kc ZT, 41⟩) rfl (kc R)
  simp only [List.set_cons_zero, List.set_cons_succ] at hB
  generalize World.setRow _ _ _ = w3 at *
  simp only [Act.put, List.setIfInBounds_toArray, List.set_cons_zero, List.set_cons_succ, List.getElem_toArray, List.getElem_cons_zero, List.getElem_cons_succ]
  refine wpList_nil ?_
  replace hB := hide hB
  go_upto_region 2 with fail
  replace hB := unhide hB
  have hKt : (K.drop 16).length = 16 := by rw [List.length_drop, hK]
  have hKv : Hid (lowN (K.drop 16) = (sK K : Int)) := by
    show lowN (K.drop 16) = _
    rw [lowN_V _ ((unhide hKb).drop 16)]
    rfl
  refine any_start (S := fun _ => True) (by kernel_rfl) ?_
  replace hB := hB.drew
  generalize World.drew _ = x0 at *
  simp only [List.size_toArray, List.length_cons, List.length_nil, Array.replicate, List.replicate]
  refine any_take (i := 0) (v := (.slice (some ⟨h5, 0, none⟩) 16 16)) #[false, false, false, false, false, false, false] rfl (by kernel_rfl) (by kernel_rfl) (by kernel_rfl) (by kernel_rfl) (fun _ _ _ h => h) (.inl ⟨by kernel_rfl, fun x_ hu => by kernel_rfl⟩) trivial ?_
  simp only [Act.put, List.setIfInBounds_toArray, List.set_cons_zero, List.set_cons_succ, List.getElem_toArray, List.getElem_cons_zero, List.getElem_cons_succ]
  refine any_take (i := 2) (v := (.slice (some ⟨w.heap.size, 16, none⟩) 16 16)) #[true, false, false, false, false, false, false] rfl (by kernel_rfl) (by kernel_rfl) (by kernel_rfl) (by kernel_rfl) (fun _ _ _ h => h) (.inl ⟨by kernel_rfl, fun x_ hu => by kernel_rfl⟩) trivial ?_
  simp only [Act.put, List.setIfInBounds_toArray, List.set_cons_zero, List.set_cons_succ, List.getElem_toArray, List.getElem_cons_zero, List.getElem_cons_succ]
  refine any_one (i := 1) (by kernel_rfl) rfl (fun K_ hQ => ?_)
  refine step_callw (by kernel_rfl) 38 #[.slice (some ⟨h5, 0, none⟩) 16 16] (by kernel_rfl) ((number_ok R h5 0 16 hRl (unhide hRb) (by omega) (by omega) _ (kc_at (hB.get 1 (x := ⟨h5, kc R, 41⟩) rfl))).mono ?_)
  rintro r x1 ⟨y0, y1, y2, y3, y4, rfl, hy0, hy1, hy2, hy3, hy4, hyv, hgr⟩
  refine ⟨_, rfl, ?_⟩
  replace hB := hB.more hgr
  clear hgr
  refine hQ.out _ _ trivial (fun _ => ?_)
  clear hQ K_
  simp only [Act.put, List.setIfInBounds_toArray, List.set_cons_zero, List.set_cons_succ, List.getElem_toArray, List.getElem_cons_zero, List.getElem_cons_succ]
  refine any_one (i := 3) (by kernel_rfl) rfl (fun K_ hQ => ?_)
  refine step_callw (by kernel_rfl) 38 #[.slice (some ⟨w.heap.size, 16, none⟩) 16 16] (by kernel_rfl) ((number_ok (K.drop 16) (w.heap.size) 16 16 hKt ((unhide hKb).drop 16) (by omega) (by omega) _ ((kc_at (hB.get 0 (x := ⟨w.heap.size, kc K, 23⟩) rfl)).drop 16)).mono ?_)
  rintro r x2 ⟨z0, z1, z2, z3, z4, rfl, hz0, hz1, hz2, hz3, hz4, hzv, hgr⟩
  refine ⟨_, rfl, ?_⟩
  replace hB := hB.more hgr
  clear hgr
  refine hQ.out _ _ trivial (fun _ => ?_)
  clear hQ K_
  simp only [Act.put, List.setIfInBounds_toArray, List.set_cons_zero, List.set_cons_succ, List.getElem_toArray, List.getElem_cons_zero, List.getElem_cons_succ]
  refine any_take (i := 4) (v := (.agg (cd ZT 0 ⟨0, 0, 0, 0, 0⟩ ⟨y0, y1, y2, y3, y4⟩ ⟨z0, z1, z2, z3, z4⟩))) #[true, true, true, true, false, false, false] rfl (by kernel_rfl) (by kernel_rfl) (by kernel_rfl) (by kernel_rfl) (fun _ _ _ h => h) (.inl ⟨by kernel_rfl, fun x_ hu => by kernel_rfl⟩) trivial ?_
  simp only [Act.put, List.setIfInBounds_toArray, List.set_cons_zero, List.set_cons_succ, List.getElem_toArray, List.getElem_cons_zero, List.getElem_cons_succ]
  refine any_one (i := 5) (by kernel_rfl) rfl (fun K_ hQ => ?_)
  refine step_val (.pointer (some ⟨x2.heap.size, 0, none⟩)) (x2.alloc (.cells (cd ZT 0 ⟨0, 0, 0, 0, 0⟩ ⟨y0, y1, y2, y3, y4⟩ ⟨z0, z1, z2, z3, z4⟩) 71 (0, 0))) (by kernel_rfl) (by kernel_rfl) ?_
  replace hB := hB.new (cd ZT 0 ⟨0, 0, 0, 0, 0⟩ ⟨y0, y1, y2, y3, y4⟩ ⟨z0, z1, z2, z3, z4⟩) 71
  simp only [List.cons_append, List.nil_append] at hB
  generalize World.alloc _ _ = x3 at *
  generalize x2.heap.size = h6 at *
  refine hQ.out _ _ trivial (fun _ => ?_)
  clear hQ K_
  simp only [Act.put, List.setIfInBounds_toArray, List.set_cons_zero, List.set_cons_succ, List.getElem_toArray, List.getElem_cons_zero, List.getElem_cons_succ]
  refine any_one (i := 6) (by kernel_rfl) rfl (fun K_ hQ => ?_)
  replace hQ := hide hQ
  go_simp
  refine (unhide hQ).out _ _ trivial (fun _ => ?_)
  clear hQ K_
  refine any_done (by kernel_rfl) ?_
  have hW : Hid (Newd K w (.returned (.pointer (some ⟨h6, 0, none⟩))) x3) := by
    refine ⟨h6, rfl, hB.own 2 (x := ⟨h6, cd ZT 0 ⟨0, 0, 0, 0, 0⟩ ⟨y0, y1, y2, y3, y4⟩ ⟨z0, z1, z2, z3, z4⟩, 71⟩) rfl, cd_new K h6 _ _ _ (hB.get 2 (x := ⟨h6, cd ZT 0 ⟨0, 0, 0, 0, 0⟩ ⟨y0, y1, y2, y3, y4⟩ ⟨z0, z1, z2, z3, z4⟩, 71⟩) rfl) ⟨hy0, hy1, hy2, hy3, ?_⟩ (hyv.trans (unhide hRv)) ⟨hz0, hz1, hz2, hz3, ?_⟩ (hzv.trans (unhide hKv)), hB.gr⟩
    · show 0 ≤ y4 ∧ y4 < 67108864
      omega
    · show 0 ≤ z4 ∧ z4 < 67108864
      omega
  clear hB hy0 hy1 hy2 hy3 hy4 hyv hz0 hz1 hz2 hz3 hz4 hzv
  go_wp2_with fail
  rw [unhide hT]
  exact unhide hW
end Go.Proofs.Ytdekjbdkpchbjaa
