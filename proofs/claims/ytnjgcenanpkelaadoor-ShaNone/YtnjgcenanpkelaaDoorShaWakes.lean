/-
  wakes answers true.
-/
import Derived.Test.YtnjgcenanpkelaaDoorShaSum2
import Derived.ChangeKeysEq
namespace Go.Proofs.YtnjgcenanpkelaaDoor
open Go.RowKit
set_option maxRecDepth 100000
set_option linter.unusedSimpArgs false

theorem Tryd.cells5' : Tryd.prog.cellsOf 5 = 1 := by kernel_rfl
theorem Tryd.info5' : (Tryd.prog.info? 5).map (fun i => (i.zero, i.size, i.bytes)) = some (some (.int .u8 0), 1, 1) := by kernel_rfl
theorem Tryd.plain5' : Tryd.prog.plainKey 5 = true := by kernel_rfl

theorem eq_items (k l : List Int) (hkl : k.length = l.length) (d : Nat) (is : List Nat) (h : ∀ i ∈ is, i < l.length) (w : World) : (Op.eqItems (d + 1) 5 1 (kc k) (kc l) is).run Tryd.prog w = .ok (is.all fun i => k.getD i 0 == l.getD i 0) w := by
  induction is with
  | nil => simp [Op.eqItems]
  | cons i is ih =>
    have hi : i < l.length := h i (by simp)
    have hp : ∀ m : List Int, i < m.length → (part 5 (kc m) (i * 1)).run Tryd.prog w = .ok (.int .u8 (m.getD i 0)) w := by
      intro m hm
      refine run_part_plain w Tryd.plain5' ?_
      simp [kc, List.getD, List.getElem?_eq_getElem hm]
    have he := run_equalIn_int (P := Tryd.prog) w d 5 .u8 .u8 (k.getD i 0) (l.getD i 0) Tryd.underlying5
    simp only [Op.eqItems, Sem.run_bind, hp k (by omega), hp l hi, he, Result.andThen_ok]
    have ih := ih (fun j hj => h j (List.mem_cons_of_mem _ hj))
    simp
    by_cases hc : k[i]?.getD 0 = l[i]?.getD 0
    · rw [if_pos hc]; simpa [hc] using ih
    · rw [if_neg hc]; simp [hc]

theorem key_eq (k l : List Int) (hk : k.length = 32) (hl : l.length = 32) (w : World) : Sem.run Tryd.prog (Op.equalIn 10000 26 (.agg (kc k)) (.agg (kc l))) w = .ok (decide (k = l)) w := by
  obtain ⟨i0, hi0, _⟩ := info_parts Tryd.info5'
  rw [run_equalIn_array (P := Tryd.prog) w 9999 (kc k) (kc l) Tryd.underlying26 hi0, Tryd.cells5']
  rw [eq_items k l (by omega) 9998 _ (by intro i hi; simp at hi; omega) w]
  congr 1
  rw [Bool.eq_iff_iff]
  simp only [List.all_eq_true, List.mem_range, beq_iff_eq, decide_eq_true_eq]
  constructor
  · intro h
    apply List.ext_getElem (by omega)
    intro i h1 h2
    have := h i (by omega)
    simpa [List.getD, List.getElem?_eq_getElem h1, List.getElem?_eq_getElem h2] using this
  · rintro rfl i _
    rfl

theorem key_refl (k : List Int) (hk : k.length = 32) (w : World) : Sem.run Tryd.prog (Op.equalIn 10000 26 (.agg (kc k)) (.agg (kc k))) w = .ok true w := by
  rw [key_eq k k hk hk w]; simp
theorem abc0 : (sumL [97, 98, 99]).getD 0 0 = 186 := by decide +kernel
theorem abc31 : (sumL [97, 98, 99]).getD 31 0 = 173 := by decide +kernel
theorem abc_isB : IsB [97, 98, 99] := by
  intro x hx
  simp only [List.mem_cons, List.not_mem_nil, or_false] at hx
  omega
theorem abc_at {w : World} {p : Nat} {t : TypeId} {z : Nat × Nat} (h : w.heap[p]? = some (.cells #[.int .u8 97, .int .u8 98, .int .u8 99] t z)) : At w p 0 [97, 98, 99] := by
  intro j hj
  rw [Nat.zero_add]
  exact cell_of h (kc_get [97, 98, 99] j hj)
theorem conv_abc (w : World) : (convert 22 22 (.slice (some ⟨w.heap.size, 0, none⟩) 3 3)).run Tryd.prog (w.alloc (.cells #[.int .u8 97, .int .u8 98, .int .u8 99] 5)) = .ok (.slice (some ⟨w.heap.size, 0, none⟩) 3 3) (w.alloc (.cells #[.int .u8 97, .int .u8 98, .int .u8 99] 5 (3, 4))) := by
  have hs : (w.alloc (.cells #[.int .u8 97, .int .u8 98, .int .u8 99] 5)).shape? w.heap.size = some (5, 3) := by
    unfold World.shape?
    rw [blk_new]
    rfl
  have hf : (w.alloc (.cells #[.int .u8 97, .int .u8 98, .int .u8 99] 5)).freeze ⟨w.heap.size, 3, none⟩ 1 = w.alloc (.cells #[.int .u8 97, .int .u8 98, .int .u8 99] 5 (3, 4)) := by
    unfold World.freeze World.alloc
    simp only [Nat.one_ne_zero, if_false]
    congr 1
    apply Array.ext
    · simp
    · intro i h1 h2
      simp only [Array.getElem_modify, Array.getElem_push]
      split
      · rename_i e
        subst e
        simp
      · have h3 : i < w.heap.size := by simp at h1; omega
        simp [h3]
  simp [convert, run_underlying Tryd.underlying22, run_underlying Tryd.underlying5, markStringish, shape, hs, hf, Sem.run, go_sem]
def Woke (w : World) (r : Ending) (w' : World) : Prop := r = .returned (.bool true) ∧ Gr w w'

set_option maxHeartbeats 2000000 in
theorem wakes_ok (w : World) (hF : Fst w) : Calls Tryd.prog 9 #[] w (Woke w) := by
  obtain ⟨T, hT⟩ : ∃ T, T = Woke w := ⟨_, rfl⟩
  rw [← hT]
  replace hT := hide hT
  replace hF := hide hF
  go_enter Tryd.func9, Tryd.ntmps9
  go_upto_region 1 with fail
  refine wp_region_lit ?_
  have hcv := conv_abc w
  iterate 2 (refine wpList_step fun K hK => ?_; replace hK := hide hK; go_simp; refine unhide hK _ _ ?_; clear hK K)
  clear hcv
  have hg1 := (Gr.refl w).alloc (.cells #[.int .u8 97, .int .u8 98, .int .u8 99] 5 (3, 4))
  have hA := abc_at (blk_new w (.cells #[.int .u8 97, .int .u8 98, .int .u8 99] 5 (3, 4)))
  generalize w.heap.size = p1 at *
  generalize World.alloc _ _ = u1 at *
  replace hF := (unhide hF).gr hg1
  refine list_call 11 #[.slice (some ⟨p1, 0, none⟩) 3 3] (by kernel_rfl) (by kernel_rfl) ((sum_ok [97, 98, 99] abc_isB 3 rfl (by omega) (some ⟨p1, 0, none⟩) 3 (by omega) (by omega) _ hF (.inr ⟨p1, 0, rfl, hA⟩)).mono ?_)
  rintro r u2 ⟨rfl, hg⟩
  refine ⟨_, rfl, ?_⟩
  simp only [Act.put, List.setIfInBounds_toArray, List.set_cons_zero, List.set_cons_succ, List.getElem_toArray, List.getElem_cons_zero, List.getElem_cons_succ]
  have hG := hg1.trans hg
  replace hF := hF.gr hg
  clear hg hg1 hA
  have k0 := abc0
  have k31 := abc31
  have hkk : (sumL [97, 98, 99]).length = 32 := sumL_len _
  obtain ⟨kk, hkk0⟩ : ∃ kk, kk = sumL [97, 98, 99] := ⟨_, rfl⟩
  rw [← hkk0] at k0 k31 hkk
  rw [← hkk0]
  replace hkk0 := hide hkk0
  replace hF := hide hF
  replace hG := hide hG
  iterate 1 (refine wpList_step fun K hK => ?_; replace hK := hide hK; go_simp; refine unhide hK _ _ ?_; clear hK K)
  have hL := (Bl.nil u2).new #[.int .u8 0, .int .u8 0, .int .u8 0, .int .u8 0, .int .u8 0, .int .u8 0, .int .u8 0, .int .u8 0, .int .u8 0, .int .u8 0, .int .u8 0, .int .u8 0, .int .u8 0, .int .u8 0, .int .u8 0, .int .u8 0, .int .u8 0, .int .u8 0, .int .u8 0, .int .u8 0, .int .u8 0, .int .u8 0, .int .u8 0, .int .u8 0, .int .u8 0, .int .u8 0, .int .u8 0, .int .u8 0, .int .u8 0, .int .u8 0, .int .u8 0, .int .u8 0] 26
  simp only [List.nil_append] at hL
  generalize u2.heap.size = gk at *
  generalize World.alloc _ _ = u3 at *
  replace hL : Bl u2 [⟨gk, kc Z32, 26⟩] u3 := hL
  refine list_store 26 (.tmp 1) (.tmp 5) gk (kc kk) 26 (kc Z32) (by kernel_rfl) rfl (by kernel_rfl) (by kernel_rfl) (hL.get 0 (x := ⟨gk, kc Z32, 26⟩) rfl) (by rw [Tryd.infoKey, kc_size, hkk]) ((show (kc Z32).size = 32 from rfl).trans ((kc_size _).trans hkk).symm) (kc_one _) ?_
  replace hL := hL.set 0 (x := ⟨gk, kc Z32, 26⟩) rfl (kc kk)
  simp only [List.set_cons_zero, List.set_cons_succ] at hL
  generalize World.setRow _ _ _ = u4 at *
  simp only [Act.put, List.setIfInBounds_toArray, List.set_cons_zero, List.set_cons_succ, List.getElem_toArray, List.getElem_cons_zero, List.getElem_cons_succ]
  refine wpList_nil ?_
  replace hF := (unhide hF).gr hL.gr
  replace hL := hide hL
  replace hF := hide hF
  go_upto_region 2 with fail
  refine wp_region_lit ?_
  refine list_call 14 #[] (by kernel_rfl) (by kernel_rfl) ((new_ok _ (unhide hF)).mono ?_)
  rintro r u5 ⟨g, rfl, hg0, hH, hg⟩
  refine ⟨_, rfl, ?_⟩
  simp only [Act.put, List.setIfInBounds_toArray, List.set_cons_zero, List.set_cons_succ, List.getElem_toArray, List.getElem_cons_zero, List.getElem_cons_succ]
  have hgk : gk ≠ g := by have := lt_of_block ((unhide hL).get 0 (x := ⟨gk, kc kk, 26⟩) rfl); dsimp only at this; omega
  have hgu : u2.heap.size ≤ g := Nat.le_trans (unhide hL).gr.size hg0
  replace hL := hide ((unhide hL).more hg)
  replace hH := hide hH
  clear hg hF
  iterate 1 (refine wpList_step fun K hK => ?_; replace hK := hide hK; go_simp; refine unhide hK _ _ ?_; clear hK K)
  refine wpList_nil ?_
  go_upto_region 3 with fail
  refine wp_region_lit ?_
  have hcv := conv_abc u5
  iterate 6 (refine wpList_step fun K hK => ?_; replace hK := hide hK; go_simp; refine unhide hK _ _ ?_; clear hK K)
  clear hcv
  have hg1 := (Gr.refl u5).alloc (.cells #[.int .u8 97, .int .u8 98, .int .u8 99] 5 (3, 4))
  have hA := abc_at (blk_new u5 (.cells #[.int .u8 97, .int .u8 98, .int .u8 99] 5 (3, 4)))
  have hpg : u5.heap.size ≠ g := by obtain ⟨l, _, _, h3, _⟩ := unhide hH; have := lt_of_block h3; omega
  generalize u5.heap.size = p2 at *
  generalize World.alloc _ _ = u6 at *
  replace hL := (unhide hL).more hg1
  replace hH := (unhide hH).gr hg1
  refine list_call 15 #[.pointer (some ⟨g, 0, none⟩), .slice (some ⟨p2, 0, none⟩) 3 3] (by kernel_rfl) (by kernel_rfl) ((write_ok g [] [97, 98, 99] abc_isB (by decide) (some ⟨p2, 0, none⟩) 3 3 rfl (by omega) (by omega) _ hH (.inr ⟨p2, 0, rfl, hA, hpg⟩)).mono ?_)
  rintro r u7 ⟨rfl, hE2, hbt⟩
  refine ⟨_, rfl, ?_⟩
  simp only [Act.put, List.setIfInBounds_toArray, List.set_cons_zero, List.set_cons_succ, List.getElem_toArray, List.getElem_cons_zero, List.getElem_cons_succ]
  rw [List.nil_append] at hE2
  have hL3 : Bl u2 [⟨gk, kc kk, 26⟩] u7 := ⟨hbt.gr hL.gr hgu, (fun x hx => by
    have hx2 : x = ⟨gk, kc kk, 26⟩ := by simpa using hx
    subst hx2
    exact ⟨hbt.blk (hL.get 0 (x := ⟨gk, kc kk, 26⟩) rfl) hgk, hL.own 0 (x := ⟨gk, kc kk, 26⟩) rfl⟩), List.pairwise_singleton _ _⟩
  clear hL hH hbt hA hg1
  have hL := hide hL3
  have hH := hide hE2
  clear hL3 hE2
  iterate 2 (refine wpList_step fun K hK => ?_; replace hK := hide hK; go_simp; refine unhide hK _ _ ?_; clear hK K)
  refine wpList_nil ?_
  go_upto_region 5 with fail
  replace hL := (unhide hL).drew
  replace hH := (unhide hH).gr (Gr.refl _).drew
  refine any_start (S := fun v => v.heap[gk]? = some (.cells (kc kk) 26 (0, 0))) (by kernel_rfl) ?_
  have hS := hL.get 0 (x := ⟨gk, kc kk, 26⟩) rfl
  generalize World.drew _ = x0 at *
  simp only [List.size_toArray, List.length_cons, List.length_nil, Array.replicate, List.replicate]
  refine any_take (i := 0) (v := (.pointer (some ⟨gk, 0, none⟩))) #[false, false, false, false, false, false, false, false, false, false, false, false, false, false, false, false, false, false, false, false] rfl (by kernel_rfl) (by kernel_rfl) (by kernel_rfl) (by kernel_rfl) (fun _ _ _ h => h) (.inl ⟨by kernel_rfl, fun x_ hu => by kernel_rfl⟩) hS ?_
  simp only [Act.put, List.setIfInBounds_toArray, List.set_cons_zero, List.set_cons_succ, List.getElem_toArray, List.getElem_cons_zero, List.getElem_cons_succ]
  refine any_take (i := 1) (v := (.int .u8 186)) #[true, false, false, false, false, false, false, false, false, false, false, false, false, false, false, false, false, false, false, false] rfl (by kernel_rfl) (by kernel_rfl) (by kernel_rfl) (by kernel_rfl) (fun _ _ _ h => h) (.inl ⟨by kernel_rfl, fun x_ hu => by have c := kc_cell hu 0 (by omega); rw [k0] at c; go_simp⟩) hS ?_
  simp only [Act.put, List.setIfInBounds_toArray, List.set_cons_zero, List.set_cons_succ, List.getElem_toArray, List.getElem_cons_zero, List.getElem_cons_succ]
  refine any_take (i := 2) (v := (.bool true)) #[true, true, false, false, false, false, false, false, false, false, false, false, false, false, false, false, false, false, false, false] rfl (by kernel_rfl) (by kernel_rfl) (by kernel_rfl) (by kernel_rfl) (fun _ _ _ h => h) (.inl ⟨by kernel_rfl, fun x_ hu => by kernel_rfl⟩) hS ?_
  simp only [Act.put, List.setIfInBounds_toArray, List.set_cons_zero, List.set_cons_succ, List.getElem_toArray, List.getElem_cons_zero, List.getElem_cons_succ]
  refine any_take (i := 3) (v := (.bool true)) #[true, true, true, false, false, false, false, false, false, false, false, false, false, false, false, false, false, false, false, false] rfl (by kernel_rfl) (by kernel_rfl) (by kernel_rfl) (by kernel_rfl) (fun _ _ _ h => h) (.inl ⟨by kernel_rfl, fun x_ hu => by kernel_rfl⟩) hS ?_
  simp only [Act.put, List.setIfInBounds_toArray, List.set_cons_zero, List.set_cons_succ, List.getElem_toArray, List.getElem_cons_zero, List.getElem_cons_succ]
  refine any_take (i := 4) (v := (.pointer (some ⟨gk, 31, none⟩))) #[true, true, true, true, false, false, false, false, false, false, false, false, false, false, false, false, false, false, false, false] rfl (by kernel_rfl) (by kernel_rfl) (by kernel_rfl) (by kernel_rfl) (fun _ _ _ h => h) (.inl ⟨by kernel_rfl, fun x_ hu => by kernel_rfl⟩) hS ?_
  simp only [Act.put, List.setIfInBounds_toArray, List.set_cons_zero, List.set_cons_succ, List.getElem_toArray, List.getElem_cons_zero, List.getElem_cons_succ]
  refine any_take (i := 5) (v := (.int .u8 173)) #[true, true, true, true, true, false, false, false, false, false, false, false, false, false, false, false, false, false, false, false] rfl (by kernel_rfl) (by kernel_rfl) (by kernel_rfl) (by kernel_rfl) (fun _ _ _ h => h) (.inl ⟨by kernel_rfl, fun x_ hu => by have c := kc_cell hu 31 (by omega); rw [k31] at c; go_simp⟩) hS ?_
  simp only [Act.put, List.setIfInBounds_toArray, List.set_cons_zero, List.set_cons_succ, List.getElem_toArray, List.getElem_cons_zero, List.getElem_cons_succ]
  refine any_take (i := 6) (v := (.bool true)) #[true, true, true, true, true, true, false, false, false, false, false, false, false, false, false, false, false, false, false, false] rfl (by kernel_rfl) (by kernel_rfl) (by kernel_rfl) (by kernel_rfl) (fun _ _ _ h => h) (.inl ⟨by kernel_rfl, fun x_ hu => by kernel_rfl⟩) hS ?_
  simp only [Act.put, List.setIfInBounds_toArray, List.set_cons_zero, List.set_cons_succ, List.getElem_toArray, List.getElem_cons_zero, List.getElem_cons_succ]
  refine any_take (i := 7) (v := (.bool true)) #[true, true, true, true, true, true, true, false, false, false, false, false, false, false, false, false, false, false, false, false] rfl (by kernel_rfl) (by kernel_rfl) (by kernel_rfl) (by kernel_rfl) (fun _ _ _ h => h) (.inl ⟨by kernel_rfl, fun x_ hu => by kernel_rfl⟩) hS ?_
  simp only [Act.put, List.setIfInBounds_toArray, List.set_cons_zero, List.set_cons_succ, List.getElem_toArray, List.getElem_cons_zero, List.getElem_cons_succ]
  refine any_take (i := 8) (v := (.bool true)) #[true, true, true, true, true, true, true, true, false, false, false, false, false, false, false, false, false, false, false, false] rfl (by kernel_rfl) (by kernel_rfl) (by kernel_rfl) (by kernel_rfl) (fun _ _ _ h => h) (.inl ⟨by kernel_rfl, fun x_ hu => by kernel_rfl⟩) hS ?_
  simp only [Act.put, List.setIfInBounds_toArray, List.set_cons_zero, List.set_cons_succ, List.getElem_toArray, List.getElem_cons_zero, List.getElem_cons_succ]
  refine any_take (i := 9) (v := (.pointer (some ⟨g, 0, none⟩))) #[true, true, true, true, true, true, true, true, true, false, false, false, false, false, false, false, false, false, false, false] rfl (by kernel_rfl) (by kernel_rfl) (by kernel_rfl) (by kernel_rfl) (fun _ _ _ h => h) (.inl ⟨by kernel_rfl, fun x_ hu => by kernel_rfl⟩) hS ?_
  simp only [Act.put, List.setIfInBounds_toArray, List.set_cons_zero, List.set_cons_succ, List.getElem_toArray, List.getElem_cons_zero, List.getElem_cons_succ]
  refine any_take (i := 11) (v := (.agg (kc kk))) #[true, true, true, true, true, true, true, true, true, true, false, false, false, false, false, false, false, false, false, false] rfl (by kernel_rfl) (by kernel_rfl) (by kernel_rfl) (by kernel_rfl) (fun _ _ _ h => h) (.inl ⟨by kernel_rfl, fun x_ hu => exec_arr x_ 26 (.tmp 1) rfl gk (by kernel_rfl) (kc kk) 26 _ hu Tryd.underlying26 rfl (by rw [Tryd.infoKey, kc_size, hkk])⟩) hS ?_
  simp only [Act.put, List.setIfInBounds_toArray, List.set_cons_zero, List.set_cons_succ, List.getElem_toArray, List.getElem_cons_zero, List.getElem_cons_succ]
  refine any_one (i := 10) (by kernel_rfl) rfl (fun K hK => ?_)
  refine step_callw (by kernel_rfl) 17 #[.pointer (some ⟨g, 0, none⟩)] (by kernel_rfl) ((hsum_ok g [97, 98, 99] (by decide) _ hH).mono ?_)
  rintro r x10 ⟨rfl, hgr⟩
  refine ⟨_, rfl, ?_⟩
  replace hL := hL.more hgr
  replace hH := hH.gr hgr
  clear hgr hS
  have hS := hL.get 0 (x := ⟨gk, kc kk, 26⟩) rfl
  refine hK.out _ _ hS (fun _ => ?_)
  clear hK K
  rw [← unhide hkk0]
  simp only [Act.put, List.setIfInBounds_toArray, List.set_cons_zero, List.set_cons_succ, List.getElem_toArray, List.getElem_cons_zero, List.getElem_cons_succ]
  refine any_take (i := 12) (v := (.bool true)) #[true, true, true, true, true, true, true, true, true, true, true, true, false, false, false, false, false, false, false, false] rfl (by kernel_rfl) (by kernel_rfl) (by kernel_rfl) (by kernel_rfl) (fun _ _ _ h => h) (.inl ⟨by kernel_rfl, fun x_ hu => by have e := key_refl kk hkk; go_simp⟩) hS ?_
  simp only [Act.put, List.setIfInBounds_toArray, List.set_cons_zero, List.set_cons_succ, List.getElem_toArray, List.getElem_cons_zero, List.getElem_cons_succ]
  refine any_take (i := 13) (v := (.bool true)) #[true, true, true, true, true, true, true, true, true, true, true, true, true, false, false, false, false, false, false, false] rfl (by kernel_rfl) (by kernel_rfl) (by kernel_rfl) (by kernel_rfl) (fun _ _ _ h => h) (.inl ⟨by kernel_rfl, fun x_ hu => by kernel_rfl⟩) hS ?_
  simp only [Act.put, List.setIfInBounds_toArray, List.set_cons_zero, List.set_cons_succ, List.getElem_toArray, List.getElem_cons_zero, List.getElem_cons_succ]
  refine any_take (i := 14) (v := (.bool true)) #[true, true, true, true, true, true, true, true, true, true, true, true, true, true, false, false, false, false, false, false] rfl (by kernel_rfl) (by kernel_rfl) (by kernel_rfl) (by kernel_rfl) (fun _ _ _ h => h) (.inl ⟨by kernel_rfl, fun x_ hu => by kernel_rfl⟩) hS ?_
  simp only [Act.put, List.setIfInBounds_toArray, List.set_cons_zero, List.set_cons_succ, List.getElem_toArray, List.getElem_cons_zero, List.getElem_cons_succ]
  refine any_take (i := 15) (v := (.pointer (some ⟨g, 0, none⟩))) #[true, true, true, true, true, true, true, true, true, true, true, true, true, true, true, false, false, false, false, false] rfl (by kernel_rfl) (by kernel_rfl) (by kernel_rfl) (by kernel_rfl) (fun _ _ _ h => h) (.inl ⟨by kernel_rfl, fun x_ hu => by kernel_rfl⟩) hS ?_
  simp only [Act.put, List.setIfInBounds_toArray, List.set_cons_zero, List.set_cons_succ, List.getElem_toArray, List.getElem_cons_zero, List.getElem_cons_succ]
  refine any_one (i := 16) (by kernel_rfl) rfl (fun K hK => ?_)
  refine step_callw (by kernel_rfl) 16 #[.pointer (some ⟨g, 0, none⟩)] (by kernel_rfl) ((len_ok g [97, 98, 99] _ hH).mono ?_)
  rintro r x16 ⟨rfl, rfl⟩
  refine ⟨_, rfl, ?_⟩
  refine hK.out _ _ hS (fun _ => ?_)
  clear hK K
  simp only [Act.put, List.setIfInBounds_toArray, List.set_cons_zero, List.set_cons_succ, List.getElem_toArray, List.getElem_cons_zero, List.getElem_cons_succ]
  refine any_take (i := 17) (v := (.bool true)) #[true, true, true, true, true, true, true, true, true, true, true, true, true, true, true, true, true, false, false, false] rfl (by kernel_rfl) (by kernel_rfl) (by kernel_rfl) (by kernel_rfl) (fun _ _ _ h => h) (.inl ⟨by kernel_rfl, fun x_ hu => by kernel_rfl⟩) hS ?_
  simp only [Act.put, List.setIfInBounds_toArray, List.set_cons_zero, List.set_cons_succ, List.getElem_toArray, List.getElem_cons_zero, List.getElem_cons_succ]
  refine any_take (i := 18) (v := (.bool true)) #[true, true, true, true, true, true, true, true, true, true, true, true, true, true, true, true, true, true, false, false] rfl (by kernel_rfl) (by kernel_rfl) (by kernel_rfl) (by kernel_rfl) (fun _ _ _ h => h) (.inl ⟨by kernel_rfl, fun x_ hu => by kernel_rfl⟩) hS ?_
  simp only [Act.put, List.setIfInBounds_toArray, List.set_cons_zero, List.set_cons_succ, List.getElem_toArray, List.getElem_cons_zero, List.getElem_cons_succ]
  refine any_one (i := 19) (by kernel_rfl) rfl (fun K hK => ?_)
  replace hK := hide hK
  go_simp
  refine (unhide hK).out _ _ hS (fun _ => ?_)
  clear hK K
  refine any_done (by kernel_rfl) ?_
  have hW : Hid (Woke w (.returned (.bool true)) x16) := ⟨rfl, (unhide hG).trans hL.gr⟩
  clear hS hL hH
  go_wp2_with fail
  rw [unhide hT]
  exact unhide hW
end Go.Proofs.YtnjgcenanpkelaaDoor
