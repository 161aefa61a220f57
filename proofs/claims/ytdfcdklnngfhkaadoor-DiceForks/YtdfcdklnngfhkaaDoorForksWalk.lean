/-
  A fork of dice are dice of the seed that is said: the walk.
-/
import Derived.Test.YtdfcdklnngfhkaaDoorDcD
namespace Go.Proofs.YtdfcdklnngfhkaaDoor
open Go.RowKit
set_option maxRecDepth 100000
set_option linter.unusedSimpArgs false
set_option linter.unusedVariables false
theorem Bl.add {w v : World} {L : List Blk} (h : Bl w L v) (x : Blk) (hx : v.heap[x.g]? = some x.obj) (hw : w.heap.size ≤ x.g) (hn : ∀ y ∈ L, y.g ≠ x.g) : Bl w (L ++ [x]) v := by
  refine ⟨h.gr, fun y hy => ?_, List.pairwise_append.2 ⟨h.ne, List.pairwise_singleton _ _, fun y hy z hz => ?_⟩⟩
  · rcases List.mem_append.1 hy with hy | hy
    · exact h.at_ y hy
    · rw [List.mem_singleton] at hy
      subst hy
      exact ⟨hx, hw⟩
  · rw [List.mem_singleton] at hz
    subst hz
    exact hn y hy
set_option maxHeartbeats 4000000 in
theorem forks_ok (B : List Int) (a : Option Addr) (len cap : Nat) (n0 : Int) (hn0 : -9223372036854775808 ≤ n0 ∧ n0 < 9223372036854775808) (s : ByteArray) (hs0 : s.size < 9223372036854775808) (w : World) (hF : Fst w) (lb : Lb w a len cap B) : Calls Tryd.prog 4 #[.slice a len cap, .int .i64 n0, .string s] w (Woke w) := by
  obtain ⟨T, hT⟩ : ∃ T, T = Woke w := ⟨_, rfl⟩
  rw [← hT]
  replace hT := hide hT
  replace lb := hide lb
  go_enter Tryd.func4, Tryd.ntmps4
  go_upto_region 1 with fail
  refine wp_region_lit ?_
  refine list_call 9 #[] (by kernel_rfl) (by kernel_rfl) ((wakes_ok _ hF).mono ?_)
  rintro r v ⟨rfl, hG⟩
  refine ⟨_, rfl, ?_⟩
  simp only [Act.put, List.setIfInBounds_toArray, List.set_cons_zero, List.set_cons_succ, List.getElem_toArray, List.getElem_cons_zero, List.getElem_cons_succ]
  refine list_val (.bool false) (by kernel_rfl) (by kernel_rfl) ?_
  simp only [Act.put, List.setIfInBounds_toArray, List.set_cons_zero, List.set_cons_succ, List.getElem_toArray, List.getElem_cons_zero, List.getElem_cons_succ]
  refine wpList_nil ?_
  replace hG := hide hG
  by_cases hlen : 4096 < len
  · have lI : (4096 : Int) < (len : Int) := by omega
    go_wp2_with fail
    rw [unhide hT]
    exact ⟨rfl, unhide hG⟩
  have lI : ¬ (4096 : Int) < (len : Int) := by omega
  by_cases hsl : 4096 < s.size
  · have sI : (4096 : Int) < (s.size : Int) := by omega
    go_wp2_with fail
    rw [unhide hT]
    exact ⟨rfl, unhide hG⟩
  have sI : ¬ (4096 : Int) < (s.size : Int) := by omega
  obtain ⟨e, he⟩ : ∃ e : Nat, (e : Int) = if n0 < 0 then 0 else n0 := ⟨(if n0 < 0 then 0 else n0).toNat, by split <;> omega⟩
  obtain ⟨n, hn⟩ : ∃ n, n = e % 200 := ⟨_, rfl⟩
  have e1 : Int.tmod (e : Int) 200 = (n : Int) := by rw [Int.tmod_eq_emod_of_nonneg (by omega)]; omega
  have hn3 : n ≤ 200 := by omega
  replace hn := hide hn; replace he := hide he
  go_upto_region 5 with fail
  refine wp_region_lit ?_
  refine list_val (.int .i64 n0) (by kernel_rfl) (by kernel_rfl) ?_
  simp only [Act.put, List.setIfInBounds_toArray, List.set_cons_zero, List.set_cons_succ, List.getElem_toArray, List.getElem_cons_zero, List.getElem_cons_succ]
  refine list_val (.int .i64 e) (by kernel_rfl) (by rw [unhide he]; go_simp) ?_
  simp only [Act.put, List.setIfInBounds_toArray, List.set_cons_zero, List.set_cons_succ, List.getElem_toArray, List.getElem_cons_zero, List.getElem_cons_succ]
  refine list_val (.int .i64 n) (by kernel_rfl) (by go_simp) ?_
  simp only [Act.put, List.setIfInBounds_toArray, List.set_cons_zero, List.set_cons_succ, List.getElem_toArray, List.getElem_cons_zero, List.getElem_cons_succ]
  (refine wpList_step fun K hK => ?_; replace hK := hide hK; go_simp; refine unhide hK _ _ ?_; clear hK K)
  refine wpList_nil ?_
  clear e1
  go_upto_region 6 with fail
  refine wp_region_lit ?_
  refine list_valw (.slice (some ⟨v.heap.size, 0, none⟩) 0 0) (v.alloc (.cells (kc []) 5 (0, 0))) (by kernel_rfl) (by kernel_rfl) ?_
  have ob0 : Ob v.heap.size (v.alloc (.cells (kc []) 5 (0, 0))) (.slice (some ⟨v.heap.size, 0, none⟩) 0 0) [] := ob_of (blk_new _ _) rfl (Nat.le_refl _) (by omega)
  have hGv := (Gr.refl v).alloc (.cells (kc []) 5 (0, 0))
  generalize World.alloc _ _ = v1 at *
  simp only [Act.put, List.setIfInBounds_toArray, List.set_cons_zero, List.set_cons_succ, List.getElem_toArray, List.getElem_cons_zero, List.getElem_cons_succ]
  refine list_val (.slice a len cap) (by kernel_rfl) (by kernel_rfl) ?_
  simp only [Act.put, List.setIfInBounds_toArray, List.set_cons_zero, List.set_cons_succ, List.getElem_toArray, List.getElem_cons_zero, List.getElem_cons_succ]
  refine app_bs (by kernel_rfl) (.tmp 31) (.tmp 32) rfl v.heap.size _ [] rfl ob0 a len cap B rfl (unhide lb).len ((unhide lb).gr ((unhide hG).trans hGv)).sl (by simp; omega) hGv.size ?_
  intro v2_ v2 ob2 hgr
  have hG2 := (unhide hG).trans (Ob.grown ob0 (Nat.le_refl _) hGv hgr)
  rw [List.nil_append] at ob2
  obtain ⟨a2, c2, rfl, l2⟩ := ob2.lb (unhide lb).isB
  rw [(unhide lb).len] at l2 ⊢
  clear hgr ob0 hGv ob2
  simp only [Act.put, List.setIfInBounds_toArray, List.set_cons_zero, List.set_cons_succ, List.getElem_toArray, List.getElem_cons_zero, List.getElem_cons_succ]
  refine list_call 10 #[.slice a2 len c2] (by kernel_rfl) (by kernel_rfl) ((dnew_ok B a2 len c2 (by omega) _ (hF.gr hG2) l2).mono ?_)
  rintro r v3 ⟨gd, rfl, hgd, hdd, hg3⟩
  refine ⟨_, rfl, ?_⟩
  have hgd2 := Nat.le_trans hG2.size hgd
  replace hG2 := hG2.trans hg3
  have hYl := sumL_len B
  have hYb := sumL_isB B
  obtain ⟨Y, hY0⟩ : ∃ Y, Y = sumL B := ⟨_, rfl⟩
  rw [← hY0] at hYl hYb hdd
  have hB : Bl w [⟨gd, ecl Y 0, 67⟩] v3 := (Bl.nil w).join hG2 [⟨gd, ecl Y 0, 67⟩] (by intro x hx; rw [List.mem_singleton] at hx; subst hx; exact ⟨hdd, hgd2⟩) (List.pairwise_singleton _ _)
  clear hG2 hgd hgd2 hdd hg3 l2
  simp only [Act.put, List.setIfInBounds_toArray, List.set_cons_zero, List.set_cons_succ, List.getElem_toArray, List.getElem_cons_zero, List.getElem_cons_succ]
  (refine wpList_step fun K hK => ?_; replace hK := hide hK; go_simp; refine unhide hK _ _ ?_; clear hK K)
  refine wpList_nil ?_
  replace hY0 := hide hY0; replace hYb := hide hYb; clear hG
  replace hB := hide hB
  go_upto_region 7 with fail
  replace hB := unhide hB
  refine wp_region_lit ?_
  refine list_val (.pointer (some ⟨gd, 0, none⟩)) (by kernel_rfl) (by kernel_rfl) ?_
  simp only [Act.put, List.setIfInBounds_toArray, List.set_cons_zero, List.set_cons_succ, List.getElem_toArray, List.getElem_cons_zero, List.getElem_cons_succ]
  refine list_val (.int .i64 n) (by kernel_rfl) (by kernel_rfl) ?_
  simp only [Act.put, List.setIfInBounds_toArray, List.set_cons_zero, List.set_cons_succ, List.getElem_toArray, List.getElem_cons_zero, List.getElem_cons_succ]
  refine list_call 12 #[.pointer (some ⟨gd, 0, none⟩), .int .i64 n] (by kernel_rfl) (by kernel_rfl) ((dbytes_ok Y hYl (unhide hYb) 0 n (by omega) (by omega) gd _ (hB.get 0 (x := ⟨gd, ecl Y 0, 67⟩) rfl)).mono ?_)
  rintro r v4 ⟨_, _, _, rfl, -, -, -, -, hdn, hbt⟩
  refine ⟨_, rfl, ?_⟩
  rw [Nat.zero_add] at hdn
  replace hB := hB.but hbt 0 (x := ⟨gd, ecl Y 0, 67⟩) rfl rfl hdn
  simp only [List.set_cons_zero, List.set_cons_succ] at hB
  replace hB : Bl w [⟨gd, ecl Y n, 67⟩] v4 := hB
  clear hbt hdn
  simp only [Act.put, List.setIfInBounds_toArray, List.set_cons_zero, List.set_cons_succ, List.getElem_toArray, List.getElem_cons_zero, List.getElem_cons_succ]
  refine wpList_nil ?_
  replace hB := hide hB
  go_upto_region 8 with fail
  replace hB := unhide hB
  refine wp_region_lit ?_
  refine list_val (.pointer (some ⟨gd, 0, none⟩)) (by kernel_rfl) (by kernel_rfl) ?_
  simp only [Act.put, List.setIfInBounds_toArray, List.set_cons_zero, List.set_cons_succ, List.getElem_toArray, List.getElem_cons_zero, List.getElem_cons_succ]
  refine list_val (.string s) (by kernel_rfl) (by kernel_rfl) ?_
  simp only [Act.put, List.setIfInBounds_toArray, List.set_cons_zero, List.set_cons_succ, List.getElem_toArray, List.getElem_cons_zero, List.getElem_cons_succ]
  refine list_call 22 #[.pointer (some ⟨gd, 0, none⟩), .string s] (by kernel_rfl) (by kernel_rfl) ((dfork_ok Y hYl (unhide hYb) n (by omega) s (by omega) gd _ (hF.gr hB.gr) (hB.get 0 (x := ⟨gd, ecl Y n, 67⟩) rfl)).mono ?_)
  rintro r v5 ⟨gf, rfl, hgf, hdf, hdn, hbt⟩
  refine ⟨_, rfl, ?_⟩
  have hZl := sumL_len (nxl Y n 32 ++ tb s)
  have hZb := sumL_isB (nxl Y n 32 ++ tb s)
  obtain ⟨Z, hZ0⟩ : ∃ Z, Z = sumL (nxl Y n 32 ++ tb s) := ⟨_, rfl⟩
  rw [← hZ0] at hZl hZb hdf
  have hgf2 := Nat.le_trans hB.gr.size hgf
  have hlt := lt_of_block (hB.get 0 (x := ⟨gd, ecl Y n, 67⟩) rfl)
  dsimp only at hlt
  obtain ⟨t, ht⟩ : ∃ t, t = n + 32 := ⟨_, rfl⟩
  rw [← ht] at hdn
  replace hB := hB.but hbt 0 (x := ⟨gd, ecl Y n, 67⟩) rfl rfl hdn
  simp only [List.set_cons_zero, List.set_cons_succ] at hB
  replace hB : Bl w [⟨gd, ecl Y t, 67⟩] v5 := hB
  clear hbt hdn
  replace hB := hB.add ⟨gf, ecl Z 0, 67⟩ hdf hgf2 (by intro y hy; rw [List.mem_singleton] at hy; subst hy; show gd ≠ gf; omega)
  simp only [List.cons_append, List.nil_append] at hB
  replace hB : Bl w [⟨gd, ecl Y t, 67⟩, ⟨gf, ecl Z 0, 67⟩] v5 := hB
  have ht3 : t ≤ 300 := by omega
  replace hZ0 := hide hZ0; replace hZb := hide hZb; replace ht := hide ht; clear hdf hgf hgf2 hlt
  simp only [Act.put, List.setIfInBounds_toArray, List.set_cons_zero, List.set_cons_succ, List.getElem_toArray, List.getElem_cons_zero, List.getElem_cons_succ]
  refine list_val (.tuple #[.pointer (some ⟨gf, 0, none⟩), .int .i64 0]) (by kernel_rfl) (by kernel_rfl) ?_
  simp only [Act.put, List.setIfInBounds_toArray, List.set_cons_zero, List.set_cons_succ, List.getElem_toArray, List.getElem_cons_zero, List.getElem_cons_succ]
  refine list_val (.pointer (some ⟨gf, 0, none⟩)) (by kernel_rfl) (by kernel_rfl) ?_
  simp only [Act.put, List.setIfInBounds_toArray, List.set_cons_zero, List.set_cons_succ, List.getElem_toArray, List.getElem_cons_zero, List.getElem_cons_succ]
  refine list_val (.int .i64 0) (by kernel_rfl) (by kernel_rfl) ?_
  simp only [Act.put, List.setIfInBounds_toArray, List.set_cons_zero, List.set_cons_succ, List.getElem_toArray, List.getElem_cons_zero, List.getElem_cons_succ]
  (refine wpList_step fun K hK => ?_; replace hK := hide hK; go_simp; refine unhide hK _ _ ?_; clear hK K)
  (refine wpList_step fun K hK => ?_; replace hK := hide hK; go_simp; refine unhide hK _ _ ?_; clear hK K)
  refine wpList_nil ?_
  replace hB := hide hB
  go_upto_region 9 with fail
  replace hB := unhide hB
  refine wp_region_lit ?_
  refine list_val (.slice a len cap) (by kernel_rfl) (by kernel_rfl) ?_
  simp only [Act.put, List.setIfInBounds_toArray, List.set_cons_zero, List.set_cons_succ, List.getElem_toArray, List.getElem_cons_zero, List.getElem_cons_succ]
  refine list_call 11 #[.slice a len cap] (by kernel_rfl) (by kernel_rfl) ((rnew_ok B a len cap (by omega) _ ((unhide lb).gr hB.gr)).mono ?_)
  rintro r v6 ⟨rfl, hg⟩
  refine ⟨_, rfl, ?_⟩
  rw [← unhide hY0]
  replace hB := hB.more hg
  clear hg
  simp only [Act.put, List.setIfInBounds_toArray, List.set_cons_zero, List.set_cons_succ, List.getElem_toArray, List.getElem_cons_zero, List.getElem_cons_succ]
  refine list_val (.int .i64 n) (by kernel_rfl) (by kernel_rfl) ?_
  simp only [Act.put, List.setIfInBounds_toArray, List.set_cons_zero, List.set_cons_succ, List.getElem_toArray, List.getElem_cons_zero, List.getElem_cons_succ]
  refine list_call 13 #[.agg (dcl Y 0), .int .i64 n] (by kernel_rfl) (by kernel_rfl) ((rbytes_ok Y hYl (unhide hYb) 0 n (by omega) (by omega) _).mono ?_)
  rintro r v7 ⟨gz, rfl, hgo, hbo, hg⟩
  refine ⟨_, rfl, ?_⟩
  rw [Nat.zero_add]
  replace hB := hB.more hg
  clear hg hgo hbo
  simp only [Act.put, List.setIfInBounds_toArray, List.set_cons_zero, List.set_cons_succ, List.getElem_toArray, List.getElem_cons_zero, List.getElem_cons_succ]
  refine list_val (.tuple #[.agg (dcl Y n), .slice (some ⟨gz, 0, none⟩) n n]) (by kernel_rfl) (by kernel_rfl) ?_
  simp only [Act.put, List.setIfInBounds_toArray, List.set_cons_zero, List.set_cons_succ, List.getElem_toArray, List.getElem_cons_zero, List.getElem_cons_succ]
  refine list_val (.agg (dcl Y n)) (by kernel_rfl) (by kernel_rfl) ?_
  simp only [Act.put, List.setIfInBounds_toArray, List.set_cons_zero, List.set_cons_succ, List.getElem_toArray, List.getElem_cons_zero, List.getElem_cons_succ]
  refine list_val (.slice (some ⟨gz, 0, none⟩) n n) (by kernel_rfl) (by kernel_rfl) ?_
  simp only [Act.put, List.setIfInBounds_toArray, List.set_cons_zero, List.set_cons_succ, List.getElem_toArray, List.getElem_cons_zero, List.getElem_cons_succ]
  refine list_valw (.pointer (some ⟨v7.heap.size, 0, none⟩)) (v7.alloc (.cells (dcl ZK 0) 30 (0, 0))) (by kernel_rfl) (by kernel_rfl) ?_
  replace hB := hB.new (dcl ZK 0) 30
  simp only [List.nil_append, List.cons_append] at hB
  generalize World.alloc _ _ = v8 at *
  generalize v7.heap.size = gm at *
  replace hB : Bl w [⟨gd, ecl Y t, 67⟩, ⟨gf, ecl Z 0, 67⟩, ⟨gm, dcl ZK 0, 30⟩] v8 := hB
  simp only [Act.put, List.setIfInBounds_toArray, List.set_cons_zero, List.set_cons_succ, List.getElem_toArray, List.getElem_cons_zero, List.getElem_cons_succ]
  refine list_store 30 (.tmp 11) (.tmp 49) gm (dcl Y n) 30 (dcl ZK 0) (by kernel_rfl) rfl (by kernel_rfl) (by kernel_rfl) (hB.get 2 (x := ⟨gm, dcl ZK 0, 30⟩) rfl) (by rw [Tryd.infoD, dcl_size hYl]) ((show (dcl ZK 0).size = 33 from rfl).trans (dcl_size hYl _).symm) (dcl_one _ _) ?_
  replace hB := hB.set 2 (x := ⟨gm, dcl ZK 0, 30⟩) rfl (dcl Y n)
  simp only [List.set_cons_zero, List.set_cons_succ] at hB
  generalize World.setRow _ _ _ = v9 at *
  replace hB : Bl w [⟨gd, ecl Y t, 67⟩, ⟨gf, ecl Z 0, 67⟩, ⟨gm, dcl Y n, 30⟩] v9 := hB
  simp only [Act.put, List.setIfInBounds_toArray, List.set_cons_zero, List.set_cons_succ, List.getElem_toArray, List.getElem_cons_zero, List.getElem_cons_succ]
  (refine wpList_step fun K hK => ?_; replace hK := hide hK; go_simp; refine unhide hK _ _ ?_; clear hK K)
  refine wpList_nil ?_
  replace hB := hide hB
  go_upto_region 10 with fail
  replace hB := unhide hB
  refine wp_region_lit ?_
  refine list_val (.agg (dcl Y n)) (by kernel_rfl) (exec_arr _ 30 (.tmp 11) rfl gm (by kernel_rfl) (dcl Y n) 30 _ (hB.get 2 (x := ⟨gm, dcl Y n, 30⟩) rfl) Tryd.underlying30 rfl (by rw [Tryd.infoD, dcl_size hYl])) ?_
  simp only [Act.put, List.setIfInBounds_toArray, List.set_cons_zero, List.set_cons_succ, List.getElem_toArray, List.getElem_cons_zero, List.getElem_cons_succ]
  refine list_call 13 #[.agg (dcl Y n), .int .i64 32] (by kernel_rfl) (by kernel_rfl) ((rbytes_ok Y hYl (unhide hYb) n 32 (by omega) (by omega) _).mono ?_)
  rintro r v10 ⟨go, rfl, hgo, hbo, hg⟩
  refine ⟨_, rfl, ?_⟩
  rw [← unhide ht]
  have hB3 := hB.join hg [⟨go, kc (nxl Y n 32), 5⟩] (by intro x hx; rw [List.mem_singleton] at hx; subst hx; exact ⟨hbo, hgo⟩) (List.pairwise_singleton _ _)
  simp only [List.cons_append, List.nil_append] at hB3
  replace hB : Bl w [⟨gd, ecl Y t, 67⟩, ⟨gf, ecl Z 0, 67⟩, ⟨gm, dcl Y n, 30⟩, ⟨go, kc (nxl Y n 32), 5⟩] v10 := hB3
  clear hg hgo hbo hB3
  simp only [Act.put, List.setIfInBounds_toArray, List.set_cons_zero, List.set_cons_succ, List.getElem_toArray, List.getElem_cons_zero, List.getElem_cons_succ]
  refine list_val (.tuple #[.agg (dcl Y t), .slice (some ⟨go, 0, none⟩) 32 32]) (by kernel_rfl) (by kernel_rfl) ?_
  simp only [Act.put, List.setIfInBounds_toArray, List.set_cons_zero, List.set_cons_succ, List.getElem_toArray, List.getElem_cons_zero, List.getElem_cons_succ]
  refine list_val (.agg (dcl Y t)) (by kernel_rfl) (by kernel_rfl) ?_
  simp only [Act.put, List.setIfInBounds_toArray, List.set_cons_zero, List.set_cons_succ, List.getElem_toArray, List.getElem_cons_zero, List.getElem_cons_succ]
  refine list_val (.slice (some ⟨go, 0, none⟩) 32 32) (by kernel_rfl) (by kernel_rfl) ?_
  simp only [Act.put, List.setIfInBounds_toArray, List.set_cons_zero, List.set_cons_succ, List.getElem_toArray, List.getElem_cons_zero, List.getElem_cons_succ]
  refine list_store 30 (.tmp 11) (.tmp 54) gm (dcl Y t) 30 (dcl Y n) (by kernel_rfl) rfl (by kernel_rfl) (by kernel_rfl) (hB.get 2 (x := ⟨gm, dcl Y n, 30⟩) rfl) (by rw [Tryd.infoD, dcl_size hYl]) ((dcl_size hYl _).trans (dcl_size hYl _).symm) (dcl_one _ _) ?_
  replace hB := hB.set 2 (x := ⟨gm, dcl Y n, 30⟩) rfl (dcl Y t)
  simp only [List.set_cons_zero, List.set_cons_succ] at hB
  generalize World.setRow _ _ _ = v11 at *
  replace hB : Bl w [⟨gd, ecl Y t, 67⟩, ⟨gf, ecl Z 0, 67⟩, ⟨gm, dcl Y t, 30⟩, ⟨go, kc (nxl Y n 32), 5⟩] v11 := hB
  simp only [Act.put, List.setIfInBounds_toArray, List.set_cons_zero, List.set_cons_succ, List.getElem_toArray, List.getElem_cons_zero, List.getElem_cons_succ]
  (refine wpList_step fun K hK => ?_; replace hK := hide hK; go_simp; refine unhide hK _ _ ?_; clear hK K)
  refine wpList_nil ?_
  replace hB := hide hB
  go_upto_region 11 with fail
  replace hB := unhide hB
  refine wp_region_lit ?_
  refine list_val (.slice (some ⟨go, 0, none⟩) 32 32) (by kernel_rfl) (by kernel_rfl) ?_
  simp only [Act.put, List.setIfInBounds_toArray, List.set_cons_zero, List.set_cons_succ, List.getElem_toArray, List.getElem_cons_zero, List.getElem_cons_succ]
  refine list_val (.string s) (by kernel_rfl) (by kernel_rfl) ?_
  simp only [Act.put, List.setIfInBounds_toArray, List.set_cons_zero, List.set_cons_succ, List.getElem_toArray, List.getElem_cons_zero, List.getElem_cons_succ]
  obtain ⟨cx, v12, hrun, lx, hg⟩ := conv_text v11 s (by omega)
  refine list_valw (.slice (some ⟨v11.heap.size, 0, none⟩) s.size cx) v12 (by kernel_rfl) (exec_conv (.tmp 58) rfl (.string s) _ (by kernel_rfl) hrun) ?_
  replace hB := hB.more hg
  generalize v11.heap.size = gl at *
  clear hrun hg
  simp only [Act.put, List.setIfInBounds_toArray, List.set_cons_zero, List.set_cons_succ, List.getElem_toArray, List.getElem_cons_zero, List.getElem_cons_succ]
  refine list_call 23 #[.slice (some ⟨go, 0, none⟩) 32 32, .slice (some ⟨gl, 0, none⟩) s.size cx] (by kernel_rfl) (by kernel_rfl) ((both_ok (nxl Y n 32) (tb s) _ _ 32 32 s.size cx (by omega) _ (kc_lb (hB.get 3 (x := ⟨go, kc (nxl Y n 32), 5⟩) rfl) (nxl_len _ _ _) (nxl_isB _ _ _) (by omega)) lx).mono ?_)
  rintro r v13 ⟨vb, rfl, ob, hg⟩
  refine ⟨_, rfl, ?_⟩
  replace hB := hB.more hg
  have hbl : (nxl Y n 32 ++ tb s).length = 32 + s.size := by rw [List.length_append, nxl_len, tb_len]
  obtain ⟨ab, cb, rfl, lB⟩ := ob.lb (isB_append (nxl_isB _ _ _) (tb_isB s))
  obtain ⟨nb, hnb⟩ : ∃ nb, nb = 32 + s.size := ⟨_, rfl⟩
  rw [hbl, ← hnb] at lB ⊢
  have hnb2 : nb ≤ 5000 := by omega
  replace hnb := hide hnb
  clear hg ob lx hbl
  simp only [Act.put, List.setIfInBounds_toArray, List.set_cons_zero, List.set_cons_succ, List.getElem_toArray, List.getElem_cons_zero, List.getElem_cons_succ]
  refine list_call 11 #[.slice ab nb cb] (by kernel_rfl) (by kernel_rfl) ((rnew_ok (nxl Y n 32 ++ tb s) ab nb cb (by omega) _ lB).mono ?_)
  rintro r v14 ⟨rfl, hg⟩
  refine ⟨_, rfl, ?_⟩
  rw [← unhide hZ0]
  replace hB := hB.more hg
  clear hg lB
  simp only [Act.put, List.setIfInBounds_toArray, List.set_cons_zero, List.set_cons_succ, List.getElem_toArray, List.getElem_cons_zero, List.getElem_cons_succ]
  refine list_call 13 #[.agg (dcl Z 0), .int .i64 70] (by kernel_rfl) (by kernel_rfl) ((rbytes_ok Z hZl (unhide hZb) 0 70 (by omega) (by omega) _).mono ?_)
  rintro r v15 ⟨gw, rfl, hgo, hbo, hg⟩
  refine ⟨_, rfl, ?_⟩
  rw [Nat.zero_add]
  have hB3 := hB.join hg [⟨gw, kc (nxl Z 0 70), 5⟩] (by intro x hx; rw [List.mem_singleton] at hx; subst hx; exact ⟨hbo, hgo⟩) (List.pairwise_singleton _ _)
  simp only [List.cons_append, List.nil_append] at hB3
  replace hB : Bl w [⟨gd, ecl Y t, 67⟩, ⟨gf, ecl Z 0, 67⟩, ⟨gm, dcl Y t, 30⟩, ⟨go, kc (nxl Y n 32), 5⟩, ⟨gw, kc (nxl Z 0 70), 5⟩] v15 := hB3
  clear hg hgo hbo hB3
  simp only [Act.put, List.setIfInBounds_toArray, List.set_cons_zero, List.set_cons_succ, List.getElem_toArray, List.getElem_cons_zero, List.getElem_cons_succ]
  refine list_val (.tuple #[.agg (dcl Z 70), .slice (some ⟨gw, 0, none⟩) 70 70]) (by kernel_rfl) (by kernel_rfl) ?_
  simp only [Act.put, List.setIfInBounds_toArray, List.set_cons_zero, List.set_cons_succ, List.getElem_toArray, List.getElem_cons_zero, List.getElem_cons_succ]
  refine list_val (.agg (dcl Z 70)) (by kernel_rfl) (by kernel_rfl) ?_
  simp only [Act.put, List.setIfInBounds_toArray, List.set_cons_zero, List.set_cons_succ, List.getElem_toArray, List.getElem_cons_zero, List.getElem_cons_succ]
  refine list_val (.slice (some ⟨gw, 0, none⟩) 70 70) (by kernel_rfl) (by kernel_rfl) ?_
  simp only [Act.put, List.setIfInBounds_toArray, List.set_cons_zero, List.set_cons_succ, List.getElem_toArray, List.getElem_cons_zero, List.getElem_cons_succ]
  refine list_valw (.pointer (some ⟨v15.heap.size, 0, none⟩)) (v15.alloc (.cells (dcl ZK 0) 30 (0, 0))) (by kernel_rfl) (by kernel_rfl) ?_
  replace hB := hB.new (dcl ZK 0) 30
  simp only [List.nil_append, List.cons_append] at hB
  generalize World.alloc _ _ = v16 at *
  generalize v15.heap.size = gn at *
  replace hB : Bl w [⟨gd, ecl Y t, 67⟩, ⟨gf, ecl Z 0, 67⟩, ⟨gm, dcl Y t, 30⟩, ⟨go, kc (nxl Y n 32), 5⟩, ⟨gw, kc (nxl Z 0 70), 5⟩, ⟨gn, dcl ZK 0, 30⟩] v16 := hB
  simp only [Act.put, List.setIfInBounds_toArray, List.set_cons_zero, List.set_cons_succ, List.getElem_toArray, List.getElem_cons_zero, List.getElem_cons_succ]
  refine list_store 30 (.tmp 14) (.tmp 63) gn (dcl Z 70) 30 (dcl ZK 0) (by kernel_rfl) rfl (by kernel_rfl) (by kernel_rfl) (hB.get 5 (x := ⟨gn, dcl ZK 0, 30⟩) rfl) (by rw [Tryd.infoD, dcl_size hZl]) ((show (dcl ZK 0).size = 33 from rfl).trans (dcl_size hZl _).symm) (dcl_one _ _) ?_
  replace hB := hB.set 5 (x := ⟨gn, dcl ZK 0, 30⟩) rfl (dcl Z 70)
  simp only [List.set_cons_zero, List.set_cons_succ] at hB
  generalize World.setRow _ _ _ = v17 at *
  replace hB : Bl w [⟨gd, ecl Y t, 67⟩, ⟨gf, ecl Z 0, 67⟩, ⟨gm, dcl Y t, 30⟩, ⟨go, kc (nxl Y n 32), 5⟩, ⟨gw, kc (nxl Z 0 70), 5⟩, ⟨gn, dcl Z 70, 30⟩] v17 := hB
  simp only [Act.put, List.setIfInBounds_toArray, List.set_cons_zero, List.set_cons_succ, List.getElem_toArray, List.getElem_cons_zero, List.getElem_cons_succ]
  (refine wpList_step fun K hK => ?_; replace hK := hide hK; go_simp; refine unhide hK _ _ ?_; clear hK K)
  refine wpList_nil ?_
  replace hB := hide hB
  go_upto_region 12 with fail
  replace hB := unhide hB
  refine wp_region_lit ?_
  refine list_val (.pointer (some ⟨gf, 0, none⟩)) (by kernel_rfl) (by kernel_rfl) ?_
  simp only [Act.put, List.setIfInBounds_toArray, List.set_cons_zero, List.set_cons_succ, List.getElem_toArray, List.getElem_cons_zero, List.getElem_cons_succ]
  refine list_call 12 #[.pointer (some ⟨gf, 0, none⟩), .int .i64 70] (by kernel_rfl) (by kernel_rfl) ((dbytes_ok Z hZl (unhide hZb) 0 70 (by omega) (by omega) gf _ (hB.get 1 (x := ⟨gf, ecl Z 0, 67⟩) rfl)).mono ?_)
  rintro r v18 ⟨gx, ox, M, rfl, -, -, hat, -, hdn, hbt⟩
  refine ⟨_, rfl, ?_⟩
  rw [Nat.zero_add] at hdn
  replace hB := hB.but hbt 1 (x := ⟨gf, ecl Z 0, 67⟩) rfl rfl hdn
  simp only [List.set_cons_zero, List.set_cons_succ] at hB
  replace hB : Bl w [⟨gd, ecl Y t, 67⟩, ⟨gf, ecl Z 70, 67⟩, ⟨gm, dcl Y t, 30⟩, ⟨go, kc (nxl Y n 32), 5⟩, ⟨gw, kc (nxl Z 0 70), 5⟩, ⟨gn, dcl Z 70, 30⟩] v18 := hB
  clear hbt hdn
  have lx : Hid (Lb v18 (some ⟨gx, ox, none⟩) 70 70 (nxl Z 0 70)) := ⟨nxl_len _ _ _, nxl_isB _ _ _, .inr ⟨gx, ox, rfl, hat⟩, Nat.le_refl _, by omega⟩
  clear hat
  simp only [Act.put, List.setIfInBounds_toArray, List.set_cons_zero, List.set_cons_succ, List.getElem_toArray, List.getElem_cons_zero, List.getElem_cons_succ]
  refine list_val (.tuple #[.slice (some ⟨gx, ox, none⟩) 70 70, .int .i64 0]) (by kernel_rfl) (by kernel_rfl) ?_
  simp only [Act.put, List.setIfInBounds_toArray, List.set_cons_zero, List.set_cons_succ, List.getElem_toArray, List.getElem_cons_zero, List.getElem_cons_succ]
  refine list_val (.slice (some ⟨gx, ox, none⟩) 70 70) (by kernel_rfl) (by kernel_rfl) ?_
  simp only [Act.put, List.setIfInBounds_toArray, List.set_cons_zero, List.set_cons_succ, List.getElem_toArray, List.getElem_cons_zero, List.getElem_cons_succ]
  refine list_val (.int .i64 0) (by kernel_rfl) (by kernel_rfl) ?_
  simp only [Act.put, List.setIfInBounds_toArray, List.set_cons_zero, List.set_cons_succ, List.getElem_toArray, List.getElem_cons_zero, List.getElem_cons_succ]
  (refine wpList_step fun K hK => ?_; replace hK := hide hK; go_simp; refine unhide hK _ _ ?_; clear hK K)
  (refine wpList_step fun K hK => ?_; replace hK := hide hK; go_simp; refine unhide hK _ _ ?_; clear hK K)
  refine wpList_nil ?_
  replace hB := hide hB
  go_upto_region 13 with fail
  replace hB := unhide hB
  refine any_start (S := fun v => Bl w [⟨gd, ecl Y t, 67⟩, ⟨gf, ecl Z 70, 67⟩, ⟨gm, dcl Y t, 30⟩, ⟨go, kc (nxl Y n 32), 5⟩, ⟨gw, kc (nxl Z 0 70), 5⟩, ⟨gn, dcl Z 70, 30⟩] v) (by kernel_rfl) ?_
  replace hB := hB.drew
  replace lx := hide ((unhide lx).gr (Gr.refl _).drew)
  generalize World.drew _ = x0 at *
  simp only [List.size_toArray, List.length_cons, List.length_nil, Array.replicate, List.replicate]
  refine any_take (i := 0) (v := (.int .i64 0)) #[false, false, false, false, false, false, false, false, false, false, false, false, false, false, false, false, false, false, false] rfl (by kernel_rfl) (by kernel_rfl) (by kernel_rfl) (by kernel_rfl) (fun _ _ _ h => h) (.inl ⟨by kernel_rfl, fun x_ hu => by kernel_rfl⟩) hB ?_
  simp only [Act.put, List.setIfInBounds_toArray, List.set_cons_zero, List.set_cons_succ, List.getElem_toArray, List.getElem_cons_zero, List.getElem_cons_succ]
  refine any_take (i := 1) (v := (.bool true)) #[true, false, false, false, false, false, false, false, false, false, false, false, false, false, false, false, false, false, false] rfl (by kernel_rfl) (by kernel_rfl) (by kernel_rfl) (by kernel_rfl) (fun _ _ _ h => h) (.inl ⟨by kernel_rfl, fun x_ hu => by kernel_rfl⟩) hB ?_
  simp only [Act.put, List.setIfInBounds_toArray, List.set_cons_zero, List.set_cons_succ, List.getElem_toArray, List.getElem_cons_zero, List.getElem_cons_succ]
  refine any_take (i := 2) (v := (.bool true)) #[true, true, false, false, false, false, false, false, false, false, false, false, false, false, false, false, false, false, false] rfl (by kernel_rfl) (by kernel_rfl) (by kernel_rfl) (by kernel_rfl) (fun _ _ _ h => h) (.inl ⟨by kernel_rfl, fun x_ hu => by kernel_rfl⟩) hB ?_
  simp only [Act.put, List.setIfInBounds_toArray, List.set_cons_zero, List.set_cons_succ, List.getElem_toArray, List.getElem_cons_zero, List.getElem_cons_succ]
  refine any_take (i := 3) (v := (.int .i64 0)) #[true, true, true, false, false, false, false, false, false, false, false, false, false, false, false, false, false, false, false] rfl (by kernel_rfl) (by kernel_rfl) (by kernel_rfl) (by kernel_rfl) (fun _ _ _ h => h) (.inl ⟨by kernel_rfl, fun x_ hu => by kernel_rfl⟩) hB ?_
  simp only [Act.put, List.setIfInBounds_toArray, List.set_cons_zero, List.set_cons_succ, List.getElem_toArray, List.getElem_cons_zero, List.getElem_cons_succ]
  refine any_take (i := 4) (v := (.bool true)) #[true, true, true, true, false, false, false, false, false, false, false, false, false, false, false, false, false, false, false] rfl (by kernel_rfl) (by kernel_rfl) (by kernel_rfl) (by kernel_rfl) (fun _ _ _ h => h) (.inl ⟨by kernel_rfl, fun x_ hu => by kernel_rfl⟩) hB ?_
  simp only [Act.put, List.setIfInBounds_toArray, List.set_cons_zero, List.set_cons_succ, List.getElem_toArray, List.getElem_cons_zero, List.getElem_cons_succ]
  refine any_take (i := 5) (v := (.bool true)) #[true, true, true, true, true, false, false, false, false, false, false, false, false, false, false, false, false, false, false] rfl (by kernel_rfl) (by kernel_rfl) (by kernel_rfl) (by kernel_rfl) (fun _ _ _ h => h) (.inl ⟨by kernel_rfl, fun x_ hu => by kernel_rfl⟩) hB ?_
  simp only [Act.put, List.setIfInBounds_toArray, List.set_cons_zero, List.set_cons_succ, List.getElem_toArray, List.getElem_cons_zero, List.getElem_cons_succ]
  refine any_take (i := 6) (v := (.bool true)) #[true, true, true, true, true, true, false, false, false, false, false, false, false, false, false, false, false, false, false] rfl (by kernel_rfl) (by kernel_rfl) (by kernel_rfl) (by kernel_rfl) (fun _ _ _ h => h) (.inl ⟨by kernel_rfl, fun x_ hu => by kernel_rfl⟩) hB ?_
  simp only [Act.put, List.setIfInBounds_toArray, List.set_cons_zero, List.set_cons_succ, List.getElem_toArray, List.getElem_cons_zero, List.getElem_cons_succ]
  refine any_take (i := 7) (v := (.slice (some ⟨gx, ox, none⟩) 70 70)) #[true, true, true, true, true, true, true, false, false, false, false, false, false, false, false, false, false, false, false] rfl (by kernel_rfl) (by kernel_rfl) (by kernel_rfl) (by kernel_rfl) (fun _ _ _ h => h) (.inl ⟨by kernel_rfl, fun x_ hu => by kernel_rfl⟩) hB ?_
  simp only [Act.put, List.setIfInBounds_toArray, List.set_cons_zero, List.set_cons_succ, List.getElem_toArray, List.getElem_cons_zero, List.getElem_cons_succ]
  refine any_take (i := 8) (v := (.slice (some ⟨gw, 0, none⟩) 70 70)) #[true, true, true, true, true, true, true, true, false, false, false, false, false, false, false, false, false, false, false] rfl (by kernel_rfl) (by kernel_rfl) (by kernel_rfl) (by kernel_rfl) (fun _ _ _ h => h) (.inl ⟨by kernel_rfl, fun x_ hu => by kernel_rfl⟩) hB ?_
  simp only [Act.put, List.setIfInBounds_toArray, List.set_cons_zero, List.set_cons_succ, List.getElem_toArray, List.getElem_cons_zero, List.getElem_cons_succ]
  refine any_one (i := 9) (by kernel_rfl) rfl (fun K_ hQ => ?_)
  refine step_callw (by kernel_rfl) 14 #[.slice (some ⟨gx, ox, none⟩) 70 70, .slice (some ⟨gw, 0, none⟩) 70 70] (by kernel_rfl) ((same_ok (nxl Z 0 70) _ _ 70 70 70 _ (unhide lx) (kc_lb (hB.get 4 (x := ⟨gw, kc (nxl Z 0 70), 5⟩) rfl) (nxl_len _ _ _) (nxl_isB _ _ _) (by omega)) (by omega)).mono ?_)
  rintro r x1 ⟨rfl, hg⟩
  refine ⟨_, rfl, ?_⟩
  replace hB := hB.more hg
  clear hg
  refine hQ.out _ _ hB (fun _ => ?_)
  clear hQ K_
  simp only [Act.put, List.setIfInBounds_toArray, List.set_cons_zero, List.set_cons_succ, List.getElem_toArray, List.getElem_cons_zero, List.getElem_cons_succ]
  refine any_take (i := 10) (v := (.bool true)) #[true, true, true, true, true, true, true, true, true, true, false, false, false, false, false, false, false, false, false] rfl (by kernel_rfl) (by kernel_rfl) (by kernel_rfl) (by kernel_rfl) (fun _ _ _ h => h) (.inl ⟨by kernel_rfl, fun x_ hu => by kernel_rfl⟩) hB ?_
  simp only [Act.put, List.setIfInBounds_toArray, List.set_cons_zero, List.set_cons_succ, List.getElem_toArray, List.getElem_cons_zero, List.getElem_cons_succ]
  refine any_take (i := 11) (v := (.bool true)) #[true, true, true, true, true, true, true, true, true, true, true, false, false, false, false, false, false, false, false] rfl (by kernel_rfl) (by kernel_rfl) (by kernel_rfl) (by kernel_rfl) (fun _ _ _ h => h) (.inl ⟨by kernel_rfl, fun x_ hu => by kernel_rfl⟩) hB ?_
  simp only [Act.put, List.setIfInBounds_toArray, List.set_cons_zero, List.set_cons_succ, List.getElem_toArray, List.getElem_cons_zero, List.getElem_cons_succ]
  refine any_take (i := 12) (v := (.pointer (some ⟨gd, 0, none⟩))) #[true, true, true, true, true, true, true, true, true, true, true, true, false, false, false, false, false, false, false] rfl (by kernel_rfl) (by kernel_rfl) (by kernel_rfl) (by kernel_rfl) (fun _ _ _ h => h) (.inl ⟨by kernel_rfl, fun x_ hu => by kernel_rfl⟩) hB ?_
  simp only [Act.put, List.setIfInBounds_toArray, List.set_cons_zero, List.set_cons_succ, List.getElem_toArray, List.getElem_cons_zero, List.getElem_cons_succ]
  refine any_take (i := 14) (v := (.pointer (some ⟨gm, 32, none⟩))) #[true, true, true, true, true, true, true, true, true, true, true, true, true, false, false, false, false, false, false] rfl (by kernel_rfl) (by kernel_rfl) (by kernel_rfl) (by kernel_rfl) (fun _ _ _ h => h) (.inl ⟨by kernel_rfl, fun x_ hu => by kernel_rfl⟩) hB ?_
  simp only [Act.put, List.setIfInBounds_toArray, List.set_cons_zero, List.set_cons_succ, List.getElem_toArray, List.getElem_cons_zero, List.getElem_cons_succ]
  refine any_take (i := 15) (v := (.int .i64 t)) #[true, true, true, true, true, true, true, true, true, true, true, true, true, false, true, false, false, false, false] rfl (by kernel_rfl) (by kernel_rfl) (by kernel_rfl) (by kernel_rfl) (fun _ _ _ h => h) (.inl ⟨by kernel_rfl, fun x_ hu => exec_i64 _ (.tmp 84) rfl gm 32 (by kernel_rfl) t (cell_of (hu.get 2 (x := ⟨gm, dcl Y t, 30⟩) rfl) (dcl_get hYl t))⟩) hB ?_
  simp only [Act.put, List.setIfInBounds_toArray, List.set_cons_zero, List.set_cons_succ, List.getElem_toArray, List.getElem_cons_zero, List.getElem_cons_succ]
  refine any_one (i := 13) (by kernel_rfl) rfl (fun K_ hQ => ?_)
  refine step_callw (by kernel_rfl) 21 #[.pointer (some ⟨gd, 0, none⟩)] (by kernel_rfl) ((dtaken_ok gd Y t _ (hB.get 0 (x := ⟨gd, ecl Y t, 67⟩) rfl)).mono ?_)
  rintro r x2 ⟨rfl, rfl⟩
  refine ⟨_, rfl, ?_⟩
  refine hQ.out _ _ hB (fun _ => ?_)
  clear hQ K_
  simp only [Act.put, List.setIfInBounds_toArray, List.set_cons_zero, List.set_cons_succ, List.getElem_toArray, List.getElem_cons_zero, List.getElem_cons_succ]
  refine any_take (i := 16) (v := (.bool true)) #[true, true, true, true, true, true, true, true, true, true, true, true, true, true, true, true, false, false, false] rfl (by kernel_rfl) (by kernel_rfl) (by kernel_rfl) (by kernel_rfl) (fun _ _ _ h => h) (.inl ⟨by kernel_rfl, fun x_ hu => by go_simp⟩) hB ?_
  simp only [Act.put, List.setIfInBounds_toArray, List.set_cons_zero, List.set_cons_succ, List.getElem_toArray, List.getElem_cons_zero, List.getElem_cons_succ]
  refine any_take (i := 17) (v := (.bool true)) #[true, true, true, true, true, true, true, true, true, true, true, true, true, true, true, true, true, false, false] rfl (by kernel_rfl) (by kernel_rfl) (by kernel_rfl) (by kernel_rfl) (fun _ _ _ h => h) (.inl ⟨by kernel_rfl, fun x_ hu => by kernel_rfl⟩) hB ?_
  simp only [Act.put, List.setIfInBounds_toArray, List.set_cons_zero, List.set_cons_succ, List.getElem_toArray, List.getElem_cons_zero, List.getElem_cons_succ]
  refine any_one (i := 18) (by kernel_rfl) rfl (fun K_ hQ => ?_)
  replace hQ := hide hQ
  go_simp
  refine (unhide hQ).out _ _ hB (fun _ => ?_)
  clear hQ K_
  refine any_done (by kernel_rfl) ?_
  have hP : Hid (Gr w _) := hB.gr
  clear hB lx
  go_wp2_with fail
  rw [unhide hT]
  exact ⟨rfl, unhide hP⟩
end Go.Proofs.YtdfcdklnngfhkaaDoor
