/-
  wakes answers true.
-/
import Derived.Test.YtdekjbdkpchbjaaAeL
import Derived.Lib.SlBytesConst
namespace Go.Proofs.Ytdekjbdkpchbjaa
open Go.RowKit
set_option maxRecDepth 100000
set_option linter.unusedSimpArgs false
set_option linter.unusedVariables false
def WK : List Int := 1 :: List.replicate 31 0
def WN : List Int := 2 :: List.replicate 11 0
def WP : List Int := [104, 105]
theorem WK_isB : IsB WK := fun x hx => by
  rcases List.mem_cons.1 hx with h | h
  · omega
  · have := List.eq_of_mem_replicate h; omega
theorem WN_isB : IsB WN := fun x hx => by
  rcases List.mem_cons.1 hx with h | h
  · omega
  · have := List.eq_of_mem_replicate h; omega
theorem WP_isB : IsB WP := fun x hx => by
  unfold WP at hx
  simp at hx
  omega
theorem W3_isB : IsB [3] := fun x hx => by
  simp at hx
  omega
/-- bytes of a constant text -/
theorem exec_const {op : Oper} {a : Act} (w : World) (x : Operand) (ho : op.op = .convert 26 26 x) (C : Array Value) (n c : Nat) (hx : a.eval x = .slice (some ⟨w.heap.size, 0, none⟩) n c) :
    (execOp a.eval op).run Try.prog (w.alloc (.cells C 5 (0, 0))) = .ok (.value (.slice (some ⟨w.heap.size, 0, none⟩) n c)) (w.alloc (.cells C 5 (C.size, C.size + 1))) := by
  have h := Lib.run_convert_bytes_const (P := Try.prog) w 26 5 C n c Try.underlying26 Try.underlying5
  unfold execOp
  simp only [ho, hx, Sem.run_bind, h, Result.andThen_ok, Sem.run_pure]
theorem woke_ne : tagL WK WN [3] (xl WK WN 1 WP) ≠ tagL WK WN [] (xl WK WN 1 WP) := by decide +kernel
theorem woke_no (P : List Int) (_h : IsB P) : sealL WK WN [3] WP ≠ sealL WK WN [] P := fun e => by
  have hl := congrArg List.length e
  rw [sealL_len, sealL_len] at hl
  unfold sealL at e
  have h2 := List.append_inj e (by rw [xl_len, xl_len]; omega)
  rw [← h2.1] at h2
  exact woke_ne h2.2
def Woke (w : World) (r : Ending) (w' : World) : Prop := r = .returned (.bool true) ∧ Gr w w'
set_option maxHeartbeats 4000000 in
theorem wakes_ok (w : World) : Calls Try.prog 9 #[] w (Woke w) := by
  obtain ⟨T, hT⟩ : ∃ T, T = Woke w := ⟨_, rfl⟩
  rw [← hT]
  replace hT := hide hT
  go_enter Try.func9, Try.ntmps9
  go_upto_region 1 with fail
  have hG := Gr.refl w
  refine wp_region_lit ?_
  refine list_val (.agg (kc WK)) (by kernel_rfl) (by kernel_rfl) ?_
  simp only [Act.put, List.setIfInBounds_toArray, List.set_cons_zero, List.set_cons_succ, List.getElem_toArray, List.getElem_cons_zero, List.getElem_cons_succ]
  refine list_val (.agg (kc WN)) (by kernel_rfl) (by kernel_rfl) ?_
  simp only [Act.put, List.setIfInBounds_toArray, List.set_cons_zero, List.set_cons_succ, List.getElem_toArray, List.getElem_cons_zero, List.getElem_cons_succ]
  refine list_valw (.slice (some ⟨w.heap.size, 0, none⟩) 1 1) (w.alloc (.cells (kc [3]) 5 (0, 0))) (by kernel_rfl) (by kernel_rfl) ?_
  simp only [Act.put, List.setIfInBounds_toArray, List.set_cons_zero, List.set_cons_succ, List.getElem_toArray, List.getElem_cons_zero, List.getElem_cons_succ]
  have hg := (Gr.refl w).alloc (.cells (kc [3]) 5 (0, 0))
  have l3 : Lb (w.alloc (.cells (kc [3]) 5 (0, 0))) (some ⟨w.heap.size, 0, none⟩) 1 1 [3] := kc_lb (blk_new _ _) rfl W3_isB (by omega)
  replace hG := hG.trans hg
  clear hg
  generalize hw_ : World.alloc _ _ = u1 at *
  generalize hgx_ : w.heap.size = h1 at *
  clear hw_ hgx_
  refine list_valw (.slice (some ⟨u1.heap.size, 0, none⟩) 2 2) (u1.alloc (.cells (kc WP) 5 (0, 0))) (by kernel_rfl) (by kernel_rfl) ?_
  simp only [Act.put, List.setIfInBounds_toArray, List.set_cons_zero, List.set_cons_succ, List.getElem_toArray, List.getElem_cons_zero, List.getElem_cons_succ]
  refine list_valw (.slice (some ⟨u1.heap.size, 0, none⟩) 2 2) (u1.alloc (.cells (kc WP) 5 ((kc WP).size, (kc WP).size + 1))) (by kernel_rfl) (exec_const u1 (.tmp 9) rfl (kc WP) 2 2 (by kernel_rfl)) ?_
  simp only [Act.put, List.setIfInBounds_toArray, List.set_cons_zero, List.set_cons_succ, List.getElem_toArray, List.getElem_cons_zero, List.getElem_cons_succ]
  have hg := (Gr.refl u1).alloc (.cells (kc WP) 5 ((kc WP).size, (kc WP).size + 1))
  have l2 : Lb (u1.alloc (.cells (kc WP) 5 ((kc WP).size, (kc WP).size + 1))) (some ⟨u1.heap.size, 0, none⟩) 2 2 WP := ⟨rfl, WP_isB, .inr ⟨_, 0, rfl, fun j hj => by rw [Nat.zero_add]; exact cell_of (blk_new _ _) (kc_get WP j hj)⟩, by omega, by omega⟩
  replace hG := hG.trans hg
  replace l3 := l3.gr hg
  clear hg
  generalize hw_ : World.alloc _ _ = u2 at *
  generalize hgx_ : u1.heap.size = h2 at *
  clear hw_ hgx_
  refine list_call 14 #[.agg (kc WK), .agg (kc WN), .slice (some ⟨h1, 0, none⟩) 1 1, .slice (some ⟨h2, 0, none⟩) 2 2] (by kernel_rfl) (by kernel_rfl) ((seal_ok WK WN rfl rfl WK_isB WN_isB [3] WP _ _ 1 2 1 2 (by omega) _ l3 l2).mono ?_)
  rintro r u3 ⟨v3, rfl, ob, hg⟩
  refine ⟨_, rfl, ?_⟩
  replace hG := hG.trans hg
  obtain ⟨sb, cb, rfl, lb⟩ := ob.lb (sealL_isB _ _ _ _)
  rw [sealL_len] at lb ⊢
  replace lb : Lb u3 sb 18 cb (sealL WK WN [3] WP) := lb
  clear hg ob l3 l2
  simp only [Act.put, List.setIfInBounds_toArray, List.set_cons_zero, List.set_cons_succ, List.getElem_toArray, List.getElem_cons_zero, List.getElem_cons_succ]
  (refine wpList_step fun K hK => ?_; replace hK := hide hK; go_simp; refine unhide hK _ _ ?_; clear hK K)
  refine wpList_nil ?_
  replace hG := hide hG; replace lb := hide lb
  go_upto_region 2 with fail
  replace hG := unhide hG; replace lb := unhide lb
  refine wp_region_lit ?_
  refine list_val (.agg (kc WK)) (by kernel_rfl) (by kernel_rfl) ?_
  simp only [Act.put, List.setIfInBounds_toArray, List.set_cons_zero, List.set_cons_succ, List.getElem_toArray, List.getElem_cons_zero, List.getElem_cons_succ]
  refine list_val (.agg (kc WN)) (by kernel_rfl) (by kernel_rfl) ?_
  simp only [Act.put, List.setIfInBounds_toArray, List.set_cons_zero, List.set_cons_succ, List.getElem_toArray, List.getElem_cons_zero, List.getElem_cons_succ]
  refine list_valw (.slice (some ⟨u3.heap.size, 0, none⟩) 1 1) (u3.alloc (.cells (kc [3]) 5 (0, 0))) (by kernel_rfl) (by kernel_rfl) ?_
  simp only [Act.put, List.setIfInBounds_toArray, List.set_cons_zero, List.set_cons_succ, List.getElem_toArray, List.getElem_cons_zero, List.getElem_cons_succ]
  have hg := (Gr.refl u3).alloc (.cells (kc [3]) 5 (0, 0))
  have l3 : Lb (u3.alloc (.cells (kc [3]) 5 (0, 0))) (some ⟨u3.heap.size, 0, none⟩) 1 1 [3] := kc_lb (blk_new _ _) rfl W3_isB (by omega)
  replace hG := hG.trans hg
  replace lb := lb.gr hg
  clear hg
  generalize hw_ : World.alloc _ _ = u4 at *
  generalize hgx_ : u3.heap.size = h4 at *
  clear hw_ hgx_
  refine list_val (.slice sb 18 cb) (by kernel_rfl) (by kernel_rfl) ?_
  simp only [Act.put, List.setIfInBounds_toArray, List.set_cons_zero, List.set_cons_succ, List.getElem_toArray, List.getElem_cons_zero, List.getElem_cons_succ]
  refine list_call 17 #[.agg (kc WK), .agg (kc WN), .slice (some ⟨h4, 0, none⟩) 1 1, .slice sb 18 cb] (by kernel_rfl) (by kernel_rfl) ((open_yes WK WN rfl rfl WK_isB WN_isB [3] WP WP_isB _ _ 1 18 1 cb (by omega) _ l3 lb).mono ?_)
  rintro r u5 ⟨gp, rfl, _, hp, hg⟩
  refine ⟨_, rfl, ?_⟩
  replace hG := hG.trans hg
  replace lb := lb.gr hg
  have lp : Lb u5 (some ⟨gp, 0, none⟩) 2 2 WP := kc_lb hp rfl WP_isB (by omega)
  clear hg l3 hp
  rw [show WP.length = 2 from rfl]
  simp only [Act.put, List.setIfInBounds_toArray, List.set_cons_zero, List.set_cons_succ, List.getElem_toArray, List.getElem_cons_zero, List.getElem_cons_succ]
  refine list_val (.tuple #[.slice (some ⟨gp, 0, none⟩) 2 2, .int .i64 0]) (by kernel_rfl) (by kernel_rfl) ?_
  simp only [Act.put, List.setIfInBounds_toArray, List.set_cons_zero, List.set_cons_succ, List.getElem_toArray, List.getElem_cons_zero, List.getElem_cons_succ]
  refine list_val (.slice (some ⟨gp, 0, none⟩) 2 2) (by kernel_rfl) (by kernel_rfl) ?_
  simp only [Act.put, List.setIfInBounds_toArray, List.set_cons_zero, List.set_cons_succ, List.getElem_toArray, List.getElem_cons_zero, List.getElem_cons_succ]
  refine list_val (.int .i64 0) (by kernel_rfl) (by kernel_rfl) ?_
  simp only [Act.put, List.setIfInBounds_toArray, List.set_cons_zero, List.set_cons_succ, List.getElem_toArray, List.getElem_cons_zero, List.getElem_cons_succ]
  (refine wpList_step fun K hK => ?_; replace hK := hide hK; go_simp; refine unhide hK _ _ ?_; clear hK K)
  (refine wpList_step fun K hK => ?_; replace hK := hide hK; go_simp; refine unhide hK _ _ ?_; clear hK K)
  refine wpList_nil ?_
  replace lp := hide lp
  replace hG := hide hG; replace lb := hide lb
  go_upto_region 3 with fail
  replace hG := unhide hG; replace lb := unhide lb
  replace lp := unhide lp
  refine wp_region_lit ?_
  refine list_val (.agg (kc WK)) (by kernel_rfl) (by kernel_rfl) ?_
  simp only [Act.put, List.setIfInBounds_toArray, List.set_cons_zero, List.set_cons_succ, List.getElem_toArray, List.getElem_cons_zero, List.getElem_cons_succ]
  refine list_val (.agg (kc WN)) (by kernel_rfl) (by kernel_rfl) ?_
  simp only [Act.put, List.setIfInBounds_toArray, List.set_cons_zero, List.set_cons_succ, List.getElem_toArray, List.getElem_cons_zero, List.getElem_cons_succ]
  refine list_val (.slice sb 18 cb) (by kernel_rfl) (by kernel_rfl) ?_
  simp only [Act.put, List.setIfInBounds_toArray, List.set_cons_zero, List.set_cons_succ, List.getElem_toArray, List.getElem_cons_zero, List.getElem_cons_succ]
  refine list_call 17 #[.agg (kc WK), .agg (kc WN), .slice none 0 0, .slice sb 18 cb] (by kernel_rfl) (by kernel_rfl) ((open_no WK WN rfl rfl WK_isB WN_isB [] (sealL WK WN [3] WP) none sb 0 18 0 cb (by omega) _ (Lb.nil0 _) lb woke_no).mono ?_)
  rintro r u6 ⟨rfl, hg⟩
  refine ⟨_, rfl, ?_⟩
  replace hG := hG.trans hg
  replace lb := lb.gr hg
  replace lp := lp.gr hg
  clear hg
  simp only [Act.put, List.setIfInBounds_toArray, List.set_cons_zero, List.set_cons_succ, List.getElem_toArray, List.getElem_cons_zero, List.getElem_cons_succ]
  refine list_val (.tuple #[.slice none 0 0, .int .i64 180]) (by kernel_rfl) (by kernel_rfl) ?_
  simp only [Act.put, List.setIfInBounds_toArray, List.set_cons_zero, List.set_cons_succ, List.getElem_toArray, List.getElem_cons_zero, List.getElem_cons_succ]
  refine list_val (.slice none 0 0) (by kernel_rfl) (by kernel_rfl) ?_
  simp only [Act.put, List.setIfInBounds_toArray, List.set_cons_zero, List.set_cons_succ, List.getElem_toArray, List.getElem_cons_zero, List.getElem_cons_succ]
  refine list_val (.int .i64 180) (by kernel_rfl) (by kernel_rfl) ?_
  simp only [Act.put, List.setIfInBounds_toArray, List.set_cons_zero, List.set_cons_succ, List.getElem_toArray, List.getElem_cons_zero, List.getElem_cons_succ]
  (refine wpList_step fun K hK => ?_; replace hK := hide hK; go_simp; refine unhide hK _ _ ?_; clear hK K)
  (refine wpList_step fun K hK => ?_; replace hK := hide hK; go_simp; refine unhide hK _ _ ?_; clear hK K)
  refine wpList_nil ?_
  replace lp := hide lp
  replace hG := hide hG; replace lb := hide lb
  go_upto_region 4 with fail
  replace hG := unhide hG; replace lb := unhide lb
  replace lp := unhide lp
  refine wp_region_lit ?_
  refine list_val (.slice sb 18 cb) (by kernel_rfl) (by kernel_rfl) ?_
  simp only [Act.put, List.setIfInBounds_toArray, List.set_cons_zero, List.set_cons_succ, List.getElem_toArray, List.getElem_cons_zero, List.getElem_cons_succ]
  refine list_val (.int .i64 18) (by kernel_rfl) (by kernel_rfl) ?_
  simp only [Act.put, List.setIfInBounds_toArray, List.set_cons_zero, List.set_cons_succ, List.getElem_toArray, List.getElem_cons_zero, List.getElem_cons_succ]
  refine list_val (.bool true) (by kernel_rfl) (by kernel_rfl) ?_
  simp only [Act.put, List.setIfInBounds_toArray, List.set_cons_zero, List.set_cons_succ, List.getElem_toArray, List.getElem_cons_zero, List.getElem_cons_succ]
  refine list_val (.bool true) (by kernel_rfl) (by kernel_rfl) ?_
  simp only [Act.put, List.setIfInBounds_toArray, List.set_cons_zero, List.set_cons_succ, List.getElem_toArray, List.getElem_cons_zero, List.getElem_cons_succ]
  refine list_val (.int .i64 0) (by kernel_rfl) (by kernel_rfl) ?_
  simp only [Act.put, List.setIfInBounds_toArray, List.set_cons_zero, List.set_cons_succ, List.getElem_toArray, List.getElem_cons_zero, List.getElem_cons_succ]
  refine list_val (.bool true) (by kernel_rfl) (by kernel_rfl) ?_
  simp only [Act.put, List.setIfInBounds_toArray, List.set_cons_zero, List.set_cons_succ, List.getElem_toArray, List.getElem_cons_zero, List.getElem_cons_succ]
  refine list_val (.bool true) (by kernel_rfl) (by kernel_rfl) ?_
  simp only [Act.put, List.setIfInBounds_toArray, List.set_cons_zero, List.set_cons_succ, List.getElem_toArray, List.getElem_cons_zero, List.getElem_cons_succ]
  refine list_val (.bool true) (by kernel_rfl) (by kernel_rfl) ?_
  simp only [Act.put, List.setIfInBounds_toArray, List.set_cons_zero, List.set_cons_succ, List.getElem_toArray, List.getElem_cons_zero, List.getElem_cons_succ]
  refine list_val (.int .i64 180) (by kernel_rfl) (by kernel_rfl) ?_
  simp only [Act.put, List.setIfInBounds_toArray, List.set_cons_zero, List.set_cons_succ, List.getElem_toArray, List.getElem_cons_zero, List.getElem_cons_succ]
  refine list_val (.bool true) (by kernel_rfl) (by kernel_rfl) ?_
  simp only [Act.put, List.setIfInBounds_toArray, List.set_cons_zero, List.set_cons_succ, List.getElem_toArray, List.getElem_cons_zero, List.getElem_cons_succ]
  refine list_val (.bool true) (by kernel_rfl) (by kernel_rfl) ?_
  simp only [Act.put, List.setIfInBounds_toArray, List.set_cons_zero, List.set_cons_succ, List.getElem_toArray, List.getElem_cons_zero, List.getElem_cons_succ]
  refine list_val (.bool true) (by kernel_rfl) (by kernel_rfl) ?_
  simp only [Act.put, List.setIfInBounds_toArray, List.set_cons_zero, List.set_cons_succ, List.getElem_toArray, List.getElem_cons_zero, List.getElem_cons_succ]
  refine list_val (.slice (some ⟨gp, 0, none⟩) 2 2) (by kernel_rfl) (by kernel_rfl) ?_
  simp only [Act.put, List.setIfInBounds_toArray, List.set_cons_zero, List.set_cons_succ, List.getElem_toArray, List.getElem_cons_zero, List.getElem_cons_succ]
  refine list_val (.string ⟨#[104, 105]⟩) (by kernel_rfl) (by have c0 := lp.sl.text 2 2 rfl; rw [show strOfNums WP = ⟨#[104, 105]⟩ from rfl] at c0; go_simp) ?_
  simp only [Act.put, List.setIfInBounds_toArray, List.set_cons_zero, List.set_cons_succ, List.getElem_toArray, List.getElem_cons_zero, List.getElem_cons_succ]
  refine list_val (.bool true) (by kernel_rfl) (by kernel_rfl) ?_
  simp only [Act.put, List.setIfInBounds_toArray, List.set_cons_zero, List.set_cons_succ, List.getElem_toArray, List.getElem_cons_zero, List.getElem_cons_succ]
  refine list_val (.bool true) (by kernel_rfl) (by kernel_rfl) ?_
  simp only [Act.put, List.setIfInBounds_toArray, List.set_cons_zero, List.set_cons_succ, List.getElem_toArray, List.getElem_cons_zero, List.getElem_cons_succ]
  (refine wpList_step fun K hK => ?_; replace hK := hide hK; go_simp; refine unhide hK _ _ ?_; clear hK K)
  refine wpList_nil ?_
  clear lb lp
  replace hG := hide hG
  go_wp2_with fail
  rw [unhide hT]
  exact ⟨rfl, unhide hG⟩
end Go.Proofs.Ytdekjbdkpchbjaa
