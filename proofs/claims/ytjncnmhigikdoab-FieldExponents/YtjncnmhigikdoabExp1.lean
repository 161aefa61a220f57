/-
  FieldExponents: what the function within answers.
-/
import Derived.Test.YtjncnmhigikdoabInvertsWalk
namespace Go.Proofs.Ytjncnmhigikdoab
open Go.RowKit
set_option maxRecDepth 100000
set_option linter.unusedSimpArgs false
attribute [local go_sem ↓] Go.wp_at_zero Go.wp_at_succ

theorem u64_lt (e : Int) (h : 0 ≤ e ∧ e < 18446744073709551616) : e % pp = e := by unfold pp; omega

set_option maxHeartbeats 1000000 in
theorem exp1_ok (n a0 a1 a2 a3 a4 : Int) (e : Nat) (he : e < 18446744073709551616) (g : Nat) (w : World) (hb : w.heap[g]? = some (.cells #[.int .u64 a0, .int .u64 a1, .int .u64 a2, .int .u64 a3, .int .u64 a4] 29 (0, 0))) (hA : Hid (Rep n a0 a1 a2 a3 a4)) :
    Calls Try.prog 18 #[.int .u64 (e : Int), .pointer (some ⟨g, 0, none⟩)] w (fun r w' => ∃ a b c d e', r = .returned (.agg #[.int .u64 a, .int .u64 b, .int .u64 c, .int .u64 d, .int .u64 e']) ∧ Hid (Rep (n ^ e) a b c d e') ∧ Gr w w') := by
  go_enter Try.func18, Try.ntmps18
  go_upto_region 1 with fail
  have Hb : Hid (0 ≤ (e : Int) ∧ (e : Int) < 18446744073709551616) := hide (by omega)
  have He : Hid ((e : Int) % pp = (e : Int)) := hide (u64_lt _ (by omega))
  have hM : Hid (e < 2 ^ 256) := hide (Nat.lt_trans he (by decide))
  clear he
  refine wp_region_held_drew (S := fun v => Res w w.heap.size 5 29 v) (by kernel_rfl) ⟨((Gr.refl w).alloc _).drew, Nat.le_refl _, _, rfl, blk_new _ _⟩ (fun hS0 => ?_)
  refine wpAnyH_take (i := 0) (v := (.agg #[.int .u64 a0, .int .u64 a1, .int .u64 a2, .int .u64 a3, .int .u64 a4])) rfl (by kernel_rfl) (by kernel_rfl) (by kernel_rfl) (fun _ _ _ h => h) (.inl ⟨by kernel_rfl, fun u hu => exec_row u 29 (.tmp 1) rfl g 0 (by kernel_rfl) [.int .u64 a0, .int .u64 a1, .int .u64 a2, .int .u64 a3, .int .u64 a4] _ (range_row (hu.1.blk hb)) Try.underlying29 rfl Try.infoElem⟩) hS0 ?_
  simp only [Act.put, List.setIfInBounds_toArray, List.set_cons_zero, List.set_cons_succ, List.getElem_toArray, List.getElem_cons_zero, List.getElem_cons_succ]
  refine wpAnyH_take (i := 1) (v := (.int .u64 (e : Int))) rfl (by kernel_rfl) (by kernel_rfl) (by kernel_rfl) (fun _ _ _ h => h) (.inl ⟨by kernel_rfl, fun u hu => by kernel_rfl⟩) hS0 ?_
  simp only [Act.put, List.setIfInBounds_toArray, List.set_cons_zero, List.set_cons_succ, List.getElem_toArray, List.getElem_cons_zero, List.getElem_cons_succ]
  refine wpAnyH_ready (rs := [2]) (by kernel_rfl) (by simp) (AllReadyH.cons (o := _) rfl (fun K hK => ?_) AllReadyH.nil)
  refine step_callw (by kernel_rfl) 12 #[(.int .u64 (e : Int))] (by kernel_rfl) ((of_at _ (unhide Hb) _).mono ?_)
  rintro r w1_ ⟨e2_0, e2_1, e2_2, e2_3, e2_4, rfl, h2_, hg⟩
  refine ⟨_, rfl, ?_⟩
  have hS1_ : Res w w.heap.size 5 29 w1_ := Res.gr hS0 hg
  clear hg
  refine hK.out _ _ hS1_ (fun _ => ?_)
  clear hK K
  simp only [Act.put, List.setIfInBounds_toArray, List.set_cons_zero, List.set_cons_succ, List.getElem_toArray, List.getElem_cons_zero, List.getElem_cons_succ]
  refine wpAnyH_ready (rs := [3]) (by kernel_rfl) (by simp) (AllReadyH.cons (o := _) rfl (fun K hK => ?_) AllReadyH.nil)
  refine step_callw (by kernel_rfl) 20 #[(.agg #[.int .u64 e2_0, .int .u64 e2_1, .int .u64 e2_2, .int .u64 e2_3, .int .u64 e2_4])] (by kernel_rfl) ((bytes_at _ _ _ _ _ _ (by assumption) _).mono ?_)
  rintro r w2_ ⟨rfl, hg⟩
  rw [unhide He]
  refine ⟨_, rfl, ?_⟩
  have hS2_ : Res w w.heap.size 5 29 w2_ := Res.gr hS1_ hg
  clear hg
  refine hK.out _ _ hS2_ (fun _ => ?_)
  clear hK K
  simp only [Act.put, List.setIfInBounds_toArray, List.set_cons_zero, List.set_cons_succ, List.getElem_toArray, List.getElem_cons_zero, List.getElem_cons_succ]
  refine wpAnyH_ready (rs := [4]) (by kernel_rfl) (by simp) (AllReadyH.cons (o := _) rfl (fun K hK => ?_) AllReadyH.nil)
  refine step_callw (by kernel_rfl) 19 #[(.agg #[.int .u64 a0, .int .u64 a1, .int .u64 a2, .int .u64 a3, .int .u64 a4]), (.agg (kc (digs (e : Int) 32)))] (by kernel_rfl) ((power_at _ _ _ _ _ _ _ (by assumption) (by assumption) _).mono ?_)
  rintro r w3_ ⟨r0, r1, r2, r3, r4, rfl, hR, hg⟩
  refine ⟨_, rfl, ?_⟩
  have hS3_ : Res w w.heap.size 5 29 w3_ := Res.gr hS2_ hg
  clear hg
  refine hK.out _ _ hS3_ (fun _ => ?_)
  clear hK K
  simp only [Act.put, List.setIfInBounds_toArray, List.set_cons_zero, List.set_cons_succ, List.getElem_toArray, List.getElem_cons_zero, List.getElem_cons_succ]
  refine wpAnyH_ready (rs := [5]) (by kernel_rfl) (by simp) (AllReadyH.cons (o := _) rfl (fun K hK => ?_) AllReadyH.nil)
  rw [if_pos (by kernel_rfl)]
  simp only [Go.wp_at_zero, Go.wp_at_succ]
  obtain ⟨o, ho1, ho2⟩ := hS3_.2.2
  refine wp_store_row 29 (.tmp 3) (.tmp 8) rfl w.heap.size #[.int .u64 r0, .int .u64 r1, .int .u64 r2, .int .u64 r3, .int .u64 r4] (by kernel_rfl) (by kernel_rfl) 29 o ho2 Try.infoElem ho1 (by simp [Value.oneCell']) ?_
  have hF := hS3_.row #[.int .u64 r0, .int .u64 r1, .int .u64 r2, .int .u64 r3, .int .u64 r4] rfl
  refine hK.out _ _ hF (fun _ => ?_)
  clear hK K
  simp only [Act.put, List.setIfInBounds_toArray, List.set_cons_zero, List.set_cons_succ, List.getElem_toArray, List.getElem_cons_zero, List.getElem_cons_succ]
  refine wpAnyH_done (by kernel_rfl) ?_ _
  have hq := setRow_heap w3_ w.heap.size _ #[.int .u64 r0, .int .u64 r1, .int .u64 r2, .int .u64 r3, .int .u64 r4] 29 _ ho2
  have c0 := cell_of (i := 0) hq rfl
  have c1 := cell_of (i := 1) hq rfl
  have c2 := cell_of (i := 2) hq rfl
  have c3 := cell_of (i := 3) hq rfl
  have c4 := cell_of (i := 4) hq rfl
  generalize World.setRow _ _ _ = u at *
  go_wp2_with fail
  refine bodyPost_ret (v := .agg #[.int .u64 r0, .int .u64 r1, .int .u64 r2, .int .u64 r3, .int .u64 r4]) ?_ rfl ?_
  · simp [results, Try.results18, go_sem, c0, c1, c2, c3, c4]
  · exact ⟨_, _, _, _, _, rfl, hR, hF.1⟩
end Go.Proofs.Ytjncnmhigikdoab
