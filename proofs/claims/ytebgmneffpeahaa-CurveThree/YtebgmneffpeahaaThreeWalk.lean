/-
  CurveThree: the walk, for whatever keys.
-/
import Derived.Test.YtebgmneffpeahaaComm
import Derived.Test.YtebgmneffpeahaaMake1
namespace Go.Proofs.Ytebgmneffpeahaa
open Go.RowKit
set_option maxRecDepth 100000
set_option linter.unusedSimpArgs false

set_option maxHeartbeats 4000000 in
theorem three_any (A B C : Nat) (w : World) :
    Calls Try.prog 6 #[.agg (kc (digs (A : Int) 32)), .agg (kc (digs (B : Int) 32)), .agg (kc (digs (C : Int) 32))] w (fun r w' => r = .returned (.bool true) ∧ Gr w w') := by
  go_enter Try.func6, Try.ntmps6
  go_upto_region 3 with (go_at_call 9; refine (wakes_ok _).mono ?_; rintro r w1 ⟨rfl, hg⟩)
  have hB := ((((Bl.nil w).new (kc (digs (A : Int) 32)) 23).new (kc (digs (B : Int) 32)) 23).new (kc (digs (C : Int) 32)) 23).more hg
  simp only [size_alloc, List.nil_append, List.cons_append] at hB
  clear hg
  refine any_start (S := fun v => v.heap[w.heap.size]? = some (.cells (kc (digs (A : Int) 32)) 23 (0, 0)) ∧ v.heap[w.heap.size + 1]? = some (.cells (kc (digs (B : Int) 32)) 23 (0, 0)) ∧ v.heap[w.heap.size + 1 + 1]? = some (.cells (kc (digs (C : Int) 32)) 23 (0, 0)) ∧ True) (by kernel_rfl) ?_
  replace hB := hB.drew
  generalize World.drew _ = v1_ at *
  simp only [List.size_toArray, List.length_cons, List.length_nil, Array.replicate, List.replicate]
  refine any_take (i := 0) (v := (.agg (kc (digs (A : Int) 32)))) #[false, false, false, false, false, false, false, false] rfl (by kernel_rfl) (by kernel_rfl) (by kernel_rfl) (by kernel_rfl) (fun _ _ _ h => h) (.inl ⟨by kernel_rfl, fun x hu => exec_arr x 23 (.tmp 3) rfl w.heap.size (by kernel_rfl) (kc (digs (A : Int) 32)) 23 _ hu.1 Try.underlying23 rfl (by rw [Try.infoKey, kc32])⟩) ⟨(hB.get 0 (x := ⟨w.heap.size, (kc (digs (A : Int) 32)), 23⟩) rfl), (hB.get 1 (x := ⟨w.heap.size + 1, (kc (digs (B : Int) 32)), 23⟩) rfl), (hB.get 2 (x := ⟨w.heap.size + 1 + 1, (kc (digs (C : Int) 32)), 23⟩) rfl), trivial⟩ ?_
  simp only [Act.put, List.setIfInBounds_toArray, List.set_cons_zero, List.set_cons_succ, List.getElem_toArray, List.getElem_cons_zero, List.getElem_cons_succ]
  refine any_take (i := 1) (v := (.agg (kc (digs (B : Int) 32)))) #[true, false, false, false, false, false, false, false] rfl (by kernel_rfl) (by kernel_rfl) (by kernel_rfl) (by kernel_rfl) (fun _ _ _ h => h) (.inl ⟨by kernel_rfl, fun x hu => exec_arr x 23 (.tmp 4) rfl (w.heap.size + 1) (by kernel_rfl) (kc (digs (B : Int) 32)) 23 _ hu.2.1 Try.underlying23 rfl (by rw [Try.infoKey, kc32])⟩) ⟨(hB.get 0 (x := ⟨w.heap.size, (kc (digs (A : Int) 32)), 23⟩) rfl), (hB.get 1 (x := ⟨w.heap.size + 1, (kc (digs (B : Int) 32)), 23⟩) rfl), (hB.get 2 (x := ⟨w.heap.size + 1 + 1, (kc (digs (C : Int) 32)), 23⟩) rfl), trivial⟩ ?_
  simp only [Act.put, List.setIfInBounds_toArray, List.set_cons_zero, List.set_cons_succ, List.getElem_toArray, List.getElem_cons_zero, List.getElem_cons_succ]
  refine any_take (i := 2) (v := (.agg (kc (digs (C : Int) 32)))) #[true, true, false, false, false, false, false, false] rfl (by kernel_rfl) (by kernel_rfl) (by kernel_rfl) (by kernel_rfl) (fun _ _ _ h => h) (.inl ⟨by kernel_rfl, fun x hu => exec_arr x 23 (.tmp 5) rfl (w.heap.size + 1 + 1) (by kernel_rfl) (kc (digs (C : Int) 32)) 23 _ hu.2.2.1 Try.underlying23 rfl (by rw [Try.infoKey, kc32])⟩) ⟨(hB.get 0 (x := ⟨w.heap.size, (kc (digs (A : Int) 32)), 23⟩) rfl), (hB.get 1 (x := ⟨w.heap.size + 1, (kc (digs (B : Int) 32)), 23⟩) rfl), (hB.get 2 (x := ⟨w.heap.size + 1 + 1, (kc (digs (C : Int) 32)), 23⟩) rfl), trivial⟩ ?_
  simp only [Act.put, List.setIfInBounds_toArray, List.set_cons_zero, List.set_cons_succ, List.getElem_toArray, List.getElem_cons_zero, List.getElem_cons_succ]
  have hSf : ∀ v, Gr v1_ v → (fun v => v.heap[w.heap.size]? = some (.cells (kc (digs (A : Int) 32)) 23 (0, 0)) ∧ v.heap[w.heap.size + 1]? = some (.cells (kc (digs (B : Int) 32)) 23 (0, 0)) ∧ v.heap[w.heap.size + 1 + 1]? = some (.cells (kc (digs (C : Int) 32)) 23 (0, 0)) ∧ True) v := fun v k => ⟨k.blk (hB.get 0 (x := ⟨w.heap.size, (kc (digs (A : Int) 32)), 23⟩) rfl), k.blk (hB.get 1 (x := ⟨w.heap.size + 1, (kc (digs (B : Int) 32)), 23⟩) rfl), k.blk (hB.get 2 (x := ⟨w.heap.size + 1 + 1, (kc (digs (C : Int) 32)), 23⟩) rfl), trivial⟩
  refine stage1 v1_ #[.int .u8 0, .int .u8 0, .int .u8 0, .int .u8 0, .int .u8 0, .int .u8 0, .int .u8 0, .int .u8 0, .int .u8 0, .int .u8 0, .int .u8 0, .int .u8 0, .int .u8 0, .int .u8 0, .int .u8 0, .int .u8 0, .int .u8 0, .int .u8 0, .int .u8 0, .int .u8 0, .int .u8 0, .int .u8 0, .int .u8 0, .int .u8 0, .int .u8 0, .int .u8 0, .int .u8 0, .int .u8 0, .int .u8 0, .int .u8 0, .int .u8 0, .int .u8 0] 23 (fun q3_1 => ⟨#[(.agg (kc (digs (A : Int) 32))), (.agg (kc (digs (B : Int) 32))), (.agg (kc (digs (C : Int) 32))), (.pointer (some ⟨w.heap.size, 0, none⟩)), (.pointer (some ⟨w.heap.size + 1, 0, none⟩)), (.pointer (some ⟨w.heap.size + 1 + 1, 0, none⟩)), (.bool false), q3_1, undef, (.bool true), (.bool false), (.agg (kc (digs (A : Int) 32))), (.agg (kc (digs (B : Int) 32))), (.agg (kc (digs (C : Int) 32))), undef, undef, undef, undef, undef, undef, undef, undef, undef, undef, undef, undef, undef, undef, undef, undef, undef, undef, undef, undef, undef, undef], []⟩) (fun b3_1 => #[true, true, true, false, false, false, b3_1, false]) 6 3 false hSf (by kernel_rfl) (fun _ => rfl) ?_ ?_ ⟨false, undef, 0, M1.start _ _ _ _ _⟩
  · intro q3_1 x K hK
    refine wpOp_step (o := _) rfl (fun K' hK' => ?_)
    replace hK' := hide hK'
    replace hK := hide hK
    go_simp
    exact unhide hK' _ _ (unhide hK)
  intro b3_1 q3_1 g3_1 v2_ hM _
  refine wpOp_step (o := _) rfl (fun K' hK' => ?_)
  replace hK' := hide hK'
  refine step_callw (by kernel_rfl) 13 #[.agg (kc (digs (C : Int) 32))] (by kernel_rfl) ((public_n C _).mono ?_)
  rintro r v3_ ⟨n1, rfl, hn1, hg⟩
  refine ⟨_, rfl, ?_⟩
  have hM' := hM.go (A' := (fun q3_1 => ⟨#[(.agg (kc (digs (A : Int) 32))), (.agg (kc (digs (B : Int) 32))), (.agg (kc (digs (C : Int) 32))), (.pointer (some ⟨w.heap.size, 0, none⟩)), (.pointer (some ⟨w.heap.size + 1, 0, none⟩)), (.pointer (some ⟨w.heap.size + 1 + 1, 0, none⟩)), (.bool false), q3_1, undef, (.bool true), (.bool false), (.agg (kc (digs (A : Int) 32))), (.agg (kc (digs (B : Int) 32))), (.agg (kc (digs (C : Int) 32))), (.agg (kc (digs (n1 : Int) 32))), undef, undef, undef, undef, undef, undef, undef, undef, undef, undef, undef, undef, undef, undef, undef, undef, undef, undef, undef, undef, undef], []⟩)) (F' := (fun b3_1 => #[true, true, true, true, false, false, b3_1, false])) hg
  refine unhide hK' _ _ ⟨hSf _ hM'.gr, ?_⟩
  clear hK' K' hM hg
  simp only [Act.put, List.setIfInBounds_toArray, List.set_cons_zero, List.set_cons_succ, List.getElem_toArray, List.getElem_cons_zero, List.getElem_cons_succ]
  refine stage1 v1_ #[.int .u8 0, .int .u8 0, .int .u8 0, .int .u8 0, .int .u8 0, .int .u8 0, .int .u8 0, .int .u8 0, .int .u8 0, .int .u8 0, .int .u8 0, .int .u8 0, .int .u8 0, .int .u8 0, .int .u8 0, .int .u8 0, .int .u8 0, .int .u8 0, .int .u8 0, .int .u8 0, .int .u8 0, .int .u8 0, .int .u8 0, .int .u8 0, .int .u8 0, .int .u8 0, .int .u8 0, .int .u8 0, .int .u8 0, .int .u8 0, .int .u8 0, .int .u8 0] 23 (fun q3_1 => ⟨#[(.agg (kc (digs (A : Int) 32))), (.agg (kc (digs (B : Int) 32))), (.agg (kc (digs (C : Int) 32))), (.pointer (some ⟨w.heap.size, 0, none⟩)), (.pointer (some ⟨w.heap.size + 1, 0, none⟩)), (.pointer (some ⟨w.heap.size + 1 + 1, 0, none⟩)), (.bool false), q3_1, undef, (.bool true), (.bool false), (.agg (kc (digs (A : Int) 32))), (.agg (kc (digs (B : Int) 32))), (.agg (kc (digs (C : Int) 32))), (.agg (kc (digs (n1 : Int) 32))), undef, undef, undef, undef, undef, undef, undef, undef, undef, undef, undef, undef, undef, undef, undef, undef, undef, undef, undef, undef, undef], []⟩) (fun b3_1 => #[true, true, true, true, false, false, b3_1, false]) 6 4 false hSf (by kernel_rfl) (fun _ => rfl) ?_ ?_ ⟨b3_1, q3_1, g3_1, hM'.go (Gr.refl _)⟩
  · intro q3_1 x K hK
    refine wpOp_step (o := _) rfl (fun K' hK' => ?_)
    replace hK' := hide hK'
    replace hK := hide hK
    go_simp
    exact unhide hK' _ _ (unhide hK)
  clear hM'
  intro b3_1 q3_1 g3_1 v4_ hM _
  refine wpOp_step (o := _) rfl (fun K' hK' => ?_)
  replace hK' := hide hK'
  refine step_callw (by kernel_rfl) 7 #[.agg (kc (digs (B : Int) 32)), .agg (kc (digs (n1 : Int) 32))] (by kernel_rfl) ((x_n B n1 _).mono ?_)
  rintro r v5_ ⟨n2, rfl, hn2, hg⟩
  refine ⟨_, rfl, ?_⟩
  have hM' := hM.go (A' := (fun q3_1 => ⟨#[(.agg (kc (digs (A : Int) 32))), (.agg (kc (digs (B : Int) 32))), (.agg (kc (digs (C : Int) 32))), (.pointer (some ⟨w.heap.size, 0, none⟩)), (.pointer (some ⟨w.heap.size + 1, 0, none⟩)), (.pointer (some ⟨w.heap.size + 1 + 1, 0, none⟩)), (.bool false), q3_1, undef, (.bool true), (.bool false), (.agg (kc (digs (A : Int) 32))), (.agg (kc (digs (B : Int) 32))), (.agg (kc (digs (C : Int) 32))), (.agg (kc (digs (n1 : Int) 32))), (.agg (kc (digs (n2 : Int) 32))), undef, undef, undef, undef, undef, undef, undef, undef, undef, undef, undef, undef, undef, undef, undef, undef, undef, undef, undef, undef], []⟩)) (F' := (fun b3_1 => #[true, true, true, true, true, false, b3_1, false])) hg
  refine unhide hK' _ _ ⟨hSf _ hM'.gr, ?_⟩
  clear hK' K' hM hg
  simp only [Act.put, List.setIfInBounds_toArray, List.set_cons_zero, List.set_cons_succ, List.getElem_toArray, List.getElem_cons_zero, List.getElem_cons_succ]
  refine stage1 v1_ #[.int .u8 0, .int .u8 0, .int .u8 0, .int .u8 0, .int .u8 0, .int .u8 0, .int .u8 0, .int .u8 0, .int .u8 0, .int .u8 0, .int .u8 0, .int .u8 0, .int .u8 0, .int .u8 0, .int .u8 0, .int .u8 0, .int .u8 0, .int .u8 0, .int .u8 0, .int .u8 0, .int .u8 0, .int .u8 0, .int .u8 0, .int .u8 0, .int .u8 0, .int .u8 0, .int .u8 0, .int .u8 0, .int .u8 0, .int .u8 0, .int .u8 0, .int .u8 0] 23 (fun q3_1 => ⟨#[(.agg (kc (digs (A : Int) 32))), (.agg (kc (digs (B : Int) 32))), (.agg (kc (digs (C : Int) 32))), (.pointer (some ⟨w.heap.size, 0, none⟩)), (.pointer (some ⟨w.heap.size + 1, 0, none⟩)), (.pointer (some ⟨w.heap.size + 1 + 1, 0, none⟩)), (.bool false), q3_1, undef, (.bool true), (.bool false), (.agg (kc (digs (A : Int) 32))), (.agg (kc (digs (B : Int) 32))), (.agg (kc (digs (C : Int) 32))), (.agg (kc (digs (n1 : Int) 32))), (.agg (kc (digs (n2 : Int) 32))), undef, undef, undef, undef, undef, undef, undef, undef, undef, undef, undef, undef, undef, undef, undef, undef, undef, undef, undef, undef], []⟩) (fun b3_1 => #[true, true, true, true, true, false, b3_1, false]) 6 5 false hSf (by kernel_rfl) (fun _ => rfl) ?_ ?_ ⟨b3_1, q3_1, g3_1, hM'.go (Gr.refl _)⟩
  · intro q3_1 x K hK
    refine wpOp_step (o := _) rfl (fun K' hK' => ?_)
    replace hK' := hide hK'
    replace hK := hide hK
    go_simp
    exact unhide hK' _ _ (unhide hK)
  clear hM'
  intro b3_1 q3_1 g3_1 v6_ hM _
  refine wpOp_step (o := _) rfl (fun K' hK' => ?_)
  replace hK' := hide hK'
  refine step_callw (by kernel_rfl) 7 #[.agg (kc (digs (A : Int) 32)), .agg (kc (digs (n2 : Int) 32))] (by kernel_rfl) ((x_n A n2 _).mono ?_)
  rintro r v7_ ⟨n3, rfl, hn3, hg⟩
  refine ⟨_, rfl, ?_⟩
  have hM' := hM.go (A' := (fun q3_1 => ⟨#[(.agg (kc (digs (A : Int) 32))), (.agg (kc (digs (B : Int) 32))), (.agg (kc (digs (C : Int) 32))), (.pointer (some ⟨w.heap.size, 0, none⟩)), (.pointer (some ⟨w.heap.size + 1, 0, none⟩)), (.pointer (some ⟨w.heap.size + 1 + 1, 0, none⟩)), (.bool false), q3_1, undef, (.bool true), (.bool false), (.agg (kc (digs (A : Int) 32))), (.agg (kc (digs (B : Int) 32))), (.agg (kc (digs (C : Int) 32))), (.agg (kc (digs (n1 : Int) 32))), (.agg (kc (digs (n2 : Int) 32))), (.agg (kc (digs (n3 : Int) 32))), undef, undef, undef, undef, undef, undef, undef, undef, undef, undef, undef, undef, undef, undef, undef, undef, undef, undef, undef], []⟩)) (F' := (fun b3_1 => #[true, true, true, true, true, true, b3_1, false])) hg
  refine unhide hK' _ _ ⟨hSf _ hM'.gr, ?_⟩
  clear hK' K' hM hg
  simp only [Act.put, List.setIfInBounds_toArray, List.set_cons_zero, List.set_cons_succ, List.getElem_toArray, List.getElem_cons_zero, List.getElem_cons_succ]
  refine stage1 v1_ #[.int .u8 0, .int .u8 0, .int .u8 0, .int .u8 0, .int .u8 0, .int .u8 0, .int .u8 0, .int .u8 0, .int .u8 0, .int .u8 0, .int .u8 0, .int .u8 0, .int .u8 0, .int .u8 0, .int .u8 0, .int .u8 0, .int .u8 0, .int .u8 0, .int .u8 0, .int .u8 0, .int .u8 0, .int .u8 0, .int .u8 0, .int .u8 0, .int .u8 0, .int .u8 0, .int .u8 0, .int .u8 0, .int .u8 0, .int .u8 0, .int .u8 0, .int .u8 0] 23 (fun q3_1 => ⟨#[(.agg (kc (digs (A : Int) 32))), (.agg (kc (digs (B : Int) 32))), (.agg (kc (digs (C : Int) 32))), (.pointer (some ⟨w.heap.size, 0, none⟩)), (.pointer (some ⟨w.heap.size + 1, 0, none⟩)), (.pointer (some ⟨w.heap.size + 1 + 1, 0, none⟩)), (.bool false), q3_1, undef, (.bool true), (.bool false), (.agg (kc (digs (A : Int) 32))), (.agg (kc (digs (B : Int) 32))), (.agg (kc (digs (C : Int) 32))), (.agg (kc (digs (n1 : Int) 32))), (.agg (kc (digs (n2 : Int) 32))), (.agg (kc (digs (n3 : Int) 32))), undef, undef, undef, undef, undef, undef, undef, undef, undef, undef, undef, undef, undef, undef, undef, undef, undef, undef, undef], []⟩) (fun b3_1 => #[true, true, true, true, true, true, b3_1, false]) 6 7 true hSf (by kernel_rfl) (fun _ => rfl) ?_ ?_ ⟨b3_1, q3_1, g3_1, hM'.go (Gr.refl _)⟩
  · intro q3_1 x K hK
    refine wpOp_step (o := _) rfl (fun K' hK' => ?_)
    replace hK' := hide hK'
    replace hK := hide hK
    go_simp
    exact unhide hK' _ _ (unhide hK)
  clear hM'
  intro b3_1 q3_1 g3_1 v8_ hM hall
  obtain rfl := hall rfl
  obtain ⟨rfl, hB'⟩ := hM.all hB
  replace hB := hB'
  clear hB' hM hall
  simp only [List.cons_append, List.nil_append] at hB
  replace hB : Bl w [⟨w.heap.size, (kc (digs (A : Int) 32)), 23⟩, ⟨w.heap.size + 1, (kc (digs (B : Int) 32)), 23⟩, ⟨w.heap.size + 1 + 1, (kc (digs (C : Int) 32)), 23⟩, ⟨g3_1, Z32, 23⟩] v8_ := hB
  refine wpOp_step (o := _) rfl (fun K' hK' => ?_)
  replace hK' := hide hK'
  rw [if_pos (by kernel_rfl)]
  refine wp_store_row 23 (.tmp 7) (.tmp 16) rfl g3_1 (kc (digs (n3 : Int) 32)) (by kernel_rfl) (by kernel_rfl) 23 Z32 (hB.get 3 (x := ⟨g3_1, Z32, 23⟩) rfl) (by rw [Try.infoKey, kc32]) (Z32_size.trans (kc32 (n3 : Int) 32).symm) (kc_one _) ?_
  replace hB := hB.set 3 (x := ⟨g3_1, Z32, 23⟩) rfl (kc (digs (n3 : Int) 32))
  simp only [List.set_cons_zero, List.set_cons_succ] at hB
  refine unhide hK' _ _ ⟨⟨(hB.get 0 (x := ⟨w.heap.size, (kc (digs (A : Int) 32)), 23⟩) rfl), (hB.get 1 (x := ⟨w.heap.size + 1, (kc (digs (B : Int) 32)), 23⟩) rfl), (hB.get 2 (x := ⟨w.heap.size + 1 + 1, (kc (digs (C : Int) 32)), 23⟩) rfl), trivial⟩, ?_⟩
  clear hK' K' hSf
  generalize World.setRow _ _ _ = v9_ at *
  simp only [Act.put, List.setIfInBounds_toArray, List.set_cons_zero, List.set_cons_succ, List.getElem_toArray, List.getElem_cons_zero, List.getElem_cons_succ]
  refine any_done (by kernel_rfl) ?_
  go_upto_region 4 with fail
  refine any_start (S := fun v => v.heap[w.heap.size]? = some (.cells (kc (digs (A : Int) 32)) 23 (0, 0)) ∧ v.heap[w.heap.size + 1]? = some (.cells (kc (digs (B : Int) 32)) 23 (0, 0)) ∧ v.heap[w.heap.size + 1 + 1]? = some (.cells (kc (digs (C : Int) 32)) 23 (0, 0)) ∧ True) (by kernel_rfl) ?_
  replace hB := hB.drew
  generalize World.drew _ = v10_ at *
  simp only [List.size_toArray, List.length_cons, List.length_nil, Array.replicate, List.replicate]
  refine any_take (i := 0) (v := (.agg (kc (digs (C : Int) 32)))) #[false, false, false, false, false, false, false, false] rfl (by kernel_rfl) (by kernel_rfl) (by kernel_rfl) (by kernel_rfl) (fun _ _ _ h => h) (.inl ⟨by kernel_rfl, fun x hu => exec_arr x 23 (.tmp 5) rfl (w.heap.size + 1 + 1) (by kernel_rfl) (kc (digs (C : Int) 32)) 23 _ hu.2.2.1 Try.underlying23 rfl (by rw [Try.infoKey, kc32])⟩) ⟨(hB.get 0 (x := ⟨w.heap.size, (kc (digs (A : Int) 32)), 23⟩) rfl), (hB.get 1 (x := ⟨w.heap.size + 1, (kc (digs (B : Int) 32)), 23⟩) rfl), (hB.get 2 (x := ⟨w.heap.size + 1 + 1, (kc (digs (C : Int) 32)), 23⟩) rfl), trivial⟩ ?_
  simp only [Act.put, List.setIfInBounds_toArray, List.set_cons_zero, List.set_cons_succ, List.getElem_toArray, List.getElem_cons_zero, List.getElem_cons_succ]
  refine any_take (i := 1) (v := (.agg (kc (digs (A : Int) 32)))) #[true, false, false, false, false, false, false, false] rfl (by kernel_rfl) (by kernel_rfl) (by kernel_rfl) (by kernel_rfl) (fun _ _ _ h => h) (.inl ⟨by kernel_rfl, fun x hu => exec_arr x 23 (.tmp 3) rfl w.heap.size (by kernel_rfl) (kc (digs (A : Int) 32)) 23 _ hu.1 Try.underlying23 rfl (by rw [Try.infoKey, kc32])⟩) ⟨(hB.get 0 (x := ⟨w.heap.size, (kc (digs (A : Int) 32)), 23⟩) rfl), (hB.get 1 (x := ⟨w.heap.size + 1, (kc (digs (B : Int) 32)), 23⟩) rfl), (hB.get 2 (x := ⟨w.heap.size + 1 + 1, (kc (digs (C : Int) 32)), 23⟩) rfl), trivial⟩ ?_
  simp only [Act.put, List.setIfInBounds_toArray, List.set_cons_zero, List.set_cons_succ, List.getElem_toArray, List.getElem_cons_zero, List.getElem_cons_succ]
  refine any_take (i := 2) (v := (.agg (kc (digs (B : Int) 32)))) #[true, true, false, false, false, false, false, false] rfl (by kernel_rfl) (by kernel_rfl) (by kernel_rfl) (by kernel_rfl) (fun _ _ _ h => h) (.inl ⟨by kernel_rfl, fun x hu => exec_arr x 23 (.tmp 4) rfl (w.heap.size + 1) (by kernel_rfl) (kc (digs (B : Int) 32)) 23 _ hu.2.1 Try.underlying23 rfl (by rw [Try.infoKey, kc32])⟩) ⟨(hB.get 0 (x := ⟨w.heap.size, (kc (digs (A : Int) 32)), 23⟩) rfl), (hB.get 1 (x := ⟨w.heap.size + 1, (kc (digs (B : Int) 32)), 23⟩) rfl), (hB.get 2 (x := ⟨w.heap.size + 1 + 1, (kc (digs (C : Int) 32)), 23⟩) rfl), trivial⟩ ?_
  simp only [Act.put, List.setIfInBounds_toArray, List.set_cons_zero, List.set_cons_succ, List.getElem_toArray, List.getElem_cons_zero, List.getElem_cons_succ]
  have hSf : ∀ v, Gr v10_ v → (fun v => v.heap[w.heap.size]? = some (.cells (kc (digs (A : Int) 32)) 23 (0, 0)) ∧ v.heap[w.heap.size + 1]? = some (.cells (kc (digs (B : Int) 32)) 23 (0, 0)) ∧ v.heap[w.heap.size + 1 + 1]? = some (.cells (kc (digs (C : Int) 32)) 23 (0, 0)) ∧ True) v := fun v k => ⟨k.blk (hB.get 0 (x := ⟨w.heap.size, (kc (digs (A : Int) 32)), 23⟩) rfl), k.blk (hB.get 1 (x := ⟨w.heap.size + 1, (kc (digs (B : Int) 32)), 23⟩) rfl), k.blk (hB.get 2 (x := ⟨w.heap.size + 1 + 1, (kc (digs (C : Int) 32)), 23⟩) rfl), trivial⟩
  refine stage1 v10_ #[.int .u8 0, .int .u8 0, .int .u8 0, .int .u8 0, .int .u8 0, .int .u8 0, .int .u8 0, .int .u8 0, .int .u8 0, .int .u8 0, .int .u8 0, .int .u8 0, .int .u8 0, .int .u8 0, .int .u8 0, .int .u8 0, .int .u8 0, .int .u8 0, .int .u8 0, .int .u8 0, .int .u8 0, .int .u8 0, .int .u8 0, .int .u8 0, .int .u8 0, .int .u8 0, .int .u8 0, .int .u8 0, .int .u8 0, .int .u8 0, .int .u8 0, .int .u8 0] 23 (fun q4_1 => ⟨#[(.agg (kc (digs (A : Int) 32))), (.agg (kc (digs (B : Int) 32))), (.agg (kc (digs (C : Int) 32))), (.pointer (some ⟨w.heap.size, 0, none⟩)), (.pointer (some ⟨w.heap.size + 1, 0, none⟩)), (.pointer (some ⟨w.heap.size + 1 + 1, 0, none⟩)), (.bool false), (.pointer (some ⟨g3_1, 0, none⟩)), q4_1, (.bool true), (.bool false), (.agg (kc (digs (A : Int) 32))), (.agg (kc (digs (B : Int) 32))), (.agg (kc (digs (C : Int) 32))), (.agg (kc (digs (n1 : Int) 32))), (.agg (kc (digs (n2 : Int) 32))), (.agg (kc (digs (n3 : Int) 32))), (.agg (kc (digs (C : Int) 32))), (.agg (kc (digs (A : Int) 32))), (.agg (kc (digs (B : Int) 32))), undef, undef, undef, undef, undef, undef, undef, undef, undef, undef, undef, undef, undef, undef, undef, undef], []⟩) (fun b4_1 => #[true, true, true, false, false, false, b4_1, false]) 6 3 false hSf (by kernel_rfl) (fun _ => rfl) ?_ ?_ ⟨false, undef, 0, M1.start _ _ _ _ _⟩
  · intro q4_1 x K hK
    refine wpOp_step (o := _) rfl (fun K' hK' => ?_)
    replace hK' := hide hK'
    replace hK := hide hK
    go_simp
    exact unhide hK' _ _ (unhide hK)
  intro b4_1 q4_1 g4_1 v11_ hM _
  refine wpOp_step (o := _) rfl (fun K' hK' => ?_)
  replace hK' := hide hK'
  refine step_callw (by kernel_rfl) 13 #[.agg (kc (digs (B : Int) 32))] (by kernel_rfl) ((public_n B _).mono ?_)
  rintro r v12_ ⟨n4, rfl, hn4, hg⟩
  refine ⟨_, rfl, ?_⟩
  have hM' := hM.go (A' := (fun q4_1 => ⟨#[(.agg (kc (digs (A : Int) 32))), (.agg (kc (digs (B : Int) 32))), (.agg (kc (digs (C : Int) 32))), (.pointer (some ⟨w.heap.size, 0, none⟩)), (.pointer (some ⟨w.heap.size + 1, 0, none⟩)), (.pointer (some ⟨w.heap.size + 1 + 1, 0, none⟩)), (.bool false), (.pointer (some ⟨g3_1, 0, none⟩)), q4_1, (.bool true), (.bool false), (.agg (kc (digs (A : Int) 32))), (.agg (kc (digs (B : Int) 32))), (.agg (kc (digs (C : Int) 32))), (.agg (kc (digs (n1 : Int) 32))), (.agg (kc (digs (n2 : Int) 32))), (.agg (kc (digs (n3 : Int) 32))), (.agg (kc (digs (C : Int) 32))), (.agg (kc (digs (A : Int) 32))), (.agg (kc (digs (B : Int) 32))), (.agg (kc (digs (n4 : Int) 32))), undef, undef, undef, undef, undef, undef, undef, undef, undef, undef, undef, undef, undef, undef, undef], []⟩)) (F' := (fun b4_1 => #[true, true, true, true, false, false, b4_1, false])) hg
  refine unhide hK' _ _ ⟨hSf _ hM'.gr, ?_⟩
  clear hK' K' hM hg
  simp only [Act.put, List.setIfInBounds_toArray, List.set_cons_zero, List.set_cons_succ, List.getElem_toArray, List.getElem_cons_zero, List.getElem_cons_succ]
  refine stage1 v10_ #[.int .u8 0, .int .u8 0, .int .u8 0, .int .u8 0, .int .u8 0, .int .u8 0, .int .u8 0, .int .u8 0, .int .u8 0, .int .u8 0, .int .u8 0, .int .u8 0, .int .u8 0, .int .u8 0, .int .u8 0, .int .u8 0, .int .u8 0, .int .u8 0, .int .u8 0, .int .u8 0, .int .u8 0, .int .u8 0, .int .u8 0, .int .u8 0, .int .u8 0, .int .u8 0, .int .u8 0, .int .u8 0, .int .u8 0, .int .u8 0, .int .u8 0, .int .u8 0] 23 (fun q4_1 => ⟨#[(.agg (kc (digs (A : Int) 32))), (.agg (kc (digs (B : Int) 32))), (.agg (kc (digs (C : Int) 32))), (.pointer (some ⟨w.heap.size, 0, none⟩)), (.pointer (some ⟨w.heap.size + 1, 0, none⟩)), (.pointer (some ⟨w.heap.size + 1 + 1, 0, none⟩)), (.bool false), (.pointer (some ⟨g3_1, 0, none⟩)), q4_1, (.bool true), (.bool false), (.agg (kc (digs (A : Int) 32))), (.agg (kc (digs (B : Int) 32))), (.agg (kc (digs (C : Int) 32))), (.agg (kc (digs (n1 : Int) 32))), (.agg (kc (digs (n2 : Int) 32))), (.agg (kc (digs (n3 : Int) 32))), (.agg (kc (digs (C : Int) 32))), (.agg (kc (digs (A : Int) 32))), (.agg (kc (digs (B : Int) 32))), (.agg (kc (digs (n4 : Int) 32))), undef, undef, undef, undef, undef, undef, undef, undef, undef, undef, undef, undef, undef, undef, undef], []⟩) (fun b4_1 => #[true, true, true, true, false, false, b4_1, false]) 6 4 false hSf (by kernel_rfl) (fun _ => rfl) ?_ ?_ ⟨b4_1, q4_1, g4_1, hM'.go (Gr.refl _)⟩
  · intro q4_1 x K hK
    refine wpOp_step (o := _) rfl (fun K' hK' => ?_)
    replace hK' := hide hK'
    replace hK := hide hK
    go_simp
    exact unhide hK' _ _ (unhide hK)
  clear hM'
  intro b4_1 q4_1 g4_1 v13_ hM _
  refine wpOp_step (o := _) rfl (fun K' hK' => ?_)
  replace hK' := hide hK'
  refine step_callw (by kernel_rfl) 7 #[.agg (kc (digs (A : Int) 32)), .agg (kc (digs (n4 : Int) 32))] (by kernel_rfl) ((x_n A n4 _).mono ?_)
  rintro r v14_ ⟨n5, rfl, hn5, hg⟩
  refine ⟨_, rfl, ?_⟩
  have hM' := hM.go (A' := (fun q4_1 => ⟨#[(.agg (kc (digs (A : Int) 32))), (.agg (kc (digs (B : Int) 32))), (.agg (kc (digs (C : Int) 32))), (.pointer (some ⟨w.heap.size, 0, none⟩)), (.pointer (some ⟨w.heap.size + 1, 0, none⟩)), (.pointer (some ⟨w.heap.size + 1 + 1, 0, none⟩)), (.bool false), (.pointer (some ⟨g3_1, 0, none⟩)), q4_1, (.bool true), (.bool false), (.agg (kc (digs (A : Int) 32))), (.agg (kc (digs (B : Int) 32))), (.agg (kc (digs (C : Int) 32))), (.agg (kc (digs (n1 : Int) 32))), (.agg (kc (digs (n2 : Int) 32))), (.agg (kc (digs (n3 : Int) 32))), (.agg (kc (digs (C : Int) 32))), (.agg (kc (digs (A : Int) 32))), (.agg (kc (digs (B : Int) 32))), (.agg (kc (digs (n4 : Int) 32))), (.agg (kc (digs (n5 : Int) 32))), undef, undef, undef, undef, undef, undef, undef, undef, undef, undef, undef, undef, undef, undef], []⟩)) (F' := (fun b4_1 => #[true, true, true, true, true, false, b4_1, false])) hg
  refine unhide hK' _ _ ⟨hSf _ hM'.gr, ?_⟩
  clear hK' K' hM hg
  simp only [Act.put, List.setIfInBounds_toArray, List.set_cons_zero, List.set_cons_succ, List.getElem_toArray, List.getElem_cons_zero, List.getElem_cons_succ]
  refine stage1 v10_ #[.int .u8 0, .int .u8 0, .int .u8 0, .int .u8 0, .int .u8 0, .int .u8 0, .int .u8 0, .int .u8 0, .int .u8 0, .int .u8 0, .int .u8 0, .int .u8 0, .int .u8 0, .int .u8 0, .int .u8 0, .int .u8 0, .int .u8 0, .int .u8 0, .int .u8 0, .int .u8 0, .int .u8 0, .int .u8 0, .int .u8 0, .int .u8 0, .int .u8 0, .int .u8 0, .int .u8 0, .int .u8 0, .int .u8 0, .int .u8 0, .int .u8 0, .int .u8 0] 23 (fun q4_1 => ⟨#[(.agg (kc (digs (A : Int) 32))), (.agg (kc (digs (B : Int) 32))), (.agg (kc (digs (C : Int) 32))), (.pointer (some ⟨w.heap.size, 0, none⟩)), (.pointer (some ⟨w.heap.size + 1, 0, none⟩)), (.pointer (some ⟨w.heap.size + 1 + 1, 0, none⟩)), (.bool false), (.pointer (some ⟨g3_1, 0, none⟩)), q4_1, (.bool true), (.bool false), (.agg (kc (digs (A : Int) 32))), (.agg (kc (digs (B : Int) 32))), (.agg (kc (digs (C : Int) 32))), (.agg (kc (digs (n1 : Int) 32))), (.agg (kc (digs (n2 : Int) 32))), (.agg (kc (digs (n3 : Int) 32))), (.agg (kc (digs (C : Int) 32))), (.agg (kc (digs (A : Int) 32))), (.agg (kc (digs (B : Int) 32))), (.agg (kc (digs (n4 : Int) 32))), (.agg (kc (digs (n5 : Int) 32))), undef, undef, undef, undef, undef, undef, undef, undef, undef, undef, undef, undef, undef, undef], []⟩) (fun b4_1 => #[true, true, true, true, true, false, b4_1, false]) 6 5 false hSf (by kernel_rfl) (fun _ => rfl) ?_ ?_ ⟨b4_1, q4_1, g4_1, hM'.go (Gr.refl _)⟩
  · intro q4_1 x K hK
    refine wpOp_step (o := _) rfl (fun K' hK' => ?_)
    replace hK' := hide hK'
    replace hK := hide hK
    go_simp
    exact unhide hK' _ _ (unhide hK)
  clear hM'
  intro b4_1 q4_1 g4_1 v15_ hM _
  refine wpOp_step (o := _) rfl (fun K' hK' => ?_)
  replace hK' := hide hK'
  refine step_callw (by kernel_rfl) 7 #[.agg (kc (digs (C : Int) 32)), .agg (kc (digs (n5 : Int) 32))] (by kernel_rfl) ((x_n C n5 _).mono ?_)
  rintro r v16_ ⟨n6, rfl, hn6, hg⟩
  refine ⟨_, rfl, ?_⟩
  have en6 : n6 = n3 := by
    rw [unhide hn6, unhide hn5, unhide hn4, unhide hn3, unhide hn2, unhide hn1]
    exact three1 A B C
  rw [en6]
  have hM' := hM.go (A' := (fun q4_1 => ⟨#[(.agg (kc (digs (A : Int) 32))), (.agg (kc (digs (B : Int) 32))), (.agg (kc (digs (C : Int) 32))), (.pointer (some ⟨w.heap.size, 0, none⟩)), (.pointer (some ⟨w.heap.size + 1, 0, none⟩)), (.pointer (some ⟨w.heap.size + 1 + 1, 0, none⟩)), (.bool false), (.pointer (some ⟨g3_1, 0, none⟩)), q4_1, (.bool true), (.bool false), (.agg (kc (digs (A : Int) 32))), (.agg (kc (digs (B : Int) 32))), (.agg (kc (digs (C : Int) 32))), (.agg (kc (digs (n1 : Int) 32))), (.agg (kc (digs (n2 : Int) 32))), (.agg (kc (digs (n3 : Int) 32))), (.agg (kc (digs (C : Int) 32))), (.agg (kc (digs (A : Int) 32))), (.agg (kc (digs (B : Int) 32))), (.agg (kc (digs (n4 : Int) 32))), (.agg (kc (digs (n5 : Int) 32))), (.agg (kc (digs (n3 : Int) 32))), undef, undef, undef, undef, undef, undef, undef, undef, undef, undef, undef, undef, undef], []⟩)) (F' := (fun b4_1 => #[true, true, true, true, true, true, b4_1, false])) hg
  refine unhide hK' _ _ ⟨hSf _ hM'.gr, ?_⟩
  clear hK' K' hM hg
  simp only [Act.put, List.setIfInBounds_toArray, List.set_cons_zero, List.set_cons_succ, List.getElem_toArray, List.getElem_cons_zero, List.getElem_cons_succ]
  refine stage1 v10_ #[.int .u8 0, .int .u8 0, .int .u8 0, .int .u8 0, .int .u8 0, .int .u8 0, .int .u8 0, .int .u8 0, .int .u8 0, .int .u8 0, .int .u8 0, .int .u8 0, .int .u8 0, .int .u8 0, .int .u8 0, .int .u8 0, .int .u8 0, .int .u8 0, .int .u8 0, .int .u8 0, .int .u8 0, .int .u8 0, .int .u8 0, .int .u8 0, .int .u8 0, .int .u8 0, .int .u8 0, .int .u8 0, .int .u8 0, .int .u8 0, .int .u8 0, .int .u8 0] 23 (fun q4_1 => ⟨#[(.agg (kc (digs (A : Int) 32))), (.agg (kc (digs (B : Int) 32))), (.agg (kc (digs (C : Int) 32))), (.pointer (some ⟨w.heap.size, 0, none⟩)), (.pointer (some ⟨w.heap.size + 1, 0, none⟩)), (.pointer (some ⟨w.heap.size + 1 + 1, 0, none⟩)), (.bool false), (.pointer (some ⟨g3_1, 0, none⟩)), q4_1, (.bool true), (.bool false), (.agg (kc (digs (A : Int) 32))), (.agg (kc (digs (B : Int) 32))), (.agg (kc (digs (C : Int) 32))), (.agg (kc (digs (n1 : Int) 32))), (.agg (kc (digs (n2 : Int) 32))), (.agg (kc (digs (n3 : Int) 32))), (.agg (kc (digs (C : Int) 32))), (.agg (kc (digs (A : Int) 32))), (.agg (kc (digs (B : Int) 32))), (.agg (kc (digs (n4 : Int) 32))), (.agg (kc (digs (n5 : Int) 32))), (.agg (kc (digs (n3 : Int) 32))), undef, undef, undef, undef, undef, undef, undef, undef, undef, undef, undef, undef, undef], []⟩) (fun b4_1 => #[true, true, true, true, true, true, b4_1, false]) 6 7 true hSf (by kernel_rfl) (fun _ => rfl) ?_ ?_ ⟨b4_1, q4_1, g4_1, hM'.go (Gr.refl _)⟩
  · intro q4_1 x K hK
    refine wpOp_step (o := _) rfl (fun K' hK' => ?_)
    replace hK' := hide hK'
    replace hK := hide hK
    go_simp
    exact unhide hK' _ _ (unhide hK)
  clear hM'
  intro b4_1 q4_1 g4_1 v17_ hM hall
  obtain rfl := hall rfl
  obtain ⟨rfl, hB'⟩ := hM.all hB
  replace hB := hB'
  clear hB' hM hall
  simp only [List.cons_append, List.nil_append] at hB
  replace hB : Bl w [⟨w.heap.size, (kc (digs (A : Int) 32)), 23⟩, ⟨w.heap.size + 1, (kc (digs (B : Int) 32)), 23⟩, ⟨w.heap.size + 1 + 1, (kc (digs (C : Int) 32)), 23⟩, ⟨g3_1, (kc (digs (n3 : Int) 32)), 23⟩, ⟨g4_1, Z32, 23⟩] v17_ := hB
  refine wpOp_step (o := _) rfl (fun K' hK' => ?_)
  replace hK' := hide hK'
  rw [if_pos (by kernel_rfl)]
  refine wp_store_row 23 (.tmp 8) (.tmp 22) rfl g4_1 (kc (digs (n3 : Int) 32)) (by kernel_rfl) (by kernel_rfl) 23 Z32 (hB.get 4 (x := ⟨g4_1, Z32, 23⟩) rfl) (by rw [Try.infoKey, kc32]) (Z32_size.trans (kc32 (n3 : Int) 32).symm) (kc_one _) ?_
  replace hB := hB.set 4 (x := ⟨g4_1, Z32, 23⟩) rfl (kc (digs (n3 : Int) 32))
  simp only [List.set_cons_zero, List.set_cons_succ] at hB
  refine unhide hK' _ _ ⟨⟨(hB.get 0 (x := ⟨w.heap.size, (kc (digs (A : Int) 32)), 23⟩) rfl), (hB.get 1 (x := ⟨w.heap.size + 1, (kc (digs (B : Int) 32)), 23⟩) rfl), (hB.get 2 (x := ⟨w.heap.size + 1 + 1, (kc (digs (C : Int) 32)), 23⟩) rfl), trivial⟩, ?_⟩
  clear hK' K' hSf
  generalize World.setRow _ _ _ = v18_ at *
  simp only [Act.put, List.setIfInBounds_toArray, List.set_cons_zero, List.set_cons_succ, List.getElem_toArray, List.getElem_cons_zero, List.getElem_cons_succ]
  refine any_done (by kernel_rfl) ?_
  go_upto_region 5 with fail
  refine any_start (S := fun v => v.heap[w.heap.size]? = some (.cells (kc (digs (A : Int) 32)) 23 (0, 0)) ∧ v.heap[w.heap.size + 1]? = some (.cells (kc (digs (B : Int) 32)) 23 (0, 0)) ∧ v.heap[w.heap.size + 1 + 1]? = some (.cells (kc (digs (C : Int) 32)) 23 (0, 0)) ∧ v.heap[g3_1]? = some (.cells (kc (digs (n3 : Int) 32)) 23 (0, 0)) ∧ v.heap[g4_1]? = some (.cells (kc (digs (n3 : Int) 32)) 23 (0, 0)) ∧ True) (by kernel_rfl) ?_
  replace hB := hB.drew
  generalize World.drew _ = v19_ at *
  simp only [List.size_toArray, List.length_cons, List.length_nil, Array.replicate, List.replicate]
  refine any_take (i := 0) (v := (.agg (kc (digs (n3 : Int) 32)))) #[false, false, false, false, false, false, false, false, false, false, false, false, false, false] rfl (by kernel_rfl) (by kernel_rfl) (by kernel_rfl) (by kernel_rfl) (fun _ _ _ h => h) (.inl ⟨by kernel_rfl, fun x hu => exec_arr x 23 (.tmp 7) rfl g3_1 (by kernel_rfl) (kc (digs (n3 : Int) 32)) 23 _ hu.2.2.2.1 Try.underlying23 rfl (by rw [Try.infoKey, kc32])⟩) ⟨(hB.get 0 (x := ⟨w.heap.size, (kc (digs (A : Int) 32)), 23⟩) rfl), (hB.get 1 (x := ⟨w.heap.size + 1, (kc (digs (B : Int) 32)), 23⟩) rfl), (hB.get 2 (x := ⟨w.heap.size + 1 + 1, (kc (digs (C : Int) 32)), 23⟩) rfl), (hB.get 3 (x := ⟨g3_1, (kc (digs (n3 : Int) 32)), 23⟩) rfl), (hB.get 4 (x := ⟨g4_1, (kc (digs (n3 : Int) 32)), 23⟩) rfl), trivial⟩ ?_
  simp only [Act.put, List.setIfInBounds_toArray, List.set_cons_zero, List.set_cons_succ, List.getElem_toArray, List.getElem_cons_zero, List.getElem_cons_succ]
  refine any_take (i := 1) (v := (.agg (kc (digs (n3 : Int) 32)))) #[true, false, false, false, false, false, false, false, false, false, false, false, false, false] rfl (by kernel_rfl) (by kernel_rfl) (by kernel_rfl) (by kernel_rfl) (fun _ _ _ h => h) (.inl ⟨by kernel_rfl, fun x hu => exec_arr x 23 (.tmp 8) rfl g4_1 (by kernel_rfl) (kc (digs (n3 : Int) 32)) 23 _ hu.2.2.2.2.1 Try.underlying23 rfl (by rw [Try.infoKey, kc32])⟩) ⟨(hB.get 0 (x := ⟨w.heap.size, (kc (digs (A : Int) 32)), 23⟩) rfl), (hB.get 1 (x := ⟨w.heap.size + 1, (kc (digs (B : Int) 32)), 23⟩) rfl), (hB.get 2 (x := ⟨w.heap.size + 1 + 1, (kc (digs (C : Int) 32)), 23⟩) rfl), (hB.get 3 (x := ⟨g3_1, (kc (digs (n3 : Int) 32)), 23⟩) rfl), (hB.get 4 (x := ⟨g4_1, (kc (digs (n3 : Int) 32)), 23⟩) rfl), trivial⟩ ?_
  simp only [Act.put, List.setIfInBounds_toArray, List.set_cons_zero, List.set_cons_succ, List.getElem_toArray, List.getElem_cons_zero, List.getElem_cons_succ]
  refine any_take (i := 2) (v := (.bool true)) #[true, true, false, false, false, false, false, false, false, false, false, false, false, false] rfl (by kernel_rfl) (by kernel_rfl) (by kernel_rfl) (by kernel_rfl) (fun _ _ _ h => h) (.inl ⟨by kernel_rfl, fun x hu => by have e := key_same (n3 : Int); go_simp⟩) ⟨(hB.get 0 (x := ⟨w.heap.size, (kc (digs (A : Int) 32)), 23⟩) rfl), (hB.get 1 (x := ⟨w.heap.size + 1, (kc (digs (B : Int) 32)), 23⟩) rfl), (hB.get 2 (x := ⟨w.heap.size + 1 + 1, (kc (digs (C : Int) 32)), 23⟩) rfl), (hB.get 3 (x := ⟨g3_1, (kc (digs (n3 : Int) 32)), 23⟩) rfl), (hB.get 4 (x := ⟨g4_1, (kc (digs (n3 : Int) 32)), 23⟩) rfl), trivial⟩ ?_
  simp only [Act.put, List.setIfInBounds_toArray, List.set_cons_zero, List.set_cons_succ, List.getElem_toArray, List.getElem_cons_zero, List.getElem_cons_succ]
  refine any_take (i := 3) (v := (.bool true)) #[true, true, true, false, false, false, false, false, false, false, false, false, false, false] rfl (by kernel_rfl) (by kernel_rfl) (by kernel_rfl) (by kernel_rfl) (fun _ _ _ h => h) (.inl ⟨by kernel_rfl, fun x hu => by kernel_rfl⟩) ⟨(hB.get 0 (x := ⟨w.heap.size, (kc (digs (A : Int) 32)), 23⟩) rfl), (hB.get 1 (x := ⟨w.heap.size + 1, (kc (digs (B : Int) 32)), 23⟩) rfl), (hB.get 2 (x := ⟨w.heap.size + 1 + 1, (kc (digs (C : Int) 32)), 23⟩) rfl), (hB.get 3 (x := ⟨g3_1, (kc (digs (n3 : Int) 32)), 23⟩) rfl), (hB.get 4 (x := ⟨g4_1, (kc (digs (n3 : Int) 32)), 23⟩) rfl), trivial⟩ ?_
  simp only [Act.put, List.setIfInBounds_toArray, List.set_cons_zero, List.set_cons_succ, List.getElem_toArray, List.getElem_cons_zero, List.getElem_cons_succ]
  refine any_take (i := 4) (v := (.agg (kc (digs (n3 : Int) 32)))) #[true, true, true, true, false, false, false, false, false, false, false, false, false, false] rfl (by kernel_rfl) (by kernel_rfl) (by kernel_rfl) (by kernel_rfl) (fun _ _ _ h => h) (.inl ⟨by kernel_rfl, fun x hu => exec_arr x 23 (.tmp 7) rfl g3_1 (by kernel_rfl) (kc (digs (n3 : Int) 32)) 23 _ hu.2.2.2.1 Try.underlying23 rfl (by rw [Try.infoKey, kc32])⟩) ⟨(hB.get 0 (x := ⟨w.heap.size, (kc (digs (A : Int) 32)), 23⟩) rfl), (hB.get 1 (x := ⟨w.heap.size + 1, (kc (digs (B : Int) 32)), 23⟩) rfl), (hB.get 2 (x := ⟨w.heap.size + 1 + 1, (kc (digs (C : Int) 32)), 23⟩) rfl), (hB.get 3 (x := ⟨g3_1, (kc (digs (n3 : Int) 32)), 23⟩) rfl), (hB.get 4 (x := ⟨g4_1, (kc (digs (n3 : Int) 32)), 23⟩) rfl), trivial⟩ ?_
  simp only [Act.put, List.setIfInBounds_toArray, List.set_cons_zero, List.set_cons_succ, List.getElem_toArray, List.getElem_cons_zero, List.getElem_cons_succ]
  refine any_take (i := 5) (v := (.agg (kc (digs (B : Int) 32)))) #[true, true, true, true, true, false, false, false, false, false, false, false, false, false] rfl (by kernel_rfl) (by kernel_rfl) (by kernel_rfl) (by kernel_rfl) (fun _ _ _ h => h) (.inl ⟨by kernel_rfl, fun x hu => exec_arr x 23 (.tmp 4) rfl (w.heap.size + 1) (by kernel_rfl) (kc (digs (B : Int) 32)) 23 _ hu.2.1 Try.underlying23 rfl (by rw [Try.infoKey, kc32])⟩) ⟨(hB.get 0 (x := ⟨w.heap.size, (kc (digs (A : Int) 32)), 23⟩) rfl), (hB.get 1 (x := ⟨w.heap.size + 1, (kc (digs (B : Int) 32)), 23⟩) rfl), (hB.get 2 (x := ⟨w.heap.size + 1 + 1, (kc (digs (C : Int) 32)), 23⟩) rfl), (hB.get 3 (x := ⟨g3_1, (kc (digs (n3 : Int) 32)), 23⟩) rfl), (hB.get 4 (x := ⟨g4_1, (kc (digs (n3 : Int) 32)), 23⟩) rfl), trivial⟩ ?_
  simp only [Act.put, List.setIfInBounds_toArray, List.set_cons_zero, List.set_cons_succ, List.getElem_toArray, List.getElem_cons_zero, List.getElem_cons_succ]
  refine any_take (i := 6) (v := (.agg (kc (digs (C : Int) 32)))) #[true, true, true, true, true, true, false, false, false, false, false, false, false, false] rfl (by kernel_rfl) (by kernel_rfl) (by kernel_rfl) (by kernel_rfl) (fun _ _ _ h => h) (.inl ⟨by kernel_rfl, fun x hu => exec_arr x 23 (.tmp 5) rfl (w.heap.size + 1 + 1) (by kernel_rfl) (kc (digs (C : Int) 32)) 23 _ hu.2.2.1 Try.underlying23 rfl (by rw [Try.infoKey, kc32])⟩) ⟨(hB.get 0 (x := ⟨w.heap.size, (kc (digs (A : Int) 32)), 23⟩) rfl), (hB.get 1 (x := ⟨w.heap.size + 1, (kc (digs (B : Int) 32)), 23⟩) rfl), (hB.get 2 (x := ⟨w.heap.size + 1 + 1, (kc (digs (C : Int) 32)), 23⟩) rfl), (hB.get 3 (x := ⟨g3_1, (kc (digs (n3 : Int) 32)), 23⟩) rfl), (hB.get 4 (x := ⟨g4_1, (kc (digs (n3 : Int) 32)), 23⟩) rfl), trivial⟩ ?_
  simp only [Act.put, List.setIfInBounds_toArray, List.set_cons_zero, List.set_cons_succ, List.getElem_toArray, List.getElem_cons_zero, List.getElem_cons_succ]
  refine any_take (i := 7) (v := (.agg (kc (digs (A : Int) 32)))) #[true, true, true, true, true, true, true, false, false, false, false, false, false, false] rfl (by kernel_rfl) (by kernel_rfl) (by kernel_rfl) (by kernel_rfl) (fun _ _ _ h => h) (.inl ⟨by kernel_rfl, fun x hu => exec_arr x 23 (.tmp 3) rfl w.heap.size (by kernel_rfl) (kc (digs (A : Int) 32)) 23 _ hu.1 Try.underlying23 rfl (by rw [Try.infoKey, kc32])⟩) ⟨(hB.get 0 (x := ⟨w.heap.size, (kc (digs (A : Int) 32)), 23⟩) rfl), (hB.get 1 (x := ⟨w.heap.size + 1, (kc (digs (B : Int) 32)), 23⟩) rfl), (hB.get 2 (x := ⟨w.heap.size + 1 + 1, (kc (digs (C : Int) 32)), 23⟩) rfl), (hB.get 3 (x := ⟨g3_1, (kc (digs (n3 : Int) 32)), 23⟩) rfl), (hB.get 4 (x := ⟨g4_1, (kc (digs (n3 : Int) 32)), 23⟩) rfl), trivial⟩ ?_
  simp only [Act.put, List.setIfInBounds_toArray, List.set_cons_zero, List.set_cons_succ, List.getElem_toArray, List.getElem_cons_zero, List.getElem_cons_succ]
  refine any_one (i := 8) (by kernel_rfl) rfl (fun K hK => ?_)
  refine step_callw (by kernel_rfl) 13 #[.agg (kc (digs (A : Int) 32))] (by kernel_rfl) ((public_n A _).mono ?_)
  rintro r v20_ ⟨n7, rfl, hn7, hg⟩
  refine ⟨_, rfl, ?_⟩
  replace hB := hB.more hg
  clear hg
  refine hK.out _ _ ⟨(hB.get 0 (x := ⟨w.heap.size, (kc (digs (A : Int) 32)), 23⟩) rfl), (hB.get 1 (x := ⟨w.heap.size + 1, (kc (digs (B : Int) 32)), 23⟩) rfl), (hB.get 2 (x := ⟨w.heap.size + 1 + 1, (kc (digs (C : Int) 32)), 23⟩) rfl), (hB.get 3 (x := ⟨g3_1, (kc (digs (n3 : Int) 32)), 23⟩) rfl), (hB.get 4 (x := ⟨g4_1, (kc (digs (n3 : Int) 32)), 23⟩) rfl), trivial⟩ (fun _ => ?_)
  clear hK K
  simp only [Act.put, List.setIfInBounds_toArray, List.set_cons_zero, List.set_cons_succ, List.getElem_toArray, List.getElem_cons_zero, List.getElem_cons_succ]
  refine any_one (i := 9) (by kernel_rfl) rfl (fun K hK => ?_)
  refine step_callw (by kernel_rfl) 7 #[.agg (kc (digs (C : Int) 32)), .agg (kc (digs (n7 : Int) 32))] (by kernel_rfl) ((x_n C n7 _).mono ?_)
  rintro r v21_ ⟨n8, rfl, hn8, hg⟩
  refine ⟨_, rfl, ?_⟩
  replace hB := hB.more hg
  clear hg
  refine hK.out _ _ ⟨(hB.get 0 (x := ⟨w.heap.size, (kc (digs (A : Int) 32)), 23⟩) rfl), (hB.get 1 (x := ⟨w.heap.size + 1, (kc (digs (B : Int) 32)), 23⟩) rfl), (hB.get 2 (x := ⟨w.heap.size + 1 + 1, (kc (digs (C : Int) 32)), 23⟩) rfl), (hB.get 3 (x := ⟨g3_1, (kc (digs (n3 : Int) 32)), 23⟩) rfl), (hB.get 4 (x := ⟨g4_1, (kc (digs (n3 : Int) 32)), 23⟩) rfl), trivial⟩ (fun _ => ?_)
  clear hK K
  simp only [Act.put, List.setIfInBounds_toArray, List.set_cons_zero, List.set_cons_succ, List.getElem_toArray, List.getElem_cons_zero, List.getElem_cons_succ]
  refine any_one (i := 10) (by kernel_rfl) rfl (fun K hK => ?_)
  refine step_callw (by kernel_rfl) 7 #[.agg (kc (digs (B : Int) 32)), .agg (kc (digs (n8 : Int) 32))] (by kernel_rfl) ((x_n B n8 _).mono ?_)
  rintro r v22_ ⟨n9, rfl, hn9, hg⟩
  refine ⟨_, rfl, ?_⟩
  have en9 : n9 = n3 := by
    rw [unhide hn9, unhide hn8, unhide hn7, unhide hn3, unhide hn2, unhide hn1]
    exact three2 A B C
  rw [en9]
  replace hB := hB.more hg
  clear hg
  refine hK.out _ _ ⟨(hB.get 0 (x := ⟨w.heap.size, (kc (digs (A : Int) 32)), 23⟩) rfl), (hB.get 1 (x := ⟨w.heap.size + 1, (kc (digs (B : Int) 32)), 23⟩) rfl), (hB.get 2 (x := ⟨w.heap.size + 1 + 1, (kc (digs (C : Int) 32)), 23⟩) rfl), (hB.get 3 (x := ⟨g3_1, (kc (digs (n3 : Int) 32)), 23⟩) rfl), (hB.get 4 (x := ⟨g4_1, (kc (digs (n3 : Int) 32)), 23⟩) rfl), trivial⟩ (fun _ => ?_)
  clear hK K
  simp only [Act.put, List.setIfInBounds_toArray, List.set_cons_zero, List.set_cons_succ, List.getElem_toArray, List.getElem_cons_zero, List.getElem_cons_succ]
  refine any_take (i := 11) (v := (.bool true)) #[true, true, true, true, true, true, true, true, true, true, true, false, false, false] rfl (by kernel_rfl) (by kernel_rfl) (by kernel_rfl) (by kernel_rfl) (fun _ _ _ h => h) (.inl ⟨by kernel_rfl, fun x hu => by have e := key_same (n3 : Int); go_simp⟩) ⟨(hB.get 0 (x := ⟨w.heap.size, (kc (digs (A : Int) 32)), 23⟩) rfl), (hB.get 1 (x := ⟨w.heap.size + 1, (kc (digs (B : Int) 32)), 23⟩) rfl), (hB.get 2 (x := ⟨w.heap.size + 1 + 1, (kc (digs (C : Int) 32)), 23⟩) rfl), (hB.get 3 (x := ⟨g3_1, (kc (digs (n3 : Int) 32)), 23⟩) rfl), (hB.get 4 (x := ⟨g4_1, (kc (digs (n3 : Int) 32)), 23⟩) rfl), trivial⟩ ?_
  simp only [Act.put, List.setIfInBounds_toArray, List.set_cons_zero, List.set_cons_succ, List.getElem_toArray, List.getElem_cons_zero, List.getElem_cons_succ]
  refine any_take (i := 12) (v := (.bool true)) #[true, true, true, true, true, true, true, true, true, true, true, true, false, false] rfl (by kernel_rfl) (by kernel_rfl) (by kernel_rfl) (by kernel_rfl) (fun _ _ _ h => h) (.inl ⟨by kernel_rfl, fun x hu => by kernel_rfl⟩) ⟨(hB.get 0 (x := ⟨w.heap.size, (kc (digs (A : Int) 32)), 23⟩) rfl), (hB.get 1 (x := ⟨w.heap.size + 1, (kc (digs (B : Int) 32)), 23⟩) rfl), (hB.get 2 (x := ⟨w.heap.size + 1 + 1, (kc (digs (C : Int) 32)), 23⟩) rfl), (hB.get 3 (x := ⟨g3_1, (kc (digs (n3 : Int) 32)), 23⟩) rfl), (hB.get 4 (x := ⟨g4_1, (kc (digs (n3 : Int) 32)), 23⟩) rfl), trivial⟩ ?_
  simp only [Act.put, List.setIfInBounds_toArray, List.set_cons_zero, List.set_cons_succ, List.getElem_toArray, List.getElem_cons_zero, List.getElem_cons_succ]
  refine any_one (i := 13) (by kernel_rfl) rfl (fun K hK => ?_)
  replace hK := hide hK
  go_simp
  refine (unhide hK).out _ _ ⟨(hB.get 0 (x := ⟨w.heap.size, (kc (digs (A : Int) 32)), 23⟩) rfl), (hB.get 1 (x := ⟨w.heap.size + 1, (kc (digs (B : Int) 32)), 23⟩) rfl), (hB.get 2 (x := ⟨w.heap.size + 1 + 1, (kc (digs (C : Int) 32)), 23⟩) rfl), (hB.get 3 (x := ⟨g3_1, (kc (digs (n3 : Int) 32)), 23⟩) rfl), (hB.get 4 (x := ⟨g4_1, (kc (digs (n3 : Int) 32)), 23⟩) rfl), trivial⟩ (fun _ => ?_)
  clear hK K
  refine any_done (by kernel_rfl) ?_
  have hG := hide hB.gr
  clear hB
  go_wp2_with fail
  refine bodyPost_ret (v := .bool true) ?_ rfl ⟨rfl, unhide hG⟩
  simp [results, Try.results6, go_sem]
theorem three_int (n0 n1 n2 : Int) (h0 : 0 ≤ n0) (h1 : 0 ≤ n1) (h2 : 0 ≤ n2) (w : World) :
    Calls Try.prog 6 #[.agg (kc (digs n0 32)), .agg (kc (digs n1 32)), .agg (kc (digs n2 32))] w (fun r w' => r = .returned (.bool true) ∧ Gr w w') := by
  obtain ⟨A, rfl⟩ := Int.eq_ofNat_of_zero_le h0
  obtain ⟨B, rfl⟩ := Int.eq_ofNat_of_zero_le h1
  obtain ⟨C, rfl⟩ := Int.eq_ofNat_of_zero_le h2
  exact three_any A B C w
end Go.Proofs.Ytebgmneffpeahaa
