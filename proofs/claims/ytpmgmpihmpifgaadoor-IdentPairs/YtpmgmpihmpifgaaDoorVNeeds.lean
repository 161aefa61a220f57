/-
  What needs answers.
-/
import Derived.Test.YtpmgmpihmpifgaaDoorXK1
import Derived.Test.YtpmgmpihmpifgaaDoorVEc
import Derived.WalkMore
import Derived.Deep.Cut
namespace Go.Proofs.YtpmgmpihmpifgaaDoor.Cv
open Go.RowKit
set_option maxRecDepth 100000
set_option linter.unusedSimpArgs false

set_option maxHeartbeats 4000000 in
theorem needs_ec {x2 z2 x3 z3 : Int} {a b c d : Array Value} (ha : EC x2 a) (hb : EC z2 b) (hc : EC x3 c) (hd : EC z3 d) (w : World) :
    Calls Tryd.prog 95 #[.agg a, .agg b, .agg c, .agg d] w (fun r w' => ∃ e1 e2 e3 e4 e5, r = .returned (.tuple #[.agg e1, .agg e2, .agg e3, .agg e4, .agg e5]) ∧ EC ((x3 - z3) * (x2 + z2)) e1 ∧ EC ((x3 + z3) * (x2 - z2)) e2 ∧ EC ((x2 + z2) * (x2 + z2)) e3 ∧ EC ((x2 - z2) * (x2 - z2)) e4 ∧ EC ((x2 + z2) * (x2 + z2) - (x2 - z2) * (x2 - z2)) e5 ∧ Gr w w') := by
  go_enter Tryd.func95, Tryd.ntmps95
  go_upto_region 1 with fail
  have hB := ((((((((((Bl.nil w).new a 91).new b 91).new c 91).new d 91).new #[.int .u64 0, .int .u64 0, .int .u64 0, .int .u64 0, .int .u64 0] 91).new #[.int .u64 0, .int .u64 0, .int .u64 0, .int .u64 0, .int .u64 0] 91).new #[.int .u64 0, .int .u64 0, .int .u64 0, .int .u64 0, .int .u64 0] 91).new #[.int .u64 0, .int .u64 0, .int .u64 0, .int .u64 0, .int .u64 0] 91).new #[.int .u64 0, .int .u64 0, .int .u64 0, .int .u64 0, .int .u64 0] 91)
  simp only [size_alloc, List.nil_append, List.cons_append] at hB
  generalize World.alloc _ _ = v1_ at *
  refine any_start (S := fun v => v.heap[w.heap.size]? = some (.cells a 91 (0, 0)) ∧ v.heap[w.heap.size + 1]? = some (.cells b 91 (0, 0)) ∧ True) (by kernel_rfl) ?_
  replace hB := hB.drew
  generalize World.drew _ = v2_ at *
  simp only [List.size_toArray, List.length_cons, List.length_nil, Array.replicate, List.replicate]
  refine any_take (i := 0) (v := (.agg a)) #[false, false, false, false, false, false, false, false, false, false] rfl (by kernel_rfl) (by kernel_rfl) (by kernel_rfl) (by kernel_rfl) (fun _ _ _ h => h) (.inl ⟨by kernel_rfl, fun x hu => exec_arr x 91 (.tmp 4) rfl w.heap.size (by kernel_rfl) a 91 _ hu.1 Tryd.underlying91 rfl (by rw [Tryd.infoElem, EC.size _ ha])⟩) ⟨(hB.get 0 (x := ⟨w.heap.size, a, 91⟩) rfl), (hB.get 1 (x := ⟨w.heap.size + 1, b, 91⟩) rfl), trivial⟩ ?_
  simp only [nrm]
  refine any_take (i := 1) (v := (.agg b)) #[true, false, false, false, false, false, false, false, false, false] rfl (by kernel_rfl) (by kernel_rfl) (by kernel_rfl) (by kernel_rfl) (fun _ _ _ h => h) (.inl ⟨by kernel_rfl, fun x hu => exec_arr x 91 (.tmp 5) rfl (w.heap.size + 1) (by kernel_rfl) b 91 _ hu.2.1 Tryd.underlying91 rfl (by rw [Tryd.infoElem, EC.size _ hb])⟩) ⟨(hB.get 0 (x := ⟨w.heap.size, a, 91⟩) rfl), (hB.get 1 (x := ⟨w.heap.size + 1, b, 91⟩) rfl), trivial⟩ ?_
  simp only [nrm]
  refine any_take (i := 3) (v := (.agg a)) #[true, true, false, false, false, false, false, false, false, false] rfl (by kernel_rfl) (by kernel_rfl) (by kernel_rfl) (by kernel_rfl) (fun _ _ _ h => h) (.inl ⟨by kernel_rfl, fun x hu => exec_arr x 91 (.tmp 4) rfl w.heap.size (by kernel_rfl) a 91 _ hu.1 Tryd.underlying91 rfl (by rw [Tryd.infoElem, EC.size _ ha])⟩) ⟨(hB.get 0 (x := ⟨w.heap.size, a, 91⟩) rfl), (hB.get 1 (x := ⟨w.heap.size + 1, b, 91⟩) rfl), trivial⟩ ?_
  simp only [nrm]
  refine any_take (i := 4) (v := (.agg b)) #[true, true, false, true, false, false, false, false, false, false] rfl (by kernel_rfl) (by kernel_rfl) (by kernel_rfl) (by kernel_rfl) (fun _ _ _ h => h) (.inl ⟨by kernel_rfl, fun x hu => exec_arr x 91 (.tmp 5) rfl (w.heap.size + 1) (by kernel_rfl) b 91 _ hu.2.1 Tryd.underlying91 rfl (by rw [Tryd.infoElem, EC.size _ hb])⟩) ⟨(hB.get 0 (x := ⟨w.heap.size, a, 91⟩) rfl), (hB.get 1 (x := ⟨w.heap.size + 1, b, 91⟩) rfl), trivial⟩ ?_
  simp only [nrm]
  have hSf : ∀ v, Gr v2_ v → (fun v => v.heap[w.heap.size]? = some (.cells a 91 (0, 0)) ∧ v.heap[w.heap.size + 1]? = some (.cells b 91 (0, 0)) ∧ True) v := fun v k => ⟨k.blk (hB.get 0 (x := ⟨w.heap.size, a, 91⟩) rfl), k.blk (hB.get 1 (x := ⟨w.heap.size + 1, b, 91⟩) rfl), trivial⟩
  refine stage2 v2_ #[.int .u64 0, .int .u64 0, .int .u64 0, .int .u64 0, .int .u64 0] 91 (fun q1_1 q1_2 => ⟨#[(.agg a), (.agg b), (.agg c), (.agg d), (.pointer (some ⟨w.heap.size, 0, none⟩)), (.pointer (some ⟨w.heap.size + 1, 0, none⟩)), (.pointer (some ⟨w.heap.size + 1 + 1, 0, none⟩)), (.pointer (some ⟨w.heap.size + 1 + 1 + 1, 0, none⟩)), (.pointer (some ⟨w.heap.size + 1 + 1 + 1 + 1, 0, none⟩)), (.pointer (some ⟨w.heap.size + 1 + 1 + 1 + 1 + 1, 0, none⟩)), (.pointer (some ⟨w.heap.size + 1 + 1 + 1 + 1 + 1 + 1, 0, none⟩)), (.pointer (some ⟨w.heap.size + 1 + 1 + 1 + 1 + 1 + 1 + 1, 0, none⟩)), (.pointer (some ⟨w.heap.size + 1 + 1 + 1 + 1 + 1 + 1 + 1 + 1, 0, none⟩)), q1_1, q1_2, undef, undef, (.agg a), (.agg b), undef, (.agg a), (.agg b), undef, undef, undef, undef, undef, undef, undef, undef, undef, undef, undef, undef, undef, undef, undef, undef, undef, undef, undef, undef, undef, undef, undef, undef, undef], []⟩) (fun b1_1 b1_2 => #[true, true, false, true, true, false, b1_1, b1_2, false, false]) 6 7 2 false hSf (by kernel_rfl) (fun _ _ => ⟨rfl, rfl⟩) ?_ ?_ ?_ ⟨false, false, undef, undef, 0, 0, M2.start _ _ _ _ _⟩
  · intro q1_1 q1_2 x K hK
    refine wpOp_step (o := _) rfl (fun K' hK' => ?_)
    replace hK' := hide hK'
    replace hK := hide hK
    go_simp
    exact unhide hK' _ _ (unhide hK)
  · intro q1_1 q1_2 x K hK
    refine wpOp_step (o := _) rfl (fun K' hK' => ?_)
    replace hK' := hide hK'
    replace hK := hide hK
    go_simp
    exact unhide hK' _ _ (unhide hK)
  intro b1_1 b1_2 q1_1 q1_2 g1_1 g1_2 v3_ hM _
  refine wpOp_step (o := _) rfl (fun K' hK' => ?_)
  replace hK' := hide hK'
  refine step_callw (by kernel_rfl) 96 #[.agg a, .agg b] (by kernel_rfl) ((add_ec ha hb _).mono ?_)
  rintro r v4_ ⟨c1, rfl, hc1, hg⟩
  refine ⟨_, rfl, ?_⟩
  have hM' := hM.go (A' := (fun q1_1 q1_2 => ⟨#[(.agg a), (.agg b), (.agg c), (.agg d), (.pointer (some ⟨w.heap.size, 0, none⟩)), (.pointer (some ⟨w.heap.size + 1, 0, none⟩)), (.pointer (some ⟨w.heap.size + 1 + 1, 0, none⟩)), (.pointer (some ⟨w.heap.size + 1 + 1 + 1, 0, none⟩)), (.pointer (some ⟨w.heap.size + 1 + 1 + 1 + 1, 0, none⟩)), (.pointer (some ⟨w.heap.size + 1 + 1 + 1 + 1 + 1, 0, none⟩)), (.pointer (some ⟨w.heap.size + 1 + 1 + 1 + 1 + 1 + 1, 0, none⟩)), (.pointer (some ⟨w.heap.size + 1 + 1 + 1 + 1 + 1 + 1 + 1, 0, none⟩)), (.pointer (some ⟨w.heap.size + 1 + 1 + 1 + 1 + 1 + 1 + 1 + 1, 0, none⟩)), q1_1, q1_2, undef, undef, (.agg a), (.agg b), (.agg c1), (.agg a), (.agg b), undef, undef, undef, undef, undef, undef, undef, undef, undef, undef, undef, undef, undef, undef, undef, undef, undef, undef, undef, undef, undef, undef, undef, undef, undef], []⟩)) (F' := (fun b1_1 b1_2 => #[true, true, true, true, true, false, b1_1, b1_2, false, false])) hg
  refine unhide hK' _ _ ⟨hSf _ hM'.gr, ?_⟩
  clear hK' K' hM hg
  simp only [nrm]
  refine stage2 v2_ #[.int .u64 0, .int .u64 0, .int .u64 0, .int .u64 0, .int .u64 0] 91 (fun q1_1 q1_2 => ⟨#[(.agg a), (.agg b), (.agg c), (.agg d), (.pointer (some ⟨w.heap.size, 0, none⟩)), (.pointer (some ⟨w.heap.size + 1, 0, none⟩)), (.pointer (some ⟨w.heap.size + 1 + 1, 0, none⟩)), (.pointer (some ⟨w.heap.size + 1 + 1 + 1, 0, none⟩)), (.pointer (some ⟨w.heap.size + 1 + 1 + 1 + 1, 0, none⟩)), (.pointer (some ⟨w.heap.size + 1 + 1 + 1 + 1 + 1, 0, none⟩)), (.pointer (some ⟨w.heap.size + 1 + 1 + 1 + 1 + 1 + 1, 0, none⟩)), (.pointer (some ⟨w.heap.size + 1 + 1 + 1 + 1 + 1 + 1 + 1, 0, none⟩)), (.pointer (some ⟨w.heap.size + 1 + 1 + 1 + 1 + 1 + 1 + 1 + 1, 0, none⟩)), q1_1, q1_2, undef, undef, (.agg a), (.agg b), (.agg c1), (.agg a), (.agg b), undef, undef, undef, undef, undef, undef, undef, undef, undef, undef, undef, undef, undef, undef, undef, undef, undef, undef, undef, undef, undef, undef, undef, undef, undef], []⟩) (fun b1_1 b1_2 => #[true, true, true, true, true, false, b1_1, b1_2, false, false]) 6 7 5 false hSf (by kernel_rfl) (fun _ _ => ⟨rfl, rfl⟩) ?_ ?_ ?_ ⟨b1_1, b1_2, q1_1, q1_2, g1_1, g1_2, hM'.go (Gr.refl _)⟩
  · intro q1_1 q1_2 x K hK
    refine wpOp_step (o := _) rfl (fun K' hK' => ?_)
    replace hK' := hide hK'
    replace hK := hide hK
    go_simp
    exact unhide hK' _ _ (unhide hK)
  · intro q1_1 q1_2 x K hK
    refine wpOp_step (o := _) rfl (fun K' hK' => ?_)
    replace hK' := hide hK'
    replace hK := hide hK
    go_simp
    exact unhide hK' _ _ (unhide hK)
  clear hM'
  intro b1_1 b1_2 q1_1 q1_2 g1_1 g1_2 v5_ hM _
  refine wpOp_step (o := _) rfl (fun K' hK' => ?_)
  replace hK' := hide hK'
  refine step_callw (by kernel_rfl) 99 #[.agg a, .agg b] (by kernel_rfl) ((sub_ec ha hb _).mono ?_)
  rintro r v6_ ⟨c2, rfl, hc2, hg⟩
  refine ⟨_, rfl, ?_⟩
  have hM' := hM.go (A' := (fun q1_1 q1_2 => ⟨#[(.agg a), (.agg b), (.agg c), (.agg d), (.pointer (some ⟨w.heap.size, 0, none⟩)), (.pointer (some ⟨w.heap.size + 1, 0, none⟩)), (.pointer (some ⟨w.heap.size + 1 + 1, 0, none⟩)), (.pointer (some ⟨w.heap.size + 1 + 1 + 1, 0, none⟩)), (.pointer (some ⟨w.heap.size + 1 + 1 + 1 + 1, 0, none⟩)), (.pointer (some ⟨w.heap.size + 1 + 1 + 1 + 1 + 1, 0, none⟩)), (.pointer (some ⟨w.heap.size + 1 + 1 + 1 + 1 + 1 + 1, 0, none⟩)), (.pointer (some ⟨w.heap.size + 1 + 1 + 1 + 1 + 1 + 1 + 1, 0, none⟩)), (.pointer (some ⟨w.heap.size + 1 + 1 + 1 + 1 + 1 + 1 + 1 + 1, 0, none⟩)), q1_1, q1_2, undef, undef, (.agg a), (.agg b), (.agg c1), (.agg a), (.agg b), (.agg c2), undef, undef, undef, undef, undef, undef, undef, undef, undef, undef, undef, undef, undef, undef, undef, undef, undef, undef, undef, undef, undef, undef, undef, undef], []⟩)) (F' := (fun b1_1 b1_2 => #[true, true, true, true, true, true, b1_1, b1_2, false, false])) hg
  refine unhide hK' _ _ ⟨hSf _ hM'.gr, ?_⟩
  clear hK' K' hM hg
  simp only [nrm]
  refine stage2 v2_ #[.int .u64 0, .int .u64 0, .int .u64 0, .int .u64 0, .int .u64 0] 91 (fun q1_1 q1_2 => ⟨#[(.agg a), (.agg b), (.agg c), (.agg d), (.pointer (some ⟨w.heap.size, 0, none⟩)), (.pointer (some ⟨w.heap.size + 1, 0, none⟩)), (.pointer (some ⟨w.heap.size + 1 + 1, 0, none⟩)), (.pointer (some ⟨w.heap.size + 1 + 1 + 1, 0, none⟩)), (.pointer (some ⟨w.heap.size + 1 + 1 + 1 + 1, 0, none⟩)), (.pointer (some ⟨w.heap.size + 1 + 1 + 1 + 1 + 1, 0, none⟩)), (.pointer (some ⟨w.heap.size + 1 + 1 + 1 + 1 + 1 + 1, 0, none⟩)), (.pointer (some ⟨w.heap.size + 1 + 1 + 1 + 1 + 1 + 1 + 1, 0, none⟩)), (.pointer (some ⟨w.heap.size + 1 + 1 + 1 + 1 + 1 + 1 + 1 + 1, 0, none⟩)), q1_1, q1_2, undef, undef, (.agg a), (.agg b), (.agg c1), (.agg a), (.agg b), (.agg c2), undef, undef, undef, undef, undef, undef, undef, undef, undef, undef, undef, undef, undef, undef, undef, undef, undef, undef, undef, undef, undef, undef, undef, undef], []⟩) (fun b1_1 b1_2 => #[true, true, true, true, true, true, b1_1, b1_2, false, false]) 6 7 8 true hSf (by kernel_rfl) (fun _ _ => ⟨rfl, rfl⟩) ?_ ?_ ?_ ⟨b1_1, b1_2, q1_1, q1_2, g1_1, g1_2, hM'.go (Gr.refl _)⟩
  · intro q1_1 q1_2 x K hK
    refine wpOp_step (o := _) rfl (fun K' hK' => ?_)
    replace hK' := hide hK'
    replace hK := hide hK
    go_simp
    exact unhide hK' _ _ (unhide hK)
  · intro q1_1 q1_2 x K hK
    refine wpOp_step (o := _) rfl (fun K' hK' => ?_)
    replace hK' := hide hK'
    replace hK := hide hK
    go_simp
    exact unhide hK' _ _ (unhide hK)
  clear hM'
  intro b1_1 b1_2 q1_1 q1_2 g1_1 g1_2 v7_ hM hall
  obtain ⟨rfl, rfl⟩ := hall rfl
  obtain ⟨rfl, rfl, hB'⟩ := hM.all hB
  replace hB := hB'
  clear hB' hM hall
  simp only [List.cons_append, List.nil_append] at hB
  refine wpOp_step (o := _) rfl (fun K' hK' => ?_)
  replace hK' := hide hK'
  rw [if_pos (by kernel_rfl)]
  refine wp_store_row 91 (.tmp 13) (.tmp 19) rfl g1_1 c1 (by kernel_rfl) (by kernel_rfl) 91 #[.int .u64 0, .int .u64 0, .int .u64 0, .int .u64 0, .int .u64 0] (hB.get 9 (x := ⟨g1_1, #[.int .u64 0, .int .u64 0, .int .u64 0, .int .u64 0, .int .u64 0], 91⟩) rfl) (by rw [Tryd.infoElem, EC.size _ hc1]) ((show (#[.int .u64 0, .int .u64 0, .int .u64 0, .int .u64 0, .int .u64 0] : Array Value).size = 5 from rfl).trans (EC.size _ hc1).symm) (EC.one _ hc1) ?_
  replace hB := hB.set 9 (x := ⟨g1_1, #[.int .u64 0, .int .u64 0, .int .u64 0, .int .u64 0, .int .u64 0], 91⟩) rfl c1
  simp only [List.set_cons_zero, List.set_cons_succ] at hB
  refine unhide hK' _ _ ⟨⟨(hB.get 0 (x := ⟨w.heap.size, a, 91⟩) rfl), (hB.get 1 (x := ⟨w.heap.size + 1, b, 91⟩) rfl), trivial⟩, ?_⟩
  clear hK' K' hSf
  generalize World.setRow _ _ _ = v8_ at *
  simp only [nrm]
  refine any_one (i := 9) (by kernel_rfl) rfl (fun K hK => ?_)
  rw [if_pos (by kernel_rfl)]
  refine wp_store_row 91 (.tmp 14) (.tmp 22) rfl g1_2 c2 (by kernel_rfl) (by kernel_rfl) 91 #[.int .u64 0, .int .u64 0, .int .u64 0, .int .u64 0, .int .u64 0] (hB.get 10 (x := ⟨g1_2, #[.int .u64 0, .int .u64 0, .int .u64 0, .int .u64 0, .int .u64 0], 91⟩) rfl) (by rw [Tryd.infoElem, EC.size _ hc2]) ((show (#[.int .u64 0, .int .u64 0, .int .u64 0, .int .u64 0, .int .u64 0] : Array Value).size = 5 from rfl).trans (EC.size _ hc2).symm) (EC.one _ hc2) ?_
  replace hB := hB.set 10 (x := ⟨g1_2, #[.int .u64 0, .int .u64 0, .int .u64 0, .int .u64 0, .int .u64 0], 91⟩) rfl c2
  simp only [List.set_cons_zero, List.set_cons_succ] at hB
  refine hK.out _ _ ⟨(hB.get 0 (x := ⟨w.heap.size, a, 91⟩) rfl), (hB.get 1 (x := ⟨w.heap.size + 1, b, 91⟩) rfl), trivial⟩ (fun _ => ?_)
  clear hK K
  generalize World.setRow _ _ _ = v9_ at *
  simp only [nrm]
  refine any_done (by kernel_rfl) ?_
  go_upto_region 2 with fail
  refine any_start (S := fun v => v.heap[w.heap.size + 1 + 1]? = some (.cells c 91 (0, 0)) ∧ v.heap[w.heap.size + 1 + 1 + 1]? = some (.cells d 91 (0, 0)) ∧ True) (by kernel_rfl) ?_
  replace hB := hB.drew
  generalize World.drew _ = v10_ at *
  simp only [List.size_toArray, List.length_cons, List.length_nil, Array.replicate, List.replicate]
  refine any_take (i := 0) (v := (.agg c)) #[false, false, false, false, false, false, false, false, false, false] rfl (by kernel_rfl) (by kernel_rfl) (by kernel_rfl) (by kernel_rfl) (fun _ _ _ h => h) (.inl ⟨by kernel_rfl, fun x hu => exec_arr x 91 (.tmp 6) rfl (w.heap.size + 1 + 1) (by kernel_rfl) c 91 _ hu.1 Tryd.underlying91 rfl (by rw [Tryd.infoElem, EC.size _ hc])⟩) ⟨(hB.get 2 (x := ⟨w.heap.size + 1 + 1, c, 91⟩) rfl), (hB.get 3 (x := ⟨w.heap.size + 1 + 1 + 1, d, 91⟩) rfl), trivial⟩ ?_
  simp only [nrm]
  refine any_take (i := 1) (v := (.agg d)) #[true, false, false, false, false, false, false, false, false, false] rfl (by kernel_rfl) (by kernel_rfl) (by kernel_rfl) (by kernel_rfl) (fun _ _ _ h => h) (.inl ⟨by kernel_rfl, fun x hu => exec_arr x 91 (.tmp 7) rfl (w.heap.size + 1 + 1 + 1) (by kernel_rfl) d 91 _ hu.2.1 Tryd.underlying91 rfl (by rw [Tryd.infoElem, EC.size _ hd])⟩) ⟨(hB.get 2 (x := ⟨w.heap.size + 1 + 1, c, 91⟩) rfl), (hB.get 3 (x := ⟨w.heap.size + 1 + 1 + 1, d, 91⟩) rfl), trivial⟩ ?_
  simp only [nrm]
  refine any_take (i := 3) (v := (.agg c)) #[true, true, false, false, false, false, false, false, false, false] rfl (by kernel_rfl) (by kernel_rfl) (by kernel_rfl) (by kernel_rfl) (fun _ _ _ h => h) (.inl ⟨by kernel_rfl, fun x hu => exec_arr x 91 (.tmp 6) rfl (w.heap.size + 1 + 1) (by kernel_rfl) c 91 _ hu.1 Tryd.underlying91 rfl (by rw [Tryd.infoElem, EC.size _ hc])⟩) ⟨(hB.get 2 (x := ⟨w.heap.size + 1 + 1, c, 91⟩) rfl), (hB.get 3 (x := ⟨w.heap.size + 1 + 1 + 1, d, 91⟩) rfl), trivial⟩ ?_
  simp only [nrm]
  refine any_take (i := 4) (v := (.agg d)) #[true, true, false, true, false, false, false, false, false, false] rfl (by kernel_rfl) (by kernel_rfl) (by kernel_rfl) (by kernel_rfl) (fun _ _ _ h => h) (.inl ⟨by kernel_rfl, fun x hu => exec_arr x 91 (.tmp 7) rfl (w.heap.size + 1 + 1 + 1) (by kernel_rfl) d 91 _ hu.2.1 Tryd.underlying91 rfl (by rw [Tryd.infoElem, EC.size _ hd])⟩) ⟨(hB.get 2 (x := ⟨w.heap.size + 1 + 1, c, 91⟩) rfl), (hB.get 3 (x := ⟨w.heap.size + 1 + 1 + 1, d, 91⟩) rfl), trivial⟩ ?_
  simp only [nrm]
  have hSf : ∀ v, Gr v10_ v → (fun v => v.heap[w.heap.size + 1 + 1]? = some (.cells c 91 (0, 0)) ∧ v.heap[w.heap.size + 1 + 1 + 1]? = some (.cells d 91 (0, 0)) ∧ True) v := fun v k => ⟨k.blk (hB.get 2 (x := ⟨w.heap.size + 1 + 1, c, 91⟩) rfl), k.blk (hB.get 3 (x := ⟨w.heap.size + 1 + 1 + 1, d, 91⟩) rfl), trivial⟩
  refine stage2 v10_ #[.int .u64 0, .int .u64 0, .int .u64 0, .int .u64 0, .int .u64 0] 91 (fun q2_1 q2_2 => ⟨#[(.agg a), (.agg b), (.agg c), (.agg d), (.pointer (some ⟨w.heap.size, 0, none⟩)), (.pointer (some ⟨w.heap.size + 1, 0, none⟩)), (.pointer (some ⟨w.heap.size + 1 + 1, 0, none⟩)), (.pointer (some ⟨w.heap.size + 1 + 1 + 1, 0, none⟩)), (.pointer (some ⟨w.heap.size + 1 + 1 + 1 + 1, 0, none⟩)), (.pointer (some ⟨w.heap.size + 1 + 1 + 1 + 1 + 1, 0, none⟩)), (.pointer (some ⟨w.heap.size + 1 + 1 + 1 + 1 + 1 + 1, 0, none⟩)), (.pointer (some ⟨w.heap.size + 1 + 1 + 1 + 1 + 1 + 1 + 1, 0, none⟩)), (.pointer (some ⟨w.heap.size + 1 + 1 + 1 + 1 + 1 + 1 + 1 + 1, 0, none⟩)), (.pointer (some ⟨g1_1, 0, none⟩)), (.pointer (some ⟨g1_2, 0, none⟩)), q2_1, q2_2, (.agg a), (.agg b), (.agg c1), (.agg a), (.agg b), (.agg c2), (.agg c), (.agg d), undef, (.agg c), (.agg d), undef, undef, undef, undef, undef, undef, undef, undef, undef, undef, undef, undef, undef, undef, undef, undef, undef, undef, undef], []⟩) (fun b2_1 b2_2 => #[true, true, false, true, true, false, b2_1, b2_2, false, false]) 6 7 2 false hSf (by kernel_rfl) (fun _ _ => ⟨rfl, rfl⟩) ?_ ?_ ?_ ⟨false, false, undef, undef, 0, 0, M2.start _ _ _ _ _⟩
  · intro q2_1 q2_2 x K hK
    refine wpOp_step (o := _) rfl (fun K' hK' => ?_)
    replace hK' := hide hK'
    replace hK := hide hK
    go_simp
    exact unhide hK' _ _ (unhide hK)
  · intro q2_1 q2_2 x K hK
    refine wpOp_step (o := _) rfl (fun K' hK' => ?_)
    replace hK' := hide hK'
    replace hK := hide hK
    go_simp
    exact unhide hK' _ _ (unhide hK)
  intro b2_1 b2_2 q2_1 q2_2 g2_1 g2_2 v11_ hM _
  refine wpOp_step (o := _) rfl (fun K' hK' => ?_)
  replace hK' := hide hK'
  refine step_callw (by kernel_rfl) 96 #[.agg c, .agg d] (by kernel_rfl) ((add_ec hc hd _).mono ?_)
  rintro r v12_ ⟨c3, rfl, hc3, hg⟩
  refine ⟨_, rfl, ?_⟩
  have hM' := hM.go (A' := (fun q2_1 q2_2 => ⟨#[(.agg a), (.agg b), (.agg c), (.agg d), (.pointer (some ⟨w.heap.size, 0, none⟩)), (.pointer (some ⟨w.heap.size + 1, 0, none⟩)), (.pointer (some ⟨w.heap.size + 1 + 1, 0, none⟩)), (.pointer (some ⟨w.heap.size + 1 + 1 + 1, 0, none⟩)), (.pointer (some ⟨w.heap.size + 1 + 1 + 1 + 1, 0, none⟩)), (.pointer (some ⟨w.heap.size + 1 + 1 + 1 + 1 + 1, 0, none⟩)), (.pointer (some ⟨w.heap.size + 1 + 1 + 1 + 1 + 1 + 1, 0, none⟩)), (.pointer (some ⟨w.heap.size + 1 + 1 + 1 + 1 + 1 + 1 + 1, 0, none⟩)), (.pointer (some ⟨w.heap.size + 1 + 1 + 1 + 1 + 1 + 1 + 1 + 1, 0, none⟩)), (.pointer (some ⟨g1_1, 0, none⟩)), (.pointer (some ⟨g1_2, 0, none⟩)), q2_1, q2_2, (.agg a), (.agg b), (.agg c1), (.agg a), (.agg b), (.agg c2), (.agg c), (.agg d), (.agg c3), (.agg c), (.agg d), undef, undef, undef, undef, undef, undef, undef, undef, undef, undef, undef, undef, undef, undef, undef, undef, undef, undef, undef], []⟩)) (F' := (fun b2_1 b2_2 => #[true, true, true, true, true, false, b2_1, b2_2, false, false])) hg
  refine unhide hK' _ _ ⟨hSf _ hM'.gr, ?_⟩
  clear hK' K' hM hg
  simp only [nrm]
  refine stage2 v10_ #[.int .u64 0, .int .u64 0, .int .u64 0, .int .u64 0, .int .u64 0] 91 (fun q2_1 q2_2 => ⟨#[(.agg a), (.agg b), (.agg c), (.agg d), (.pointer (some ⟨w.heap.size, 0, none⟩)), (.pointer (some ⟨w.heap.size + 1, 0, none⟩)), (.pointer (some ⟨w.heap.size + 1 + 1, 0, none⟩)), (.pointer (some ⟨w.heap.size + 1 + 1 + 1, 0, none⟩)), (.pointer (some ⟨w.heap.size + 1 + 1 + 1 + 1, 0, none⟩)), (.pointer (some ⟨w.heap.size + 1 + 1 + 1 + 1 + 1, 0, none⟩)), (.pointer (some ⟨w.heap.size + 1 + 1 + 1 + 1 + 1 + 1, 0, none⟩)), (.pointer (some ⟨w.heap.size + 1 + 1 + 1 + 1 + 1 + 1 + 1, 0, none⟩)), (.pointer (some ⟨w.heap.size + 1 + 1 + 1 + 1 + 1 + 1 + 1 + 1, 0, none⟩)), (.pointer (some ⟨g1_1, 0, none⟩)), (.pointer (some ⟨g1_2, 0, none⟩)), q2_1, q2_2, (.agg a), (.agg b), (.agg c1), (.agg a), (.agg b), (.agg c2), (.agg c), (.agg d), (.agg c3), (.agg c), (.agg d), undef, undef, undef, undef, undef, undef, undef, undef, undef, undef, undef, undef, undef, undef, undef, undef, undef, undef, undef], []⟩) (fun b2_1 b2_2 => #[true, true, true, true, true, false, b2_1, b2_2, false, false]) 6 7 5 false hSf (by kernel_rfl) (fun _ _ => ⟨rfl, rfl⟩) ?_ ?_ ?_ ⟨b2_1, b2_2, q2_1, q2_2, g2_1, g2_2, hM'.go (Gr.refl _)⟩
  · intro q2_1 q2_2 x K hK
    refine wpOp_step (o := _) rfl (fun K' hK' => ?_)
    replace hK' := hide hK'
    replace hK := hide hK
    go_simp
    exact unhide hK' _ _ (unhide hK)
  · intro q2_1 q2_2 x K hK
    refine wpOp_step (o := _) rfl (fun K' hK' => ?_)
    replace hK' := hide hK'
    replace hK := hide hK
    go_simp
    exact unhide hK' _ _ (unhide hK)
  clear hM'
  intro b2_1 b2_2 q2_1 q2_2 g2_1 g2_2 v13_ hM _
  refine wpOp_step (o := _) rfl (fun K' hK' => ?_)
  replace hK' := hide hK'
  refine step_callw (by kernel_rfl) 99 #[.agg c, .agg d] (by kernel_rfl) ((sub_ec hc hd _).mono ?_)
  rintro r v14_ ⟨c4, rfl, hc4, hg⟩
  refine ⟨_, rfl, ?_⟩
  have hM' := hM.go (A' := (fun q2_1 q2_2 => ⟨#[(.agg a), (.agg b), (.agg c), (.agg d), (.pointer (some ⟨w.heap.size, 0, none⟩)), (.pointer (some ⟨w.heap.size + 1, 0, none⟩)), (.pointer (some ⟨w.heap.size + 1 + 1, 0, none⟩)), (.pointer (some ⟨w.heap.size + 1 + 1 + 1, 0, none⟩)), (.pointer (some ⟨w.heap.size + 1 + 1 + 1 + 1, 0, none⟩)), (.pointer (some ⟨w.heap.size + 1 + 1 + 1 + 1 + 1, 0, none⟩)), (.pointer (some ⟨w.heap.size + 1 + 1 + 1 + 1 + 1 + 1, 0, none⟩)), (.pointer (some ⟨w.heap.size + 1 + 1 + 1 + 1 + 1 + 1 + 1, 0, none⟩)), (.pointer (some ⟨w.heap.size + 1 + 1 + 1 + 1 + 1 + 1 + 1 + 1, 0, none⟩)), (.pointer (some ⟨g1_1, 0, none⟩)), (.pointer (some ⟨g1_2, 0, none⟩)), q2_1, q2_2, (.agg a), (.agg b), (.agg c1), (.agg a), (.agg b), (.agg c2), (.agg c), (.agg d), (.agg c3), (.agg c), (.agg d), (.agg c4), undef, undef, undef, undef, undef, undef, undef, undef, undef, undef, undef, undef, undef, undef, undef, undef, undef, undef], []⟩)) (F' := (fun b2_1 b2_2 => #[true, true, true, true, true, true, b2_1, b2_2, false, false])) hg
  refine unhide hK' _ _ ⟨hSf _ hM'.gr, ?_⟩
  clear hK' K' hM hg
  simp only [nrm]
  refine stage2 v10_ #[.int .u64 0, .int .u64 0, .int .u64 0, .int .u64 0, .int .u64 0] 91 (fun q2_1 q2_2 => ⟨#[(.agg a), (.agg b), (.agg c), (.agg d), (.pointer (some ⟨w.heap.size, 0, none⟩)), (.pointer (some ⟨w.heap.size + 1, 0, none⟩)), (.pointer (some ⟨w.heap.size + 1 + 1, 0, none⟩)), (.pointer (some ⟨w.heap.size + 1 + 1 + 1, 0, none⟩)), (.pointer (some ⟨w.heap.size + 1 + 1 + 1 + 1, 0, none⟩)), (.pointer (some ⟨w.heap.size + 1 + 1 + 1 + 1 + 1, 0, none⟩)), (.pointer (some ⟨w.heap.size + 1 + 1 + 1 + 1 + 1 + 1, 0, none⟩)), (.pointer (some ⟨w.heap.size + 1 + 1 + 1 + 1 + 1 + 1 + 1, 0, none⟩)), (.pointer (some ⟨w.heap.size + 1 + 1 + 1 + 1 + 1 + 1 + 1 + 1, 0, none⟩)), (.pointer (some ⟨g1_1, 0, none⟩)), (.pointer (some ⟨g1_2, 0, none⟩)), q2_1, q2_2, (.agg a), (.agg b), (.agg c1), (.agg a), (.agg b), (.agg c2), (.agg c), (.agg d), (.agg c3), (.agg c), (.agg d), (.agg c4), undef, undef, undef, undef, undef, undef, undef, undef, undef, undef, undef, undef, undef, undef, undef, undef, undef, undef], []⟩) (fun b2_1 b2_2 => #[true, true, true, true, true, true, b2_1, b2_2, false, false]) 6 7 8 true hSf (by kernel_rfl) (fun _ _ => ⟨rfl, rfl⟩) ?_ ?_ ?_ ⟨b2_1, b2_2, q2_1, q2_2, g2_1, g2_2, hM'.go (Gr.refl _)⟩
  · intro q2_1 q2_2 x K hK
    refine wpOp_step (o := _) rfl (fun K' hK' => ?_)
    replace hK' := hide hK'
    replace hK := hide hK
    go_simp
    exact unhide hK' _ _ (unhide hK)
  · intro q2_1 q2_2 x K hK
    refine wpOp_step (o := _) rfl (fun K' hK' => ?_)
    replace hK' := hide hK'
    replace hK := hide hK
    go_simp
    exact unhide hK' _ _ (unhide hK)
  clear hM'
  intro b2_1 b2_2 q2_1 q2_2 g2_1 g2_2 v15_ hM hall
  obtain ⟨rfl, rfl⟩ := hall rfl
  obtain ⟨rfl, rfl, hB'⟩ := hM.all hB
  replace hB := hB'
  clear hB' hM hall
  simp only [List.cons_append, List.nil_append] at hB
  refine wpOp_step (o := _) rfl (fun K' hK' => ?_)
  replace hK' := hide hK'
  rw [if_pos (by kernel_rfl)]
  refine wp_store_row 91 (.tmp 15) (.tmp 25) rfl g2_1 c3 (by kernel_rfl) (by kernel_rfl) 91 #[.int .u64 0, .int .u64 0, .int .u64 0, .int .u64 0, .int .u64 0] (hB.get 11 (x := ⟨g2_1, #[.int .u64 0, .int .u64 0, .int .u64 0, .int .u64 0, .int .u64 0], 91⟩) rfl) (by rw [Tryd.infoElem, EC.size _ hc3]) ((show (#[.int .u64 0, .int .u64 0, .int .u64 0, .int .u64 0, .int .u64 0] : Array Value).size = 5 from rfl).trans (EC.size _ hc3).symm) (EC.one _ hc3) ?_
  replace hB := hB.set 11 (x := ⟨g2_1, #[.int .u64 0, .int .u64 0, .int .u64 0, .int .u64 0, .int .u64 0], 91⟩) rfl c3
  simp only [List.set_cons_zero, List.set_cons_succ] at hB
  refine unhide hK' _ _ ⟨⟨(hB.get 2 (x := ⟨w.heap.size + 1 + 1, c, 91⟩) rfl), (hB.get 3 (x := ⟨w.heap.size + 1 + 1 + 1, d, 91⟩) rfl), trivial⟩, ?_⟩
  clear hK' K' hSf
  generalize World.setRow _ _ _ = v16_ at *
  simp only [nrm]
  refine any_one (i := 9) (by kernel_rfl) rfl (fun K hK => ?_)
  rw [if_pos (by kernel_rfl)]
  refine wp_store_row 91 (.tmp 16) (.tmp 28) rfl g2_2 c4 (by kernel_rfl) (by kernel_rfl) 91 #[.int .u64 0, .int .u64 0, .int .u64 0, .int .u64 0, .int .u64 0] (hB.get 12 (x := ⟨g2_2, #[.int .u64 0, .int .u64 0, .int .u64 0, .int .u64 0, .int .u64 0], 91⟩) rfl) (by rw [Tryd.infoElem, EC.size _ hc4]) ((show (#[.int .u64 0, .int .u64 0, .int .u64 0, .int .u64 0, .int .u64 0] : Array Value).size = 5 from rfl).trans (EC.size _ hc4).symm) (EC.one _ hc4) ?_
  replace hB := hB.set 12 (x := ⟨g2_2, #[.int .u64 0, .int .u64 0, .int .u64 0, .int .u64 0, .int .u64 0], 91⟩) rfl c4
  simp only [List.set_cons_zero, List.set_cons_succ] at hB
  refine hK.out _ _ ⟨(hB.get 2 (x := ⟨w.heap.size + 1 + 1, c, 91⟩) rfl), (hB.get 3 (x := ⟨w.heap.size + 1 + 1 + 1, d, 91⟩) rfl), trivial⟩ (fun _ => ?_)
  clear hK K
  generalize World.setRow _ _ _ = v17_ at *
  simp only [nrm]
  refine any_done (by kernel_rfl) ?_
  go_upto_region 3 with fail
  refine any_start (S := fun v => v.heap[g1_1]? = some (.cells c1 91 (0, 0)) ∧ v.heap[g1_2]? = some (.cells c2 91 (0, 0)) ∧ v.heap[g2_1]? = some (.cells c3 91 (0, 0)) ∧ v.heap[g2_2]? = some (.cells c4 91 (0, 0)) ∧ True) (by kernel_rfl) ?_
  replace hB := hB.drew
  generalize World.drew _ = v18_ at *
  simp only [List.size_toArray, List.length_cons, List.length_nil, Array.replicate, List.replicate]
  refine any_take (i := 0) (v := (.agg c4)) #[false, false, false, false, false, false, false, false] rfl (by kernel_rfl) (by kernel_rfl) (by kernel_rfl) (by kernel_rfl) (fun _ _ _ h => h) (.inl ⟨by kernel_rfl, fun x hu => exec_arr x 91 (.tmp 16) rfl g2_2 (by kernel_rfl) c4 91 _ hu.2.2.2.1 Tryd.underlying91 rfl (by rw [Tryd.infoElem, EC.size _ hc4])⟩) ⟨(hB.get 9 (x := ⟨g1_1, c1, 91⟩) rfl), (hB.get 10 (x := ⟨g1_2, c2, 91⟩) rfl), (hB.get 11 (x := ⟨g2_1, c3, 91⟩) rfl), (hB.get 12 (x := ⟨g2_2, c4, 91⟩) rfl), trivial⟩ ?_
  simp only [nrm]
  refine any_take (i := 1) (v := (.agg c1)) #[true, false, false, false, false, false, false, false] rfl (by kernel_rfl) (by kernel_rfl) (by kernel_rfl) (by kernel_rfl) (fun _ _ _ h => h) (.inl ⟨by kernel_rfl, fun x hu => exec_arr x 91 (.tmp 13) rfl g1_1 (by kernel_rfl) c1 91 _ hu.1 Tryd.underlying91 rfl (by rw [Tryd.infoElem, EC.size _ hc1])⟩) ⟨(hB.get 9 (x := ⟨g1_1, c1, 91⟩) rfl), (hB.get 10 (x := ⟨g1_2, c2, 91⟩) rfl), (hB.get 11 (x := ⟨g2_1, c3, 91⟩) rfl), (hB.get 12 (x := ⟨g2_2, c4, 91⟩) rfl), trivial⟩ ?_
  simp only [nrm]
  refine any_take (i := 3) (v := (.agg c3)) #[true, true, false, false, false, false, false, false] rfl (by kernel_rfl) (by kernel_rfl) (by kernel_rfl) (by kernel_rfl) (fun _ _ _ h => h) (.inl ⟨by kernel_rfl, fun x hu => exec_arr x 91 (.tmp 15) rfl g2_1 (by kernel_rfl) c3 91 _ hu.2.2.1 Tryd.underlying91 rfl (by rw [Tryd.infoElem, EC.size _ hc3])⟩) ⟨(hB.get 9 (x := ⟨g1_1, c1, 91⟩) rfl), (hB.get 10 (x := ⟨g1_2, c2, 91⟩) rfl), (hB.get 11 (x := ⟨g2_1, c3, 91⟩) rfl), (hB.get 12 (x := ⟨g2_2, c4, 91⟩) rfl), trivial⟩ ?_
  simp only [nrm]
  refine any_take (i := 4) (v := (.agg c2)) #[true, true, false, true, false, false, false, false] rfl (by kernel_rfl) (by kernel_rfl) (by kernel_rfl) (by kernel_rfl) (fun _ _ _ h => h) (.inl ⟨by kernel_rfl, fun x hu => exec_arr x 91 (.tmp 14) rfl g1_2 (by kernel_rfl) c2 91 _ hu.2.1 Tryd.underlying91 rfl (by rw [Tryd.infoElem, EC.size _ hc2])⟩) ⟨(hB.get 9 (x := ⟨g1_1, c1, 91⟩) rfl), (hB.get 10 (x := ⟨g1_2, c2, 91⟩) rfl), (hB.get 11 (x := ⟨g2_1, c3, 91⟩) rfl), (hB.get 12 (x := ⟨g2_2, c4, 91⟩) rfl), trivial⟩ ?_
  simp only [nrm]
  refine any_one (i := 2) (by kernel_rfl) rfl (fun K hK => ?_)
  refine step_callw (by kernel_rfl) 64 #[.agg c4, .agg c1] (by kernel_rfl) ((mul_ec hc4 hc1 _).mono ?_)
  rintro r v19_ ⟨c5, rfl, hc5, hg⟩
  refine ⟨_, rfl, ?_⟩
  replace hB := hB.more hg
  clear hg
  refine hK.out _ _ ⟨(hB.get 9 (x := ⟨g1_1, c1, 91⟩) rfl), (hB.get 10 (x := ⟨g1_2, c2, 91⟩) rfl), (hB.get 11 (x := ⟨g2_1, c3, 91⟩) rfl), (hB.get 12 (x := ⟨g2_2, c4, 91⟩) rfl), trivial⟩ (fun _ => ?_)
  clear hK K
  simp only [nrm]
  refine any_one (i := 5) (by kernel_rfl) rfl (fun K hK => ?_)
  refine step_callw (by kernel_rfl) 64 #[.agg c3, .agg c2] (by kernel_rfl) ((mul_ec hc3 hc2 _).mono ?_)
  rintro r v20_ ⟨c6, rfl, hc6, hg⟩
  refine ⟨_, rfl, ?_⟩
  replace hB := hB.more hg
  clear hg
  refine hK.out _ _ ⟨(hB.get 9 (x := ⟨g1_1, c1, 91⟩) rfl), (hB.get 10 (x := ⟨g1_2, c2, 91⟩) rfl), (hB.get 11 (x := ⟨g2_1, c3, 91⟩) rfl), (hB.get 12 (x := ⟨g2_2, c4, 91⟩) rfl), trivial⟩ (fun _ => ?_)
  clear hK K
  simp only [nrm]
  refine any_one (i := 6) (by kernel_rfl) rfl (fun K hK => ?_)
  rw [if_pos (by kernel_rfl)]
  refine wp_store_row 91 (.tmp 8) (.tmp 31) rfl (w.heap.size + 1 + 1 + 1 + 1) c5 (by kernel_rfl) (by kernel_rfl) 91 #[.int .u64 0, .int .u64 0, .int .u64 0, .int .u64 0, .int .u64 0] (hB.get 4 (x := ⟨w.heap.size + 1 + 1 + 1 + 1, #[.int .u64 0, .int .u64 0, .int .u64 0, .int .u64 0, .int .u64 0], 91⟩) rfl) (by rw [Tryd.infoElem, EC.size _ hc5]) ((show (#[.int .u64 0, .int .u64 0, .int .u64 0, .int .u64 0, .int .u64 0] : Array Value).size = 5 from rfl).trans (EC.size _ hc5).symm) (EC.one _ hc5) ?_
  replace hB := hB.set 4 (x := ⟨w.heap.size + 1 + 1 + 1 + 1, #[.int .u64 0, .int .u64 0, .int .u64 0, .int .u64 0, .int .u64 0], 91⟩) rfl c5
  simp only [List.set_cons_zero, List.set_cons_succ] at hB
  refine hK.out _ _ ⟨(hB.get 9 (x := ⟨g1_1, c1, 91⟩) rfl), (hB.get 10 (x := ⟨g1_2, c2, 91⟩) rfl), (hB.get 11 (x := ⟨g2_1, c3, 91⟩) rfl), (hB.get 12 (x := ⟨g2_2, c4, 91⟩) rfl), trivial⟩ (fun _ => ?_)
  clear hK K
  generalize World.setRow _ _ _ = v21_ at *
  simp only [nrm]
  refine any_one (i := 7) (by kernel_rfl) rfl (fun K hK => ?_)
  rw [if_pos (by kernel_rfl)]
  refine wp_store_row 91 (.tmp 9) (.tmp 34) rfl (w.heap.size + 1 + 1 + 1 + 1 + 1) c6 (by kernel_rfl) (by kernel_rfl) 91 #[.int .u64 0, .int .u64 0, .int .u64 0, .int .u64 0, .int .u64 0] (hB.get 5 (x := ⟨w.heap.size + 1 + 1 + 1 + 1 + 1, #[.int .u64 0, .int .u64 0, .int .u64 0, .int .u64 0, .int .u64 0], 91⟩) rfl) (by rw [Tryd.infoElem, EC.size _ hc6]) ((show (#[.int .u64 0, .int .u64 0, .int .u64 0, .int .u64 0, .int .u64 0] : Array Value).size = 5 from rfl).trans (EC.size _ hc6).symm) (EC.one _ hc6) ?_
  replace hB := hB.set 5 (x := ⟨w.heap.size + 1 + 1 + 1 + 1 + 1, #[.int .u64 0, .int .u64 0, .int .u64 0, .int .u64 0, .int .u64 0], 91⟩) rfl c6
  simp only [List.set_cons_zero, List.set_cons_succ] at hB
  refine hK.out _ _ ⟨(hB.get 9 (x := ⟨g1_1, c1, 91⟩) rfl), (hB.get 10 (x := ⟨g1_2, c2, 91⟩) rfl), (hB.get 11 (x := ⟨g2_1, c3, 91⟩) rfl), (hB.get 12 (x := ⟨g2_2, c4, 91⟩) rfl), trivial⟩ (fun _ => ?_)
  clear hK K
  generalize World.setRow _ _ _ = v22_ at *
  simp only [nrm]
  refine any_done (by kernel_rfl) ?_
  go_upto_region 4 with fail
  refine any_start (S := fun v => v.heap[g1_1]? = some (.cells c1 91 (0, 0)) ∧ v.heap[g1_2]? = some (.cells c2 91 (0, 0)) ∧ True) (by kernel_rfl) ?_
  replace hB := hB.drew
  generalize World.drew _ = v23_ at *
  simp only [List.size_toArray, List.length_cons, List.length_nil, Array.replicate, List.replicate]
  refine any_take (i := 0) (v := (.agg c1)) #[false, false, false, false, false, false] rfl (by kernel_rfl) (by kernel_rfl) (by kernel_rfl) (by kernel_rfl) (fun _ _ _ h => h) (.inl ⟨by kernel_rfl, fun x hu => exec_arr x 91 (.tmp 13) rfl g1_1 (by kernel_rfl) c1 91 _ hu.1 Tryd.underlying91 rfl (by rw [Tryd.infoElem, EC.size _ hc1])⟩) ⟨(hB.get 9 (x := ⟨g1_1, c1, 91⟩) rfl), (hB.get 10 (x := ⟨g1_2, c2, 91⟩) rfl), trivial⟩ ?_
  simp only [nrm]
  refine any_take (i := 2) (v := (.agg c2)) #[true, false, false, false, false, false] rfl (by kernel_rfl) (by kernel_rfl) (by kernel_rfl) (by kernel_rfl) (fun _ _ _ h => h) (.inl ⟨by kernel_rfl, fun x hu => exec_arr x 91 (.tmp 14) rfl g1_2 (by kernel_rfl) c2 91 _ hu.2.1 Tryd.underlying91 rfl (by rw [Tryd.infoElem, EC.size _ hc2])⟩) ⟨(hB.get 9 (x := ⟨g1_1, c1, 91⟩) rfl), (hB.get 10 (x := ⟨g1_2, c2, 91⟩) rfl), trivial⟩ ?_
  simp only [nrm]
  refine any_one (i := 1) (by kernel_rfl) rfl (fun K hK => ?_)
  refine step_callw (by kernel_rfl) 98 #[.agg c1] (by kernel_rfl) ((square_ec hc1 _).mono ?_)
  rintro r v24_ ⟨c7, rfl, hc7, hg⟩
  refine ⟨_, rfl, ?_⟩
  replace hB := hB.more hg
  clear hg
  refine hK.out _ _ ⟨(hB.get 9 (x := ⟨g1_1, c1, 91⟩) rfl), (hB.get 10 (x := ⟨g1_2, c2, 91⟩) rfl), trivial⟩ (fun _ => ?_)
  clear hK K
  simp only [nrm]
  refine any_one (i := 3) (by kernel_rfl) rfl (fun K hK => ?_)
  refine step_callw (by kernel_rfl) 98 #[.agg c2] (by kernel_rfl) ((square_ec hc2 _).mono ?_)
  rintro r v25_ ⟨c8, rfl, hc8, hg⟩
  refine ⟨_, rfl, ?_⟩
  replace hB := hB.more hg
  clear hg
  refine hK.out _ _ ⟨(hB.get 9 (x := ⟨g1_1, c1, 91⟩) rfl), (hB.get 10 (x := ⟨g1_2, c2, 91⟩) rfl), trivial⟩ (fun _ => ?_)
  clear hK K
  simp only [nrm]
  refine any_one (i := 4) (by kernel_rfl) rfl (fun K hK => ?_)
  rw [if_pos (by kernel_rfl)]
  refine wp_store_row 91 (.tmp 10) (.tmp 36) rfl (w.heap.size + 1 + 1 + 1 + 1 + 1 + 1) c7 (by kernel_rfl) (by kernel_rfl) 91 #[.int .u64 0, .int .u64 0, .int .u64 0, .int .u64 0, .int .u64 0] (hB.get 6 (x := ⟨w.heap.size + 1 + 1 + 1 + 1 + 1 + 1, #[.int .u64 0, .int .u64 0, .int .u64 0, .int .u64 0, .int .u64 0], 91⟩) rfl) (by rw [Tryd.infoElem, EC.size _ hc7]) ((show (#[.int .u64 0, .int .u64 0, .int .u64 0, .int .u64 0, .int .u64 0] : Array Value).size = 5 from rfl).trans (EC.size _ hc7).symm) (EC.one _ hc7) ?_
  replace hB := hB.set 6 (x := ⟨w.heap.size + 1 + 1 + 1 + 1 + 1 + 1, #[.int .u64 0, .int .u64 0, .int .u64 0, .int .u64 0, .int .u64 0], 91⟩) rfl c7
  simp only [List.set_cons_zero, List.set_cons_succ] at hB
  refine hK.out _ _ ⟨(hB.get 9 (x := ⟨g1_1, c1, 91⟩) rfl), (hB.get 10 (x := ⟨g1_2, c2, 91⟩) rfl), trivial⟩ (fun _ => ?_)
  clear hK K
  generalize World.setRow _ _ _ = v26_ at *
  simp only [nrm]
  refine any_one (i := 5) (by kernel_rfl) rfl (fun K hK => ?_)
  rw [if_pos (by kernel_rfl)]
  refine wp_store_row 91 (.tmp 11) (.tmp 38) rfl (w.heap.size + 1 + 1 + 1 + 1 + 1 + 1 + 1) c8 (by kernel_rfl) (by kernel_rfl) 91 #[.int .u64 0, .int .u64 0, .int .u64 0, .int .u64 0, .int .u64 0] (hB.get 7 (x := ⟨w.heap.size + 1 + 1 + 1 + 1 + 1 + 1 + 1, #[.int .u64 0, .int .u64 0, .int .u64 0, .int .u64 0, .int .u64 0], 91⟩) rfl) (by rw [Tryd.infoElem, EC.size _ hc8]) ((show (#[.int .u64 0, .int .u64 0, .int .u64 0, .int .u64 0, .int .u64 0] : Array Value).size = 5 from rfl).trans (EC.size _ hc8).symm) (EC.one _ hc8) ?_
  replace hB := hB.set 7 (x := ⟨w.heap.size + 1 + 1 + 1 + 1 + 1 + 1 + 1, #[.int .u64 0, .int .u64 0, .int .u64 0, .int .u64 0, .int .u64 0], 91⟩) rfl c8
  simp only [List.set_cons_zero, List.set_cons_succ] at hB
  refine hK.out _ _ ⟨(hB.get 9 (x := ⟨g1_1, c1, 91⟩) rfl), (hB.get 10 (x := ⟨g1_2, c2, 91⟩) rfl), trivial⟩ (fun _ => ?_)
  clear hK K
  generalize World.setRow _ _ _ = v27_ at *
  simp only [nrm]
  refine any_done (by kernel_rfl) ?_
  go_upto_region 5 with fail
  refine wp_region_lit ?_
  refine list_val (.agg c7) (by kernel_rfl) (exec_arr _ 91 (.tmp 10) rfl (w.heap.size + 1 + 1 + 1 + 1 + 1 + 1) (by kernel_rfl) c7 91 _ (hB.get 6 (x := ⟨w.heap.size + 1 + 1 + 1 + 1 + 1 + 1, c7, 91⟩) rfl) Tryd.underlying91 rfl (by rw [Tryd.infoElem, EC.size _ hc7])) ?_
  simp only [nrm]
  refine list_val (.agg c8) (by kernel_rfl) (exec_arr _ 91 (.tmp 11) rfl (w.heap.size + 1 + 1 + 1 + 1 + 1 + 1 + 1) (by kernel_rfl) c8 91 _ (hB.get 7 (x := ⟨w.heap.size + 1 + 1 + 1 + 1 + 1 + 1 + 1, c8, 91⟩) rfl) Tryd.underlying91 rfl (by rw [Tryd.infoElem, EC.size _ hc8])) ?_
  simp only [nrm]
  refine list_call 99 #[.agg c7, .agg c8] (by kernel_rfl) (by kernel_rfl) ((sub_ec hc7 hc8 _).mono ?_)
  rintro r v28_ ⟨c9, rfl, hc9, hg⟩
  refine ⟨_, rfl, ?_⟩
  replace hB := hB.more hg
  clear hg
  simp only [nrm]
  refine list_store 91 (.tmp 12) (.tmp 41) (w.heap.size + 1 + 1 + 1 + 1 + 1 + 1 + 1 + 1) c9 91 #[.int .u64 0, .int .u64 0, .int .u64 0, .int .u64 0, .int .u64 0] (by kernel_rfl) rfl (by kernel_rfl) (by kernel_rfl) (hB.get 8 (x := ⟨w.heap.size + 1 + 1 + 1 + 1 + 1 + 1 + 1 + 1, #[.int .u64 0, .int .u64 0, .int .u64 0, .int .u64 0, .int .u64 0], 91⟩) rfl) (by rw [Tryd.infoElem, EC.size _ hc9]) ((show (#[.int .u64 0, .int .u64 0, .int .u64 0, .int .u64 0, .int .u64 0] : Array Value).size = 5 from rfl).trans (EC.size _ hc9).symm) (EC.one _ hc9) ?_
  replace hB := hB.set 8 (x := ⟨w.heap.size + 1 + 1 + 1 + 1 + 1 + 1 + 1 + 1, #[.int .u64 0, .int .u64 0, .int .u64 0, .int .u64 0, .int .u64 0], 91⟩) rfl c9
  simp only [List.set_cons_zero, List.set_cons_succ] at hB
  generalize World.setRow _ _ _ = v29_ at *
  simp only [nrm]
  refine wpList_nil ?_
  go_upto_region 6 with fail
  refine any_start (S := fun v => v.heap[w.heap.size + 1 + 1 + 1 + 1]? = some (.cells c5 91 (0, 0)) ∧ v.heap[w.heap.size + 1 + 1 + 1 + 1 + 1]? = some (.cells c6 91 (0, 0)) ∧ v.heap[w.heap.size + 1 + 1 + 1 + 1 + 1 + 1]? = some (.cells c7 91 (0, 0)) ∧ v.heap[w.heap.size + 1 + 1 + 1 + 1 + 1 + 1 + 1]? = some (.cells c8 91 (0, 0)) ∧ v.heap[w.heap.size + 1 + 1 + 1 + 1 + 1 + 1 + 1 + 1]? = some (.cells c9 91 (0, 0)) ∧ True) (by kernel_rfl) ?_
  replace hB := hB.drew
  generalize World.drew _ = v30_ at *
  simp only [List.size_toArray, List.length_cons, List.length_nil, Array.replicate, List.replicate]
  refine any_take (i := 0) (v := (.agg c5)) #[false, false, false, false, false, false, false, false, false, false] rfl (by kernel_rfl) (by kernel_rfl) (by kernel_rfl) (by kernel_rfl) (fun _ _ _ h => h) (.inl ⟨by kernel_rfl, fun x hu => exec_arr x 91 (.tmp 8) rfl (w.heap.size + 1 + 1 + 1 + 1) (by kernel_rfl) c5 91 _ hu.1 Tryd.underlying91 rfl (by rw [Tryd.infoElem, EC.size _ hc5])⟩) ⟨(hB.get 4 (x := ⟨w.heap.size + 1 + 1 + 1 + 1, c5, 91⟩) rfl), (hB.get 5 (x := ⟨w.heap.size + 1 + 1 + 1 + 1 + 1, c6, 91⟩) rfl), (hB.get 6 (x := ⟨w.heap.size + 1 + 1 + 1 + 1 + 1 + 1, c7, 91⟩) rfl), (hB.get 7 (x := ⟨w.heap.size + 1 + 1 + 1 + 1 + 1 + 1 + 1, c8, 91⟩) rfl), (hB.get 8 (x := ⟨w.heap.size + 1 + 1 + 1 + 1 + 1 + 1 + 1 + 1, c9, 91⟩) rfl), trivial⟩ ?_
  simp only [nrm]
  refine any_take (i := 1) (v := (.agg c6)) #[true, false, false, false, false, false, false, false, false, false] rfl (by kernel_rfl) (by kernel_rfl) (by kernel_rfl) (by kernel_rfl) (fun _ _ _ h => h) (.inl ⟨by kernel_rfl, fun x hu => exec_arr x 91 (.tmp 9) rfl (w.heap.size + 1 + 1 + 1 + 1 + 1) (by kernel_rfl) c6 91 _ hu.2.1 Tryd.underlying91 rfl (by rw [Tryd.infoElem, EC.size _ hc6])⟩) ⟨(hB.get 4 (x := ⟨w.heap.size + 1 + 1 + 1 + 1, c5, 91⟩) rfl), (hB.get 5 (x := ⟨w.heap.size + 1 + 1 + 1 + 1 + 1, c6, 91⟩) rfl), (hB.get 6 (x := ⟨w.heap.size + 1 + 1 + 1 + 1 + 1 + 1, c7, 91⟩) rfl), (hB.get 7 (x := ⟨w.heap.size + 1 + 1 + 1 + 1 + 1 + 1 + 1, c8, 91⟩) rfl), (hB.get 8 (x := ⟨w.heap.size + 1 + 1 + 1 + 1 + 1 + 1 + 1 + 1, c9, 91⟩) rfl), trivial⟩ ?_
  simp only [nrm]
  refine any_take (i := 2) (v := (.agg c7)) #[true, true, false, false, false, false, false, false, false, false] rfl (by kernel_rfl) (by kernel_rfl) (by kernel_rfl) (by kernel_rfl) (fun _ _ _ h => h) (.inl ⟨by kernel_rfl, fun x hu => exec_arr x 91 (.tmp 10) rfl (w.heap.size + 1 + 1 + 1 + 1 + 1 + 1) (by kernel_rfl) c7 91 _ hu.2.2.1 Tryd.underlying91 rfl (by rw [Tryd.infoElem, EC.size _ hc7])⟩) ⟨(hB.get 4 (x := ⟨w.heap.size + 1 + 1 + 1 + 1, c5, 91⟩) rfl), (hB.get 5 (x := ⟨w.heap.size + 1 + 1 + 1 + 1 + 1, c6, 91⟩) rfl), (hB.get 6 (x := ⟨w.heap.size + 1 + 1 + 1 + 1 + 1 + 1, c7, 91⟩) rfl), (hB.get 7 (x := ⟨w.heap.size + 1 + 1 + 1 + 1 + 1 + 1 + 1, c8, 91⟩) rfl), (hB.get 8 (x := ⟨w.heap.size + 1 + 1 + 1 + 1 + 1 + 1 + 1 + 1, c9, 91⟩) rfl), trivial⟩ ?_
  simp only [nrm]
  refine any_take (i := 3) (v := (.agg c8)) #[true, true, true, false, false, false, false, false, false, false] rfl (by kernel_rfl) (by kernel_rfl) (by kernel_rfl) (by kernel_rfl) (fun _ _ _ h => h) (.inl ⟨by kernel_rfl, fun x hu => exec_arr x 91 (.tmp 11) rfl (w.heap.size + 1 + 1 + 1 + 1 + 1 + 1 + 1) (by kernel_rfl) c8 91 _ hu.2.2.2.1 Tryd.underlying91 rfl (by rw [Tryd.infoElem, EC.size _ hc8])⟩) ⟨(hB.get 4 (x := ⟨w.heap.size + 1 + 1 + 1 + 1, c5, 91⟩) rfl), (hB.get 5 (x := ⟨w.heap.size + 1 + 1 + 1 + 1 + 1, c6, 91⟩) rfl), (hB.get 6 (x := ⟨w.heap.size + 1 + 1 + 1 + 1 + 1 + 1, c7, 91⟩) rfl), (hB.get 7 (x := ⟨w.heap.size + 1 + 1 + 1 + 1 + 1 + 1 + 1, c8, 91⟩) rfl), (hB.get 8 (x := ⟨w.heap.size + 1 + 1 + 1 + 1 + 1 + 1 + 1 + 1, c9, 91⟩) rfl), trivial⟩ ?_
  simp only [nrm]
  refine any_take (i := 4) (v := (.agg c9)) #[true, true, true, true, false, false, false, false, false, false] rfl (by kernel_rfl) (by kernel_rfl) (by kernel_rfl) (by kernel_rfl) (fun _ _ _ h => h) (.inl ⟨by kernel_rfl, fun x hu => exec_arr x 91 (.tmp 12) rfl (w.heap.size + 1 + 1 + 1 + 1 + 1 + 1 + 1 + 1) (by kernel_rfl) c9 91 _ hu.2.2.2.2.1 Tryd.underlying91 rfl (by rw [Tryd.infoElem, EC.size _ hc9])⟩) ⟨(hB.get 4 (x := ⟨w.heap.size + 1 + 1 + 1 + 1, c5, 91⟩) rfl), (hB.get 5 (x := ⟨w.heap.size + 1 + 1 + 1 + 1 + 1, c6, 91⟩) rfl), (hB.get 6 (x := ⟨w.heap.size + 1 + 1 + 1 + 1 + 1 + 1, c7, 91⟩) rfl), (hB.get 7 (x := ⟨w.heap.size + 1 + 1 + 1 + 1 + 1 + 1 + 1, c8, 91⟩) rfl), (hB.get 8 (x := ⟨w.heap.size + 1 + 1 + 1 + 1 + 1 + 1 + 1 + 1, c9, 91⟩) rfl), trivial⟩ ?_
  simp only [nrm]
  refine any_one (i := 5) (by kernel_rfl) rfl (fun K hK => ?_)
  rw [if_pos (by kernel_rfl)]
  refine wp_store_row 91 (.tmp 8) (.tmp 42) rfl (w.heap.size + 1 + 1 + 1 + 1) c5 (by kernel_rfl) (by kernel_rfl) 91 c5 (hB.get 4 (x := ⟨w.heap.size + 1 + 1 + 1 + 1, c5, 91⟩) rfl) (by rw [Tryd.infoElem, EC.size _ hc5]) ((EC.size _ hc5).trans (EC.size _ hc5).symm) (EC.one _ hc5) ?_
  replace hB := hB.set 4 (x := ⟨w.heap.size + 1 + 1 + 1 + 1, c5, 91⟩) rfl c5
  simp only [List.set_cons_zero, List.set_cons_succ] at hB
  refine hK.out _ _ ⟨(hB.get 4 (x := ⟨w.heap.size + 1 + 1 + 1 + 1, c5, 91⟩) rfl), (hB.get 5 (x := ⟨w.heap.size + 1 + 1 + 1 + 1 + 1, c6, 91⟩) rfl), (hB.get 6 (x := ⟨w.heap.size + 1 + 1 + 1 + 1 + 1 + 1, c7, 91⟩) rfl), (hB.get 7 (x := ⟨w.heap.size + 1 + 1 + 1 + 1 + 1 + 1 + 1, c8, 91⟩) rfl), (hB.get 8 (x := ⟨w.heap.size + 1 + 1 + 1 + 1 + 1 + 1 + 1 + 1, c9, 91⟩) rfl), trivial⟩ (fun _ => ?_)
  clear hK K
  generalize World.setRow _ _ _ = v31_ at *
  simp only [nrm]
  refine any_one (i := 6) (by kernel_rfl) rfl (fun K hK => ?_)
  rw [if_pos (by kernel_rfl)]
  refine wp_store_row 91 (.tmp 9) (.tmp 43) rfl (w.heap.size + 1 + 1 + 1 + 1 + 1) c6 (by kernel_rfl) (by kernel_rfl) 91 c6 (hB.get 5 (x := ⟨w.heap.size + 1 + 1 + 1 + 1 + 1, c6, 91⟩) rfl) (by rw [Tryd.infoElem, EC.size _ hc6]) ((EC.size _ hc6).trans (EC.size _ hc6).symm) (EC.one _ hc6) ?_
  replace hB := hB.set 5 (x := ⟨w.heap.size + 1 + 1 + 1 + 1 + 1, c6, 91⟩) rfl c6
  simp only [List.set_cons_zero, List.set_cons_succ] at hB
  refine hK.out _ _ ⟨(hB.get 4 (x := ⟨w.heap.size + 1 + 1 + 1 + 1, c5, 91⟩) rfl), (hB.get 5 (x := ⟨w.heap.size + 1 + 1 + 1 + 1 + 1, c6, 91⟩) rfl), (hB.get 6 (x := ⟨w.heap.size + 1 + 1 + 1 + 1 + 1 + 1, c7, 91⟩) rfl), (hB.get 7 (x := ⟨w.heap.size + 1 + 1 + 1 + 1 + 1 + 1 + 1, c8, 91⟩) rfl), (hB.get 8 (x := ⟨w.heap.size + 1 + 1 + 1 + 1 + 1 + 1 + 1 + 1, c9, 91⟩) rfl), trivial⟩ (fun _ => ?_)
  clear hK K
  generalize World.setRow _ _ _ = v32_ at *
  simp only [nrm]
  refine any_one (i := 7) (by kernel_rfl) rfl (fun K hK => ?_)
  rw [if_pos (by kernel_rfl)]
  refine wp_store_row 91 (.tmp 10) (.tmp 44) rfl (w.heap.size + 1 + 1 + 1 + 1 + 1 + 1) c7 (by kernel_rfl) (by kernel_rfl) 91 c7 (hB.get 6 (x := ⟨w.heap.size + 1 + 1 + 1 + 1 + 1 + 1, c7, 91⟩) rfl) (by rw [Tryd.infoElem, EC.size _ hc7]) ((EC.size _ hc7).trans (EC.size _ hc7).symm) (EC.one _ hc7) ?_
  replace hB := hB.set 6 (x := ⟨w.heap.size + 1 + 1 + 1 + 1 + 1 + 1, c7, 91⟩) rfl c7
  simp only [List.set_cons_zero, List.set_cons_succ] at hB
  refine hK.out _ _ ⟨(hB.get 4 (x := ⟨w.heap.size + 1 + 1 + 1 + 1, c5, 91⟩) rfl), (hB.get 5 (x := ⟨w.heap.size + 1 + 1 + 1 + 1 + 1, c6, 91⟩) rfl), (hB.get 6 (x := ⟨w.heap.size + 1 + 1 + 1 + 1 + 1 + 1, c7, 91⟩) rfl), (hB.get 7 (x := ⟨w.heap.size + 1 + 1 + 1 + 1 + 1 + 1 + 1, c8, 91⟩) rfl), (hB.get 8 (x := ⟨w.heap.size + 1 + 1 + 1 + 1 + 1 + 1 + 1 + 1, c9, 91⟩) rfl), trivial⟩ (fun _ => ?_)
  clear hK K
  generalize World.setRow _ _ _ = v33_ at *
  simp only [nrm]
  refine any_one (i := 8) (by kernel_rfl) rfl (fun K hK => ?_)
  rw [if_pos (by kernel_rfl)]
  refine wp_store_row 91 (.tmp 11) (.tmp 45) rfl (w.heap.size + 1 + 1 + 1 + 1 + 1 + 1 + 1) c8 (by kernel_rfl) (by kernel_rfl) 91 c8 (hB.get 7 (x := ⟨w.heap.size + 1 + 1 + 1 + 1 + 1 + 1 + 1, c8, 91⟩) rfl) (by rw [Tryd.infoElem, EC.size _ hc8]) ((EC.size _ hc8).trans (EC.size _ hc8).symm) (EC.one _ hc8) ?_
  replace hB := hB.set 7 (x := ⟨w.heap.size + 1 + 1 + 1 + 1 + 1 + 1 + 1, c8, 91⟩) rfl c8
  simp only [List.set_cons_zero, List.set_cons_succ] at hB
  refine hK.out _ _ ⟨(hB.get 4 (x := ⟨w.heap.size + 1 + 1 + 1 + 1, c5, 91⟩) rfl), (hB.get 5 (x := ⟨w.heap.size + 1 + 1 + 1 + 1 + 1, c6, 91⟩) rfl), (hB.get 6 (x := ⟨w.heap.size + 1 + 1 + 1 + 1 + 1 + 1, c7, 91⟩) rfl), (hB.get 7 (x := ⟨w.heap.size + 1 + 1 + 1 + 1 + 1 + 1 + 1, c8, 91⟩) rfl), (hB.get 8 (x := ⟨w.heap.size + 1 + 1 + 1 + 1 + 1 + 1 + 1 + 1, c9, 91⟩) rfl), trivial⟩ (fun _ => ?_)
  clear hK K
  generalize World.setRow _ _ _ = v34_ at *
  simp only [nrm]
  refine any_one (i := 9) (by kernel_rfl) rfl (fun K hK => ?_)
  rw [if_pos (by kernel_rfl)]
  refine wp_store_row 91 (.tmp 12) (.tmp 46) rfl (w.heap.size + 1 + 1 + 1 + 1 + 1 + 1 + 1 + 1) c9 (by kernel_rfl) (by kernel_rfl) 91 c9 (hB.get 8 (x := ⟨w.heap.size + 1 + 1 + 1 + 1 + 1 + 1 + 1 + 1, c9, 91⟩) rfl) (by rw [Tryd.infoElem, EC.size _ hc9]) ((EC.size _ hc9).trans (EC.size _ hc9).symm) (EC.one _ hc9) ?_
  replace hB := hB.set 8 (x := ⟨w.heap.size + 1 + 1 + 1 + 1 + 1 + 1 + 1 + 1, c9, 91⟩) rfl c9
  simp only [List.set_cons_zero, List.set_cons_succ] at hB
  refine hK.out _ _ ⟨(hB.get 4 (x := ⟨w.heap.size + 1 + 1 + 1 + 1, c5, 91⟩) rfl), (hB.get 5 (x := ⟨w.heap.size + 1 + 1 + 1 + 1 + 1, c6, 91⟩) rfl), (hB.get 6 (x := ⟨w.heap.size + 1 + 1 + 1 + 1 + 1 + 1, c7, 91⟩) rfl), (hB.get 7 (x := ⟨w.heap.size + 1 + 1 + 1 + 1 + 1 + 1 + 1, c8, 91⟩) rfl), (hB.get 8 (x := ⟨w.heap.size + 1 + 1 + 1 + 1 + 1 + 1 + 1 + 1, c9, 91⟩) rfl), trivial⟩ (fun _ => ?_)
  clear hK K
  generalize World.setRow _ _ _ = v35_ at *
  simp only [nrm]
  refine any_done (by kernel_rfl) ?_
  have hG := hB.gr
  have hr0 := (hB.get 4 (x := ⟨w.heap.size + 1 + 1 + 1 + 1, c5, 91⟩) rfl)
  have hr1 := (hB.get 5 (x := ⟨w.heap.size + 1 + 1 + 1 + 1 + 1, c6, 91⟩) rfl)
  have hr2 := (hB.get 6 (x := ⟨w.heap.size + 1 + 1 + 1 + 1 + 1 + 1, c7, 91⟩) rfl)
  have hr3 := (hB.get 7 (x := ⟨w.heap.size + 1 + 1 + 1 + 1 + 1 + 1 + 1, c8, 91⟩) rfl)
  have hr4 := (hB.get 8 (x := ⟨w.heap.size + 1 + 1 + 1 + 1 + 1 + 1 + 1 + 1, c9, 91⟩) rfl)
  clear hB
  have hh0 := hc5
  obtain ⟨c5_0, c5_1, c5_2, c5_3, c5_4, e0, _⟩ := hc5
  rw [e0] at hr0
  have p00 := cell_of (i := 0) hr0 rfl
  have p01 := cell_of (i := 1) hr0 rfl
  have p02 := cell_of (i := 2) hr0 rfl
  have p03 := cell_of (i := 3) hr0 rfl
  have p04 := cell_of (i := 4) hr0 rfl
  have hh1 := hc6
  obtain ⟨c6_0, c6_1, c6_2, c6_3, c6_4, e1, _⟩ := hc6
  rw [e1] at hr1
  have p10 := cell_of (i := 0) hr1 rfl
  have p11 := cell_of (i := 1) hr1 rfl
  have p12 := cell_of (i := 2) hr1 rfl
  have p13 := cell_of (i := 3) hr1 rfl
  have p14 := cell_of (i := 4) hr1 rfl
  have hh2 := hc7
  obtain ⟨c7_0, c7_1, c7_2, c7_3, c7_4, e2, _⟩ := hc7
  rw [e2] at hr2
  have p20 := cell_of (i := 0) hr2 rfl
  have p21 := cell_of (i := 1) hr2 rfl
  have p22 := cell_of (i := 2) hr2 rfl
  have p23 := cell_of (i := 3) hr2 rfl
  have p24 := cell_of (i := 4) hr2 rfl
  have hh3 := hc8
  obtain ⟨c8_0, c8_1, c8_2, c8_3, c8_4, e3, _⟩ := hc8
  rw [e3] at hr3
  have p30 := cell_of (i := 0) hr3 rfl
  have p31 := cell_of (i := 1) hr3 rfl
  have p32 := cell_of (i := 2) hr3 rfl
  have p33 := cell_of (i := 3) hr3 rfl
  have p34 := cell_of (i := 4) hr3 rfl
  have hh4 := hc9
  obtain ⟨c9_0, c9_1, c9_2, c9_3, c9_4, e4, _⟩ := hc9
  rw [e4] at hr4
  have p40 := cell_of (i := 0) hr4 rfl
  have p41 := cell_of (i := 1) hr4 rfl
  have p42 := cell_of (i := 2) hr4 rfl
  have p43 := cell_of (i := 3) hr4 rfl
  have p44 := cell_of (i := 4) hr4 rfl
  go_wp2_with fail
  refine bodyPost_ret (v := .tuple #[.agg #[.int .u64 c5_0, .int .u64 c5_1, .int .u64 c5_2, .int .u64 c5_3, .int .u64 c5_4], .agg #[.int .u64 c6_0, .int .u64 c6_1, .int .u64 c6_2, .int .u64 c6_3, .int .u64 c6_4], .agg #[.int .u64 c7_0, .int .u64 c7_1, .int .u64 c7_2, .int .u64 c7_3, .int .u64 c7_4], .agg #[.int .u64 c8_0, .int .u64 c8_1, .int .u64 c8_2, .int .u64 c8_3, .int .u64 c8_4], .agg #[.int .u64 c9_0, .int .u64 c9_1, .int .u64 c9_2, .int .u64 c9_3, .int .u64 c9_4]]) ?_ rfl ?_
  · simp [results, Tryd.results95, go_sem, p00, p01, p02, p03, p04, p10, p11, p12, p13, p14, p20, p21, p22, p23, p24, p30, p31, p32, p33, p34, p40, p41, p42, p43, p44]
  · rw [← e0, ← e1, ← e2, ← e3, ← e4]
    exact ⟨_, _, _, _, _, rfl, hh0, hh1, hh2, hh3, hh4, hG⟩
end Go.Proofs.YtpmgmpihmpifgaaDoor.Cv
