/-
  What X answers.
-/
import Derived.Test.YtpmgmpihmpifgaaDoorXK1
import Derived.Test.YtpmgmpihmpifgaaDoorUClamp
namespace Go.Proofs.YtpmgmpihmpifgaaDoor.Cv
open Go.RowKit
set_option maxRecDepth 100000
set_option linter.unusedSimpArgs false

/-- what X reckons of two keys' numbers -/
def xn (M U : Nat) : Int := (Ed.lad ((U : Int) % 57896044618658097711785492504343953926634992332820282019728792003956564819968) (Ed.hi (cl M) 255)).a * (Ed.lad ((U : Int) % 57896044618658097711785492504343953926634992332820282019728792003956564819968) (Ed.hi (cl M) 255)).b ^ p2
theorem pp_p : pp = Ed.p := rfl
set_option maxHeartbeats 4000000 in
theorem x_ok (M U : Nat) (w : World) :
    Calls Tryd.prog 40 #[.agg (kc (digs (M : Int) 32)), .agg (kc (digs (U : Int) 32))] w (fun r w' => r = .returned (.agg (kc (digs (xn M U % pp) 32))) ∧ Gr w w') := by
  go_enter Tryd.func40, Tryd.ntmps40
  go_upto_region 1 with fail
  have hB := ((((Bl.nil w).new (kc (digs (M : Int) 32)) 25).new (kc (digs (U : Int) 32)) 25).new #[.int .u8 0, .int .u8 0, .int .u8 0, .int .u8 0, .int .u8 0, .int .u8 0, .int .u8 0, .int .u8 0, .int .u8 0, .int .u8 0, .int .u8 0, .int .u8 0, .int .u8 0, .int .u8 0, .int .u8 0, .int .u8 0, .int .u8 0, .int .u8 0, .int .u8 0, .int .u8 0, .int .u8 0, .int .u8 0, .int .u8 0, .int .u8 0, .int .u8 0, .int .u8 0, .int .u8 0, .int .u8 0, .int .u8 0, .int .u8 0, .int .u8 0, .int .u8 0] 25)
  simp only [size_alloc, List.nil_append, List.cons_append] at hB
  generalize World.alloc _ _ = v1_ at *
  replace hB : Bl w [⟨w.heap.size, (kc (digs (M : Int) 32)), 25⟩, ⟨w.heap.size + 1, (kc (digs (U : Int) 32)), 25⟩, ⟨w.heap.size + 1 + 1, Z32, 25⟩] v1_ := hB
  refine any_start (S := fun v => v.heap[w.heap.size]? = some (.cells (kc (digs (M : Int) 32)) 25 (0, 0)) ∧ v.heap[w.heap.size + 1]? = some (.cells (kc (digs (U : Int) 32)) 25 (0, 0)) ∧ True) (by kernel_rfl) ?_
  replace hB := hB.drew
  generalize World.drew _ = v2_ at *
  simp only [List.size_toArray, List.length_cons, List.length_nil, Array.replicate, List.replicate]
  refine any_take (i := 0) (v := (.agg (kc (digs (M : Int) 32)))) #[false, false, false, false, false, false, false, false, false, false, false, false] rfl (by kernel_rfl) (by kernel_rfl) (by kernel_rfl) (by kernel_rfl) (fun _ _ _ h => h) (.inl ⟨by kernel_rfl, fun x hu => exec_arr x 25 (.tmp 2) rfl w.heap.size (by kernel_rfl) (kc (digs (M : Int) 32)) 25 _ hu.1 Tryd.underlying25 rfl (by rw [Tryd.infoKey, kc32])⟩) ⟨(hB.get 0 (x := ⟨w.heap.size, (kc (digs (M : Int) 32)), 25⟩) rfl), (hB.get 1 (x := ⟨w.heap.size + 1, (kc (digs (U : Int) 32)), 25⟩) rfl), trivial⟩ ?_
  simp only [nrm]
  refine any_take (i := 2) (v := (.agg (kc (digs (U : Int) 32)))) #[true, false, false, false, false, false, false, false, false, false, false, false] rfl (by kernel_rfl) (by kernel_rfl) (by kernel_rfl) (by kernel_rfl) (fun _ _ _ h => h) (.inl ⟨by kernel_rfl, fun x hu => exec_arr x 25 (.tmp 3) rfl (w.heap.size + 1) (by kernel_rfl) (kc (digs (U : Int) 32)) 25 _ hu.2.1 Tryd.underlying25 rfl (by rw [Tryd.infoKey, kc32])⟩) ⟨(hB.get 0 (x := ⟨w.heap.size, (kc (digs (M : Int) 32)), 25⟩) rfl), (hB.get 1 (x := ⟨w.heap.size + 1, (kc (digs (U : Int) 32)), 25⟩) rfl), trivial⟩ ?_
  simp only [nrm]
  have hSf : ∀ v, Gr v2_ v → (fun v => v.heap[w.heap.size]? = some (.cells (kc (digs (M : Int) 32)) 25 (0, 0)) ∧ v.heap[w.heap.size + 1]? = some (.cells (kc (digs (U : Int) 32)) 25 (0, 0)) ∧ True) v := fun v k => ⟨k.blk (hB.get 0 (x := ⟨w.heap.size, (kc (digs (M : Int) 32)), 25⟩) rfl), k.blk (hB.get 1 (x := ⟨w.heap.size + 1, (kc (digs (U : Int) 32)), 25⟩) rfl), trivial⟩
  refine stage2 v2_ #[.int .u64 0, .int .u64 0, .int .u64 0, .int .u64 0, .int .u64 0] 91 (fun q1_1 q1_2 => ⟨#[(.agg (kc (digs (M : Int) 32))), (.agg (kc (digs (U : Int) 32))), (.pointer (some ⟨w.heap.size, 0, none⟩)), (.pointer (some ⟨w.heap.size + 1, 0, none⟩)), (.pointer (some ⟨w.heap.size + 1 + 1, 0, none⟩)), q1_1, q1_2, undef, (.agg (kc (digs (M : Int) 32))), undef, (.agg (kc (digs (U : Int) 32))), undef, undef, undef, undef, undef, undef, undef, undef, undef], []⟩) (fun b1_1 b1_2 => #[true, false, true, false, false, false, false, false, b1_1, b1_2, false, false]) 8 9 1 false hSf (by kernel_rfl) (fun _ _ => ⟨rfl, rfl⟩) ?_ ?_ ?_ ⟨false, false, undef, undef, 0, 0, M2.start _ _ _ _ _⟩
  · intro q1_1 q1_2 x K hK
    refine wpOp_step (o := _) rfl (fun K' hK' => ?_)
    replace hK' := hide hK'
    replace hK := hide hK
    go_simp
    exact unhide hK' _ _ (unhide hK)
  · intro q1_1 q1_2 x K hK
    refine wpOp_step (o := _) rfl (fun K' hK' => ?_)
    replace hK' := hide hK'
    replace hK := hide hK
    go_simp
    exact unhide hK' _ _ (unhide hK)
  intro b1_1 b1_2 q1_1 q1_2 g1_1 g1_2 v3_ hM _
  refine wpOp_step (o := _) rfl (fun K' hK' => ?_)
  replace hK' := hide hK'
  refine step_callw (by kernel_rfl) 62 #[.agg (kc (digs (M : Int) 32))] (by kernel_rfl) ((clamp_ok M _).mono ?_)
  rintro r v4_ ⟨rfl, hg⟩
  refine ⟨_, rfl, ?_⟩
  have hM' := hM.go (A' := (fun q1_1 q1_2 => ⟨#[(.agg (kc (digs (M : Int) 32))), (.agg (kc (digs (U : Int) 32))), (.pointer (some ⟨w.heap.size, 0, none⟩)), (.pointer (some ⟨w.heap.size + 1, 0, none⟩)), (.pointer (some ⟨w.heap.size + 1 + 1, 0, none⟩)), q1_1, q1_2, undef, (.agg (kc (digs (M : Int) 32))), (.agg (kc (digs (cl M : Int) 32))), (.agg (kc (digs (U : Int) 32))), undef, undef, undef, undef, undef, undef, undef, undef, undef], []⟩)) (F' := (fun b1_1 b1_2 => #[true, true, true, false, false, false, false, false, b1_1, b1_2, false, false])) hg
  refine unhide hK' _ _ ⟨hSf _ hM'.gr, ?_⟩
  clear hK' K' hM hg
  simp only [nrm]
  refine stage2 v2_ #[.int .u64 0, .int .u64 0, .int .u64 0, .int .u64 0, .int .u64 0] 91 (fun q1_1 q1_2 => ⟨#[(.agg (kc (digs (M : Int) 32))), (.agg (kc (digs (U : Int) 32))), (.pointer (some ⟨w.heap.size, 0, none⟩)), (.pointer (some ⟨w.heap.size + 1, 0, none⟩)), (.pointer (some ⟨w.heap.size + 1 + 1, 0, none⟩)), q1_1, q1_2, undef, (.agg (kc (digs (M : Int) 32))), (.agg (kc (digs (cl M : Int) 32))), (.agg (kc (digs (U : Int) 32))), undef, undef, undef, undef, undef, undef, undef, undef, undef], []⟩) (fun b1_1 b1_2 => #[true, true, true, false, false, false, false, false, b1_1, b1_2, false, false]) 8 9 3 false hSf (by kernel_rfl) (fun _ _ => ⟨rfl, rfl⟩) ?_ ?_ ?_ ⟨b1_1, b1_2, q1_1, q1_2, g1_1, g1_2, hM'.go (Gr.refl _)⟩
  · intro q1_1 q1_2 x K hK
    refine wpOp_step (o := _) rfl (fun K' hK' => ?_)
    replace hK' := hide hK'
    replace hK := hide hK
    go_simp
    exact unhide hK' _ _ (unhide hK)
  · intro q1_1 q1_2 x K hK
    refine wpOp_step (o := _) rfl (fun K' hK' => ?_)
    replace hK' := hide hK'
    replace hK := hide hK
    go_simp
    exact unhide hK' _ _ (unhide hK)
  clear hM'
  intro b1_1 b1_2 q1_1 q1_2 g1_1 g1_2 v5_ hM _
  refine wpOp_step (o := _) rfl (fun K' hK' => ?_)
  replace hK' := hide hK'
  refine step_callw (by kernel_rfl) 63 #[.agg (kc (digs (U : Int) 32))] (by kernel_rfl) ((from_ec (U : Int) (by omega) _).mono ?_)
  rintro r v6_ ⟨c1, rfl, hc1, hg⟩
  refine ⟨_, rfl, ?_⟩
  have hM' := hM.go (A' := (fun q1_1 q1_2 => ⟨#[(.agg (kc (digs (M : Int) 32))), (.agg (kc (digs (U : Int) 32))), (.pointer (some ⟨w.heap.size, 0, none⟩)), (.pointer (some ⟨w.heap.size + 1, 0, none⟩)), (.pointer (some ⟨w.heap.size + 1 + 1, 0, none⟩)), q1_1, q1_2, undef, (.agg (kc (digs (M : Int) 32))), (.agg (kc (digs (cl M : Int) 32))), (.agg (kc (digs (U : Int) 32))), (.agg c1), undef, undef, undef, undef, undef, undef, undef, undef], []⟩)) (F' := (fun b1_1 b1_2 => #[true, true, true, true, false, false, false, false, b1_1, b1_2, false, false])) hg
  refine unhide hK' _ _ ⟨hSf _ hM'.gr, ?_⟩
  clear hK' K' hM hg
  simp only [nrm]
  refine stage2 v2_ #[.int .u64 0, .int .u64 0, .int .u64 0, .int .u64 0, .int .u64 0] 91 (fun q1_1 q1_2 => ⟨#[(.agg (kc (digs (M : Int) 32))), (.agg (kc (digs (U : Int) 32))), (.pointer (some ⟨w.heap.size, 0, none⟩)), (.pointer (some ⟨w.heap.size + 1, 0, none⟩)), (.pointer (some ⟨w.heap.size + 1 + 1, 0, none⟩)), q1_1, q1_2, undef, (.agg (kc (digs (M : Int) 32))), (.agg (kc (digs (cl M : Int) 32))), (.agg (kc (digs (U : Int) 32))), (.agg c1), undef, undef, undef, undef, undef, undef, undef, undef], []⟩) (fun b1_1 b1_2 => #[true, true, true, true, false, false, false, false, b1_1, b1_2, false, false]) 8 9 4 false hSf (by kernel_rfl) (fun _ _ => ⟨rfl, rfl⟩) ?_ ?_ ?_ ⟨b1_1, b1_2, q1_1, q1_2, g1_1, g1_2, hM'.go (Gr.refl _)⟩
  · intro q1_1 q1_2 x K hK
    refine wpOp_step (o := _) rfl (fun K' hK' => ?_)
    replace hK' := hide hK'
    replace hK := hide hK
    go_simp
    exact unhide hK' _ _ (unhide hK)
  · intro q1_1 q1_2 x K hK
    refine wpOp_step (o := _) rfl (fun K' hK' => ?_)
    replace hK' := hide hK'
    replace hK := hide hK
    go_simp
    exact unhide hK' _ _ (unhide hK)
  clear hM'
  intro b1_1 b1_2 q1_1 q1_2 g1_1 g1_2 v7_ hM _
  refine wpOp_step (o := _) rfl (fun K' hK' => ?_)
  replace hK' := hide hK'
  refine step_callw (by kernel_rfl) 61 #[.agg (kc (digs (cl M : Int) 32)), .agg c1] (by kernel_rfl) ((ladder_ec (M := cl M) hc1 _).mono ?_)
  rintro r v8_ ⟨c2, c3, rfl, hc2, hc3, hg⟩
  refine ⟨_, rfl, ?_⟩
  have hM' := hM.go (A' := (fun q1_1 q1_2 => ⟨#[(.agg (kc (digs (M : Int) 32))), (.agg (kc (digs (U : Int) 32))), (.pointer (some ⟨w.heap.size, 0, none⟩)), (.pointer (some ⟨w.heap.size + 1, 0, none⟩)), (.pointer (some ⟨w.heap.size + 1 + 1, 0, none⟩)), q1_1, q1_2, undef, (.agg (kc (digs (M : Int) 32))), (.agg (kc (digs (cl M : Int) 32))), (.agg (kc (digs (U : Int) 32))), (.agg c1), (.tuple #[.agg c2, .agg c3]), undef, undef, undef, undef, undef, undef, undef], []⟩)) (F' := (fun b1_1 b1_2 => #[true, true, true, true, true, false, false, false, b1_1, b1_2, false, false])) hg
  refine unhide hK' _ _ ⟨hSf _ hM'.gr, ?_⟩
  clear hK' K' hM hg
  simp only [nrm]
  refine any_take (i := 5) (v := (.tuple #[.agg c2, .agg c3])) #[true, true, true, true, true, false, false, false, false, false, false, false] rfl (by kernel_rfl) (by kernel_rfl) (by kernel_rfl) (by kernel_rfl) (fun _ _ _ h => h) (.inl ⟨by kernel_rfl, fun x hu => by kernel_rfl⟩) (hSf _ hM'.gr) ?_
  simp only [nrm]
  refine any_take (i := 6) (v := (.agg c2)) #[true, true, true, true, true, true, false, false, false, false, false, false] rfl (by kernel_rfl) (by kernel_rfl) (by kernel_rfl) (by kernel_rfl) (fun _ _ _ h => h) (.inl ⟨by kernel_rfl, fun x hu => by kernel_rfl⟩) (hSf _ hM'.gr) ?_
  simp only [nrm]
  refine any_take (i := 7) (v := (.agg c3)) #[true, true, true, true, true, true, true, false, false, false, false, false] rfl (by kernel_rfl) (by kernel_rfl) (by kernel_rfl) (by kernel_rfl) (fun _ _ _ h => h) (.inl ⟨by kernel_rfl, fun x hu => by kernel_rfl⟩) (hSf _ hM'.gr) ?_
  simp only [nrm]
  refine stage2 v2_ #[.int .u64 0, .int .u64 0, .int .u64 0, .int .u64 0, .int .u64 0] 91 (fun q1_1 q1_2 => ⟨#[(.agg (kc (digs (M : Int) 32))), (.agg (kc (digs (U : Int) 32))), (.pointer (some ⟨w.heap.size, 0, none⟩)), (.pointer (some ⟨w.heap.size + 1, 0, none⟩)), (.pointer (some ⟨w.heap.size + 1 + 1, 0, none⟩)), q1_1, q1_2, (.tuple #[.agg c2, .agg c3]), (.agg (kc (digs (M : Int) 32))), (.agg (kc (digs (cl M : Int) 32))), (.agg (kc (digs (U : Int) 32))), (.agg c1), (.tuple #[.agg c2, .agg c3]), (.agg c2), (.agg c3), undef, undef, undef, undef, undef], []⟩) (fun b1_1 b1_2 => #[true, true, true, true, true, true, true, true, b1_1, b1_2, false, false]) 8 9 10 true hSf (by kernel_rfl) (fun _ _ => ⟨rfl, rfl⟩) ?_ ?_ ?_ ⟨b1_1, b1_2, q1_1, q1_2, g1_1, g1_2, hM'.go (Gr.refl _)⟩
  · intro q1_1 q1_2 x K hK
    refine wpOp_step (o := _) rfl (fun K' hK' => ?_)
    replace hK' := hide hK'
    replace hK := hide hK
    go_simp
    exact unhide hK' _ _ (unhide hK)
  · intro q1_1 q1_2 x K hK
    refine wpOp_step (o := _) rfl (fun K' hK' => ?_)
    replace hK' := hide hK'
    replace hK := hide hK
    go_simp
    exact unhide hK' _ _ (unhide hK)
  clear hM'
  intro b1_1 b1_2 q1_1 q1_2 g1_1 g1_2 v9_ hM hall
  obtain ⟨rfl, rfl⟩ := hall rfl
  obtain ⟨rfl, rfl, hB'⟩ := hM.all hB
  replace hB := hB'
  clear hB' hM hall
  simp only [List.cons_append, List.nil_append] at hB
  refine wpOp_step (o := _) rfl (fun K' hK' => ?_)
  replace hK' := hide hK'
  rw [if_pos (by kernel_rfl)]
  refine wp_store_row 91 (.tmp 5) (.tmp 13) rfl g1_1 c2 (by kernel_rfl) (by kernel_rfl) 91 #[.int .u64 0, .int .u64 0, .int .u64 0, .int .u64 0, .int .u64 0] (hB.get 3 (x := ⟨g1_1, #[.int .u64 0, .int .u64 0, .int .u64 0, .int .u64 0, .int .u64 0], 91⟩) rfl) (by rw [Tryd.infoElem, EC.size _ hc2]) ((show (#[.int .u64 0, .int .u64 0, .int .u64 0, .int .u64 0, .int .u64 0] : Array Value).size = 5 from rfl).trans (EC.size _ hc2).symm) (EC.one _ hc2) ?_
  replace hB := hB.set 3 (x := ⟨g1_1, #[.int .u64 0, .int .u64 0, .int .u64 0, .int .u64 0, .int .u64 0], 91⟩) rfl c2
  simp only [List.set_cons_zero, List.set_cons_succ] at hB
  refine unhide hK' _ _ ⟨⟨(hB.get 0 (x := ⟨w.heap.size, (kc (digs (M : Int) 32)), 25⟩) rfl), (hB.get 1 (x := ⟨w.heap.size + 1, (kc (digs (U : Int) 32)), 25⟩) rfl), trivial⟩, ?_⟩
  clear hK' K' hSf
  generalize World.setRow _ _ _ = v10_ at *
  simp only [nrm]
  refine any_one (i := 11) (by kernel_rfl) rfl (fun K hK => ?_)
  rw [if_pos (by kernel_rfl)]
  refine wp_store_row 91 (.tmp 6) (.tmp 14) rfl g1_2 c3 (by kernel_rfl) (by kernel_rfl) 91 #[.int .u64 0, .int .u64 0, .int .u64 0, .int .u64 0, .int .u64 0] (hB.get 4 (x := ⟨g1_2, #[.int .u64 0, .int .u64 0, .int .u64 0, .int .u64 0, .int .u64 0], 91⟩) rfl) (by rw [Tryd.infoElem, EC.size _ hc3]) ((show (#[.int .u64 0, .int .u64 0, .int .u64 0, .int .u64 0, .int .u64 0] : Array Value).size = 5 from rfl).trans (EC.size _ hc3).symm) (EC.one _ hc3) ?_
  replace hB := hB.set 4 (x := ⟨g1_2, #[.int .u64 0, .int .u64 0, .int .u64 0, .int .u64 0, .int .u64 0], 91⟩) rfl c3
  simp only [List.set_cons_zero, List.set_cons_succ] at hB
  refine hK.out _ _ ⟨(hB.get 0 (x := ⟨w.heap.size, (kc (digs (M : Int) 32)), 25⟩) rfl), (hB.get 1 (x := ⟨w.heap.size + 1, (kc (digs (U : Int) 32)), 25⟩) rfl), trivial⟩ (fun _ => ?_)
  clear hK K
  generalize World.setRow _ _ _ = v11_ at *
  simp only [nrm]
  refine any_done (by kernel_rfl) ?_
  go_upto_region 2 with fail
  refine any_start (S := fun v => v.heap[g1_1]? = some (.cells c2 91 (0, 0)) ∧ v.heap[g1_2]? = some (.cells c3 91 (0, 0)) ∧ True) (by kernel_rfl) ?_
  replace hB := hB.drew
  generalize World.drew _ = v12_ at *
  simp only [List.size_toArray, List.length_cons, List.length_nil, Array.replicate, List.replicate]
  refine any_take (i := 0) (v := (.agg c2)) #[false, false, false, false, false, false] rfl (by kernel_rfl) (by kernel_rfl) (by kernel_rfl) (by kernel_rfl) (fun _ _ _ h => h) (.inl ⟨by kernel_rfl, fun x hu => exec_arr x 91 (.tmp 5) rfl g1_1 (by kernel_rfl) c2 91 _ hu.1 Tryd.underlying91 rfl (by rw [Tryd.infoElem, EC.size _ hc2])⟩) ⟨(hB.get 3 (x := ⟨g1_1, c2, 91⟩) rfl), (hB.get 4 (x := ⟨g1_2, c3, 91⟩) rfl), trivial⟩ ?_
  simp only [nrm]
  refine any_take (i := 1) (v := (.agg c3)) #[true, false, false, false, false, false] rfl (by kernel_rfl) (by kernel_rfl) (by kernel_rfl) (by kernel_rfl) (fun _ _ _ h => h) (.inl ⟨by kernel_rfl, fun x hu => exec_arr x 91 (.tmp 6) rfl g1_2 (by kernel_rfl) c3 91 _ hu.2.1 Tryd.underlying91 rfl (by rw [Tryd.infoElem, EC.size _ hc3])⟩) ⟨(hB.get 3 (x := ⟨g1_1, c2, 91⟩) rfl), (hB.get 4 (x := ⟨g1_2, c3, 91⟩) rfl), trivial⟩ ?_
  simp only [nrm]
  refine any_one (i := 2) (by kernel_rfl) rfl (fun K hK => ?_)
  refine step_callw (by kernel_rfl) 65 #[.agg c3] (by kernel_rfl) ((inv_ec hc3 _).mono ?_)
  rintro r v13_ ⟨c4, rfl, hc4, hg⟩
  refine ⟨_, rfl, ?_⟩
  replace hB := hB.more hg
  clear hg
  refine hK.out _ _ ⟨(hB.get 3 (x := ⟨g1_1, c2, 91⟩) rfl), (hB.get 4 (x := ⟨g1_2, c3, 91⟩) rfl), trivial⟩ (fun _ => ?_)
  clear hK K
  simp only [nrm]
  refine any_one (i := 3) (by kernel_rfl) rfl (fun K hK => ?_)
  refine step_callw (by kernel_rfl) 64 #[.agg c2, .agg c4] (by kernel_rfl) ((mul_ec hc2 hc4 _).mono ?_)
  rintro r v14_ ⟨c5, rfl, hc5, hg⟩
  refine ⟨_, rfl, ?_⟩
  obtain ⟨V, hV⟩ : ∃ V, V = (Ed.lad ((U : Int) % 57896044618658097711785492504343953926634992332820282019728792003956564819968) (Ed.hi (cl M) 255)).a * (Ed.lad ((U : Int) % 57896044618658097711785492504343953926634992332820282019728792003956564819968) (Ed.hi (cl M) 255)).b ^ p2 := ⟨_, rfl⟩
  rw [← hV] at hc5
  replace hV := hide hV
  replace hB := hB.more hg
  clear hg
  refine hK.out _ _ ⟨(hB.get 3 (x := ⟨g1_1, c2, 91⟩) rfl), (hB.get 4 (x := ⟨g1_2, c3, 91⟩) rfl), trivial⟩ (fun _ => ?_)
  clear hK K
  simp only [nrm]
  refine any_one (i := 4) (by kernel_rfl) rfl (fun K hK => ?_)
  refine step_callw (by kernel_rfl) 66 #[.agg c5] (by kernel_rfl) ((bytes_ec hc5 _).mono ?_)
  rintro r v15_ ⟨rfl, hg⟩
  refine ⟨_, rfl, ?_⟩
  replace hB := hB.more hg
  clear hg
  refine hK.out _ _ ⟨(hB.get 3 (x := ⟨g1_1, c2, 91⟩) rfl), (hB.get 4 (x := ⟨g1_2, c3, 91⟩) rfl), trivial⟩ (fun _ => ?_)
  clear hK K
  simp only [nrm]
  refine any_one (i := 5) (by kernel_rfl) rfl (fun K hK => ?_)
  rw [if_pos (by kernel_rfl)]
  refine wp_store_row 25 (.tmp 4) (.tmp 19) rfl (w.heap.size + 1 + 1) (kc (digs (V % pp) 32)) (by kernel_rfl) (by kernel_rfl) 25 Z32 (hB.get 2 (x := ⟨w.heap.size + 1 + 1, Z32, 25⟩) rfl) (by rw [Tryd.infoKey, kc32]) (Z32_size.trans (kc32 (V % pp) 32).symm) (kc_one _) ?_
  replace hB := hB.set 2 (x := ⟨w.heap.size + 1 + 1, Z32, 25⟩) rfl (kc (digs (V % pp) 32))
  simp only [List.set_cons_zero, List.set_cons_succ] at hB
  refine hK.out _ _ ⟨(hB.get 3 (x := ⟨g1_1, c2, 91⟩) rfl), (hB.get 4 (x := ⟨g1_2, c3, 91⟩) rfl), trivial⟩ (fun _ => ?_)
  clear hK K
  generalize World.setRow _ _ _ = v16_ at *
  simp only [nrm]
  refine any_done (by kernel_rfl) ?_
  go_wp2_with fail
  refine bodyPost_ret (v := .agg (kc (digs (V % pp) 32))) (results_cell_row Tryd.results40 _ _ (w.heap.size + 1 + 1) 25 (kc (digs (V % pp) 32)) (0, 0) _ rfl (hB.get 2 (x := ⟨w.heap.size + 1 + 1, (kc (digs (V % pp) 32)), 25⟩) rfl) Tryd.underlying25 rfl (by rw [Tryd.infoKey, kc32])) rfl ⟨?_, hB.gr⟩
  rw [unhide hV]
  rfl
/-- the same, as a number below the prime -/
def xN (M U : Nat) : Nat := (xn M U % pp).toNat
theorem xN_cast (M U : Nat) : ((xN M U : Nat) : Int) = xn M U % pp := Int.toNat_of_nonneg (Int.emod_nonneg _ (by decide))
theorem x_at (M U : Nat) (w : World) : Calls Tryd.prog 40 #[.agg (kc (digs (M : Int) 32)), .agg (kc (digs (U : Int) 32))] w (fun r w' => r = .returned (.agg (kc (digs (xN M U : Int) 32))) ∧ Gr w w') := by
  rw [xN_cast]
  exact x_ok M U w
end Go.Proofs.YtpmgmpihmpifgaaDoor.Cv

