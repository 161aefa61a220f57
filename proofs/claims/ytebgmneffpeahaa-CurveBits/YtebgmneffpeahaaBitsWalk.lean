/-
  CurveBits: the walk, for whatever keys.
-/
import Derived.Test.YtebgmneffpeahaaBitsMath
namespace Go.Proofs.Ytebgmneffpeahaa
open Go.RowKit
set_option maxRecDepth 100000
set_option linter.unusedSimpArgs false

set_option maxHeartbeats 4000000 in
theorem bits_any (G U : Nat) (t : Int) (ht : 0 ≤ t ∧ t < 256) (w : World) :
    Calls Try.prog 5 #[.agg (kc (digs (G : Int) 32)), .agg (kc (digs (U : Int) 32)), .int .u8 t] w (fun r w' => r = .returned (.bool true) ∧ Gr w w') := by
  go_enter Try.func5, Try.ntmps5
  go_upto_region 3 with (go_at_call 9; refine (wakes_ok _).mono ?_; rintro r w1 ⟨rfl, hg⟩)
  have hB := (((Bl.nil w).new (kc (digs (G : Int) 32)) 23).new (kc (digs (U : Int) 32)) 23).more hg
  simp only [size_alloc, List.nil_append, List.cons_append] at hB
  clear hg
  refine any_start (S := fun v => v.heap[w.heap.size]? = some (.cells (kc (digs (G : Int) 32)) 23 (0, 0)) ∧ v.heap[w.heap.size + 1]? = some (.cells (kc (digs (U : Int) 32)) 23 (0, 0)) ∧ True) (by kernel_rfl) ?_
  replace hB := hB.drew
  generalize World.drew _ = v1_ at *
  simp only [List.size_toArray, List.length_cons, List.length_nil, Array.replicate, List.replicate]
  refine any_take (i := 0) (v := (.agg (kc (digs (G : Int) 32)))) #[false, false, false, false, false, false] rfl (by kernel_rfl) (by kernel_rfl) (by kernel_rfl) (by kernel_rfl) (fun _ _ _ h => h) (.inl ⟨by kernel_rfl, fun x hu => exec_arr x 23 (.tmp 3) rfl w.heap.size (by kernel_rfl) (kc (digs (G : Int) 32)) 23 _ hu.1 Try.underlying23 rfl (by rw [Try.infoKey, kc32])⟩) ⟨(hB.get 0 (x := ⟨w.heap.size, (kc (digs (G : Int) 32)), 23⟩) rfl), (hB.get 1 (x := ⟨w.heap.size + 1, (kc (digs (U : Int) 32)), 23⟩) rfl), trivial⟩ ?_
  simp only [Act.put, List.setIfInBounds_toArray, List.set_cons_zero, List.set_cons_succ, List.getElem_toArray, List.getElem_cons_zero, List.getElem_cons_succ]
  refine any_take (i := 1) (v := (.agg (kc (digs (U : Int) 32)))) #[true, false, false, false, false, false] rfl (by kernel_rfl) (by kernel_rfl) (by kernel_rfl) (by kernel_rfl) (fun _ _ _ h => h) (.inl ⟨by kernel_rfl, fun x hu => exec_arr x 23 (.tmp 4) rfl (w.heap.size + 1) (by kernel_rfl) (kc (digs (U : Int) 32)) 23 _ hu.2.1 Try.underlying23 rfl (by rw [Try.infoKey, kc32])⟩) ⟨(hB.get 0 (x := ⟨w.heap.size, (kc (digs (G : Int) 32)), 23⟩) rfl), (hB.get 1 (x := ⟨w.heap.size + 1, (kc (digs (U : Int) 32)), 23⟩) rfl), trivial⟩ ?_
  simp only [Act.put, List.setIfInBounds_toArray, List.set_cons_zero, List.set_cons_succ, List.getElem_toArray, List.getElem_cons_zero, List.getElem_cons_succ]
  have hSf : ∀ v, Gr v1_ v → (fun v => v.heap[w.heap.size]? = some (.cells (kc (digs (G : Int) 32)) 23 (0, 0)) ∧ v.heap[w.heap.size + 1]? = some (.cells (kc (digs (U : Int) 32)) 23 (0, 0)) ∧ True) v := fun v k => ⟨k.blk (hB.get 0 (x := ⟨w.heap.size, (kc (digs (G : Int) 32)), 23⟩) rfl), k.blk (hB.get 1 (x := ⟨w.heap.size + 1, (kc (digs (U : Int) 32)), 23⟩) rfl), trivial⟩
  refine stage2 v1_ #[.int .u8 0, .int .u8 0, .int .u8 0, .int .u8 0, .int .u8 0, .int .u8 0, .int .u8 0, .int .u8 0, .int .u8 0, .int .u8 0, .int .u8 0, .int .u8 0, .int .u8 0, .int .u8 0, .int .u8 0, .int .u8 0, .int .u8 0, .int .u8 0, .int .u8 0, .int .u8 0, .int .u8 0, .int .u8 0, .int .u8 0, .int .u8 0, .int .u8 0, .int .u8 0, .int .u8 0, .int .u8 0, .int .u8 0, .int .u8 0, .int .u8 0, .int .u8 0] 23 (fun q3_1 q3_2 => ⟨#[(.agg (kc (digs (G : Int) 32))), (.agg (kc (digs (U : Int) 32))), (.int .u8 t), (.pointer (some ⟨w.heap.size, 0, none⟩)), (.pointer (some ⟨w.heap.size + 1, 0, none⟩)), undef, (.bool false), q3_1, q3_2, (.bool true), (.bool false), (.agg (kc (digs (G : Int) 32))), (.agg (kc (digs (U : Int) 32))), undef, undef, undef, undef, undef, undef, undef, undef, undef, undef, undef, undef, undef, undef, undef, undef, undef, undef, undef, undef, undef, undef, undef, undef, undef, undef, undef, undef, undef, undef, undef, undef, undef, undef, undef, undef, undef, undef, undef, undef], []⟩) (fun b3_1 b3_2 => #[true, true, b3_1, b3_2, false, false]) 2 3 4 true hSf (by kernel_rfl) (fun _ _ => ⟨rfl, rfl⟩) ?_ ?_ ?_ ⟨false, false, undef, undef, 0, 0, M2.start _ _ _ _ _⟩
  · intro q3_1 q3_2 x K hK
    refine wpOp_step (o := _) rfl (fun K' hK' => ?_)
    replace hK' := hide hK'
    replace hK := hide hK
    go_simp
    exact unhide hK' _ _ (unhide hK)
  · intro q3_1 q3_2 x K hK
    refine wpOp_step (o := _) rfl (fun K' hK' => ?_)
    replace hK' := hide hK'
    replace hK := hide hK
    go_simp
    exact unhide hK' _ _ (unhide hK)
  intro b3_1 b3_2 q3_1 q3_2 g3_1 g3_2 v2_ hM hall
  obtain ⟨rfl, rfl⟩ := hall rfl
  obtain ⟨rfl, rfl, hB'⟩ := hM.all hB
  replace hB := hB'
  clear hB' hM hall
  simp only [List.cons_append, List.nil_append] at hB
  replace hB : Bl w [⟨w.heap.size, (kc (digs (G : Int) 32)), 23⟩, ⟨w.heap.size + 1, (kc (digs (U : Int) 32)), 23⟩, ⟨g3_1, Z32, 23⟩, ⟨g3_2, Z32, 23⟩] v2_ := hB
  refine wpOp_step (o := _) rfl (fun K' hK' => ?_)
  replace hK' := hide hK'
  rw [if_pos (by kernel_rfl)]
  refine wp_store_row 23 (.tmp 7) (.tmp 11) rfl g3_1 (kc (digs (G : Int) 32)) (by kernel_rfl) (by kernel_rfl) 23 Z32 (hB.get 2 (x := ⟨g3_1, Z32, 23⟩) rfl) (by rw [Try.infoKey, kc32]) (Z32_size.trans (kc32 (G : Int) 32).symm) (kc_one _) ?_
  replace hB := hB.set 2 (x := ⟨g3_1, Z32, 23⟩) rfl (kc (digs (G : Int) 32))
  simp only [List.set_cons_zero, List.set_cons_succ] at hB
  refine unhide hK' _ _ ⟨⟨(hB.get 0 (x := ⟨w.heap.size, (kc (digs (G : Int) 32)), 23⟩) rfl), (hB.get 1 (x := ⟨w.heap.size + 1, (kc (digs (U : Int) 32)), 23⟩) rfl), trivial⟩, ?_⟩
  clear hK' K' hSf
  generalize World.setRow _ _ _ = v3_ at *
  simp only [Act.put, List.setIfInBounds_toArray, List.set_cons_zero, List.set_cons_succ, List.getElem_toArray, List.getElem_cons_zero, List.getElem_cons_succ]
  refine any_one (i := 5) (by kernel_rfl) rfl (fun K hK => ?_)
  rw [if_pos (by kernel_rfl)]
  refine wp_store_row 23 (.tmp 8) (.tmp 12) rfl g3_2 (kc (digs (U : Int) 32)) (by kernel_rfl) (by kernel_rfl) 23 Z32 (hB.get 3 (x := ⟨g3_2, Z32, 23⟩) rfl) (by rw [Try.infoKey, kc32]) (Z32_size.trans (kc32 (U : Int) 32).symm) (kc_one _) ?_
  replace hB := hB.set 3 (x := ⟨g3_2, Z32, 23⟩) rfl (kc (digs (U : Int) 32))
  simp only [List.set_cons_zero, List.set_cons_succ] at hB
  refine hK.out _ _ ⟨(hB.get 0 (x := ⟨w.heap.size, (kc (digs (G : Int) 32)), 23⟩) rfl), (hB.get 1 (x := ⟨w.heap.size + 1, (kc (digs (U : Int) 32)), 23⟩) rfl), trivial⟩ (fun _ => ?_)
  clear hK K
  generalize World.setRow _ _ _ = v4_ at *
  simp only [Act.put, List.setIfInBounds_toArray, List.set_cons_zero, List.set_cons_succ, List.getElem_toArray, List.getElem_cons_zero, List.getElem_cons_succ]
  refine any_done (by kernel_rfl) ?_
  have k0 := key_cell (KB.of (hB.get 2 (x := ⟨g3_1, (kc (digs (G : Int) 32)), 23⟩) rfl)) 0 (by omega)
  have k31 := key_cell (KB.of (hB.get 2 (x := ⟨g3_1, (kc (digs (G : Int) 32)), 23⟩) rfl)) 31 (by omega)
  have f0 := KB.froz (KB.of (hB.get 2 (x := ⟨g3_1, (kc (digs (G : Int) 32)), 23⟩) rfl)) 0
  have f31 := KB.froz (KB.of (hB.get 2 (x := ⟨g3_1, (kc (digs (G : Int) 32)), 23⟩) rfl)) 31
  have r0 : 0 ≤ (G : Int) / 256 ^ 0 % 256 ∧ (G : Int) / 256 ^ 0 % 256 < 256 := by omega
  have r31 : 0 ≤ (G : Int) / 256 ^ 31 % 256 ∧ (G : Int) / 256 ^ 31 % 256 < 256 := by omega
  have hT := hide (turn_key G)
  generalize (G : Int) / 256 ^ 0 % 256 = x0 at k0 r0 hT
  generalize (G : Int) / 256 ^ 31 % 256 = x31 at k31 r31 hT
  replace hB := hide hB
  go_upto_region 6 with fail
  replace hB := unhide hB
  replace hB := (hB.cell 2 rfl 0 (.int .u8 (bits .xor .u8 x0 (t % 8)))).cell 2 rfl 31 (.int .u8 (bits .xor .u8 x31 (bits .and .u8 t 192)))
  simp only [List.set_cons_zero, List.set_cons_succ, List.getElem?_cons_zero, List.getElem?_cons_succ, Option.some.injEq] at hB
  generalize World.setCell _ _ _ = va_ at *
  obtain ⟨G', hG', hcl⟩ := unhide hT _ _ (xor7 x0 t r0 ht).1 (xor192 x31 t r31 ht).1 (xor7 x0 t r0 ht).2 (xor192 x31 t r31 ht).2
  rw [hG'] at hB
  replace hcl := hide hcl
  clear k0 k31 f0 f31 r0 r31 hT hG'
  have k31 := key_cell (KB.of (hB.get 3 (x := ⟨g3_2, (kc (digs (U : Int) 32)), 23⟩) rfl)) 31 (by omega)
  have f31 := KB.froz (KB.of (hB.get 3 (x := ⟨g3_2, (kc (digs (U : Int) 32)), 23⟩) rfl)) 31
  have r31 : 0 ≤ (U : Int) / 256 ^ 31 % 256 ∧ (U : Int) / 256 ^ 31 % 256 < 256 := by omega
  have hT := hide (turn_place U)
  generalize (U : Int) / 256 ^ 31 % 256 = y31 at k31 r31 hT
  replace hB := hide hB
  go_upto_region 7 with fail
  replace hB := unhide hB
  replace hB := hB.cell 3 rfl 31 (.int .u8 (bits .xor .u8 y31 (bits .and .u8 t 128)))
  simp only [List.set_cons_zero, List.set_cons_succ, List.getElem?_cons_zero, List.getElem?_cons_succ, Option.some.injEq] at hB
  generalize World.setCell _ _ _ = vb_ at *
  obtain ⟨U', hU', hul⟩ := unhide hT _ (xor128 y31 t r31 ht).1 (xor128 y31 t r31 ht).2
  rw [hU'] at hB
  replace hul := hide hul
  clear k31 f31 r31 hT hU'
  refine any_start (S := fun v => v.heap[w.heap.size]? = some (.cells (kc (digs (G : Int) 32)) 23 (0, 0)) ∧ v.heap[w.heap.size + 1]? = some (.cells (kc (digs (U : Int) 32)) 23 (0, 0)) ∧ v.heap[g3_1]? = some (.cells (kc (digs (G' : Int) 32)) 23 (0, 0)) ∧ v.heap[g3_2]? = some (.cells (kc (digs (U' : Int) 32)) 23 (0, 0)) ∧ True) (by kernel_rfl) ?_
  replace hB := hB.drew
  generalize World.drew _ = v5_ at *
  simp only [List.size_toArray, List.length_cons, List.length_nil, Array.replicate, List.replicate]
  refine any_take (i := 0) (v := (.agg (kc (digs (G' : Int) 32)))) #[false, false, false, false, false, false, false, false, false, false, false, false, false, false, false, false, false, false, false, false, false, false, false] rfl (by kernel_rfl) (by kernel_rfl) (by kernel_rfl) (by kernel_rfl) (fun _ _ _ h => h) (.inl ⟨by kernel_rfl, fun x hu => exec_arr x 23 (.tmp 7) rfl g3_1 (by kernel_rfl) (kc (digs (G' : Int) 32)) 23 _ hu.2.2.1 Try.underlying23 rfl (by rw [Try.infoKey, kc32])⟩) ⟨(hB.get 0 (x := ⟨w.heap.size, (kc (digs (G : Int) 32)), 23⟩) rfl), (hB.get 1 (x := ⟨w.heap.size + 1, (kc (digs (U : Int) 32)), 23⟩) rfl), (hB.get 2 (x := ⟨g3_1, (kc (digs (G' : Int) 32)), 23⟩) rfl), (hB.get 3 (x := ⟨g3_2, (kc (digs (U' : Int) 32)), 23⟩) rfl), trivial⟩ ?_
  simp only [Act.put, List.setIfInBounds_toArray, List.set_cons_zero, List.set_cons_succ, List.getElem_toArray, List.getElem_cons_zero, List.getElem_cons_succ]
  refine any_take (i := 1) (v := (.agg (kc (digs (U' : Int) 32)))) #[true, false, false, false, false, false, false, false, false, false, false, false, false, false, false, false, false, false, false, false, false, false, false] rfl (by kernel_rfl) (by kernel_rfl) (by kernel_rfl) (by kernel_rfl) (fun _ _ _ h => h) (.inl ⟨by kernel_rfl, fun x hu => exec_arr x 23 (.tmp 8) rfl g3_2 (by kernel_rfl) (kc (digs (U' : Int) 32)) 23 _ hu.2.2.2.1 Try.underlying23 rfl (by rw [Try.infoKey, kc32])⟩) ⟨(hB.get 0 (x := ⟨w.heap.size, (kc (digs (G : Int) 32)), 23⟩) rfl), (hB.get 1 (x := ⟨w.heap.size + 1, (kc (digs (U : Int) 32)), 23⟩) rfl), (hB.get 2 (x := ⟨g3_1, (kc (digs (G' : Int) 32)), 23⟩) rfl), (hB.get 3 (x := ⟨g3_2, (kc (digs (U' : Int) 32)), 23⟩) rfl), trivial⟩ ?_
  simp only [Act.put, List.setIfInBounds_toArray, List.set_cons_zero, List.set_cons_succ, List.getElem_toArray, List.getElem_cons_zero, List.getElem_cons_succ]
  refine any_take (i := 3) (v := (.agg (kc (digs (G : Int) 32)))) #[true, true, false, false, false, false, false, false, false, false, false, false, false, false, false, false, false, false, false, false, false, false, false] rfl (by kernel_rfl) (by kernel_rfl) (by kernel_rfl) (by kernel_rfl) (fun _ _ _ h => h) (.inl ⟨by kernel_rfl, fun x hu => exec_arr x 23 (.tmp 3) rfl w.heap.size (by kernel_rfl) (kc (digs (G : Int) 32)) 23 _ hu.1 Try.underlying23 rfl (by rw [Try.infoKey, kc32])⟩) ⟨(hB.get 0 (x := ⟨w.heap.size, (kc (digs (G : Int) 32)), 23⟩) rfl), (hB.get 1 (x := ⟨w.heap.size + 1, (kc (digs (U : Int) 32)), 23⟩) rfl), (hB.get 2 (x := ⟨g3_1, (kc (digs (G' : Int) 32)), 23⟩) rfl), (hB.get 3 (x := ⟨g3_2, (kc (digs (U' : Int) 32)), 23⟩) rfl), trivial⟩ ?_
  simp only [Act.put, List.setIfInBounds_toArray, List.set_cons_zero, List.set_cons_succ, List.getElem_toArray, List.getElem_cons_zero, List.getElem_cons_succ]
  refine any_take (i := 4) (v := (.agg (kc (digs (U : Int) 32)))) #[true, true, false, true, false, false, false, false, false, false, false, false, false, false, false, false, false, false, false, false, false, false, false] rfl (by kernel_rfl) (by kernel_rfl) (by kernel_rfl) (by kernel_rfl) (fun _ _ _ h => h) (.inl ⟨by kernel_rfl, fun x hu => exec_arr x 23 (.tmp 4) rfl (w.heap.size + 1) (by kernel_rfl) (kc (digs (U : Int) 32)) 23 _ hu.2.1 Try.underlying23 rfl (by rw [Try.infoKey, kc32])⟩) ⟨(hB.get 0 (x := ⟨w.heap.size, (kc (digs (G : Int) 32)), 23⟩) rfl), (hB.get 1 (x := ⟨w.heap.size + 1, (kc (digs (U : Int) 32)), 23⟩) rfl), (hB.get 2 (x := ⟨g3_1, (kc (digs (G' : Int) 32)), 23⟩) rfl), (hB.get 3 (x := ⟨g3_2, (kc (digs (U' : Int) 32)), 23⟩) rfl), trivial⟩ ?_
  simp only [Act.put, List.setIfInBounds_toArray, List.set_cons_zero, List.set_cons_succ, List.getElem_toArray, List.getElem_cons_zero, List.getElem_cons_succ]
  refine any_one (i := 2) (by kernel_rfl) rfl (fun K hK => ?_)
  refine step_callw (by kernel_rfl) 7 #[.agg (kc (digs (G' : Int) 32)), .agg (kc (digs (U' : Int) 32))] (by kernel_rfl) ((x_n (G') (U') _).mono ?_)
  rintro r v6_ ⟨n1, rfl, hn1, hg⟩
  refine ⟨_, rfl, ?_⟩
  replace hB := hB.more hg
  clear hg
  refine hK.out _ _ ⟨(hB.get 0 (x := ⟨w.heap.size, (kc (digs (G : Int) 32)), 23⟩) rfl), (hB.get 1 (x := ⟨w.heap.size + 1, (kc (digs (U : Int) 32)), 23⟩) rfl), (hB.get 2 (x := ⟨g3_1, (kc (digs (G' : Int) 32)), 23⟩) rfl), (hB.get 3 (x := ⟨g3_2, (kc (digs (U' : Int) 32)), 23⟩) rfl), trivial⟩ (fun _ => ?_)
  clear hK K
  simp only [Act.put, List.setIfInBounds_toArray, List.set_cons_zero, List.set_cons_succ, List.getElem_toArray, List.getElem_cons_zero, List.getElem_cons_succ]
  refine any_one (i := 5) (by kernel_rfl) rfl (fun K hK => ?_)
  refine step_callw (by kernel_rfl) 7 #[.agg (kc (digs (G : Int) 32)), .agg (kc (digs (U : Int) 32))] (by kernel_rfl) ((x_n G U _).mono ?_)
  rintro r v7_ ⟨n2, rfl, hn2, hg⟩
  refine ⟨_, rfl, ?_⟩
  have en2 : n2 = n1 := by rw [unhide hn2, unhide hn1]; exact (x_same (unhide hcl) (unhide hul)).symm
  rw [en2]
  replace hB := hB.more hg
  clear hg
  refine hK.out _ _ ⟨(hB.get 0 (x := ⟨w.heap.size, (kc (digs (G : Int) 32)), 23⟩) rfl), (hB.get 1 (x := ⟨w.heap.size + 1, (kc (digs (U : Int) 32)), 23⟩) rfl), (hB.get 2 (x := ⟨g3_1, (kc (digs (G' : Int) 32)), 23⟩) rfl), (hB.get 3 (x := ⟨g3_2, (kc (digs (U' : Int) 32)), 23⟩) rfl), trivial⟩ (fun _ => ?_)
  clear hK K
  simp only [Act.put, List.setIfInBounds_toArray, List.set_cons_zero, List.set_cons_succ, List.getElem_toArray, List.getElem_cons_zero, List.getElem_cons_succ]
  refine any_take (i := 6) (v := (.bool true)) #[true, true, true, true, true, true, false, false, false, false, false, false, false, false, false, false, false, false, false, false, false, false, false] rfl (by kernel_rfl) (by kernel_rfl) (by kernel_rfl) (by kernel_rfl) (fun _ _ _ h => h) (.inl ⟨by kernel_rfl, fun x hu => by have e := key_same (n1 : Int); go_simp⟩) ⟨(hB.get 0 (x := ⟨w.heap.size, (kc (digs (G : Int) 32)), 23⟩) rfl), (hB.get 1 (x := ⟨w.heap.size + 1, (kc (digs (U : Int) 32)), 23⟩) rfl), (hB.get 2 (x := ⟨g3_1, (kc (digs (G' : Int) 32)), 23⟩) rfl), (hB.get 3 (x := ⟨g3_2, (kc (digs (U' : Int) 32)), 23⟩) rfl), trivial⟩ ?_
  simp only [Act.put, List.setIfInBounds_toArray, List.set_cons_zero, List.set_cons_succ, List.getElem_toArray, List.getElem_cons_zero, List.getElem_cons_succ]
  refine any_take (i := 7) (v := (.bool true)) #[true, true, true, true, true, true, true, false, false, false, false, false, false, false, false, false, false, false, false, false, false, false, false] rfl (by kernel_rfl) (by kernel_rfl) (by kernel_rfl) (by kernel_rfl) (fun _ _ _ h => h) (.inl ⟨by kernel_rfl, fun x hu => by kernel_rfl⟩) ⟨(hB.get 0 (x := ⟨w.heap.size, (kc (digs (G : Int) 32)), 23⟩) rfl), (hB.get 1 (x := ⟨w.heap.size + 1, (kc (digs (U : Int) 32)), 23⟩) rfl), (hB.get 2 (x := ⟨g3_1, (kc (digs (G' : Int) 32)), 23⟩) rfl), (hB.get 3 (x := ⟨g3_2, (kc (digs (U' : Int) 32)), 23⟩) rfl), trivial⟩ ?_
  simp only [Act.put, List.setIfInBounds_toArray, List.set_cons_zero, List.set_cons_succ, List.getElem_toArray, List.getElem_cons_zero, List.getElem_cons_succ]
  refine any_take (i := 8) (v := (.agg (kc (digs (G' : Int) 32)))) #[true, true, true, true, true, true, true, true, false, false, false, false, false, false, false, false, false, false, false, false, false, false, false] rfl (by kernel_rfl) (by kernel_rfl) (by kernel_rfl) (by kernel_rfl) (fun _ _ _ h => h) (.inl ⟨by kernel_rfl, fun x hu => exec_arr x 23 (.tmp 7) rfl g3_1 (by kernel_rfl) (kc (digs (G' : Int) 32)) 23 _ hu.2.2.1 Try.underlying23 rfl (by rw [Try.infoKey, kc32])⟩) ⟨(hB.get 0 (x := ⟨w.heap.size, (kc (digs (G : Int) 32)), 23⟩) rfl), (hB.get 1 (x := ⟨w.heap.size + 1, (kc (digs (U : Int) 32)), 23⟩) rfl), (hB.get 2 (x := ⟨g3_1, (kc (digs (G' : Int) 32)), 23⟩) rfl), (hB.get 3 (x := ⟨g3_2, (kc (digs (U' : Int) 32)), 23⟩) rfl), trivial⟩ ?_
  simp only [Act.put, List.setIfInBounds_toArray, List.set_cons_zero, List.set_cons_succ, List.getElem_toArray, List.getElem_cons_zero, List.getElem_cons_succ]
  refine any_take (i := 10) (v := (.agg (kc (digs (G : Int) 32)))) #[true, true, true, true, true, true, true, true, true, false, false, false, false, false, false, false, false, false, false, false, false, false, false] rfl (by kernel_rfl) (by kernel_rfl) (by kernel_rfl) (by kernel_rfl) (fun _ _ _ h => h) (.inl ⟨by kernel_rfl, fun x hu => exec_arr x 23 (.tmp 3) rfl w.heap.size (by kernel_rfl) (kc (digs (G : Int) 32)) 23 _ hu.1 Try.underlying23 rfl (by rw [Try.infoKey, kc32])⟩) ⟨(hB.get 0 (x := ⟨w.heap.size, (kc (digs (G : Int) 32)), 23⟩) rfl), (hB.get 1 (x := ⟨w.heap.size + 1, (kc (digs (U : Int) 32)), 23⟩) rfl), (hB.get 2 (x := ⟨g3_1, (kc (digs (G' : Int) 32)), 23⟩) rfl), (hB.get 3 (x := ⟨g3_2, (kc (digs (U' : Int) 32)), 23⟩) rfl), trivial⟩ ?_
  simp only [Act.put, List.setIfInBounds_toArray, List.set_cons_zero, List.set_cons_succ, List.getElem_toArray, List.getElem_cons_zero, List.getElem_cons_succ]
  refine any_one (i := 9) (by kernel_rfl) rfl (fun K hK => ?_)
  refine step_callw (by kernel_rfl) 12 #[.agg (kc (digs (G' : Int) 32))] (by kernel_rfl) ((clamp_n (G') _).mono ?_)
  rintro r v8_ ⟨n3, rfl, hn3, hg⟩
  refine ⟨_, rfl, ?_⟩
  replace hB := hB.more hg
  clear hg
  refine hK.out _ _ ⟨(hB.get 0 (x := ⟨w.heap.size, (kc (digs (G : Int) 32)), 23⟩) rfl), (hB.get 1 (x := ⟨w.heap.size + 1, (kc (digs (U : Int) 32)), 23⟩) rfl), (hB.get 2 (x := ⟨g3_1, (kc (digs (G' : Int) 32)), 23⟩) rfl), (hB.get 3 (x := ⟨g3_2, (kc (digs (U' : Int) 32)), 23⟩) rfl), trivial⟩ (fun _ => ?_)
  clear hK K
  simp only [Act.put, List.setIfInBounds_toArray, List.set_cons_zero, List.set_cons_succ, List.getElem_toArray, List.getElem_cons_zero, List.getElem_cons_succ]
  refine any_one (i := 11) (by kernel_rfl) rfl (fun K hK => ?_)
  refine step_callw (by kernel_rfl) 12 #[.agg (kc (digs (G : Int) 32))] (by kernel_rfl) ((clamp_n G _).mono ?_)
  rintro r v9_ ⟨n4, rfl, hn4, hg⟩
  refine ⟨_, rfl, ?_⟩
  have en4 : n4 = n3 := by rw [unhide hn4, unhide hn3]; exact (unhide hcl).symm
  rw [en4]
  replace hB := hB.more hg
  clear hg
  refine hK.out _ _ ⟨(hB.get 0 (x := ⟨w.heap.size, (kc (digs (G : Int) 32)), 23⟩) rfl), (hB.get 1 (x := ⟨w.heap.size + 1, (kc (digs (U : Int) 32)), 23⟩) rfl), (hB.get 2 (x := ⟨g3_1, (kc (digs (G' : Int) 32)), 23⟩) rfl), (hB.get 3 (x := ⟨g3_2, (kc (digs (U' : Int) 32)), 23⟩) rfl), trivial⟩ (fun _ => ?_)
  clear hK K
  simp only [Act.put, List.setIfInBounds_toArray, List.set_cons_zero, List.set_cons_succ, List.getElem_toArray, List.getElem_cons_zero, List.getElem_cons_succ]
  refine any_take (i := 12) (v := (.bool true)) #[true, true, true, true, true, true, true, true, true, true, true, true, false, false, false, false, false, false, false, false, false, false, false] rfl (by kernel_rfl) (by kernel_rfl) (by kernel_rfl) (by kernel_rfl) (fun _ _ _ h => h) (.inl ⟨by kernel_rfl, fun x hu => by have e := key_same (n3 : Int); go_simp⟩) ⟨(hB.get 0 (x := ⟨w.heap.size, (kc (digs (G : Int) 32)), 23⟩) rfl), (hB.get 1 (x := ⟨w.heap.size + 1, (kc (digs (U : Int) 32)), 23⟩) rfl), (hB.get 2 (x := ⟨g3_1, (kc (digs (G' : Int) 32)), 23⟩) rfl), (hB.get 3 (x := ⟨g3_2, (kc (digs (U' : Int) 32)), 23⟩) rfl), trivial⟩ ?_
  simp only [Act.put, List.setIfInBounds_toArray, List.set_cons_zero, List.set_cons_succ, List.getElem_toArray, List.getElem_cons_zero, List.getElem_cons_succ]
  refine any_take (i := 13) (v := (.bool true)) #[true, true, true, true, true, true, true, true, true, true, true, true, true, false, false, false, false, false, false, false, false, false, false] rfl (by kernel_rfl) (by kernel_rfl) (by kernel_rfl) (by kernel_rfl) (fun _ _ _ h => h) (.inl ⟨by kernel_rfl, fun x hu => by kernel_rfl⟩) ⟨(hB.get 0 (x := ⟨w.heap.size, (kc (digs (G : Int) 32)), 23⟩) rfl), (hB.get 1 (x := ⟨w.heap.size + 1, (kc (digs (U : Int) 32)), 23⟩) rfl), (hB.get 2 (x := ⟨g3_1, (kc (digs (G' : Int) 32)), 23⟩) rfl), (hB.get 3 (x := ⟨g3_2, (kc (digs (U' : Int) 32)), 23⟩) rfl), trivial⟩ ?_
  simp only [Act.put, List.setIfInBounds_toArray, List.set_cons_zero, List.set_cons_succ, List.getElem_toArray, List.getElem_cons_zero, List.getElem_cons_succ]
  refine any_take (i := 14) (v := (.bool true)) #[true, true, true, true, true, true, true, true, true, true, true, true, true, true, false, false, false, false, false, false, false, false, false] rfl (by kernel_rfl) (by kernel_rfl) (by kernel_rfl) (by kernel_rfl) (fun _ _ _ h => h) (.inl ⟨by kernel_rfl, fun x hu => by kernel_rfl⟩) ⟨(hB.get 0 (x := ⟨w.heap.size, (kc (digs (G : Int) 32)), 23⟩) rfl), (hB.get 1 (x := ⟨w.heap.size + 1, (kc (digs (U : Int) 32)), 23⟩) rfl), (hB.get 2 (x := ⟨g3_1, (kc (digs (G' : Int) 32)), 23⟩) rfl), (hB.get 3 (x := ⟨g3_2, (kc (digs (U' : Int) 32)), 23⟩) rfl), trivial⟩ ?_
  simp only [Act.put, List.setIfInBounds_toArray, List.set_cons_zero, List.set_cons_succ, List.getElem_toArray, List.getElem_cons_zero, List.getElem_cons_succ]
  refine any_take (i := 15) (v := (.agg (kc (digs (G : Int) 32)))) #[true, true, true, true, true, true, true, true, true, true, true, true, true, true, true, false, false, false, false, false, false, false, false] rfl (by kernel_rfl) (by kernel_rfl) (by kernel_rfl) (by kernel_rfl) (fun _ _ _ h => h) (.inl ⟨by kernel_rfl, fun x hu => exec_arr x 23 (.tmp 3) rfl w.heap.size (by kernel_rfl) (kc (digs (G : Int) 32)) 23 _ hu.1 Try.underlying23 rfl (by rw [Try.infoKey, kc32])⟩) ⟨(hB.get 0 (x := ⟨w.heap.size, (kc (digs (G : Int) 32)), 23⟩) rfl), (hB.get 1 (x := ⟨w.heap.size + 1, (kc (digs (U : Int) 32)), 23⟩) rfl), (hB.get 2 (x := ⟨g3_1, (kc (digs (G' : Int) 32)), 23⟩) rfl), (hB.get 3 (x := ⟨g3_2, (kc (digs (U' : Int) 32)), 23⟩) rfl), trivial⟩ ?_
  simp only [Act.put, List.setIfInBounds_toArray, List.set_cons_zero, List.set_cons_succ, List.getElem_toArray, List.getElem_cons_zero, List.getElem_cons_succ]
  refine any_take (i := 18) (v := (.agg (kc (digs (G : Int) 32)))) #[true, true, true, true, true, true, true, true, true, true, true, true, true, true, true, true, false, false, false, false, false, false, false] rfl (by kernel_rfl) (by kernel_rfl) (by kernel_rfl) (by kernel_rfl) (fun _ _ _ h => h) (.inl ⟨by kernel_rfl, fun x hu => exec_arr x 23 (.tmp 3) rfl w.heap.size (by kernel_rfl) (kc (digs (G : Int) 32)) 23 _ hu.1 Try.underlying23 rfl (by rw [Try.infoKey, kc32])⟩) ⟨(hB.get 0 (x := ⟨w.heap.size, (kc (digs (G : Int) 32)), 23⟩) rfl), (hB.get 1 (x := ⟨w.heap.size + 1, (kc (digs (U : Int) 32)), 23⟩) rfl), (hB.get 2 (x := ⟨g3_1, (kc (digs (G' : Int) 32)), 23⟩) rfl), (hB.get 3 (x := ⟨g3_2, (kc (digs (U' : Int) 32)), 23⟩) rfl), trivial⟩ ?_
  simp only [Act.put, List.setIfInBounds_toArray, List.set_cons_zero, List.set_cons_succ, List.getElem_toArray, List.getElem_cons_zero, List.getElem_cons_succ]
  refine any_one (i := 16) (by kernel_rfl) rfl (fun K hK => ?_)
  refine step_callw (by kernel_rfl) 12 #[.agg (kc (digs (G : Int) 32))] (by kernel_rfl) ((clamp_n G _).mono ?_)
  rintro r v10_ ⟨n5, rfl, hn5, hg⟩
  refine ⟨_, rfl, ?_⟩
  replace hB := hB.more hg
  clear hg
  refine hK.out _ _ ⟨(hB.get 0 (x := ⟨w.heap.size, (kc (digs (G : Int) 32)), 23⟩) rfl), (hB.get 1 (x := ⟨w.heap.size + 1, (kc (digs (U : Int) 32)), 23⟩) rfl), (hB.get 2 (x := ⟨g3_1, (kc (digs (G' : Int) 32)), 23⟩) rfl), (hB.get 3 (x := ⟨g3_2, (kc (digs (U' : Int) 32)), 23⟩) rfl), trivial⟩ (fun _ => ?_)
  clear hK K
  simp only [Act.put, List.setIfInBounds_toArray, List.set_cons_zero, List.set_cons_succ, List.getElem_toArray, List.getElem_cons_zero, List.getElem_cons_succ]
  refine any_one (i := 17) (by kernel_rfl) rfl (fun K hK => ?_)
  refine step_callw (by kernel_rfl) 12 #[.agg (kc (digs (n5 : Int) 32))] (by kernel_rfl) ((clamp_n n5 _).mono ?_)
  rintro r v11_ ⟨n6, rfl, hn6, hg⟩
  refine ⟨_, rfl, ?_⟩
  replace hB := hB.more hg
  clear hg
  refine hK.out _ _ ⟨(hB.get 0 (x := ⟨w.heap.size, (kc (digs (G : Int) 32)), 23⟩) rfl), (hB.get 1 (x := ⟨w.heap.size + 1, (kc (digs (U : Int) 32)), 23⟩) rfl), (hB.get 2 (x := ⟨g3_1, (kc (digs (G' : Int) 32)), 23⟩) rfl), (hB.get 3 (x := ⟨g3_2, (kc (digs (U' : Int) 32)), 23⟩) rfl), trivial⟩ (fun _ => ?_)
  clear hK K
  simp only [Act.put, List.setIfInBounds_toArray, List.set_cons_zero, List.set_cons_succ, List.getElem_toArray, List.getElem_cons_zero, List.getElem_cons_succ]
  refine any_one (i := 19) (by kernel_rfl) rfl (fun K hK => ?_)
  refine step_callw (by kernel_rfl) 12 #[.agg (kc (digs (G : Int) 32))] (by kernel_rfl) ((clamp_n G _).mono ?_)
  rintro r v12_ ⟨n7, rfl, hn7, hg⟩
  refine ⟨_, rfl, ?_⟩
  have en7 : n7 = n6 := by rw [unhide hn7, unhide hn6, unhide hn5]; exact (cl_cl G).symm
  rw [en7]
  replace hB := hB.more hg
  clear hg
  refine hK.out _ _ ⟨(hB.get 0 (x := ⟨w.heap.size, (kc (digs (G : Int) 32)), 23⟩) rfl), (hB.get 1 (x := ⟨w.heap.size + 1, (kc (digs (U : Int) 32)), 23⟩) rfl), (hB.get 2 (x := ⟨g3_1, (kc (digs (G' : Int) 32)), 23⟩) rfl), (hB.get 3 (x := ⟨g3_2, (kc (digs (U' : Int) 32)), 23⟩) rfl), trivial⟩ (fun _ => ?_)
  clear hK K
  simp only [Act.put, List.setIfInBounds_toArray, List.set_cons_zero, List.set_cons_succ, List.getElem_toArray, List.getElem_cons_zero, List.getElem_cons_succ]
  refine any_take (i := 20) (v := (.bool true)) #[true, true, true, true, true, true, true, true, true, true, true, true, true, true, true, true, true, true, true, true, false, false, false] rfl (by kernel_rfl) (by kernel_rfl) (by kernel_rfl) (by kernel_rfl) (fun _ _ _ h => h) (.inl ⟨by kernel_rfl, fun x hu => by have e := key_same (n6 : Int); go_simp⟩) ⟨(hB.get 0 (x := ⟨w.heap.size, (kc (digs (G : Int) 32)), 23⟩) rfl), (hB.get 1 (x := ⟨w.heap.size + 1, (kc (digs (U : Int) 32)), 23⟩) rfl), (hB.get 2 (x := ⟨g3_1, (kc (digs (G' : Int) 32)), 23⟩) rfl), (hB.get 3 (x := ⟨g3_2, (kc (digs (U' : Int) 32)), 23⟩) rfl), trivial⟩ ?_
  simp only [Act.put, List.setIfInBounds_toArray, List.set_cons_zero, List.set_cons_succ, List.getElem_toArray, List.getElem_cons_zero, List.getElem_cons_succ]
  refine any_take (i := 21) (v := (.bool true)) #[true, true, true, true, true, true, true, true, true, true, true, true, true, true, true, true, true, true, true, true, true, false, false] rfl (by kernel_rfl) (by kernel_rfl) (by kernel_rfl) (by kernel_rfl) (fun _ _ _ h => h) (.inl ⟨by kernel_rfl, fun x hu => by kernel_rfl⟩) ⟨(hB.get 0 (x := ⟨w.heap.size, (kc (digs (G : Int) 32)), 23⟩) rfl), (hB.get 1 (x := ⟨w.heap.size + 1, (kc (digs (U : Int) 32)), 23⟩) rfl), (hB.get 2 (x := ⟨g3_1, (kc (digs (G' : Int) 32)), 23⟩) rfl), (hB.get 3 (x := ⟨g3_2, (kc (digs (U' : Int) 32)), 23⟩) rfl), trivial⟩ ?_
  simp only [Act.put, List.setIfInBounds_toArray, List.set_cons_zero, List.set_cons_succ, List.getElem_toArray, List.getElem_cons_zero, List.getElem_cons_succ]
  refine any_one (i := 22) (by kernel_rfl) rfl (fun K hK => ?_)
  replace hK := hide hK
  go_simp
  refine (unhide hK).out _ _ ⟨(hB.get 0 (x := ⟨w.heap.size, (kc (digs (G : Int) 32)), 23⟩) rfl), (hB.get 1 (x := ⟨w.heap.size + 1, (kc (digs (U : Int) 32)), 23⟩) rfl), (hB.get 2 (x := ⟨g3_1, (kc (digs (G' : Int) 32)), 23⟩) rfl), (hB.get 3 (x := ⟨g3_2, (kc (digs (U' : Int) 32)), 23⟩) rfl), trivial⟩ (fun _ => ?_)
  clear hK K
  refine any_done (by kernel_rfl) ?_
  have hG := hide hB.gr
  clear hB
  go_wp2_with fail
  refine bodyPost_ret (v := .bool true) ?_ rfl ⟨rfl, unhide hG⟩
  simp [results, Try.results5, go_sem]
theorem bits_int (n0 n1 n2 : Int) (h0 : 0 ≤ n0 ∧ n0 < 115792089237316195423570985008687907853269984665640564039457584007913129639936) (h1 : 0 ≤ n1 ∧ n1 < 115792089237316195423570985008687907853269984665640564039457584007913129639936) (h2 : 0 ≤ n2 ∧ n2 < 256) (w : World) :
    Calls Try.prog 5 #[.agg (kc (digs n0 32)), .agg (kc (digs n1 32)), .int .u8 n2] w (fun r w' => r = .returned (.bool true) ∧ Gr w w') := by
  obtain ⟨A, rfl⟩ := Int.eq_ofNat_of_zero_le h0.1
  obtain ⟨B, rfl⟩ := Int.eq_ofNat_of_zero_le h1.1
  exact bits_any A B n2 h2 w
end Go.Proofs.Ytebgmneffpeahaa
