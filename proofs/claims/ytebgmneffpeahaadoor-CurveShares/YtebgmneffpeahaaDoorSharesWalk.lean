/-
  CurveShares: the walk, for whatever keys.
-/
import Derived.Test.YtebgmneffpeahaaDoorLowWalk
import Derived.Test.YtebgmneffpeahaaDoorAgree
import Derived.Test.YtebgmneffpeahaaDoorEdwB
import Derived.Test.YtebgmneffpeahaaDoorMade
namespace Go.Proofs.YtebgmneffpeahaaDoor
open Go.RowKit
set_option maxRecDepth 100000
set_option linter.unusedSimpArgs false

theorem cl_eight (M : Nat) : cl M = 8 * (cl M / 8) ∧ 0 < cl M / 8 ∧ cl M / 8 < 7237005577332262213973186563042994240829374041602535252466099000494570602496 := by unfold cl; omega
theorem l1_big : 7237005577332262213973186563042994240829374041602535252466099000494570602496 ≤ Ed.l1 := by decide +kernel
theorem l2_big : 7237005577332262213973186563042994240829374041602535252466099000494570602496 ≤ Ed.l2 := by decide +kernel
theorem cl_255 (M : Nat) : cl M < 2 ^ 255 := by
  have : (2 : Nat) ^ 255 = 57896044618658097711785492504343953926634992332820282019728792003956564819968 := by decide +kernel
  rw [this]
  unfold cl
  omega
theorem not_dvd {l m : Nat} (h0 : 0 < m) (h : m < l) : ¬ l ∣ m := fun hd => absurd (Nat.le_of_dvd h0 hd) (by omega)
theorem nine_low : ¬ Ed.LowP 9 := by
  unfold Ed.LowP Ed.p Ed.c8 Ed.c9
  omega
theorem cl_num (M : Nat) : Ed.num (Ed.hi (cl M) 255) = 8 * (cl M / 8) ∧ ¬ Ed.l1 ∣ cl M / 8 ∧ ¬ Ed.l2 ∣ cl M / 8 := by
  obtain ⟨e1, e2, e3⟩ := cl_eight M
  exact ⟨by rw [Ed.num_all (cl_255 M)]; exact e1, not_dvd e2 (Nat.lt_of_lt_of_le e3 l1_big), not_dvd e2 (Nat.lt_of_lt_of_le e3 l2_big)⟩
/-- two secrets' common key is not 0 -/
theorem both_ne (a b : Nat) : xN a (xN b 9) ≠ 0 := by
  intro h
  have h1 := xN_ans b 9 nine
  have h2 := xN_ans a (xN b 9) (xN_lt b 9)
  rw [h] at h2
  obtain ⟨a1, a2, a3⟩ := cl_num a
  obtain ⟨b1, b2, b3⟩ := cl_num b
  refine nine_low (Ed.low_of2 b1 a1 b2 b3 a2 a3 h1 ?_)
  generalize Ed.ans (xN b 9 : Int) (Ed.hi (cl a) 255) = r at *
  have := Int.dvd_neg.2 h2
  rwa [show -(((0 : Nat) : Int) - r) = r from by omega] at this
/-- a public key is no low one -/
theorem public_ne (a : Nat) : ¬ Ed.LowP (xN a 9 : Int) := by
  intro h
  obtain ⟨a1, _, _⟩ := cl_num a
  have h2 := xN_ans a (xN a 9) (xN_lt a 9)
  have h3 := Ed.of_low a1 h
  have h4 := Int.dvd_add h2 h3
  generalize Ed.ans (xN a 9 : Int) (Ed.hi (cl a) 255) = r at *
  rw [show (xN a (xN a 9) : Int) - r + r = (xN a (xN a 9) : Int) from by omega] at h4
  have h5 := xN_lt a (xN a 9)
  have h6 := both_ne a a
  exact h6 (nat_eq h5 (by decide) (by rw [show (xN a (xN a 9) : Int) - ((0 : Nat) : Int) = (xN a (xN a 9) : Int) from by omega]; exact h4))
theorem low_n (n a : Nat) (h : Hid (n = xN a 9)) (w : World) (hL : w.rangeAt 0 0 lowsL) : Calls Tryd.prog 10 #[.agg (kc (digs (n : Int) 32))] w (fun r w' => r = .returned (.bool false) ∧ Gr w w') := by
  have hp := public_ne a
  have hlt := xN_lt a 9
  rw [← unhide h] at hp hlt
  have e1 : (n : Int) % 57896044618658097711785492504343953926634992332820282019728792003956564819968 % pp = n := by
    rw [small hlt]
    exact Int.emod_eq_of_lt (by omega) hlt
  unfold Ed.LowP Ed.p Ed.c8 Ed.c9 at hp
  unfold Ed.p at hlt
  exact low_5 n n e1 ⟨by omega, by omega⟩ (fun e => hp (by omega)) (fun e => hp (by omega)) (fun e => hp (by omega)) (fun e => hp (by omega)) (fun e => hp (by omega)) w hL

set_option maxHeartbeats 4000000 in
theorem shares_any (A B : Nat) (w : World) (hL : w.rangeAt 0 0 lowsL) :
    Calls Tryd.prog 4 #[.agg (kc (digs (A : Int) 32)), .agg (kc (digs (B : Int) 32))] w (fun r w' => r = .returned (.bool true) ∧ Gr w w') := by
  replace hL := hide hL
  go_enter Tryd.func4, Tryd.ntmps4
  go_upto_region 3 with (go_at_call 5; refine (wakes_ok _).mono ?_; rintro r w1 ⟨rfl, hg⟩)
  have hB := (((Bl.nil w).new (kc (digs (A : Int) 32)) 23).new (kc (digs (B : Int) 32)) 23).more hg
  simp only [size_alloc, List.nil_append, List.cons_append] at hB
  clear hg
  refine any_start (S := fun v => v.heap[w.heap.size]? = some (.cells (kc (digs (A : Int) 32)) 23 (0, 0)) ∧ v.heap[w.heap.size + 1]? = some (.cells (kc (digs (B : Int) 32)) 23 (0, 0)) ∧ True) (by kernel_rfl) ?_
  replace hB := hB.drew
  generalize World.drew _ = v1_ at *
  simp only [List.size_toArray, List.length_cons, List.length_nil, Array.replicate, List.replicate]
  refine any_take (i := 0) (v := (.agg (kc (digs (A : Int) 32)))) #[false, false, false, false, false, false, false, false, false, false] rfl (by kernel_rfl) (by kernel_rfl) (by kernel_rfl) (by kernel_rfl) (fun _ _ _ h => h) (.inl ⟨by kernel_rfl, fun x_ hu => exec_arr x_ 23 (.tmp 2) rfl w.heap.size (by kernel_rfl) (kc (digs (A : Int) 32)) 23 _ hu.1 Tryd.underlying23 rfl (by rw [Tryd.infoKey, kc32])⟩) ⟨(hB.get 0 (x := ⟨w.heap.size, (kc (digs (A : Int) 32)), 23⟩) rfl), (hB.get 1 (x := ⟨w.heap.size + 1, (kc (digs (B : Int) 32)), 23⟩) rfl), trivial⟩ ?_
  simp only [Act.put, List.setIfInBounds_toArray, List.set_cons_zero, List.set_cons_succ, List.getElem_toArray, List.getElem_cons_zero, List.getElem_cons_succ]
  refine any_take (i := 1) (v := (.agg (kc (digs (B : Int) 32)))) #[true, false, false, false, false, false, false, false, false, false] rfl (by kernel_rfl) (by kernel_rfl) (by kernel_rfl) (by kernel_rfl) (fun _ _ _ h => h) (.inl ⟨by kernel_rfl, fun x_ hu => exec_arr x_ 23 (.tmp 3) rfl (w.heap.size + 1) (by kernel_rfl) (kc (digs (B : Int) 32)) 23 _ hu.2.1 Tryd.underlying23 rfl (by rw [Tryd.infoKey, kc32])⟩) ⟨(hB.get 0 (x := ⟨w.heap.size, (kc (digs (A : Int) 32)), 23⟩) rfl), (hB.get 1 (x := ⟨w.heap.size + 1, (kc (digs (B : Int) 32)), 23⟩) rfl), trivial⟩ ?_
  simp only [Act.put, List.setIfInBounds_toArray, List.set_cons_zero, List.set_cons_succ, List.getElem_toArray, List.getElem_cons_zero, List.getElem_cons_succ]
  have hSf : ∀ v, Gr v1_ v → (fun v => v.heap[w.heap.size]? = some (.cells (kc (digs (A : Int) 32)) 23 (0, 0)) ∧ v.heap[w.heap.size + 1]? = some (.cells (kc (digs (B : Int) 32)) 23 (0, 0)) ∧ True) v := fun v k => ⟨k.blk (hB.get 0 (x := ⟨w.heap.size, (kc (digs (A : Int) 32)), 23⟩) rfl), k.blk (hB.get 1 (x := ⟨w.heap.size + 1, (kc (digs (B : Int) 32)), 23⟩) rfl), trivial⟩
  refine stage1 v1_ #[.int .u8 0, .int .u8 0, .int .u8 0, .int .u8 0, .int .u8 0, .int .u8 0, .int .u8 0, .int .u8 0, .int .u8 0, .int .u8 0, .int .u8 0, .int .u8 0, .int .u8 0, .int .u8 0, .int .u8 0, .int .u8 0, .int .u8 0, .int .u8 0, .int .u8 0, .int .u8 0, .int .u8 0, .int .u8 0, .int .u8 0, .int .u8 0, .int .u8 0, .int .u8 0, .int .u8 0, .int .u8 0, .int .u8 0, .int .u8 0, .int .u8 0, .int .u8 0] 23 (fw1 _ 5) (fun b3_1 => #[true, true, false, false, false, false, false, b3_1, false, false]) 7 2 false hSf (by kernel_rfl) (fun _ => rfl) ?_ ?_ (M1.first (fun b3_1 => #[true, true, false, false, false, false, false, b3_1, false, false]) _ rfl rfl)
  all_goals simp only [fw1, Act.put, List.setIfInBounds_toArray, List.set_cons_zero, List.set_cons_succ, List.getElem_toArray, List.getElem_cons_zero, List.getElem_cons_succ]
  · intro q3_1 x K hK
    refine wpOp_step (o := _) rfl (fun K' hK' => ?_)
    replace hK' := hide hK'
    replace hK := hide hK
    go_simp
    exact unhide hK' _ _ (unhide hK)
  intro b3_1 q3_1 g3_1 v2_ hM _
  refine wpOp_step (o := _) rfl (fun K' hK' => ?_)
  replace hK' := hide hK'
  refine step_callw (by kernel_rfl) 6 #[.agg (kc (digs (B : Int) 32))] (by kernel_rfl) ((public_n B _).mono ?_)
  rintro r v3_ ⟨n1, rfl, hn1, hg⟩
  refine ⟨_, rfl, ?_⟩
  refine unhide hK' _ _ ⟨hSf _ (hM.gr.trans hg), ?_⟩
  clear hK' K'
  simp only [Act.put, List.setIfInBounds_toArray, List.set_cons_zero, List.set_cons_succ, List.getElem_toArray, List.getElem_cons_zero, List.getElem_cons_succ]
  refine stage1 v1_ #[.int .u8 0, .int .u8 0, .int .u8 0, .int .u8 0, .int .u8 0, .int .u8 0, .int .u8 0, .int .u8 0, .int .u8 0, .int .u8 0, .int .u8 0, .int .u8 0, .int .u8 0, .int .u8 0, .int .u8 0, .int .u8 0, .int .u8 0, .int .u8 0, .int .u8 0, .int .u8 0, .int .u8 0, .int .u8 0, .int .u8 0, .int .u8 0, .int .u8 0, .int .u8 0, .int .u8 0, .int .u8 0, .int .u8 0, .int .u8 0, .int .u8 0, .int .u8 0] 23 (fw1 _ 5) (fun b3_1 => #[true, true, true, false, false, false, false, b3_1, false, false]) 7 3 false hSf (by kernel_rfl) (fun _ => rfl) ?_ ?_ ⟨b3_1, q3_1, g3_1, hM.again hg rfl rfl⟩
  all_goals simp only [fw1, Act.put, List.setIfInBounds_toArray, List.set_cons_zero, List.set_cons_succ, List.getElem_toArray, List.getElem_cons_zero, List.getElem_cons_succ]
  · intro q3_1 x K hK
    refine wpOp_step (o := _) rfl (fun K' hK' => ?_)
    replace hK' := hide hK'
    replace hK := hide hK
    go_simp
    exact unhide hK' _ _ (unhide hK)
  clear hM hg
  intro b3_1 q3_1 g3_1 v4_ hM _
  refine wpOp_step (o := _) rfl (fun K' hK' => ?_)
  replace hK' := hide hK'
  refine step_callw (by kernel_rfl) 12 #[.agg (kc (digs (A : Int) 32)), .agg (kc (digs (n1 : Int) 32))] (by kernel_rfl) ((agree_n A n1 (hide (by rw [unhide hn1]; exact both_ne A B)) _).mono ?_)
  rintro r v5_ ⟨n2, rfl, hn2, hg⟩
  refine ⟨_, rfl, ?_⟩
  refine unhide hK' _ _ ⟨hSf _ (hM.gr.trans hg), ?_⟩
  clear hK' K'
  simp only [Act.put, List.setIfInBounds_toArray, List.set_cons_zero, List.set_cons_succ, List.getElem_toArray, List.getElem_cons_zero, List.getElem_cons_succ]
  refine any_take (i := 4) (v := (.tuple #[.agg (kc (digs (n2 : Int) 32)), .int .i64 0])) #[true, true, true, true, false, false, false, false, false, false] rfl (by kernel_rfl) (by kernel_rfl) (by kernel_rfl) (by kernel_rfl) (fun _ _ _ h => h) (.inl ⟨by kernel_rfl, fun x_ hu => by kernel_rfl⟩) (hSf _ (hM.gr.trans hg)) ?_
  simp only [Act.put, List.setIfInBounds_toArray, List.set_cons_zero, List.set_cons_succ, List.getElem_toArray, List.getElem_cons_zero, List.getElem_cons_succ]
  refine any_take (i := 5) (v := (.agg (kc (digs (n2 : Int) 32)))) #[true, true, true, true, true, false, false, false, false, false] rfl (by kernel_rfl) (by kernel_rfl) (by kernel_rfl) (by kernel_rfl) (fun _ _ _ h => h) (.inl ⟨by kernel_rfl, fun x_ hu => by kernel_rfl⟩) (hSf _ (hM.gr.trans hg)) ?_
  simp only [Act.put, List.setIfInBounds_toArray, List.set_cons_zero, List.set_cons_succ, List.getElem_toArray, List.getElem_cons_zero, List.getElem_cons_succ]
  refine any_take (i := 6) (v := (.int .i64 0)) #[true, true, true, true, true, true, false, false, false, false] rfl (by kernel_rfl) (by kernel_rfl) (by kernel_rfl) (by kernel_rfl) (fun _ _ _ h => h) (.inl ⟨by kernel_rfl, fun x_ hu => by kernel_rfl⟩) (hSf _ (hM.gr.trans hg)) ?_
  simp only [Act.put, List.setIfInBounds_toArray, List.set_cons_zero, List.set_cons_succ, List.getElem_toArray, List.getElem_cons_zero, List.getElem_cons_succ]
  refine stage1 v1_ #[.int .u8 0, .int .u8 0, .int .u8 0, .int .u8 0, .int .u8 0, .int .u8 0, .int .u8 0, .int .u8 0, .int .u8 0, .int .u8 0, .int .u8 0, .int .u8 0, .int .u8 0, .int .u8 0, .int .u8 0, .int .u8 0, .int .u8 0, .int .u8 0, .int .u8 0, .int .u8 0, .int .u8 0, .int .u8 0, .int .u8 0, .int .u8 0, .int .u8 0, .int .u8 0, .int .u8 0, .int .u8 0, .int .u8 0, .int .u8 0, .int .u8 0, .int .u8 0] 23 (fw1 _ 5) (fun b3_1 => #[true, true, true, true, true, true, true, b3_1, false, false]) 7 8 true hSf (by kernel_rfl) (fun _ => rfl) ?_ ?_ ⟨b3_1, q3_1, g3_1, hM.again hg rfl rfl⟩
  all_goals simp only [fw1, Act.put, List.setIfInBounds_toArray, List.set_cons_zero, List.set_cons_succ, List.getElem_toArray, List.getElem_cons_zero, List.getElem_cons_succ]
  · intro q3_1 x K hK
    refine wpOp_step (o := _) rfl (fun K' hK' => ?_)
    replace hK' := hide hK'
    replace hK := hide hK
    go_simp
    exact unhide hK' _ _ (unhide hK)
  clear hM hg
  intro b3_1 q3_1 g3_1 v6_ hM hall
  obtain rfl := hall (by trivial)
  obtain ⟨rfl, hB'⟩ := hM.all hB
  replace hB := hB'
  clear hB' hM hall
  simp only [List.cons_append, List.nil_append] at hB
  replace hB : Bl w [⟨w.heap.size, (kc (digs (A : Int) 32)), 23⟩, ⟨w.heap.size + 1, (kc (digs (B : Int) 32)), 23⟩, ⟨g3_1, Z32, 23⟩] v6_ := hB
  refine wpOp_step (o := _) rfl (fun K' hK' => ?_)
  replace hK' := hide hK'
  rw [if_pos (by kernel_rfl)]
  refine wp_store_row 23 (.tmp 5) (.tmp 16) rfl g3_1 (kc (digs (n2 : Int) 32)) (by kernel_rfl) (by kernel_rfl) 23 Z32 (hB.get 2 (x := ⟨g3_1, Z32, 23⟩) rfl) (by rw [Tryd.infoKey, kc32]) (Z32_size.trans (kc32 (n2 : Int) 32).symm) (kc_one _) ?_
  replace hB := hB.set 2 (x := ⟨g3_1, Z32, 23⟩) rfl (kc (digs (n2 : Int) 32))
  simp only [List.set_cons_zero, List.set_cons_succ] at hB
  refine unhide hK' _ _ ⟨⟨(hB.get 0 (x := ⟨w.heap.size, (kc (digs (A : Int) 32)), 23⟩) rfl), (hB.get 1 (x := ⟨w.heap.size + 1, (kc (digs (B : Int) 32)), 23⟩) rfl), trivial⟩, ?_⟩
  clear hK' K' hSf
  generalize World.setRow _ _ _ = v7_ at *
  simp only [Act.put, List.setIfInBounds_toArray, List.set_cons_zero, List.set_cons_succ, List.getElem_toArray, List.getElem_cons_zero, List.getElem_cons_succ]
  refine any_one (i := 9) (by kernel_rfl) rfl (fun K hK => ?_)
  replace hK := hide hK
  go_simp
  refine (unhide hK).out _ _ ⟨(hB.get 0 (x := ⟨w.heap.size, (kc (digs (A : Int) 32)), 23⟩) rfl), (hB.get 1 (x := ⟨w.heap.size + 1, (kc (digs (B : Int) 32)), 23⟩) rfl), trivial⟩ (fun _ => ?_)
  clear hK K
  refine any_done (by kernel_rfl) ?_
  go_upto_region 4 with fail
  refine any_start (S := fun v => v.heap[w.heap.size]? = some (.cells (kc (digs (A : Int) 32)) 23 (0, 0)) ∧ v.heap[w.heap.size + 1]? = some (.cells (kc (digs (B : Int) 32)) 23 (0, 0)) ∧ True) (by kernel_rfl) ?_
  replace hB := hB.drew
  generalize World.drew _ = v8_ at *
  simp only [List.size_toArray, List.length_cons, List.length_nil, Array.replicate, List.replicate]
  refine any_take (i := 0) (v := (.agg (kc (digs (B : Int) 32)))) #[false, false, false, false, false, false, false, false, false, false] rfl (by kernel_rfl) (by kernel_rfl) (by kernel_rfl) (by kernel_rfl) (fun _ _ _ h => h) (.inl ⟨by kernel_rfl, fun x_ hu => exec_arr x_ 23 (.tmp 3) rfl (w.heap.size + 1) (by kernel_rfl) (kc (digs (B : Int) 32)) 23 _ hu.2.1 Tryd.underlying23 rfl (by rw [Tryd.infoKey, kc32])⟩) ⟨(hB.get 0 (x := ⟨w.heap.size, (kc (digs (A : Int) 32)), 23⟩) rfl), (hB.get 1 (x := ⟨w.heap.size + 1, (kc (digs (B : Int) 32)), 23⟩) rfl), trivial⟩ ?_
  simp only [Act.put, List.setIfInBounds_toArray, List.set_cons_zero, List.set_cons_succ, List.getElem_toArray, List.getElem_cons_zero, List.getElem_cons_succ]
  refine any_take (i := 1) (v := (.agg (kc (digs (A : Int) 32)))) #[true, false, false, false, false, false, false, false, false, false] rfl (by kernel_rfl) (by kernel_rfl) (by kernel_rfl) (by kernel_rfl) (fun _ _ _ h => h) (.inl ⟨by kernel_rfl, fun x_ hu => exec_arr x_ 23 (.tmp 2) rfl w.heap.size (by kernel_rfl) (kc (digs (A : Int) 32)) 23 _ hu.1 Tryd.underlying23 rfl (by rw [Tryd.infoKey, kc32])⟩) ⟨(hB.get 0 (x := ⟨w.heap.size, (kc (digs (A : Int) 32)), 23⟩) rfl), (hB.get 1 (x := ⟨w.heap.size + 1, (kc (digs (B : Int) 32)), 23⟩) rfl), trivial⟩ ?_
  simp only [Act.put, List.setIfInBounds_toArray, List.set_cons_zero, List.set_cons_succ, List.getElem_toArray, List.getElem_cons_zero, List.getElem_cons_succ]
  have hSf : ∀ v, Gr v8_ v → (fun v => v.heap[w.heap.size]? = some (.cells (kc (digs (A : Int) 32)) 23 (0, 0)) ∧ v.heap[w.heap.size + 1]? = some (.cells (kc (digs (B : Int) 32)) 23 (0, 0)) ∧ True) v := fun v k => ⟨k.blk (hB.get 0 (x := ⟨w.heap.size, (kc (digs (A : Int) 32)), 23⟩) rfl), k.blk (hB.get 1 (x := ⟨w.heap.size + 1, (kc (digs (B : Int) 32)), 23⟩) rfl), trivial⟩
  refine stage1 v8_ #[.int .u8 0, .int .u8 0, .int .u8 0, .int .u8 0, .int .u8 0, .int .u8 0, .int .u8 0, .int .u8 0, .int .u8 0, .int .u8 0, .int .u8 0, .int .u8 0, .int .u8 0, .int .u8 0, .int .u8 0, .int .u8 0, .int .u8 0, .int .u8 0, .int .u8 0, .int .u8 0, .int .u8 0, .int .u8 0, .int .u8 0, .int .u8 0, .int .u8 0, .int .u8 0, .int .u8 0, .int .u8 0, .int .u8 0, .int .u8 0, .int .u8 0, .int .u8 0] 23 (fw1 _ 7) (fun b4_1 => #[true, true, false, false, false, false, false, b4_1, false, false]) 7 2 false hSf (by kernel_rfl) (fun _ => rfl) ?_ ?_ (M1.first (fun b4_1 => #[true, true, false, false, false, false, false, b4_1, false, false]) _ rfl rfl)
  all_goals simp only [fw1, Act.put, List.setIfInBounds_toArray, List.set_cons_zero, List.set_cons_succ, List.getElem_toArray, List.getElem_cons_zero, List.getElem_cons_succ]
  · intro q4_1 x K hK
    refine wpOp_step (o := _) rfl (fun K' hK' => ?_)
    replace hK' := hide hK'
    replace hK := hide hK
    go_simp
    exact unhide hK' _ _ (unhide hK)
  intro b4_1 q4_1 g4_1 v9_ hM _
  refine wpOp_step (o := _) rfl (fun K' hK' => ?_)
  replace hK' := hide hK'
  refine step_callw (by kernel_rfl) 6 #[.agg (kc (digs (A : Int) 32))] (by kernel_rfl) ((public_n A _).mono ?_)
  rintro r v10_ ⟨n3, rfl, hn3, hg⟩
  refine ⟨_, rfl, ?_⟩
  refine unhide hK' _ _ ⟨hSf _ (hM.gr.trans hg), ?_⟩
  clear hK' K'
  simp only [Act.put, List.setIfInBounds_toArray, List.set_cons_zero, List.set_cons_succ, List.getElem_toArray, List.getElem_cons_zero, List.getElem_cons_succ]
  refine stage1 v8_ #[.int .u8 0, .int .u8 0, .int .u8 0, .int .u8 0, .int .u8 0, .int .u8 0, .int .u8 0, .int .u8 0, .int .u8 0, .int .u8 0, .int .u8 0, .int .u8 0, .int .u8 0, .int .u8 0, .int .u8 0, .int .u8 0, .int .u8 0, .int .u8 0, .int .u8 0, .int .u8 0, .int .u8 0, .int .u8 0, .int .u8 0, .int .u8 0, .int .u8 0, .int .u8 0, .int .u8 0, .int .u8 0, .int .u8 0, .int .u8 0, .int .u8 0, .int .u8 0] 23 (fw1 _ 7) (fun b4_1 => #[true, true, true, false, false, false, false, b4_1, false, false]) 7 3 false hSf (by kernel_rfl) (fun _ => rfl) ?_ ?_ ⟨b4_1, q4_1, g4_1, hM.again hg rfl rfl⟩
  all_goals simp only [fw1, Act.put, List.setIfInBounds_toArray, List.set_cons_zero, List.set_cons_succ, List.getElem_toArray, List.getElem_cons_zero, List.getElem_cons_succ]
  · intro q4_1 x K hK
    refine wpOp_step (o := _) rfl (fun K' hK' => ?_)
    replace hK' := hide hK'
    replace hK := hide hK
    go_simp
    exact unhide hK' _ _ (unhide hK)
  clear hM hg
  intro b4_1 q4_1 g4_1 v11_ hM _
  refine wpOp_step (o := _) rfl (fun K' hK' => ?_)
  replace hK' := hide hK'
  refine step_callw (by kernel_rfl) 12 #[.agg (kc (digs (B : Int) 32)), .agg (kc (digs (n3 : Int) 32))] (by kernel_rfl) ((agree_n B n3 (hide (by rw [unhide hn3]; exact both_ne B A)) _).mono ?_)
  rintro r v12_ ⟨n4, rfl, hn4, hg⟩
  refine ⟨_, rfl, ?_⟩
  have en4 : n4 = n2 := by rw [unhide hn4, unhide hn3, unhide hn2, unhide hn1]; exact x_comm B A 9 nine
  rw [en4]
  refine unhide hK' _ _ ⟨hSf _ (hM.gr.trans hg), ?_⟩
  clear hK' K'
  simp only [Act.put, List.setIfInBounds_toArray, List.set_cons_zero, List.set_cons_succ, List.getElem_toArray, List.getElem_cons_zero, List.getElem_cons_succ]
  refine any_take (i := 4) (v := (.tuple #[.agg (kc (digs (n2 : Int) 32)), .int .i64 0])) #[true, true, true, true, false, false, false, false, false, false] rfl (by kernel_rfl) (by kernel_rfl) (by kernel_rfl) (by kernel_rfl) (fun _ _ _ h => h) (.inl ⟨by kernel_rfl, fun x_ hu => by kernel_rfl⟩) (hSf _ (hM.gr.trans hg)) ?_
  simp only [Act.put, List.setIfInBounds_toArray, List.set_cons_zero, List.set_cons_succ, List.getElem_toArray, List.getElem_cons_zero, List.getElem_cons_succ]
  refine any_take (i := 5) (v := (.agg (kc (digs (n2 : Int) 32)))) #[true, true, true, true, true, false, false, false, false, false] rfl (by kernel_rfl) (by kernel_rfl) (by kernel_rfl) (by kernel_rfl) (fun _ _ _ h => h) (.inl ⟨by kernel_rfl, fun x_ hu => by kernel_rfl⟩) (hSf _ (hM.gr.trans hg)) ?_
  simp only [Act.put, List.setIfInBounds_toArray, List.set_cons_zero, List.set_cons_succ, List.getElem_toArray, List.getElem_cons_zero, List.getElem_cons_succ]
  refine any_take (i := 6) (v := (.int .i64 0)) #[true, true, true, true, true, true, false, false, false, false] rfl (by kernel_rfl) (by kernel_rfl) (by kernel_rfl) (by kernel_rfl) (fun _ _ _ h => h) (.inl ⟨by kernel_rfl, fun x_ hu => by kernel_rfl⟩) (hSf _ (hM.gr.trans hg)) ?_
  simp only [Act.put, List.setIfInBounds_toArray, List.set_cons_zero, List.set_cons_succ, List.getElem_toArray, List.getElem_cons_zero, List.getElem_cons_succ]
  refine stage1 v8_ #[.int .u8 0, .int .u8 0, .int .u8 0, .int .u8 0, .int .u8 0, .int .u8 0, .int .u8 0, .int .u8 0, .int .u8 0, .int .u8 0, .int .u8 0, .int .u8 0, .int .u8 0, .int .u8 0, .int .u8 0, .int .u8 0, .int .u8 0, .int .u8 0, .int .u8 0, .int .u8 0, .int .u8 0, .int .u8 0, .int .u8 0, .int .u8 0, .int .u8 0, .int .u8 0, .int .u8 0, .int .u8 0, .int .u8 0, .int .u8 0, .int .u8 0, .int .u8 0] 23 (fw1 _ 7) (fun b4_1 => #[true, true, true, true, true, true, true, b4_1, false, false]) 7 8 true hSf (by kernel_rfl) (fun _ => rfl) ?_ ?_ ⟨b4_1, q4_1, g4_1, hM.again hg rfl rfl⟩
  all_goals simp only [fw1, Act.put, List.setIfInBounds_toArray, List.set_cons_zero, List.set_cons_succ, List.getElem_toArray, List.getElem_cons_zero, List.getElem_cons_succ]
  · intro q4_1 x K hK
    refine wpOp_step (o := _) rfl (fun K' hK' => ?_)
    replace hK' := hide hK'
    replace hK := hide hK
    go_simp
    exact unhide hK' _ _ (unhide hK)
  clear hM hg
  intro b4_1 q4_1 g4_1 v13_ hM hall
  obtain rfl := hall (by trivial)
  obtain ⟨rfl, hB'⟩ := hM.all hB
  replace hB := hB'
  clear hB' hM hall
  simp only [List.cons_append, List.nil_append] at hB
  replace hB : Bl w [⟨w.heap.size, (kc (digs (A : Int) 32)), 23⟩, ⟨w.heap.size + 1, (kc (digs (B : Int) 32)), 23⟩, ⟨g3_1, (kc (digs (n2 : Int) 32)), 23⟩, ⟨g4_1, Z32, 23⟩] v13_ := hB
  refine wpOp_step (o := _) rfl (fun K' hK' => ?_)
  replace hK' := hide hK'
  rw [if_pos (by kernel_rfl)]
  refine wp_store_row 23 (.tmp 7) (.tmp 23) rfl g4_1 (kc (digs (n2 : Int) 32)) (by kernel_rfl) (by kernel_rfl) 23 Z32 (hB.get 3 (x := ⟨g4_1, Z32, 23⟩) rfl) (by rw [Tryd.infoKey, kc32]) (Z32_size.trans (kc32 (n2 : Int) 32).symm) (kc_one _) ?_
  replace hB := hB.set 3 (x := ⟨g4_1, Z32, 23⟩) rfl (kc (digs (n2 : Int) 32))
  simp only [List.set_cons_zero, List.set_cons_succ] at hB
  refine unhide hK' _ _ ⟨⟨(hB.get 0 (x := ⟨w.heap.size, (kc (digs (A : Int) 32)), 23⟩) rfl), (hB.get 1 (x := ⟨w.heap.size + 1, (kc (digs (B : Int) 32)), 23⟩) rfl), trivial⟩, ?_⟩
  clear hK' K' hSf
  generalize World.setRow _ _ _ = v14_ at *
  simp only [Act.put, List.setIfInBounds_toArray, List.set_cons_zero, List.set_cons_succ, List.getElem_toArray, List.getElem_cons_zero, List.getElem_cons_succ]
  refine any_one (i := 9) (by kernel_rfl) rfl (fun K hK => ?_)
  replace hK := hide hK
  go_simp
  refine (unhide hK).out _ _ ⟨(hB.get 0 (x := ⟨w.heap.size, (kc (digs (A : Int) 32)), 23⟩) rfl), (hB.get 1 (x := ⟨w.heap.size + 1, (kc (digs (B : Int) 32)), 23⟩) rfl), trivial⟩ (fun _ => ?_)
  clear hK K
  refine any_done (by kernel_rfl) ?_
  go_upto_region 5 with fail
  refine wp_region_lit ?_
  refine list_val (.int .i64 0) (by kernel_rfl) (by kernel_rfl) ?_
  simp only [Act.put, List.setIfInBounds_toArray, List.set_cons_zero, List.set_cons_succ, List.getElem_toArray, List.getElem_cons_zero, List.getElem_cons_succ]
  refine list_val (.bool true) (by kernel_rfl) (by kernel_rfl) ?_
  simp only [Act.put, List.setIfInBounds_toArray, List.set_cons_zero, List.set_cons_succ, List.getElem_toArray, List.getElem_cons_zero, List.getElem_cons_succ]
  refine list_val (.bool true) (by kernel_rfl) (by kernel_rfl) ?_
  simp only [Act.put, List.setIfInBounds_toArray, List.set_cons_zero, List.set_cons_succ, List.getElem_toArray, List.getElem_cons_zero, List.getElem_cons_succ]
  refine list_val (.int .i64 0) (by kernel_rfl) (by kernel_rfl) ?_
  simp only [Act.put, List.setIfInBounds_toArray, List.set_cons_zero, List.set_cons_succ, List.getElem_toArray, List.getElem_cons_zero, List.getElem_cons_succ]
  refine list_val (.bool true) (by kernel_rfl) (by kernel_rfl) ?_
  simp only [Act.put, List.setIfInBounds_toArray, List.set_cons_zero, List.set_cons_succ, List.getElem_toArray, List.getElem_cons_zero, List.getElem_cons_succ]
  refine list_val (.bool true) (by kernel_rfl) (by kernel_rfl) ?_
  simp only [Act.put, List.setIfInBounds_toArray, List.set_cons_zero, List.set_cons_succ, List.getElem_toArray, List.getElem_cons_zero, List.getElem_cons_succ]
  refine list_val (.bool true) (by kernel_rfl) (by kernel_rfl) ?_
  simp only [Act.put, List.setIfInBounds_toArray, List.set_cons_zero, List.set_cons_succ, List.getElem_toArray, List.getElem_cons_zero, List.getElem_cons_succ]
  refine list_val (.agg (kc (digs (n2 : Int) 32))) (by kernel_rfl) (exec_arr _ 23 (.tmp 5) rfl g3_1 (by kernel_rfl) (kc (digs (n2 : Int) 32)) 23 _ (hB.get 2 (x := ⟨g3_1, (kc (digs (n2 : Int) 32)), 23⟩) rfl) Tryd.underlying23 rfl (by rw [Tryd.infoKey, kc32])) ?_
  simp only [Act.put, List.setIfInBounds_toArray, List.set_cons_zero, List.set_cons_succ, List.getElem_toArray, List.getElem_cons_zero, List.getElem_cons_succ]
  refine list_val (.agg (kc (digs (n2 : Int) 32))) (by kernel_rfl) (exec_arr _ 23 (.tmp 7) rfl g4_1 (by kernel_rfl) (kc (digs (n2 : Int) 32)) 23 _ (hB.get 3 (x := ⟨g4_1, (kc (digs (n2 : Int) 32)), 23⟩) rfl) Tryd.underlying23 rfl (by rw [Tryd.infoKey, kc32])) ?_
  simp only [Act.put, List.setIfInBounds_toArray, List.set_cons_zero, List.set_cons_succ, List.getElem_toArray, List.getElem_cons_zero, List.getElem_cons_succ]
  refine list_val (.bool true) (by kernel_rfl) (by have e := key_same (n2 : Int); go_simp) ?_
  simp only [Act.put, List.setIfInBounds_toArray, List.set_cons_zero, List.set_cons_succ, List.getElem_toArray, List.getElem_cons_zero, List.getElem_cons_succ]
  refine list_val (.bool true) (by kernel_rfl) (by kernel_rfl) ?_
  simp only [Act.put, List.setIfInBounds_toArray, List.set_cons_zero, List.set_cons_succ, List.getElem_toArray, List.getElem_cons_zero, List.getElem_cons_succ]
  refine list_val (.bool true) (by kernel_rfl) (by kernel_rfl) ?_
  simp only [Act.put, List.setIfInBounds_toArray, List.set_cons_zero, List.set_cons_succ, List.getElem_toArray, List.getElem_cons_zero, List.getElem_cons_succ]
  refine list_val (.agg (kc (digs (A : Int) 32))) (by kernel_rfl) (exec_arr _ 23 (.tmp 2) rfl w.heap.size (by kernel_rfl) (kc (digs (A : Int) 32)) 23 _ (hB.get 0 (x := ⟨w.heap.size, (kc (digs (A : Int) 32)), 23⟩) rfl) Tryd.underlying23 rfl (by rw [Tryd.infoKey, kc32])) ?_
  simp only [Act.put, List.setIfInBounds_toArray, List.set_cons_zero, List.set_cons_succ, List.getElem_toArray, List.getElem_cons_zero, List.getElem_cons_succ]
  refine list_call 6 #[.agg (kc (digs (A : Int) 32))] (by kernel_rfl) (by kernel_rfl) ((public_n A _).mono ?_)
  rintro r v15_ ⟨n5, rfl, hn5, hg⟩
  refine ⟨_, rfl, ?_⟩
  replace hB := hB.more hg
  clear hg
  simp only [Act.put, List.setIfInBounds_toArray, List.set_cons_zero, List.set_cons_succ, List.getElem_toArray, List.getElem_cons_zero, List.getElem_cons_succ]
  refine list_call 10 #[.agg (kc (digs (n5 : Int) 32))] (by kernel_rfl) (by kernel_rfl) ((low_n n5 A hn5 _ (hB.gr.range (unhide hL))).mono ?_)
  rintro r v16_ ⟨rfl, hg⟩
  refine ⟨_, rfl, ?_⟩
  replace hB := hB.more hg
  clear hg
  simp only [Act.put, List.setIfInBounds_toArray, List.set_cons_zero, List.set_cons_succ, List.getElem_toArray, List.getElem_cons_zero, List.getElem_cons_succ]
  refine list_val (.bool true) (by kernel_rfl) (by kernel_rfl) ?_
  simp only [Act.put, List.setIfInBounds_toArray, List.set_cons_zero, List.set_cons_succ, List.getElem_toArray, List.getElem_cons_zero, List.getElem_cons_succ]
  refine list_val (.bool true) (by kernel_rfl) (by kernel_rfl) ?_
  simp only [Act.put, List.setIfInBounds_toArray, List.set_cons_zero, List.set_cons_succ, List.getElem_toArray, List.getElem_cons_zero, List.getElem_cons_succ]
  refine wpList_step fun K hK => ?_
  replace hK := hide hK
  go_simp
  refine unhide hK _ _ ?_
  clear hK K
  refine wpList_nil ?_
  have hG := hide hB.gr
  clear hB
  go_wp2_with fail
  refine bodyPost_ret (v := .bool true) ?_ rfl ⟨rfl, unhide hG⟩
  simp [results, Tryd.results4, go_sem]
theorem shares_int (n0 n1 : Int) (h0 : 0 ≤ n0) (h1 : 0 ≤ n1) (w : World) (hL : w.rangeAt 0 0 lowsL) :
    Calls Tryd.prog 4 #[.agg (kc (digs n0 32)), .agg (kc (digs n1 32))] w (fun r w' => r = .returned (.bool true) ∧ Gr w w') := by
  obtain ⟨A, rfl⟩ := Int.eq_ofNat_of_zero_le h0
  obtain ⟨B, rfl⟩ := Int.eq_ofNat_of_zero_le h1
  exact shares_any A B w hL
end Go.Proofs.YtebgmneffpeahaaDoor
