/-
  CurveKeys: the walk, for whatever key.
-/
import Derived.Test.YtebgmneffpeahaaDoorLowWalk
import Derived.Test.YtebgmneffpeahaaDoorRefLowM
import Derived.Test.YtebgmneffpeahaaDoorRefX
namespace Go.Proofs.YtebgmneffpeahaaDoor
open Go.RowKit
set_option maxRecDepth 100000
set_option linter.unusedSimpArgs false

theorem low_yes (U : Nat) (h : Lw ((U : Int) % 57896044618658097711785492504343953926634992332820282019728792003956564819968 % pp)) (w : World) (hL : w.rangeAt 0 0 lowsL) : Calls Tryd.prog 10 #[.agg (kc (digs (U : Int) 32))] w (fun r w' => r = .returned (.bool true) ∧ Gr w w') := by
  rcases h with h | h | h | h | h
  · exact low_0 U h w hL
  · exact low_1 U h w hL
  · exact low_2 U h w hL
  · exact low_3 U h w hL
  · exact low_4 U h w hL
theorem low_no (U : Nat) (h : ¬ Lw ((U : Int) % 57896044618658097711785492504343953926634992332820282019728792003956564819968 % pp)) (w : World) (hL : w.rangeAt 0 0 lowsL) : Calls Tryd.prog 10 #[.agg (kc (digs (U : Int) 32))] w (fun r w' => r = .returned (.bool false) ∧ Gr w w') := by
  refine low_5 U _ rfl ⟨Int.emod_nonneg _ (by decide), ?_⟩ (fun e => h (.inl e)) (fun e => h (.inr (.inl e))) (fun e => h (.inr (.inr (.inl e)))) (fun e => h (.inr (.inr (.inr (.inl e))))) (fun e => h (.inr (.inr (.inr (.inr e))))) w hL
  have := Int.emod_lt_of_pos ((U : Int) % 57896044618658097711785492504343953926634992332820282019728792003956564819968) (show 0 < pp by decide)
  unfold pp at *
  omega
theorem rx9 (M : Nat) (w : World) : Calls Tryd.prog 7 #[.agg (kc (digs (M : Int) 32)), .agg (kc (digs ((9 : Nat) : Int) 32))] w (fun r w' => ∃ n : Nat, r = .returned (.agg (kc (digs (n : Int) 32))) ∧ Hid (n = xN M 9) ∧ Gr w w') :=
  (rx_ok M 9 (by decide) w).mono fun _ _ h => ⟨_, h.1, rfl, h.2⟩
theorem rclamp_n (M : Nat) (w : World) : Calls Tryd.prog 9 #[.agg (kc (digs (M : Int) 32))] w (fun r w' => ∃ n : Nat, r = .returned (.agg (kc (digs (n : Int) 32))) ∧ Hid (n = cl M) ∧ Gr w w') :=
  (rclamp_ok M w).mono fun _ _ h => ⟨_, h.1, rfl, h.2⟩

set_option maxHeartbeats 4000000 in
theorem keys_yes (M : Nat) (hM : Hid (M < 115792089237316195423570985008687907853269984665640564039457584007913129639936)) (hW : Hid (Lw ((M : Int) % 57896044618658097711785492504343953926634992332820282019728792003956564819968 % pp))) (w : World) (hL : w.rangeAt 0 0 lowsL) :
    Calls Tryd.prog 3 #[.agg (kc (digs (M : Int) 32))] w (fun r w' => r = .returned (.bool true) ∧ Gr w w') := by
  replace hL := hide hL
  go_enter Tryd.func3, Tryd.ntmps3
  go_upto_region 3 with (go_at_call 5; refine (wakes_ok _).mono ?_; rintro r w1 ⟨rfl, hg⟩)
  have hB := ((Bl.nil w).new (kc (digs (M : Int) 32)) 23).more hg
  simp only [size_alloc, List.nil_append, List.cons_append] at hB
  clear hg
  refine any_start (S := fun v => v.heap[w.heap.size]? = some (.cells (kc (digs (M : Int) 32)) 23 (0, 0)) ∧ True) (by kernel_rfl) ?_
  replace hB := hB.drew
  generalize World.drew _ = v1_ at *
  simp only [List.size_toArray, List.length_cons, List.length_nil, Array.replicate, List.replicate]
  refine any_take (i := 0) (v := (.agg (kc (digs (M : Int) 32)))) #[false, false, false, false, false, false, false, false, false, false, false, false, false, false, false, false, false, false, false, false, false] rfl (by kernel_rfl) (by kernel_rfl) (by kernel_rfl) (by kernel_rfl) (fun _ _ _ h => h) (.inl ⟨by kernel_rfl, fun x_ hu => exec_arr x_ 23 (.tmp 1) rfl w.heap.size (by kernel_rfl) (kc (digs (M : Int) 32)) 23 _ hu.1 Tryd.underlying23 rfl (by rw [Tryd.infoKey, kc32])⟩) ⟨(hB.get 0 (x := ⟨w.heap.size, (kc (digs (M : Int) 32)), 23⟩) rfl), trivial⟩ ?_
  simp only [Act.put, List.setIfInBounds_toArray, List.set_cons_zero, List.set_cons_succ, List.getElem_toArray, List.getElem_cons_zero, List.getElem_cons_succ]
  refine any_take (i := 2) (v := (.agg (kc (digs (M : Int) 32)))) #[true, false, false, false, false, false, false, false, false, false, false, false, false, false, false, false, false, false, false, false, false] rfl (by kernel_rfl) (by kernel_rfl) (by kernel_rfl) (by kernel_rfl) (fun _ _ _ h => h) (.inl ⟨by kernel_rfl, fun x_ hu => exec_arr x_ 23 (.tmp 1) rfl w.heap.size (by kernel_rfl) (kc (digs (M : Int) 32)) 23 _ hu.1 Tryd.underlying23 rfl (by rw [Tryd.infoKey, kc32])⟩) ⟨(hB.get 0 (x := ⟨w.heap.size, (kc (digs (M : Int) 32)), 23⟩) rfl), trivial⟩ ?_
  simp only [Act.put, List.setIfInBounds_toArray, List.set_cons_zero, List.set_cons_succ, List.getElem_toArray, List.getElem_cons_zero, List.getElem_cons_succ]
  refine any_take (i := 3) (v := (.agg (kc (digs ((9 : Nat) : Int) 32)))) #[true, false, true, false, false, false, false, false, false, false, false, false, false, false, false, false, false, false, false, false, false] rfl (by kernel_rfl) (by kernel_rfl) (by kernel_rfl) (by kernel_rfl) (fun _ _ _ h => h) (.inl ⟨by kernel_rfl, fun x_ hu => by kernel_rfl⟩) ⟨(hB.get 0 (x := ⟨w.heap.size, (kc (digs (M : Int) 32)), 23⟩) rfl), trivial⟩ ?_
  simp only [Act.put, List.setIfInBounds_toArray, List.set_cons_zero, List.set_cons_succ, List.getElem_toArray, List.getElem_cons_zero, List.getElem_cons_succ]
  refine any_one (i := 1) (by kernel_rfl) rfl (fun K hK => ?_)
  refine step_callw (by kernel_rfl) 6 #[.agg (kc (digs (M : Int) 32))] (by kernel_rfl) ((public_n M _).mono ?_)
  rintro r v2_ ⟨n1, rfl, hn1, hg⟩
  refine ⟨_, rfl, ?_⟩
  replace hB := hB.more hg
  clear hg
  refine hK.out _ _ ⟨(hB.get 0 (x := ⟨w.heap.size, (kc (digs (M : Int) 32)), 23⟩) rfl), trivial⟩ (fun _ => ?_)
  clear hK K
  simp only [Act.put, List.setIfInBounds_toArray, List.set_cons_zero, List.set_cons_succ, List.getElem_toArray, List.getElem_cons_zero, List.getElem_cons_succ]
  refine any_one (i := 4) (by kernel_rfl) rfl (fun K hK => ?_)
  refine step_callw (by kernel_rfl) 7 #[.agg (kc (digs (M : Int) 32)), .agg (kc (digs ((9 : Nat) : Int) 32))] (by kernel_rfl) ((rx9 M _).mono ?_)
  rintro r v3_ ⟨n2, rfl, hn2, hg⟩
  refine ⟨_, rfl, ?_⟩
  have en2 : n2 = n1 := by rw [unhide hn2, unhide hn1]
  rw [en2]
  replace hB := hB.more hg
  clear hg
  refine hK.out _ _ ⟨(hB.get 0 (x := ⟨w.heap.size, (kc (digs (M : Int) 32)), 23⟩) rfl), trivial⟩ (fun _ => ?_)
  clear hK K
  simp only [Act.put, List.setIfInBounds_toArray, List.set_cons_zero, List.set_cons_succ, List.getElem_toArray, List.getElem_cons_zero, List.getElem_cons_succ]
  refine any_take (i := 5) (v := (.bool true)) #[true, true, true, true, true, false, false, false, false, false, false, false, false, false, false, false, false, false, false, false, false] rfl (by kernel_rfl) (by kernel_rfl) (by kernel_rfl) (by kernel_rfl) (fun _ _ _ h => h) (.inl ⟨by kernel_rfl, fun x_ hu => by have e := key_same (n1 : Int); go_simp⟩) ⟨(hB.get 0 (x := ⟨w.heap.size, (kc (digs (M : Int) 32)), 23⟩) rfl), trivial⟩ ?_
  simp only [Act.put, List.setIfInBounds_toArray, List.set_cons_zero, List.set_cons_succ, List.getElem_toArray, List.getElem_cons_zero, List.getElem_cons_succ]
  refine any_take (i := 6) (v := (.bool true)) #[true, true, true, true, true, true, false, false, false, false, false, false, false, false, false, false, false, false, false, false, false] rfl (by kernel_rfl) (by kernel_rfl) (by kernel_rfl) (by kernel_rfl) (fun _ _ _ h => h) (.inl ⟨by kernel_rfl, fun x_ hu => by kernel_rfl⟩) ⟨(hB.get 0 (x := ⟨w.heap.size, (kc (digs (M : Int) 32)), 23⟩) rfl), trivial⟩ ?_
  simp only [Act.put, List.setIfInBounds_toArray, List.set_cons_zero, List.set_cons_succ, List.getElem_toArray, List.getElem_cons_zero, List.getElem_cons_succ]
  refine any_take (i := 7) (v := (.agg (kc (digs (M : Int) 32)))) #[true, true, true, true, true, true, true, false, false, false, false, false, false, false, false, false, false, false, false, false, false] rfl (by kernel_rfl) (by kernel_rfl) (by kernel_rfl) (by kernel_rfl) (fun _ _ _ h => h) (.inl ⟨by kernel_rfl, fun x_ hu => exec_arr x_ 23 (.tmp 1) rfl w.heap.size (by kernel_rfl) (kc (digs (M : Int) 32)) 23 _ hu.1 Tryd.underlying23 rfl (by rw [Tryd.infoKey, kc32])⟩) ⟨(hB.get 0 (x := ⟨w.heap.size, (kc (digs (M : Int) 32)), 23⟩) rfl), trivial⟩ ?_
  simp only [Act.put, List.setIfInBounds_toArray, List.set_cons_zero, List.set_cons_succ, List.getElem_toArray, List.getElem_cons_zero, List.getElem_cons_succ]
  refine any_take (i := 9) (v := (.agg (kc (digs (M : Int) 32)))) #[true, true, true, true, true, true, true, true, false, false, false, false, false, false, false, false, false, false, false, false, false] rfl (by kernel_rfl) (by kernel_rfl) (by kernel_rfl) (by kernel_rfl) (fun _ _ _ h => h) (.inl ⟨by kernel_rfl, fun x_ hu => exec_arr x_ 23 (.tmp 1) rfl w.heap.size (by kernel_rfl) (kc (digs (M : Int) 32)) 23 _ hu.1 Tryd.underlying23 rfl (by rw [Tryd.infoKey, kc32])⟩) ⟨(hB.get 0 (x := ⟨w.heap.size, (kc (digs (M : Int) 32)), 23⟩) rfl), trivial⟩ ?_
  simp only [Act.put, List.setIfInBounds_toArray, List.set_cons_zero, List.set_cons_succ, List.getElem_toArray, List.getElem_cons_zero, List.getElem_cons_succ]
  refine any_one (i := 8) (by kernel_rfl) rfl (fun K hK => ?_)
  refine step_callw (by kernel_rfl) 8 #[.agg (kc (digs (M : Int) 32))] (by kernel_rfl) ((clamp_n M _).mono ?_)
  rintro r v4_ ⟨n3, rfl, hn3, hg⟩
  refine ⟨_, rfl, ?_⟩
  replace hB := hB.more hg
  clear hg
  refine hK.out _ _ ⟨(hB.get 0 (x := ⟨w.heap.size, (kc (digs (M : Int) 32)), 23⟩) rfl), trivial⟩ (fun _ => ?_)
  clear hK K
  simp only [Act.put, List.setIfInBounds_toArray, List.set_cons_zero, List.set_cons_succ, List.getElem_toArray, List.getElem_cons_zero, List.getElem_cons_succ]
  refine any_one (i := 10) (by kernel_rfl) rfl (fun K hK => ?_)
  refine step_callw (by kernel_rfl) 9 #[.agg (kc (digs (M : Int) 32))] (by kernel_rfl) ((rclamp_n M _).mono ?_)
  rintro r v5_ ⟨n4, rfl, hn4, hg⟩
  refine ⟨_, rfl, ?_⟩
  have en4 : n4 = n3 := by rw [unhide hn4, unhide hn3]
  rw [en4]
  replace hB := hB.more hg
  clear hg
  refine hK.out _ _ ⟨(hB.get 0 (x := ⟨w.heap.size, (kc (digs (M : Int) 32)), 23⟩) rfl), trivial⟩ (fun _ => ?_)
  clear hK K
  simp only [Act.put, List.setIfInBounds_toArray, List.set_cons_zero, List.set_cons_succ, List.getElem_toArray, List.getElem_cons_zero, List.getElem_cons_succ]
  refine any_take (i := 11) (v := (.bool true)) #[true, true, true, true, true, true, true, true, true, true, true, false, false, false, false, false, false, false, false, false, false] rfl (by kernel_rfl) (by kernel_rfl) (by kernel_rfl) (by kernel_rfl) (fun _ _ _ h => h) (.inl ⟨by kernel_rfl, fun x_ hu => by have e := key_same (n3 : Int); go_simp⟩) ⟨(hB.get 0 (x := ⟨w.heap.size, (kc (digs (M : Int) 32)), 23⟩) rfl), trivial⟩ ?_
  simp only [Act.put, List.setIfInBounds_toArray, List.set_cons_zero, List.set_cons_succ, List.getElem_toArray, List.getElem_cons_zero, List.getElem_cons_succ]
  refine any_take (i := 12) (v := (.bool true)) #[true, true, true, true, true, true, true, true, true, true, true, true, false, false, false, false, false, false, false, false, false] rfl (by kernel_rfl) (by kernel_rfl) (by kernel_rfl) (by kernel_rfl) (fun _ _ _ h => h) (.inl ⟨by kernel_rfl, fun x_ hu => by kernel_rfl⟩) ⟨(hB.get 0 (x := ⟨w.heap.size, (kc (digs (M : Int) 32)), 23⟩) rfl), trivial⟩ ?_
  simp only [Act.put, List.setIfInBounds_toArray, List.set_cons_zero, List.set_cons_succ, List.getElem_toArray, List.getElem_cons_zero, List.getElem_cons_succ]
  refine any_take (i := 13) (v := (.bool true)) #[true, true, true, true, true, true, true, true, true, true, true, true, true, false, false, false, false, false, false, false, false] rfl (by kernel_rfl) (by kernel_rfl) (by kernel_rfl) (by kernel_rfl) (fun _ _ _ h => h) (.inl ⟨by kernel_rfl, fun x_ hu => by kernel_rfl⟩) ⟨(hB.get 0 (x := ⟨w.heap.size, (kc (digs (M : Int) 32)), 23⟩) rfl), trivial⟩ ?_
  simp only [Act.put, List.setIfInBounds_toArray, List.set_cons_zero, List.set_cons_succ, List.getElem_toArray, List.getElem_cons_zero, List.getElem_cons_succ]
  refine any_take (i := 14) (v := (.agg (kc (digs (M : Int) 32)))) #[true, true, true, true, true, true, true, true, true, true, true, true, true, true, false, false, false, false, false, false, false] rfl (by kernel_rfl) (by kernel_rfl) (by kernel_rfl) (by kernel_rfl) (fun _ _ _ h => h) (.inl ⟨by kernel_rfl, fun x_ hu => exec_arr x_ 23 (.tmp 1) rfl w.heap.size (by kernel_rfl) (kc (digs (M : Int) 32)) 23 _ hu.1 Tryd.underlying23 rfl (by rw [Tryd.infoKey, kc32])⟩) ⟨(hB.get 0 (x := ⟨w.heap.size, (kc (digs (M : Int) 32)), 23⟩) rfl), trivial⟩ ?_
  simp only [Act.put, List.setIfInBounds_toArray, List.set_cons_zero, List.set_cons_succ, List.getElem_toArray, List.getElem_cons_zero, List.getElem_cons_succ]
  refine any_take (i := 16) (v := (.agg (kc (digs (M : Int) 32)))) #[true, true, true, true, true, true, true, true, true, true, true, true, true, true, true, false, false, false, false, false, false] rfl (by kernel_rfl) (by kernel_rfl) (by kernel_rfl) (by kernel_rfl) (fun _ _ _ h => h) (.inl ⟨by kernel_rfl, fun x_ hu => exec_arr x_ 23 (.tmp 1) rfl w.heap.size (by kernel_rfl) (kc (digs (M : Int) 32)) 23 _ hu.1 Tryd.underlying23 rfl (by rw [Tryd.infoKey, kc32])⟩) ⟨(hB.get 0 (x := ⟨w.heap.size, (kc (digs (M : Int) 32)), 23⟩) rfl), trivial⟩ ?_
  simp only [Act.put, List.setIfInBounds_toArray, List.set_cons_zero, List.set_cons_succ, List.getElem_toArray, List.getElem_cons_zero, List.getElem_cons_succ]
  refine any_one (i := 15) (by kernel_rfl) rfl (fun K hK => ?_)
  refine step_callw (by kernel_rfl) 10 #[.agg (kc (digs (M : Int) 32))] (by kernel_rfl) ((low_yes M (unhide hW) _ (hB.gr.range (unhide hL))).mono ?_)
  rintro r v6_ ⟨rfl, hg⟩
  refine ⟨_, rfl, ?_⟩
  replace hB := hB.more hg
  clear hg
  refine hK.out _ _ ⟨(hB.get 0 (x := ⟨w.heap.size, (kc (digs (M : Int) 32)), 23⟩) rfl), trivial⟩ (fun _ => ?_)
  clear hK K
  simp only [Act.put, List.setIfInBounds_toArray, List.set_cons_zero, List.set_cons_succ, List.getElem_toArray, List.getElem_cons_zero, List.getElem_cons_succ]
  refine any_one (i := 17) (by kernel_rfl) rfl (fun K hK => ?_)
  refine step_callw (by kernel_rfl) 11 #[.agg (kc (digs (M : Int) 32))] (by kernel_rfl) ((rlow_yes M (unhide hM) (unhide hW) _).mono ?_)
  rintro r v7_ ⟨rfl, hg⟩
  refine ⟨_, rfl, ?_⟩
  replace hB := hB.more hg
  clear hg
  refine hK.out _ _ ⟨(hB.get 0 (x := ⟨w.heap.size, (kc (digs (M : Int) 32)), 23⟩) rfl), trivial⟩ (fun _ => ?_)
  clear hK K
  simp only [Act.put, List.setIfInBounds_toArray, List.set_cons_zero, List.set_cons_succ, List.getElem_toArray, List.getElem_cons_zero, List.getElem_cons_succ]
  refine any_take (i := 18) (v := (.bool true)) #[true, true, true, true, true, true, true, true, true, true, true, true, true, true, true, true, true, true, false, false, false] rfl (by kernel_rfl) (by kernel_rfl) (by kernel_rfl) (by kernel_rfl) (fun _ _ _ h => h) (.inl ⟨by kernel_rfl, fun x_ hu => by kernel_rfl⟩) ⟨(hB.get 0 (x := ⟨w.heap.size, (kc (digs (M : Int) 32)), 23⟩) rfl), trivial⟩ ?_
  simp only [Act.put, List.setIfInBounds_toArray, List.set_cons_zero, List.set_cons_succ, List.getElem_toArray, List.getElem_cons_zero, List.getElem_cons_succ]
  refine any_take (i := 19) (v := (.bool true)) #[true, true, true, true, true, true, true, true, true, true, true, true, true, true, true, true, true, true, true, false, false] rfl (by kernel_rfl) (by kernel_rfl) (by kernel_rfl) (by kernel_rfl) (fun _ _ _ h => h) (.inl ⟨by kernel_rfl, fun x_ hu => by kernel_rfl⟩) ⟨(hB.get 0 (x := ⟨w.heap.size, (kc (digs (M : Int) 32)), 23⟩) rfl), trivial⟩ ?_
  simp only [Act.put, List.setIfInBounds_toArray, List.set_cons_zero, List.set_cons_succ, List.getElem_toArray, List.getElem_cons_zero, List.getElem_cons_succ]
  refine any_one (i := 20) (by kernel_rfl) rfl (fun K hK => ?_)
  replace hK := hide hK
  go_simp
  refine (unhide hK).out _ _ ⟨(hB.get 0 (x := ⟨w.heap.size, (kc (digs (M : Int) 32)), 23⟩) rfl), trivial⟩ (fun _ => ?_)
  clear hK K
  refine any_done (by kernel_rfl) ?_
  have hG := hide hB.gr
  clear hB
  go_wp2_with fail
  refine bodyPost_ret (v := .bool true) ?_ rfl ⟨rfl, unhide hG⟩
  simp [results, Tryd.results3, go_sem]

set_option maxHeartbeats 4000000 in
theorem keys_no (M : Nat) (hM : Hid (M < 115792089237316195423570985008687907853269984665640564039457584007913129639936)) (hW : Hid (¬ Lw ((M : Int) % 57896044618658097711785492504343953926634992332820282019728792003956564819968 % pp))) (w : World) (hL : w.rangeAt 0 0 lowsL) :
    Calls Tryd.prog 3 #[.agg (kc (digs (M : Int) 32))] w (fun r w' => r = .returned (.bool true) ∧ Gr w w') := by
  replace hL := hide hL
  go_enter Tryd.func3, Tryd.ntmps3
  go_upto_region 3 with (go_at_call 5; refine (wakes_ok _).mono ?_; rintro r w1 ⟨rfl, hg⟩)
  have hB := ((Bl.nil w).new (kc (digs (M : Int) 32)) 23).more hg
  simp only [size_alloc, List.nil_append, List.cons_append] at hB
  clear hg
  refine any_start (S := fun v => v.heap[w.heap.size]? = some (.cells (kc (digs (M : Int) 32)) 23 (0, 0)) ∧ True) (by kernel_rfl) ?_
  replace hB := hB.drew
  generalize World.drew _ = v1_ at *
  simp only [List.size_toArray, List.length_cons, List.length_nil, Array.replicate, List.replicate]
  refine any_take (i := 0) (v := (.agg (kc (digs (M : Int) 32)))) #[false, false, false, false, false, false, false, false, false, false, false, false, false, false, false, false, false, false, false, false, false] rfl (by kernel_rfl) (by kernel_rfl) (by kernel_rfl) (by kernel_rfl) (fun _ _ _ h => h) (.inl ⟨by kernel_rfl, fun x_ hu => exec_arr x_ 23 (.tmp 1) rfl w.heap.size (by kernel_rfl) (kc (digs (M : Int) 32)) 23 _ hu.1 Tryd.underlying23 rfl (by rw [Tryd.infoKey, kc32])⟩) ⟨(hB.get 0 (x := ⟨w.heap.size, (kc (digs (M : Int) 32)), 23⟩) rfl), trivial⟩ ?_
  simp only [Act.put, List.setIfInBounds_toArray, List.set_cons_zero, List.set_cons_succ, List.getElem_toArray, List.getElem_cons_zero, List.getElem_cons_succ]
  refine any_take (i := 2) (v := (.agg (kc (digs (M : Int) 32)))) #[true, false, false, false, false, false, false, false, false, false, false, false, false, false, false, false, false, false, false, false, false] rfl (by kernel_rfl) (by kernel_rfl) (by kernel_rfl) (by kernel_rfl) (fun _ _ _ h => h) (.inl ⟨by kernel_rfl, fun x_ hu => exec_arr x_ 23 (.tmp 1) rfl w.heap.size (by kernel_rfl) (kc (digs (M : Int) 32)) 23 _ hu.1 Tryd.underlying23 rfl (by rw [Tryd.infoKey, kc32])⟩) ⟨(hB.get 0 (x := ⟨w.heap.size, (kc (digs (M : Int) 32)), 23⟩) rfl), trivial⟩ ?_
  simp only [Act.put, List.setIfInBounds_toArray, List.set_cons_zero, List.set_cons_succ, List.getElem_toArray, List.getElem_cons_zero, List.getElem_cons_succ]
  refine any_take (i := 3) (v := (.agg (kc (digs ((9 : Nat) : Int) 32)))) #[true, false, true, false, false, false, false, false, false, false, false, false, false, false, false, false, false, false, false, false, false] rfl (by kernel_rfl) (by kernel_rfl) (by kernel_rfl) (by kernel_rfl) (fun _ _ _ h => h) (.inl ⟨by kernel_rfl, fun x_ hu => by kernel_rfl⟩) ⟨(hB.get 0 (x := ⟨w.heap.size, (kc (digs (M : Int) 32)), 23⟩) rfl), trivial⟩ ?_
  simp only [Act.put, List.setIfInBounds_toArray, List.set_cons_zero, List.set_cons_succ, List.getElem_toArray, List.getElem_cons_zero, List.getElem_cons_succ]
  refine any_one (i := 1) (by kernel_rfl) rfl (fun K hK => ?_)
  refine step_callw (by kernel_rfl) 6 #[.agg (kc (digs (M : Int) 32))] (by kernel_rfl) ((public_n M _).mono ?_)
  rintro r v2_ ⟨n1, rfl, hn1, hg⟩
  refine ⟨_, rfl, ?_⟩
  replace hB := hB.more hg
  clear hg
  refine hK.out _ _ ⟨(hB.get 0 (x := ⟨w.heap.size, (kc (digs (M : Int) 32)), 23⟩) rfl), trivial⟩ (fun _ => ?_)
  clear hK K
  simp only [Act.put, List.setIfInBounds_toArray, List.set_cons_zero, List.set_cons_succ, List.getElem_toArray, List.getElem_cons_zero, List.getElem_cons_succ]
  refine any_one (i := 4) (by kernel_rfl) rfl (fun K hK => ?_)
  refine step_callw (by kernel_rfl) 7 #[.agg (kc (digs (M : Int) 32)), .agg (kc (digs ((9 : Nat) : Int) 32))] (by kernel_rfl) ((rx9 M _).mono ?_)
  rintro r v3_ ⟨n2, rfl, hn2, hg⟩
  refine ⟨_, rfl, ?_⟩
  have en2 : n2 = n1 := by rw [unhide hn2, unhide hn1]
  rw [en2]
  replace hB := hB.more hg
  clear hg
  refine hK.out _ _ ⟨(hB.get 0 (x := ⟨w.heap.size, (kc (digs (M : Int) 32)), 23⟩) rfl), trivial⟩ (fun _ => ?_)
  clear hK K
  simp only [Act.put, List.setIfInBounds_toArray, List.set_cons_zero, List.set_cons_succ, List.getElem_toArray, List.getElem_cons_zero, List.getElem_cons_succ]
  refine any_take (i := 5) (v := (.bool true)) #[true, true, true, true, true, false, false, false, false, false, false, false, false, false, false, false, false, false, false, false, false] rfl (by kernel_rfl) (by kernel_rfl) (by kernel_rfl) (by kernel_rfl) (fun _ _ _ h => h) (.inl ⟨by kernel_rfl, fun x_ hu => by have e := key_same (n1 : Int); go_simp⟩) ⟨(hB.get 0 (x := ⟨w.heap.size, (kc (digs (M : Int) 32)), 23⟩) rfl), trivial⟩ ?_
  simp only [Act.put, List.setIfInBounds_toArray, List.set_cons_zero, List.set_cons_succ, List.getElem_toArray, List.getElem_cons_zero, List.getElem_cons_succ]
  refine any_take (i := 6) (v := (.bool true)) #[true, true, true, true, true, true, false, false, false, false, false, false, false, false, false, false, false, false, false, false, false] rfl (by kernel_rfl) (by kernel_rfl) (by kernel_rfl) (by kernel_rfl) (fun _ _ _ h => h) (.inl ⟨by kernel_rfl, fun x_ hu => by kernel_rfl⟩) ⟨(hB.get 0 (x := ⟨w.heap.size, (kc (digs (M : Int) 32)), 23⟩) rfl), trivial⟩ ?_
  simp only [Act.put, List.setIfInBounds_toArray, List.set_cons_zero, List.set_cons_succ, List.getElem_toArray, List.getElem_cons_zero, List.getElem_cons_succ]
  refine any_take (i := 7) (v := (.agg (kc (digs (M : Int) 32)))) #[true, true, true, true, true, true, true, false, false, false, false, false, false, false, false, false, false, false, false, false, false] rfl (by kernel_rfl) (by kernel_rfl) (by kernel_rfl) (by kernel_rfl) (fun _ _ _ h => h) (.inl ⟨by kernel_rfl, fun x_ hu => exec_arr x_ 23 (.tmp 1) rfl w.heap.size (by kernel_rfl) (kc (digs (M : Int) 32)) 23 _ hu.1 Tryd.underlying23 rfl (by rw [Tryd.infoKey, kc32])⟩) ⟨(hB.get 0 (x := ⟨w.heap.size, (kc (digs (M : Int) 32)), 23⟩) rfl), trivial⟩ ?_
  simp only [Act.put, List.setIfInBounds_toArray, List.set_cons_zero, List.set_cons_succ, List.getElem_toArray, List.getElem_cons_zero, List.getElem_cons_succ]
  refine any_take (i := 9) (v := (.agg (kc (digs (M : Int) 32)))) #[true, true, true, true, true, true, true, true, false, false, false, false, false, false, false, false, false, false, false, false, false] rfl (by kernel_rfl) (by kernel_rfl) (by kernel_rfl) (by kernel_rfl) (fun _ _ _ h => h) (.inl ⟨by kernel_rfl, fun x_ hu => exec_arr x_ 23 (.tmp 1) rfl w.heap.size (by kernel_rfl) (kc (digs (M : Int) 32)) 23 _ hu.1 Tryd.underlying23 rfl (by rw [Tryd.infoKey, kc32])⟩) ⟨(hB.get 0 (x := ⟨w.heap.size, (kc (digs (M : Int) 32)), 23⟩) rfl), trivial⟩ ?_
  simp only [Act.put, List.setIfInBounds_toArray, List.set_cons_zero, List.set_cons_succ, List.getElem_toArray, List.getElem_cons_zero, List.getElem_cons_succ]
  refine any_one (i := 8) (by kernel_rfl) rfl (fun K hK => ?_)
  refine step_callw (by kernel_rfl) 8 #[.agg (kc (digs (M : Int) 32))] (by kernel_rfl) ((clamp_n M _).mono ?_)
  rintro r v4_ ⟨n3, rfl, hn3, hg⟩
  refine ⟨_, rfl, ?_⟩
  replace hB := hB.more hg
  clear hg
  refine hK.out _ _ ⟨(hB.get 0 (x := ⟨w.heap.size, (kc (digs (M : Int) 32)), 23⟩) rfl), trivial⟩ (fun _ => ?_)
  clear hK K
  simp only [Act.put, List.setIfInBounds_toArray, List.set_cons_zero, List.set_cons_succ, List.getElem_toArray, List.getElem_cons_zero, List.getElem_cons_succ]
  refine any_one (i := 10) (by kernel_rfl) rfl (fun K hK => ?_)
  refine step_callw (by kernel_rfl) 9 #[.agg (kc (digs (M : Int) 32))] (by kernel_rfl) ((rclamp_n M _).mono ?_)
  rintro r v5_ ⟨n4, rfl, hn4, hg⟩
  refine ⟨_, rfl, ?_⟩
  have en4 : n4 = n3 := by rw [unhide hn4, unhide hn3]
  rw [en4]
  replace hB := hB.more hg
  clear hg
  refine hK.out _ _ ⟨(hB.get 0 (x := ⟨w.heap.size, (kc (digs (M : Int) 32)), 23⟩) rfl), trivial⟩ (fun _ => ?_)
  clear hK K
  simp only [Act.put, List.setIfInBounds_toArray, List.set_cons_zero, List.set_cons_succ, List.getElem_toArray, List.getElem_cons_zero, List.getElem_cons_succ]
  refine any_take (i := 11) (v := (.bool true)) #[true, true, true, true, true, true, true, true, true, true, true, false, false, false, false, false, false, false, false, false, false] rfl (by kernel_rfl) (by kernel_rfl) (by kernel_rfl) (by kernel_rfl) (fun _ _ _ h => h) (.inl ⟨by kernel_rfl, fun x_ hu => by have e := key_same (n3 : Int); go_simp⟩) ⟨(hB.get 0 (x := ⟨w.heap.size, (kc (digs (M : Int) 32)), 23⟩) rfl), trivial⟩ ?_
  simp only [Act.put, List.setIfInBounds_toArray, List.set_cons_zero, List.set_cons_succ, List.getElem_toArray, List.getElem_cons_zero, List.getElem_cons_succ]
  refine any_take (i := 12) (v := (.bool true)) #[true, true, true, true, true, true, true, true, true, true, true, true, false, false, false, false, false, false, false, false, false] rfl (by kernel_rfl) (by kernel_rfl) (by kernel_rfl) (by kernel_rfl) (fun _ _ _ h => h) (.inl ⟨by kernel_rfl, fun x_ hu => by kernel_rfl⟩) ⟨(hB.get 0 (x := ⟨w.heap.size, (kc (digs (M : Int) 32)), 23⟩) rfl), trivial⟩ ?_
  simp only [Act.put, List.setIfInBounds_toArray, List.set_cons_zero, List.set_cons_succ, List.getElem_toArray, List.getElem_cons_zero, List.getElem_cons_succ]
  refine any_take (i := 13) (v := (.bool true)) #[true, true, true, true, true, true, true, true, true, true, true, true, true, false, false, false, false, false, false, false, false] rfl (by kernel_rfl) (by kernel_rfl) (by kernel_rfl) (by kernel_rfl) (fun _ _ _ h => h) (.inl ⟨by kernel_rfl, fun x_ hu => by kernel_rfl⟩) ⟨(hB.get 0 (x := ⟨w.heap.size, (kc (digs (M : Int) 32)), 23⟩) rfl), trivial⟩ ?_
  simp only [Act.put, List.setIfInBounds_toArray, List.set_cons_zero, List.set_cons_succ, List.getElem_toArray, List.getElem_cons_zero, List.getElem_cons_succ]
  refine any_take (i := 14) (v := (.agg (kc (digs (M : Int) 32)))) #[true, true, true, true, true, true, true, true, true, true, true, true, true, true, false, false, false, false, false, false, false] rfl (by kernel_rfl) (by kernel_rfl) (by kernel_rfl) (by kernel_rfl) (fun _ _ _ h => h) (.inl ⟨by kernel_rfl, fun x_ hu => exec_arr x_ 23 (.tmp 1) rfl w.heap.size (by kernel_rfl) (kc (digs (M : Int) 32)) 23 _ hu.1 Tryd.underlying23 rfl (by rw [Tryd.infoKey, kc32])⟩) ⟨(hB.get 0 (x := ⟨w.heap.size, (kc (digs (M : Int) 32)), 23⟩) rfl), trivial⟩ ?_
  simp only [Act.put, List.setIfInBounds_toArray, List.set_cons_zero, List.set_cons_succ, List.getElem_toArray, List.getElem_cons_zero, List.getElem_cons_succ]
  refine any_take (i := 16) (v := (.agg (kc (digs (M : Int) 32)))) #[true, true, true, true, true, true, true, true, true, true, true, true, true, true, true, false, false, false, false, false, false] rfl (by kernel_rfl) (by kernel_rfl) (by kernel_rfl) (by kernel_rfl) (fun _ _ _ h => h) (.inl ⟨by kernel_rfl, fun x_ hu => exec_arr x_ 23 (.tmp 1) rfl w.heap.size (by kernel_rfl) (kc (digs (M : Int) 32)) 23 _ hu.1 Tryd.underlying23 rfl (by rw [Tryd.infoKey, kc32])⟩) ⟨(hB.get 0 (x := ⟨w.heap.size, (kc (digs (M : Int) 32)), 23⟩) rfl), trivial⟩ ?_
  simp only [Act.put, List.setIfInBounds_toArray, List.set_cons_zero, List.set_cons_succ, List.getElem_toArray, List.getElem_cons_zero, List.getElem_cons_succ]
  refine any_one (i := 15) (by kernel_rfl) rfl (fun K hK => ?_)
  refine step_callw (by kernel_rfl) 10 #[.agg (kc (digs (M : Int) 32))] (by kernel_rfl) ((low_no M (unhide hW) _ (hB.gr.range (unhide hL))).mono ?_)
  rintro r v6_ ⟨rfl, hg⟩
  refine ⟨_, rfl, ?_⟩
  replace hB := hB.more hg
  clear hg
  refine hK.out _ _ ⟨(hB.get 0 (x := ⟨w.heap.size, (kc (digs (M : Int) 32)), 23⟩) rfl), trivial⟩ (fun _ => ?_)
  clear hK K
  simp only [Act.put, List.setIfInBounds_toArray, List.set_cons_zero, List.set_cons_succ, List.getElem_toArray, List.getElem_cons_zero, List.getElem_cons_succ]
  refine any_one (i := 17) (by kernel_rfl) rfl (fun K hK => ?_)
  refine step_callw (by kernel_rfl) 11 #[.agg (kc (digs (M : Int) 32))] (by kernel_rfl) ((rlow_no M (unhide hM) (unhide hW) _).mono ?_)
  rintro r v7_ ⟨rfl, hg⟩
  refine ⟨_, rfl, ?_⟩
  replace hB := hB.more hg
  clear hg
  refine hK.out _ _ ⟨(hB.get 0 (x := ⟨w.heap.size, (kc (digs (M : Int) 32)), 23⟩) rfl), trivial⟩ (fun _ => ?_)
  clear hK K
  simp only [Act.put, List.setIfInBounds_toArray, List.set_cons_zero, List.set_cons_succ, List.getElem_toArray, List.getElem_cons_zero, List.getElem_cons_succ]
  refine any_take (i := 18) (v := (.bool true)) #[true, true, true, true, true, true, true, true, true, true, true, true, true, true, true, true, true, true, false, false, false] rfl (by kernel_rfl) (by kernel_rfl) (by kernel_rfl) (by kernel_rfl) (fun _ _ _ h => h) (.inl ⟨by kernel_rfl, fun x_ hu => by kernel_rfl⟩) ⟨(hB.get 0 (x := ⟨w.heap.size, (kc (digs (M : Int) 32)), 23⟩) rfl), trivial⟩ ?_
  simp only [Act.put, List.setIfInBounds_toArray, List.set_cons_zero, List.set_cons_succ, List.getElem_toArray, List.getElem_cons_zero, List.getElem_cons_succ]
  refine any_take (i := 19) (v := (.bool true)) #[true, true, true, true, true, true, true, true, true, true, true, true, true, true, true, true, true, true, true, false, false] rfl (by kernel_rfl) (by kernel_rfl) (by kernel_rfl) (by kernel_rfl) (fun _ _ _ h => h) (.inl ⟨by kernel_rfl, fun x_ hu => by kernel_rfl⟩) ⟨(hB.get 0 (x := ⟨w.heap.size, (kc (digs (M : Int) 32)), 23⟩) rfl), trivial⟩ ?_
  simp only [Act.put, List.setIfInBounds_toArray, List.set_cons_zero, List.set_cons_succ, List.getElem_toArray, List.getElem_cons_zero, List.getElem_cons_succ]
  refine any_one (i := 20) (by kernel_rfl) rfl (fun K hK => ?_)
  replace hK := hide hK
  go_simp
  refine (unhide hK).out _ _ ⟨(hB.get 0 (x := ⟨w.heap.size, (kc (digs (M : Int) 32)), 23⟩) rfl), trivial⟩ (fun _ => ?_)
  clear hK K
  refine any_done (by kernel_rfl) ?_
  have hG := hide hB.gr
  clear hB
  go_wp2_with fail
  refine bodyPost_ret (v := .bool true) ?_ rfl ⟨rfl, unhide hG⟩
  simp [results, Tryd.results3, go_sem]

theorem keys_int (n0 : Int) (h0 : 0 ≤ n0 ∧ n0 < 115792089237316195423570985008687907853269984665640564039457584007913129639936) (w : World) (hL : w.rangeAt 0 0 lowsL) :
    Calls Tryd.prog 3 #[.agg (kc (digs n0 32))] w (fun r w' => r = .returned (.bool true) ∧ Gr w w') := by
  obtain ⟨M, rfl⟩ := Int.eq_ofNat_of_zero_le h0.1
  by_cases h : Lw ((M : Int) % 57896044618658097711785492504343953926634992332820282019728792003956564819968 % pp)
  · exact keys_yes M (hide (by omega)) h w hL
  · exact keys_no M (hide (by omega)) h w hL
end Go.Proofs.YtebgmneffpeahaaDoor
