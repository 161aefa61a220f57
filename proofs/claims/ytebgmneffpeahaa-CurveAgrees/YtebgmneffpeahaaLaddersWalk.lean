/-
  CurveLadders: the walk, for whatever keys.
-/
import Derived.Test.YtebgmneffpeahaaRefX
namespace Go.Proofs.Ytebgmneffpeahaa
open Go.RowKit
set_option maxRecDepth 100000
set_option linter.unusedSimpArgs false

theorem rx_n (M U : Nat) (hU : U < 115792089237316195423570985008687907853269984665640564039457584007913129639936) (w : World) : Calls Try.prog 8 #[.agg (kc (digs (M : Int) 32)), .agg (kc (digs (U : Int) 32))] w (fun r w' => ∃ n : Nat, r = .returned (.agg (kc (digs (n : Int) 32))) ∧ Hid (n = xN M U) ∧ Gr w w') :=
  (rx_ok M U hU w).mono fun _ _ h => ⟨_, h.1, rfl, h.2⟩

set_option maxHeartbeats 4000000 in
theorem ladders_any (M U : Nat) (hU : U < 115792089237316195423570985008687907853269984665640564039457584007913129639936) (w : World) :
    Calls Try.prog 3 #[.agg (kc (digs (M : Int) 32)), .agg (kc (digs (U : Int) 32))] w (fun r w' => r = .returned (.bool true) ∧ Gr w w') := by
  replace hU := hide hU
  go_enter Try.func3, Try.ntmps3
  go_upto_region 1 with fail
  have hB := (((Bl.nil w).new (kc (digs (M : Int) 32)) 23).new (kc (digs (U : Int) 32)) 23)
  simp only [size_alloc, List.nil_append, List.cons_append] at hB
  generalize World.alloc _ _ = v1_ at *
  refine any_start (S := fun v => v.heap[w.heap.size]? = some (.cells (kc (digs (M : Int) 32)) 23 (0, 0)) ∧ v.heap[w.heap.size + 1]? = some (.cells (kc (digs (U : Int) 32)) 23 (0, 0)) ∧ True) (by kernel_rfl) ?_
  replace hB := hB.drew
  generalize World.drew _ = v2_ at *
  simp only [List.size_toArray, List.length_cons, List.length_nil, Array.replicate, List.replicate]
  refine any_take (i := 0) (v := (.agg (kc (digs (M : Int) 32)))) #[false, false, false, false, false, false, false, false] rfl (by kernel_rfl) (by kernel_rfl) (by kernel_rfl) (by kernel_rfl) (fun _ _ _ h => h) (.inl ⟨by kernel_rfl, fun x hu => exec_arr x 23 (.tmp 2) rfl w.heap.size (by kernel_rfl) (kc (digs (M : Int) 32)) 23 _ hu.1 Try.underlying23 rfl (by rw [Try.infoKey, kc32])⟩) ⟨(hB.get 0 (x := ⟨w.heap.size, (kc (digs (M : Int) 32)), 23⟩) rfl), (hB.get 1 (x := ⟨w.heap.size + 1, (kc (digs (U : Int) 32)), 23⟩) rfl), trivial⟩ ?_
  simp only [Act.put, List.setIfInBounds_toArray, List.set_cons_zero, List.set_cons_succ, List.getElem_toArray, List.getElem_cons_zero, List.getElem_cons_succ]
  refine any_take (i := 1) (v := (.agg (kc (digs (U : Int) 32)))) #[true, false, false, false, false, false, false, false] rfl (by kernel_rfl) (by kernel_rfl) (by kernel_rfl) (by kernel_rfl) (fun _ _ _ h => h) (.inl ⟨by kernel_rfl, fun x hu => exec_arr x 23 (.tmp 3) rfl (w.heap.size + 1) (by kernel_rfl) (kc (digs (U : Int) 32)) 23 _ hu.2.1 Try.underlying23 rfl (by rw [Try.infoKey, kc32])⟩) ⟨(hB.get 0 (x := ⟨w.heap.size, (kc (digs (M : Int) 32)), 23⟩) rfl), (hB.get 1 (x := ⟨w.heap.size + 1, (kc (digs (U : Int) 32)), 23⟩) rfl), trivial⟩ ?_
  simp only [Act.put, List.setIfInBounds_toArray, List.set_cons_zero, List.set_cons_succ, List.getElem_toArray, List.getElem_cons_zero, List.getElem_cons_succ]
  refine any_take (i := 3) (v := (.agg (kc (digs (M : Int) 32)))) #[true, true, false, false, false, false, false, false] rfl (by kernel_rfl) (by kernel_rfl) (by kernel_rfl) (by kernel_rfl) (fun _ _ _ h => h) (.inl ⟨by kernel_rfl, fun x hu => exec_arr x 23 (.tmp 2) rfl w.heap.size (by kernel_rfl) (kc (digs (M : Int) 32)) 23 _ hu.1 Try.underlying23 rfl (by rw [Try.infoKey, kc32])⟩) ⟨(hB.get 0 (x := ⟨w.heap.size, (kc (digs (M : Int) 32)), 23⟩) rfl), (hB.get 1 (x := ⟨w.heap.size + 1, (kc (digs (U : Int) 32)), 23⟩) rfl), trivial⟩ ?_
  simp only [Act.put, List.setIfInBounds_toArray, List.set_cons_zero, List.set_cons_succ, List.getElem_toArray, List.getElem_cons_zero, List.getElem_cons_succ]
  refine any_take (i := 4) (v := (.agg (kc (digs (U : Int) 32)))) #[true, true, false, true, false, false, false, false] rfl (by kernel_rfl) (by kernel_rfl) (by kernel_rfl) (by kernel_rfl) (fun _ _ _ h => h) (.inl ⟨by kernel_rfl, fun x hu => exec_arr x 23 (.tmp 3) rfl (w.heap.size + 1) (by kernel_rfl) (kc (digs (U : Int) 32)) 23 _ hu.2.1 Try.underlying23 rfl (by rw [Try.infoKey, kc32])⟩) ⟨(hB.get 0 (x := ⟨w.heap.size, (kc (digs (M : Int) 32)), 23⟩) rfl), (hB.get 1 (x := ⟨w.heap.size + 1, (kc (digs (U : Int) 32)), 23⟩) rfl), trivial⟩ ?_
  simp only [Act.put, List.setIfInBounds_toArray, List.set_cons_zero, List.set_cons_succ, List.getElem_toArray, List.getElem_cons_zero, List.getElem_cons_succ]
  refine any_one (i := 2) (by kernel_rfl) rfl (fun K hK => ?_)
  refine step_callw (by kernel_rfl) 7 #[.agg (kc (digs (M : Int) 32)), .agg (kc (digs (U : Int) 32))] (by kernel_rfl) ((x_n M U _).mono ?_)
  rintro r v3_ ⟨n1, rfl, hn1, hg⟩
  refine ⟨_, rfl, ?_⟩
  replace hB := hB.more hg
  clear hg
  refine hK.out _ _ ⟨(hB.get 0 (x := ⟨w.heap.size, (kc (digs (M : Int) 32)), 23⟩) rfl), (hB.get 1 (x := ⟨w.heap.size + 1, (kc (digs (U : Int) 32)), 23⟩) rfl), trivial⟩ (fun _ => ?_)
  clear hK K
  simp only [Act.put, List.setIfInBounds_toArray, List.set_cons_zero, List.set_cons_succ, List.getElem_toArray, List.getElem_cons_zero, List.getElem_cons_succ]
  refine any_one (i := 5) (by kernel_rfl) rfl (fun K hK => ?_)
  refine step_callw (by kernel_rfl) 8 #[.agg (kc (digs (M : Int) 32)), .agg (kc (digs (U : Int) 32))] (by kernel_rfl) ((rx_n M U (unhide hU) _).mono ?_)
  rintro r v4_ ⟨n2, rfl, hn2, hg⟩
  refine ⟨_, rfl, ?_⟩
  have en2 : n2 = n1 := by rw [unhide hn2, unhide hn1]
  rw [en2]
  replace hB := hB.more hg
  clear hg
  refine hK.out _ _ ⟨(hB.get 0 (x := ⟨w.heap.size, (kc (digs (M : Int) 32)), 23⟩) rfl), (hB.get 1 (x := ⟨w.heap.size + 1, (kc (digs (U : Int) 32)), 23⟩) rfl), trivial⟩ (fun _ => ?_)
  clear hK K
  simp only [Act.put, List.setIfInBounds_toArray, List.set_cons_zero, List.set_cons_succ, List.getElem_toArray, List.getElem_cons_zero, List.getElem_cons_succ]
  refine any_take (i := 6) (v := (.bool true)) #[true, true, true, true, true, true, false, false] rfl (by kernel_rfl) (by kernel_rfl) (by kernel_rfl) (by kernel_rfl) (fun _ _ _ h => h) (.inl ⟨by kernel_rfl, fun x hu => by have e := key_same (n1 : Int); go_simp⟩) ⟨(hB.get 0 (x := ⟨w.heap.size, (kc (digs (M : Int) 32)), 23⟩) rfl), (hB.get 1 (x := ⟨w.heap.size + 1, (kc (digs (U : Int) 32)), 23⟩) rfl), trivial⟩ ?_
  simp only [Act.put, List.setIfInBounds_toArray, List.set_cons_zero, List.set_cons_succ, List.getElem_toArray, List.getElem_cons_zero, List.getElem_cons_succ]
  refine any_one (i := 7) (by kernel_rfl) rfl (fun K hK => ?_)
  replace hK := hide hK
  go_simp
  refine (unhide hK).out _ _ ⟨(hB.get 0 (x := ⟨w.heap.size, (kc (digs (M : Int) 32)), 23⟩) rfl), (hB.get 1 (x := ⟨w.heap.size + 1, (kc (digs (U : Int) 32)), 23⟩) rfl), trivial⟩ (fun _ => ?_)
  clear hK K
  refine any_done (by kernel_rfl) ?_
  have hG := hide hB.gr
  clear hB
  go_wp2_with fail
  refine bodyPost_ret (v := .bool true) ?_ rfl ⟨rfl, unhide hG⟩
  simp [results, Try.results3, go_sem]
theorem ladders_int (n0 n1 : Int) (h0 : 0 ≤ n0 ∧ n0 < 115792089237316195423570985008687907853269984665640564039457584007913129639936) (h1 : 0 ≤ n1 ∧ n1 < 115792089237316195423570985008687907853269984665640564039457584007913129639936) (w : World) :
    Calls Try.prog 3 #[.agg (kc (digs n0 32)), .agg (kc (digs n1 32))] w (fun r w' => r = .returned (.bool true) ∧ Gr w w') := by
  obtain ⟨A, rfl⟩ := Int.eq_ofNat_of_zero_le h0.1
  obtain ⟨B, rfl⟩ := Int.eq_ofNat_of_zero_le h1.1
  exact ladders_any A B (by omega) w
end Go.Proofs.Ytebgmneffpeahaa
