/-
  The reference: the key of a text, bytes as digits, a key's fingerprint.
-/
import Derived.Test.YtpmgmpihmpifgaaDoorIR
import Derived.Great.BuildSlice
namespace Go.Proofs.YtpmgmpihmpifgaaDoor
open Go.RowKit
set_option maxRecDepth 100000
set_option linter.unusedSimpArgs false
set_option linter.unusedVariables false
section
variable {P : Program} {md : Region.Mode} {ops : Array Oper} {Q : Exit → Act → World → Prop} {S : World → Prop} {c : Nat}
/-- one operation is next, and it is not the one behind which S is dropped -/
theorem anyC_one {i : Nat} {o : Oper} {l : Array Bool} {a : Act} {w : World} (hr : Region.ready md ops l = [i]) (ho : ops[i]? = some o)
    (h : ∀ K' : Act → World → Prop, Shut (∀ a w, S w → (S w → AnyC P md ops Q S c (l.setIfInBounds i true) a w) → K' a w) → if Region.wanted o (yielded ops a.tmps) = true then Oper.wp P o a w K' Q else K' (a.put o.dst undef) w) : AnyC P md ops Q S c l a w := by
  intro fuel hfu
  have hm : i ∈ Region.ready md ops l := by rw [hr]; exact List.mem_cons_self
  have h1 := left_of (mem_ready.1 hm).1
  obtain ⟨f, rfl⟩ : ∃ f, fuel = f + 1 := ⟨fuel - 1, by omega⟩
  refine ⟨fun h => (by rw [h] at hr; cases hr), fun j hj => ?_⟩
  rw [hr] at hj
  obtain rfl : j = i := by simpa using hj
  exact wpOp_step ho (fun K' hK => h K' (fun a w hS hA => hK a w ⟨fun _ => hS, hA hS f (by omega)⟩))
end
theorem dgI_yes {c : Int} (h : isD c = true) : dgI c = dv c := by unfold dgI; rw [if_pos h]
theorem dgI_not {c : Int} (h : isD c = false) : dgI c = -1 := by unfold dgI; rw [if_neg (by rw [h]; decide)]
set_option maxHeartbeats 4000000 in
theorem ekey_ok (L : List Int) (hL : IsB L) (hbig : L.length < 4611686018427387904) (w : World) : Calls Tryd.prog 13 #[.string (strOfNums L)] w (Kyd L w) := by
  obtain ⟨T, hT⟩ : ∃ T, T = Kyd L w := ⟨_, rfl⟩
  rw [← hT]
  replace hT := hide hT
  replace hL := hide hL
  obtain ⟨SS, hSS⟩ : ∃ S, S = strOfNums L := ⟨_, rfl⟩
  obtain ⟨m, hm⟩ : ∃ m, m = L.length := ⟨_, rfl⟩
  rw [← hSS]
  replace hSS := hide hSS
  have hmb : m < 4611686018427387904 := by rw [hm]; exact hbig
  replace hm := hide hm
  go_enter Tryd.func13, Tryd.ntmps13
  go_upto_region 2 with fail
  have hB := (((Bl.nil w).new #[.int .u8 0, .int .u8 0, .int .u8 0, .int .u8 0, .int .u8 0, .int .u8 0, .int .u8 0, .int .u8 0, .int .u8 0, .int .u8 0, .int .u8 0, .int .u8 0, .int .u8 0, .int .u8 0, .int .u8 0, .int .u8 0, .int .u8 0, .int .u8 0, .int .u8 0, .int .u8 0, .int .u8 0, .int .u8 0, .int .u8 0, .int .u8 0, .int .u8 0, .int .u8 0, .int .u8 0, .int .u8 0, .int .u8 0, .int .u8 0, .int .u8 0, .int .u8 0] 25).new #[.int .i64 0, .int .i64 0] 28).new #[.int .u8 0, .int .u8 0, .int .u8 0, .int .u8 0, .int .u8 0, .int .u8 0, .int .u8 0, .int .u8 0, .int .u8 0, .int .u8 0, .int .u8 0, .int .u8 0, .int .u8 0, .int .u8 0, .int .u8 0, .int .u8 0, .int .u8 0, .int .u8 0, .int .u8 0, .int .u8 0, .int .u8 0, .int .u8 0, .int .u8 0, .int .u8 0, .int .u8 0, .int .u8 0, .int .u8 0, .int .u8 0, .int .u8 0, .int .u8 0, .int .u8 0, .int .u8 0] 25
  simp only [List.nil_append, List.cons_append, size_alloc] at hB
  generalize World.alloc _ _ = u at *
  replace hB : Hid (Bl w [⟨w.heap.size, kc Z32, 25⟩, ⟨w.heap.size + 1, spv 0 0, 28⟩, ⟨w.heap.size + 1 + 1, kc (kyS L 0), 25⟩] u) := hide hB
  go_wp2_with fail
  go_loopw [5] (fun i wr => ∃ (n : Nat) (M : List Int), n ≤ 64 ∧ n ≤ m ∧ i = .int .i64 (n : Int) ∧ Hid (M = kyS L n) ∧ Hid (∀ i, i < n → isD (L.getD i 0) = true) ∧ Hid (Bl w [⟨w.heap.size, kc Z32, 25⟩, ⟨w.heap.size + 1, spv 0 0, 28⟩, ⟨w.heap.size + 1 + 1, kc M, 25⟩] wr)) (fun i _ => m - (intOf i).toNat)
  case atStart => exact ⟨0, _, by omega, by omega, rfl, rfl, hide (fun i hi => absurd hi (by omega)), hB⟩
  case round =>
  clear hB
  obtain ⟨n, M, hn6, hnm, rfl, hM, hD, hB⟩ := hrel
  have hMl : M.length = 32 := by rw [unhide hM]; exact kyS_len L n
  have hnl : n ≤ L.length := by rw [← unhide hm]; exact hnm
  by_cases hlt : n < m
  · have jI : (n : Int) < (m : Int) := by omega
    obtain ⟨c, hc⟩ : ∃ c, c = L.getD n 0 := ⟨_, rfl⟩
    have hil : n < L.length := by rw [← unhide hm]; exact hlt
    have hw1 : IntKind.i64.wrap ((n : Int) + 1) = (n : Int) + 1 := by rw [IntKind.wrap_i64]; omega
    replace hc := hide hc; replace jI := hide jI; replace hw1 := hide hw1
    go_upto_region 3 with fail
    refine wp_region_lit ?_
    refine list_val (.int .i64 (n : Int)) (by kernel_rfl) (by kernel_rfl) ?_
    simp only [Act.put, List.setIfInBounds_toArray, List.set_cons_zero, List.set_cons_succ, List.getElem_toArray, List.getElem_cons_zero, List.getElem_cons_succ]
    refine list_val (.string SS) (by kernel_rfl) (by kernel_rfl) ?_
    simp only [Act.put, List.setIfInBounds_toArray, List.set_cons_zero, List.set_cons_succ, List.getElem_toArray, List.getElem_cons_zero, List.getElem_cons_succ]
    refine list_val (.int .i64 (m : Int)) (by kernel_rfl) (exec_slen _ (.tmp 7) rfl L m (unhide hm).symm (by rw [← unhide hSS]; kernel_rfl)) ?_
    simp only [Act.put, List.setIfInBounds_toArray, List.set_cons_zero, List.set_cons_succ, List.getElem_toArray, List.getElem_cons_zero, List.getElem_cons_succ]
    refine list_val (.bool true) (by kernel_rfl) (by have h := unhide jI; go_simp) ?_
    simp only [Act.put, List.setIfInBounds_toArray, List.set_cons_zero, List.set_cons_succ, List.getElem_toArray, List.getElem_cons_zero, List.getElem_cons_succ]
    refine wpList_nil ?_
    go_upto_region 5 with fail
    by_cases h64 : n = 64
    · subst h64
      refine wp_region_lit ?_
      refine list_val (.int .i64 ((64 : Nat) : Int)) (by kernel_rfl) (by kernel_rfl) ?_
      simp only [Act.put, List.setIfInBounds_toArray, List.set_cons_zero, List.set_cons_succ, List.getElem_toArray, List.getElem_cons_zero, List.getElem_cons_succ]
      refine list_val (.bool true) (by kernel_rfl) (by kernel_rfl) ?_
      simp only [Act.put, List.setIfInBounds_toArray, List.set_cons_zero, List.set_cons_succ, List.getElem_toArray, List.getElem_cons_zero, List.getElem_cons_succ]
      refine list_val (.bool true) (by kernel_rfl) (by kernel_rfl) ?_
      simp only [Act.put, List.setIfInBounds_toArray, List.set_cons_zero, List.set_cons_succ, List.getElem_toArray, List.getElem_cons_zero, List.getElem_cons_succ]
      refine wpList_step fun K hK => ?_
      rw [if_neg (ne_true_of_eq_false (by kernel_rfl))]
      refine hK _ _ ?_
      clear hK K
      simp only [Act.put, List.setIfInBounds_toArray, List.set_cons_zero, List.set_cons_succ, List.getElem_toArray, List.getElem_cons_zero, List.getElem_cons_succ]
      refine wpList_step fun K hK => ?_
      rw [if_neg (ne_true_of_eq_false (by kernel_rfl))]
      refine hK _ _ ?_
      clear hK K
      simp only [Act.put, List.setIfInBounds_toArray, List.set_cons_zero, List.set_cons_succ, List.getElem_toArray, List.getElem_cons_zero, List.getElem_cons_succ]
      refine wpList_step fun K hK => ?_
      rw [if_neg (ne_true_of_eq_false (by kernel_rfl))]
      refine hK _ _ ?_
      clear hK K
      simp only [Act.put, List.setIfInBounds_toArray, List.set_cons_zero, List.set_cons_succ, List.getElem_toArray, List.getElem_cons_zero, List.getElem_cons_succ]
      refine wpList_step fun K hK => ?_
      rw [if_neg (ne_true_of_eq_false (by kernel_rfl))]
      refine hK _ _ ?_
      clear hK K
      simp only [Act.put, List.setIfInBounds_toArray, List.set_cons_zero, List.set_cons_succ, List.getElem_toArray, List.getElem_cons_zero, List.getElem_cons_succ]
      refine wpList_step fun K hK => ?_
      rw [if_neg (ne_true_of_eq_false (by kernel_rfl))]
      refine hK _ _ ?_
      clear hK K
      simp only [Act.put, List.setIfInBounds_toArray, List.set_cons_zero, List.set_cons_succ, List.getElem_toArray, List.getElem_cons_zero, List.getElem_cons_succ]
      refine list_val (.bool true) (by kernel_rfl) (by kernel_rfl) ?_
      simp only [Act.put, List.setIfInBounds_toArray, List.set_cons_zero, List.set_cons_succ, List.getElem_toArray, List.getElem_cons_zero, List.getElem_cons_succ]
      refine wpList_nil ?_
      go_upto_region 6 with fail
      refine wp_region_lit ?_
      refine list_val (.agg (kc Z32)) (by kernel_rfl) (by kernel_rfl) ?_
      simp only [Act.put, List.setIfInBounds_toArray, List.set_cons_zero, List.set_cons_succ, List.getElem_toArray, List.getElem_cons_zero, List.getElem_cons_succ]
      refine list_val (.int .i64 ((64 : Nat) : Int)) (by kernel_rfl) (by kernel_rfl) ?_
      simp only [Act.put, List.setIfInBounds_toArray, List.set_cons_zero, List.set_cons_succ, List.getElem_toArray, List.getElem_cons_zero, List.getElem_cons_succ]
      refine list_val (.agg (spv 261 ((64 : Nat) : Int))) (by kernel_rfl) (by kernel_rfl) ?_
      simp only [Act.put, List.setIfInBounds_toArray, List.set_cons_zero, List.set_cons_succ, List.getElem_toArray, List.getElem_cons_zero, List.getElem_cons_succ]
      replace hB := unhide hB
      refine list_store 25 (.tmp 2) (.tmp 21) w.heap.size (kc Z32) 25 (kc Z32) (by kernel_rfl) rfl (by kernel_rfl) (by kernel_rfl) (hB.get 0 (x := ⟨w.heap.size, kc Z32, 25⟩) rfl) (by rw [Tryd.infoKey, kc_size, Z32_len]) (rfl) (kc_one _) ?_
      replace hB := hB.set 0 (x := ⟨w.heap.size, kc Z32, 25⟩) rfl (kc Z32)
      simp only [List.set_cons_zero, List.set_cons_succ] at hB
      generalize World.setRow _ _ _ = y2 at *
      simp only [Act.put, List.setIfInBounds_toArray, List.set_cons_zero, List.set_cons_succ, List.getElem_toArray, List.getElem_cons_zero, List.getElem_cons_succ]
      refine list_store 28 (.tmp 3) (.tmp 23) (w.heap.size + 1) (spv 261 ((64 : Nat) : Int)) 28 (spv 0 0) (by kernel_rfl) rfl (by kernel_rfl) (by kernel_rfl) (hB.get 1 (x := ⟨w.heap.size + 1, spv 0 0, 28⟩) rfl) (by rw [Tryd.infoSpot]; rfl) rfl (spv_one _ _) ?_
      replace hB := hB.set 1 (x := ⟨w.heap.size + 1, spv 0 0, 28⟩) rfl (spv 261 ((64 : Nat) : Int))
      simp only [List.set_cons_zero, List.set_cons_succ] at hB
      generalize World.setRow _ _ _ = y3 at *
      simp only [Act.put, List.setIfInBounds_toArray, List.set_cons_zero, List.set_cons_succ, List.getElem_toArray, List.getElem_cons_zero, List.getElem_cons_succ]
      refine wpList_nil ?_
      obtain ⟨e1, e2, e3⟩ := kyd_no (L := L) (n := 64) (unhide hD) (by omega) (by omega) (.inl rfl) (by omega)
      replace hB := hide hB
      go_wp2_with fail
      replace hB := unhide hB
      rw [unhide hT]
      exact bodyPost_ret (v := .tuple #[.agg (kc Z32), .agg (spv 261 ((64 : Nat) : Int))]) (results_2 Tryd.results13 _ _ w.heap.size (w.heap.size + 1) 25 28 (kc Z32) (spv 261 ((64 : Nat) : Int)) (0, 0) (0, 0) _ _ rfl rfl (hB.get 0 (x := ⟨w.heap.size, kc Z32, 25⟩) rfl) (hB.get 1 (x := ⟨w.heap.size + 1, spv 261 ((64 : Nat) : Int), 28⟩) rfl) Tryd.underlying25 rfl Tryd.underlying28 rfl (by rw [Tryd.infoKey, kc_size, Z32_len]) (by rw [Tryd.infoSpot]; rfl)) rfl ⟨by rw [e1, e2, e3], hB.gr⟩
    · have h64i : ¬ (n : Int) = 64 := by omega
      replace h64 := hide h64
      replace h64i := hide h64i
      cases hV : isD c with
      | false =>
        have hV2 := hide hV
        clear hV
        refine wp_region_lit ?_
        refine list_val (.int .i64 (n : Int)) (by kernel_rfl) (by kernel_rfl) ?_
        simp only [Act.put, List.setIfInBounds_toArray, List.set_cons_zero, List.set_cons_succ, List.getElem_toArray, List.getElem_cons_zero, List.getElem_cons_succ]
        refine list_val (.bool false) (by kernel_rfl) (by have h := unhide h64i; go_simp) ?_
        simp only [Act.put, List.setIfInBounds_toArray, List.set_cons_zero, List.set_cons_succ, List.getElem_toArray, List.getElem_cons_zero, List.getElem_cons_succ]
        refine list_val (.bool false) (by kernel_rfl) (by kernel_rfl) ?_
        simp only [Act.put, List.setIfInBounds_toArray, List.set_cons_zero, List.set_cons_succ, List.getElem_toArray, List.getElem_cons_zero, List.getElem_cons_succ]
        refine list_val (.string SS) (by kernel_rfl) (by kernel_rfl) ?_
        simp only [Act.put, List.setIfInBounds_toArray, List.set_cons_zero, List.set_cons_succ, List.getElem_toArray, List.getElem_cons_zero, List.getElem_cons_succ]
        refine list_val (.int .i64 (n : Int)) (by kernel_rfl) (by kernel_rfl) ?_
        simp only [Act.put, List.setIfInBounds_toArray, List.set_cons_zero, List.set_cons_succ, List.getElem_toArray, List.getElem_cons_zero, List.getElem_cons_succ]
        refine list_val (.int .u8 c) (by kernel_rfl) (by rw [unhide hc]; exact exec_six _ (.tmp 15) (.tmp 16) rfl L (unhide hL) .i64 n (by rw [← unhide hSS]; kernel_rfl) (by kernel_rfl) hil) ?_
        simp only [Act.put, List.setIfInBounds_toArray, List.set_cons_zero, List.set_cons_succ, List.getElem_toArray, List.getElem_cons_zero, List.getElem_cons_succ]
        refine list_call 30 #[.int .u8 c] (by kernel_rfl) (by kernel_rfl) ((edigit_ok c _).mono ?_)
        rintro r_ w_ ⟨hr, rfl⟩
        rw [dgI_not (unhide hV2)] at hr
        subst hr
        refine ⟨_, rfl, ?_⟩
        simp only [Act.put, List.setIfInBounds_toArray, List.set_cons_zero, List.set_cons_succ, List.getElem_toArray, List.getElem_cons_zero, List.getElem_cons_succ]
        refine list_val (.bool true) (by kernel_rfl) (by kernel_rfl) ?_
        simp only [Act.put, List.setIfInBounds_toArray, List.set_cons_zero, List.set_cons_succ, List.getElem_toArray, List.getElem_cons_zero, List.getElem_cons_succ]
        refine list_val (.bool true) (by kernel_rfl) (by kernel_rfl) ?_
        simp only [Act.put, List.setIfInBounds_toArray, List.set_cons_zero, List.set_cons_succ, List.getElem_toArray, List.getElem_cons_zero, List.getElem_cons_succ]
        refine wpList_nil ?_
        go_upto_region 6 with fail
        refine wp_region_lit ?_
        refine list_val (.agg (kc Z32)) (by kernel_rfl) (by kernel_rfl) ?_
        simp only [Act.put, List.setIfInBounds_toArray, List.set_cons_zero, List.set_cons_succ, List.getElem_toArray, List.getElem_cons_zero, List.getElem_cons_succ]
        refine list_val (.int .i64 (n : Int)) (by kernel_rfl) (by kernel_rfl) ?_
        simp only [Act.put, List.setIfInBounds_toArray, List.set_cons_zero, List.set_cons_succ, List.getElem_toArray, List.getElem_cons_zero, List.getElem_cons_succ]
        refine list_val (.agg (spv 261 (n : Int))) (by kernel_rfl) (by kernel_rfl) ?_
        simp only [Act.put, List.setIfInBounds_toArray, List.set_cons_zero, List.set_cons_succ, List.getElem_toArray, List.getElem_cons_zero, List.getElem_cons_succ]
        replace hB := unhide hB
        refine list_store 25 (.tmp 2) (.tmp 21) w.heap.size (kc Z32) 25 (kc Z32) (by kernel_rfl) rfl (by kernel_rfl) (by kernel_rfl) (hB.get 0 (x := ⟨w.heap.size, kc Z32, 25⟩) rfl) (by rw [Tryd.infoKey, kc_size, Z32_len]) (rfl) (kc_one _) ?_
        replace hB := hB.set 0 (x := ⟨w.heap.size, kc Z32, 25⟩) rfl (kc Z32)
        simp only [List.set_cons_zero, List.set_cons_succ] at hB
        generalize World.setRow _ _ _ = y2 at *
        simp only [Act.put, List.setIfInBounds_toArray, List.set_cons_zero, List.set_cons_succ, List.getElem_toArray, List.getElem_cons_zero, List.getElem_cons_succ]
        refine list_store 28 (.tmp 3) (.tmp 23) (w.heap.size + 1) (spv 261 (n : Int)) 28 (spv 0 0) (by kernel_rfl) rfl (by kernel_rfl) (by kernel_rfl) (hB.get 1 (x := ⟨w.heap.size + 1, spv 0 0, 28⟩) rfl) (by rw [Tryd.infoSpot]; rfl) rfl (spv_one _ _) ?_
        replace hB := hB.set 1 (x := ⟨w.heap.size + 1, spv 0 0, 28⟩) rfl (spv 261 (n : Int))
        simp only [List.set_cons_zero, List.set_cons_succ] at hB
        generalize World.setRow _ _ _ = y3 at *
        simp only [Act.put, List.setIfInBounds_toArray, List.set_cons_zero, List.set_cons_succ, List.getElem_toArray, List.getElem_cons_zero, List.getElem_cons_succ]
        refine wpList_nil ?_
        obtain ⟨e1, e2, e3⟩ := kyd_no (L := L) (n := n) (unhide hD) hn6 hnl (.inr (.inr (by rw [← unhide hc]; exact unhide hV2))) (by have := unhide h64; omega)
        replace hB := hide hB
        go_wp2_with fail
        replace hB := unhide hB
        rw [unhide hT]
        exact bodyPost_ret (v := .tuple #[.agg (kc Z32), .agg (spv 261 (n : Int))]) (results_2 Tryd.results13 _ _ w.heap.size (w.heap.size + 1) 25 28 (kc Z32) (spv 261 (n : Int)) (0, 0) (0, 0) _ _ rfl rfl (hB.get 0 (x := ⟨w.heap.size, kc Z32, 25⟩) rfl) (hB.get 1 (x := ⟨w.heap.size + 1, spv 261 (n : Int), 28⟩) rfl) Tryd.underlying25 rfl Tryd.underlying28 rfl (by rw [Tryd.infoKey, kc_size, Z32_len]) (by rw [Tryd.infoSpot]; rfl)) rfl ⟨by rw [e1, e2, e3], hB.gr⟩
      | true =>
        have hV2 := hide hV
        have hvr := dv_rng hV
        have hvn := hide (show ¬ dv c < 0 by omega)
        have hvw := hide (show IntKind.u8.wrap (dv c) = dv c by rw [IntKind.wrap_u8]; omega)
        clear hV
        refine wp_region_lit ?_
        refine list_val (.int .i64 (n : Int)) (by kernel_rfl) (by kernel_rfl) ?_
        simp only [Act.put, List.setIfInBounds_toArray, List.set_cons_zero, List.set_cons_succ, List.getElem_toArray, List.getElem_cons_zero, List.getElem_cons_succ]
        refine list_val (.bool false) (by kernel_rfl) (by have h := unhide h64i; go_simp) ?_
        simp only [Act.put, List.setIfInBounds_toArray, List.set_cons_zero, List.set_cons_succ, List.getElem_toArray, List.getElem_cons_zero, List.getElem_cons_succ]
        refine list_val (.bool false) (by kernel_rfl) (by kernel_rfl) ?_
        simp only [Act.put, List.setIfInBounds_toArray, List.set_cons_zero, List.set_cons_succ, List.getElem_toArray, List.getElem_cons_zero, List.getElem_cons_succ]
        refine list_val (.string SS) (by kernel_rfl) (by kernel_rfl) ?_
        simp only [Act.put, List.setIfInBounds_toArray, List.set_cons_zero, List.set_cons_succ, List.getElem_toArray, List.getElem_cons_zero, List.getElem_cons_succ]
        refine list_val (.int .i64 (n : Int)) (by kernel_rfl) (by kernel_rfl) ?_
        simp only [Act.put, List.setIfInBounds_toArray, List.set_cons_zero, List.set_cons_succ, List.getElem_toArray, List.getElem_cons_zero, List.getElem_cons_succ]
        refine list_val (.int .u8 c) (by kernel_rfl) (by rw [unhide hc]; exact exec_six _ (.tmp 15) (.tmp 16) rfl L (unhide hL) .i64 n (by rw [← unhide hSS]; kernel_rfl) (by kernel_rfl) hil) ?_
        simp only [Act.put, List.setIfInBounds_toArray, List.set_cons_zero, List.set_cons_succ, List.getElem_toArray, List.getElem_cons_zero, List.getElem_cons_succ]
        refine list_call 30 #[.int .u8 c] (by kernel_rfl) (by kernel_rfl) ((edigit_ok c _).mono ?_)
        rintro r_ w_ ⟨hr, rfl⟩
        rw [dgI_yes (unhide hV2)] at hr
        subst hr
        refine ⟨_, rfl, ?_⟩
        simp only [Act.put, List.setIfInBounds_toArray, List.set_cons_zero, List.set_cons_succ, List.getElem_toArray, List.getElem_cons_zero, List.getElem_cons_succ]
        refine list_val (.bool false) (by kernel_rfl) (by have h := unhide hvn; go_simp) ?_
        simp only [Act.put, List.setIfInBounds_toArray, List.set_cons_zero, List.set_cons_succ, List.getElem_toArray, List.getElem_cons_zero, List.getElem_cons_succ]
        refine list_val (.bool false) (by kernel_rfl) (by kernel_rfl) ?_
        simp only [Act.put, List.setIfInBounds_toArray, List.set_cons_zero, List.set_cons_succ, List.getElem_toArray, List.getElem_cons_zero, List.getElem_cons_succ]
        refine wpList_nil ?_
        have hn4 : n < 64 := by have := unhide h64; omega
        obtain ⟨q, hq⟩ : ∃ q, q = n / 2 := ⟨_, rfl⟩
        have hq2 : q < 32 := by omega
        have eq0 : Int.tdiv (n : Int) 2 = (q : Int) := by rw [Int.tdiv_eq_ediv_of_nonneg (by omega)]; omega
        have eq1 : IntKind.i64.wrap (q : Int) = (q : Int) := by rw [IntKind.wrap_i64]; omega
        obtain ⟨x, hx⟩ : ∃ x, x = M.getD q 0 := ⟨_, rfl⟩
        clear hvr
        replace eq0 := hide eq0; replace eq1 := hide eq1; replace hx := hide hx; replace hq := hide hq; replace hn4 := hide hn4
        go_upto_region 7 with fail
        refine anyC_start 14 (fun (v : World) => v.cell? ⟨w.heap.size + 1 + 1, q, none⟩ = some (.int .u8 x)) (by kernel_rfl) ?_
        replace hB := hide ((unhide hB).drew)
        generalize World.drew _ = x0 at *
        have hcx := kc_cell ((unhide hB).get 2 (x := ⟨w.heap.size + 1 + 1, kc M, 25⟩) rfl) q (by omega)
        have hfz := froz_of (i := q) ((unhide hB).get 2 (x := ⟨w.heap.size + 1 + 1, kc M, 25⟩) rfl)
        dsimp only at hcx hfz
        rw [← unhide hx] at hcx
        simp only [List.size_toArray, List.length_cons, List.length_nil, Array.replicate, List.replicate]
        refine anyC_take (i := 0) (v := (.int .i64 (n : Int))) (fun (v : World) => v.cell? ⟨w.heap.size + 1 + 1, q, none⟩ = some (.int .u8 x)) (fun _ h_ => h_) (.inr (by kernel_rfl)) rfl (by kernel_rfl) (by kernel_rfl) (by kernel_rfl) (by decide) (by kernel_rfl) (by decide) (fun _ _ _ h => h) (.inl ⟨by kernel_rfl, fun x_ hu => by kernel_rfl⟩) hcx ?_
        simp only [Act.put, List.setIfInBounds_toArray, List.set_cons_zero, List.set_cons_succ, List.getElem_toArray, List.getElem_cons_zero, List.getElem_cons_succ]
        refine anyC_take (i := 1) (v := (.int .i64 (q : Int))) (fun (v : World) => v.cell? ⟨w.heap.size + 1 + 1, q, none⟩ = some (.int .u8 x)) (fun _ h_ => h_) (.inr (by kernel_rfl)) rfl (by kernel_rfl) (by kernel_rfl) (by kernel_rfl) (by decide) (by kernel_rfl) (by decide) (fun _ _ _ h => h) (.inl ⟨by kernel_rfl, fun x_ hu => by have h0 := unhide eq0; have h1 := unhide eq1; go_simp⟩) hcx ?_
        simp only [Act.put, List.setIfInBounds_toArray, List.set_cons_zero, List.set_cons_succ, List.getElem_toArray, List.getElem_cons_zero, List.getElem_cons_succ]
        refine anyC_take (i := 2) (v := (.int .i64 (n : Int))) (fun (v : World) => v.cell? ⟨w.heap.size + 1 + 1, q, none⟩ = some (.int .u8 x)) (fun _ h_ => h_) (.inr (by kernel_rfl)) rfl (by kernel_rfl) (by kernel_rfl) (by kernel_rfl) (by decide) (by kernel_rfl) (by decide) (fun _ _ _ h => h) (.inl ⟨by kernel_rfl, fun x_ hu => by kernel_rfl⟩) hcx ?_
        simp only [Act.put, List.setIfInBounds_toArray, List.set_cons_zero, List.set_cons_succ, List.getElem_toArray, List.getElem_cons_zero, List.getElem_cons_succ]
        refine anyC_take (i := 3) (v := (.int .i64 (q : Int))) (fun (v : World) => v.cell? ⟨w.heap.size + 1 + 1, q, none⟩ = some (.int .u8 x)) (fun _ h_ => h_) (.inr (by kernel_rfl)) rfl (by kernel_rfl) (by kernel_rfl) (by kernel_rfl) (by decide) (by kernel_rfl) (by decide) (fun _ _ _ h => h) (.inl ⟨by kernel_rfl, fun x_ hu => by have h0 := unhide eq0; have h1 := unhide eq1; go_simp⟩) hcx ?_
        simp only [Act.put, List.setIfInBounds_toArray, List.set_cons_zero, List.set_cons_succ, List.getElem_toArray, List.getElem_cons_zero, List.getElem_cons_succ]
        refine anyC_take (i := 4) (v := (.pointer (some ⟨w.heap.size + 1 + 1, q, none⟩))) (fun (v : World) => v.cell? ⟨w.heap.size + 1 + 1, q, none⟩ = some (.int .u8 x)) (fun _ h_ => h_) (.inr (by kernel_rfl)) rfl (by kernel_rfl) (by kernel_rfl) (by kernel_rfl) (by decide) (by kernel_rfl) (by decide) (fun _ _ _ h => h) (.inl ⟨by kernel_rfl, fun x_ hu => exec_kat _ (.tmp 4) (.tmp 27) rfl (w.heap.size + 1 + 1) q (by kernel_rfl) (by kernel_rfl) hq2⟩) hcx ?_
        simp only [Act.put, List.setIfInBounds_toArray, List.set_cons_zero, List.set_cons_succ, List.getElem_toArray, List.getElem_cons_zero, List.getElem_cons_succ]
        refine anyC_take (i := 5) (v := (.int .u8 x)) (fun (v : World) => v.cell? ⟨w.heap.size + 1 + 1, q, none⟩ = some (.int .u8 x)) (fun _ h_ => h_) (.inr (by kernel_rfl)) rfl (by kernel_rfl) (by kernel_rfl) (by kernel_rfl) (by decide) (by kernel_rfl) (by decide) (fun _ _ _ h => h) (.inl ⟨by kernel_rfl, fun x_ hu => exec_u8 _ (.tmp 28) rfl (w.heap.size + 1 + 1) q (by kernel_rfl) x hu⟩) hcx ?_
        simp only [Act.put, List.setIfInBounds_toArray, List.set_cons_zero, List.set_cons_succ, List.getElem_toArray, List.getElem_cons_zero, List.getElem_cons_succ]
        refine anyC_take (i := 6) (v := (.int .u8 (IntKind.u8.wrap (x * 16)))) (fun (v : World) => v.cell? ⟨w.heap.size + 1 + 1, q, none⟩ = some (.int .u8 x)) (fun _ h_ => h_) (.inr (by kernel_rfl)) rfl (by kernel_rfl) (by kernel_rfl) (by kernel_rfl) (by decide) (by kernel_rfl) (by decide) (fun _ _ _ h => h) (.inl ⟨by kernel_rfl, fun x_ hu => by kernel_rfl⟩) hcx ?_
        simp only [Act.put, List.setIfInBounds_toArray, List.set_cons_zero, List.set_cons_succ, List.getElem_toArray, List.getElem_cons_zero, List.getElem_cons_succ]
        refine anyC_take (i := 7) (v := (.string SS)) (fun (v : World) => v.cell? ⟨w.heap.size + 1 + 1, q, none⟩ = some (.int .u8 x)) (fun _ h_ => h_) (.inr (by kernel_rfl)) rfl (by kernel_rfl) (by kernel_rfl) (by kernel_rfl) (by decide) (by kernel_rfl) (by decide) (fun _ _ _ h => h) (.inl ⟨by kernel_rfl, fun x_ hu => by kernel_rfl⟩) hcx ?_
        simp only [Act.put, List.setIfInBounds_toArray, List.set_cons_zero, List.set_cons_succ, List.getElem_toArray, List.getElem_cons_zero, List.getElem_cons_succ]
        refine anyC_take (i := 8) (v := (.int .i64 (n : Int))) (fun (v : World) => v.cell? ⟨w.heap.size + 1 + 1, q, none⟩ = some (.int .u8 x)) (fun _ h_ => h_) (.inr (by kernel_rfl)) rfl (by kernel_rfl) (by kernel_rfl) (by kernel_rfl) (by decide) (by kernel_rfl) (by decide) (fun _ _ _ h => h) (.inl ⟨by kernel_rfl, fun x_ hu => by kernel_rfl⟩) hcx ?_
        simp only [Act.put, List.setIfInBounds_toArray, List.set_cons_zero, List.set_cons_succ, List.getElem_toArray, List.getElem_cons_zero, List.getElem_cons_succ]
        refine anyC_take (i := 9) (v := (.int .u8 c)) (fun (v : World) => v.cell? ⟨w.heap.size + 1 + 1, q, none⟩ = some (.int .u8 x)) (fun _ h_ => h_) (.inr (by kernel_rfl)) rfl (by kernel_rfl) (by kernel_rfl) (by kernel_rfl) (by decide) (by kernel_rfl) (by decide) (fun _ _ _ h => h) (.inl ⟨by kernel_rfl, fun x_ hu => by rw [unhide hc]; exact exec_six _ (.tmp 31) (.tmp 32) rfl L (unhide hL) .i64 n (by rw [← unhide hSS]; kernel_rfl) (by kernel_rfl) hil⟩) hcx ?_
        simp only [Act.put, List.setIfInBounds_toArray, List.set_cons_zero, List.set_cons_succ, List.getElem_toArray, List.getElem_cons_zero, List.getElem_cons_succ]
        refine anyC_one (i := 10) (by kernel_rfl) rfl (fun K_ hQ => ?_)
        refine step_callw (by kernel_rfl) 30 #[.int .u8 c] (by kernel_rfl) ((edigit_ok c _).mono ?_)
        rintro r x1 ⟨hr, rfl⟩
        rw [dgI_yes (unhide hV2)] at hr
        subst hr
        refine ⟨_, rfl, ?_⟩
        refine hQ.out _ _ hcx (fun _ => ?_)
        clear hQ K_
        simp only [Act.put, List.setIfInBounds_toArray, List.set_cons_zero, List.set_cons_succ, List.getElem_toArray, List.getElem_cons_zero, List.getElem_cons_succ]
        refine anyC_take (i := 11) (v := (.int .u8 (dv c))) (fun (v : World) => v.cell? ⟨w.heap.size + 1 + 1, q, none⟩ = some (.int .u8 x)) (fun _ h_ => h_) (.inr (by kernel_rfl)) rfl (by kernel_rfl) (by kernel_rfl) (by kernel_rfl) (by decide) (by kernel_rfl) (by decide) (fun _ _ _ h => h) (.inl ⟨by kernel_rfl, fun x_ hu => by have h := unhide hvw; go_simp⟩) hcx ?_
        simp only [Act.put, List.setIfInBounds_toArray, List.set_cons_zero, List.set_cons_succ, List.getElem_toArray, List.getElem_cons_zero, List.getElem_cons_succ]
        refine anyC_take (i := 12) (v := (.int .u8 (bits .or .u8 (IntKind.u8.wrap (x * 16)) (dv c)))) (fun (v : World) => v.cell? ⟨w.heap.size + 1 + 1, q, none⟩ = some (.int .u8 x)) (fun _ h_ => h_) (.inr (by kernel_rfl)) rfl (by kernel_rfl) (by kernel_rfl) (by kernel_rfl) (by decide) (by kernel_rfl) (by decide) (fun _ _ _ h => h) (.inl ⟨by kernel_rfl, fun x_ hu => by kernel_rfl⟩) hcx ?_
        simp only [Act.put, List.setIfInBounds_toArray, List.set_cons_zero, List.set_cons_succ, List.getElem_toArray, List.getElem_cons_zero, List.getElem_cons_succ]
        refine anyC_take (i := 13) (v := (.pointer (some ⟨w.heap.size + 1 + 1, q, none⟩))) (fun (v : World) => v.cell? ⟨w.heap.size + 1 + 1, q, none⟩ = some (.int .u8 x)) (fun _ h_ => h_) (.inr (by kernel_rfl)) rfl (by kernel_rfl) (by kernel_rfl) (by kernel_rfl) (by decide) (by kernel_rfl) (by decide) (fun _ _ _ h => h) (.inl ⟨by kernel_rfl, fun x_ hu => exec_kat _ (.tmp 4) (.tmp 25) rfl (w.heap.size + 1 + 1) q (by kernel_rfl) (by kernel_rfl) hq2⟩) hcx ?_
        simp only [Act.put, List.setIfInBounds_toArray, List.set_cons_zero, List.set_cons_succ, List.getElem_toArray, List.getElem_cons_zero, List.getElem_cons_succ]
        refine anyC_last (by kernel_rfl) rfl (fun K_ hQ => ?_)
        rw [if_pos (by kernel_rfl)]
        refine store_u8 (.tmp 37) (.tmp 36) rfl (w.heap.size + 1 + 1) q (by kernel_rfl) (bits .or .u8 (IntKind.u8.wrap (x * 16)) (dv c)) (by kernel_rfl) (.int .u8 x) hcx hfz ?_
        refine hQ.out _ _ ?_
        clear hQ K_
        have hB2 := (unhide hB).cell 2 (x := ⟨w.heap.size + 1 + 1, kc M, 25⟩) rfl q (.int .u8 (bits .or .u8 (IntKind.u8.wrap (x * 16)) (dv c)))
        simp only [List.set_cons_zero, List.set_cons_succ, kc_set] at hB2
        generalize World.setCell _ _ _ = v2 at *
        simp only [Act.put, List.setIfInBounds_toArray, List.set_cons_zero, List.set_cons_succ, List.getElem_toArray, List.getElem_cons_zero, List.getElem_cons_succ]
        refine any_done (by kernel_rfl) ?_
        have hM2 : Hid (M.set q (bits .or .u8 (IntKind.u8.wrap (x * 16)) (dv c)) = kyS L (n + 1)) := hide (by
          rw [kyS, ← unhide hM, ← unhide hq, ← unhide hx, ← unhide hc])
        have hD2 : Hid (∀ i, i < n + 1 → isD (L.getD i 0) = true) := hide (fun i hi => by
          by_cases e : i = n
          · rw [e, ← unhide hc]; exact unhide hV2
          · exact unhide hD i (by omega))
        replace hB2 := hide hB2
        have hw2 := unhide hw1
        clear hB hD hM hcx hfz
        go_wp2_with fail
        go_roundw
        case rel => exact ⟨n + 1, _, by have := unhide hn4; omega, by omega, by simp, hM2, hD2, hB2⟩
        case measure => simp [intOf]; omega
  · have e : n = m := by omega
    subst e
    have jI : ¬ (n : Int) < (n : Int) := by omega
    replace jI := hide jI
    go_upto_region 3 with fail
    refine wp_region_lit ?_
    refine list_val (.int .i64 (n : Int)) (by kernel_rfl) (by kernel_rfl) ?_
    simp only [Act.put, List.setIfInBounds_toArray, List.set_cons_zero, List.set_cons_succ, List.getElem_toArray, List.getElem_cons_zero, List.getElem_cons_succ]
    refine list_val (.string SS) (by kernel_rfl) (by kernel_rfl) ?_
    simp only [Act.put, List.setIfInBounds_toArray, List.set_cons_zero, List.set_cons_succ, List.getElem_toArray, List.getElem_cons_zero, List.getElem_cons_succ]
    refine list_val (.int .i64 (n : Int)) (by kernel_rfl) (exec_slen _ (.tmp 7) rfl L n (unhide hm).symm (by rw [← unhide hSS]; kernel_rfl)) ?_
    simp only [Act.put, List.setIfInBounds_toArray, List.set_cons_zero, List.set_cons_succ, List.getElem_toArray, List.getElem_cons_zero, List.getElem_cons_succ]
    refine list_val (.bool false) (by kernel_rfl) (by have h := unhide jI; go_simp) ?_
    simp only [Act.put, List.setIfInBounds_toArray, List.set_cons_zero, List.set_cons_succ, List.getElem_toArray, List.getElem_cons_zero, List.getElem_cons_succ]
    refine wpList_nil ?_
    go_upto_region 8 with fail
    by_cases h64 : n < 64
    · have h6i : (n : Int) < 64 := by omega
      replace h64 := hide h64
      replace h6i := hide h6i
      refine wp_region_lit ?_
      refine list_val (.string SS) (by kernel_rfl) (by kernel_rfl) ?_
      simp only [Act.put, List.setIfInBounds_toArray, List.set_cons_zero, List.set_cons_succ, List.getElem_toArray, List.getElem_cons_zero, List.getElem_cons_succ]
      refine list_val (.int .i64 (n : Int)) (by kernel_rfl) (exec_slen _ (.tmp 38) rfl L n (unhide hm).symm (by rw [← unhide hSS]; kernel_rfl)) ?_
      simp only [Act.put, List.setIfInBounds_toArray, List.set_cons_zero, List.set_cons_succ, List.getElem_toArray, List.getElem_cons_zero, List.getElem_cons_succ]
      refine list_val (.bool true) (by kernel_rfl) (by have h := unhide h6i; go_simp) ?_
      simp only [Act.put, List.setIfInBounds_toArray, List.set_cons_zero, List.set_cons_succ, List.getElem_toArray, List.getElem_cons_zero, List.getElem_cons_succ]
      refine wpList_nil ?_
      go_upto_region 9 with fail
      refine wp_region_lit ?_
      refine list_val (.agg (kc Z32)) (by kernel_rfl) (by kernel_rfl) ?_
      simp only [Act.put, List.setIfInBounds_toArray, List.set_cons_zero, List.set_cons_succ, List.getElem_toArray, List.getElem_cons_zero, List.getElem_cons_succ]
      refine list_val (.string SS) (by kernel_rfl) (by kernel_rfl) ?_
      simp only [Act.put, List.setIfInBounds_toArray, List.set_cons_zero, List.set_cons_succ, List.getElem_toArray, List.getElem_cons_zero, List.getElem_cons_succ]
      refine list_val (.int .i64 (n : Int)) (by kernel_rfl) (exec_slen _ (.tmp 42) rfl L n (unhide hm).symm (by rw [← unhide hSS]; kernel_rfl)) ?_
      simp only [Act.put, List.setIfInBounds_toArray, List.set_cons_zero, List.set_cons_succ, List.getElem_toArray, List.getElem_cons_zero, List.getElem_cons_succ]
      refine list_val (.agg (spv 261 (n : Int))) (by kernel_rfl) (by kernel_rfl) ?_
      simp only [Act.put, List.setIfInBounds_toArray, List.set_cons_zero, List.set_cons_succ, List.getElem_toArray, List.getElem_cons_zero, List.getElem_cons_succ]
      replace hB := unhide hB
      refine list_store 25 (.tmp 2) (.tmp 41) w.heap.size (kc Z32) 25 (kc Z32) (by kernel_rfl) rfl (by kernel_rfl) (by kernel_rfl) (hB.get 0 (x := ⟨w.heap.size, kc Z32, 25⟩) rfl) (by rw [Tryd.infoKey, kc_size, Z32_len]) (rfl) (kc_one _) ?_
      replace hB := hB.set 0 (x := ⟨w.heap.size, kc Z32, 25⟩) rfl (kc Z32)
      simp only [List.set_cons_zero, List.set_cons_succ] at hB
      generalize World.setRow _ _ _ = y2 at *
      simp only [Act.put, List.setIfInBounds_toArray, List.set_cons_zero, List.set_cons_succ, List.getElem_toArray, List.getElem_cons_zero, List.getElem_cons_succ]
      refine list_store 28 (.tmp 3) (.tmp 44) (w.heap.size + 1) (spv 261 (n : Int)) 28 (spv 0 0) (by kernel_rfl) rfl (by kernel_rfl) (by kernel_rfl) (hB.get 1 (x := ⟨w.heap.size + 1, spv 0 0, 28⟩) rfl) (by rw [Tryd.infoSpot]; rfl) rfl (spv_one _ _) ?_
      replace hB := hB.set 1 (x := ⟨w.heap.size + 1, spv 0 0, 28⟩) rfl (spv 261 (n : Int))
      simp only [List.set_cons_zero, List.set_cons_succ] at hB
      generalize World.setRow _ _ _ = y3 at *
      simp only [Act.put, List.setIfInBounds_toArray, List.set_cons_zero, List.set_cons_succ, List.getElem_toArray, List.getElem_cons_zero, List.getElem_cons_succ]
      refine wpList_nil ?_
      obtain ⟨e1, e2, e3⟩ := kyd_no (L := L) (n := n) (unhide hD) hn6 hnl (.inr (.inl (unhide hm))) (by have := unhide h64; omega)
      replace hB := hide hB
      go_wp2_with fail
      replace hB := unhide hB
      rw [unhide hT]
      exact bodyPost_ret (v := .tuple #[.agg (kc Z32), .agg (spv 261 (n : Int))]) (results_2 Tryd.results13 _ _ w.heap.size (w.heap.size + 1) 25 28 (kc Z32) (spv 261 (n : Int)) (0, 0) (0, 0) _ _ rfl rfl (hB.get 0 (x := ⟨w.heap.size, kc Z32, 25⟩) rfl) (hB.get 1 (x := ⟨w.heap.size + 1, spv 261 (n : Int), 28⟩) rfl) Tryd.underlying25 rfl Tryd.underlying28 rfl (by rw [Tryd.infoKey, kc_size, Z32_len]) (by rw [Tryd.infoSpot]; rfl)) rfl ⟨by rw [e1, e2, e3], hB.gr⟩
    · have e6 : n = 64 := by omega
      subst e6
      clear h64
      refine wp_region_lit ?_
      refine list_val (.string SS) (by kernel_rfl) (by kernel_rfl) ?_
      simp only [Act.put, List.setIfInBounds_toArray, List.set_cons_zero, List.set_cons_succ, List.getElem_toArray, List.getElem_cons_zero, List.getElem_cons_succ]
      refine list_val (.int .i64 ((64 : Nat) : Int)) (by kernel_rfl) (exec_slen _ (.tmp 38) rfl L 64 (unhide hm).symm (by rw [← unhide hSS]; kernel_rfl)) ?_
      simp only [Act.put, List.setIfInBounds_toArray, List.set_cons_zero, List.set_cons_succ, List.getElem_toArray, List.getElem_cons_zero, List.getElem_cons_succ]
      refine list_val (.bool false) (by kernel_rfl) (by kernel_rfl) ?_
      simp only [Act.put, List.setIfInBounds_toArray, List.set_cons_zero, List.set_cons_succ, List.getElem_toArray, List.getElem_cons_zero, List.getElem_cons_succ]
      refine wpList_nil ?_
      go_upto_region 10 with fail
      refine wp_region_lit ?_
      refine list_val (.agg (kc M)) (by kernel_rfl) (exec_arr _ 25 (.tmp 4) rfl (w.heap.size + 1 + 1) (by kernel_rfl) (kc M) 25 _ ((unhide hB).get 2 (x := ⟨w.heap.size + 1 + 1, kc M, 25⟩) rfl) Tryd.underlying25 rfl (by rw [Tryd.infoKey, kc_size, hMl])) ?_
      simp only [Act.put, List.setIfInBounds_toArray, List.set_cons_zero, List.set_cons_succ, List.getElem_toArray, List.getElem_cons_zero, List.getElem_cons_succ]
      refine list_val (.agg (spv 0 0)) (by kernel_rfl) (by kernel_rfl) ?_
      simp only [Act.put, List.setIfInBounds_toArray, List.set_cons_zero, List.set_cons_succ, List.getElem_toArray, List.getElem_cons_zero, List.getElem_cons_succ]
      replace hB := unhide hB
      refine list_store 25 (.tmp 2) (.tmp 45) w.heap.size (kc M) 25 (kc Z32) (by kernel_rfl) rfl (by kernel_rfl) (by kernel_rfl) (hB.get 0 (x := ⟨w.heap.size, kc Z32, 25⟩) rfl) (by rw [Tryd.infoKey, kc_size, hMl]) (by rw [kc_size, kc_size, hMl]; rfl) (kc_one _) ?_
      replace hB := hB.set 0 (x := ⟨w.heap.size, kc Z32, 25⟩) rfl (kc M)
      simp only [List.set_cons_zero, List.set_cons_succ] at hB
      generalize World.setRow _ _ _ = y2 at *
      simp only [Act.put, List.setIfInBounds_toArray, List.set_cons_zero, List.set_cons_succ, List.getElem_toArray, List.getElem_cons_zero, List.getElem_cons_succ]
      refine list_store 28 (.tmp 3) (.tmp 46) (w.heap.size + 1) (spv 0 0) 28 (spv 0 0) (by kernel_rfl) rfl (by kernel_rfl) (by kernel_rfl) (hB.get 1 (x := ⟨w.heap.size + 1, spv 0 0, 28⟩) rfl) (by rw [Tryd.infoSpot]; rfl) rfl (spv_one _ _) ?_
      replace hB := hB.set 1 (x := ⟨w.heap.size + 1, spv 0 0, 28⟩) rfl (spv 0 0)
      simp only [List.set_cons_zero, List.set_cons_succ] at hB
      generalize World.setRow _ _ _ = y3 at *
      simp only [Act.put, List.setIfInBounds_toArray, List.set_cons_zero, List.set_cons_succ, List.getElem_toArray, List.getElem_cons_zero, List.getElem_cons_succ]
      refine wpList_nil ?_
      obtain ⟨e1, e2, e3⟩ := kyd_yes (L := L) (unhide hD) (unhide hm).symm
      replace hB := hide hB
      go_wp2_with fail
      replace hB := unhide hB
      rw [unhide hT]
      exact bodyPost_ret (v := .tuple #[.agg (kc M), .agg (spv 0 0)]) (results_2 Tryd.results13 _ _ w.heap.size (w.heap.size + 1) 25 28 (kc M) (spv 0 0) (0, 0) (0, 0) _ _ rfl rfl (hB.get 0 (x := ⟨w.heap.size, kc M, 25⟩) rfl) (hB.get 1 (x := ⟨w.heap.size + 1, spv 0 0, 28⟩) rfl) Tryd.underlying25 rfl Tryd.underlying28 rfl (by rw [Tryd.infoKey, kc_size, hMl]) (by rw [Tryd.infoSpot]; rfl)) rfl ⟨by rw [e1, e2, e3, unhide hM], hB.gr⟩
end Go.Proofs.YtpmgmpihmpifgaaDoor
