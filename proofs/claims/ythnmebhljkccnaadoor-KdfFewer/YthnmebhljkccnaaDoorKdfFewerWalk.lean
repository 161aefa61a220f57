/-
  Fewer bytes are the beginning of more: the walk.
-/
import Derived.Test.YthnmebhljkccnaaDoorKdfE
import Derived.Test.YthnmebhljkccnaaDoorKdfPartsWalk
namespace Go.Proofs.YthnmebhljkccnaaDoor
open Go.RowKit
set_option maxRecDepth 100000
set_option linter.unusedSimpArgs false
set_option linter.unusedVariables false

theorem pos_rem (N : Int) : ∃ p : Nat, p < 1000 ∧ Int.tmod (if N < 0 then 0 else N) 1000 = (p : Int) := by
  have h2 : 0 ≤ (if N < 0 then 0 else N) := by split <;> omega
  refine ⟨((if N < 0 then 0 else N) % 1000).toNat, by omega, ?_⟩
  rw [Int.tmod_eq_emod_of_nonneg h2]
  omega
set_option maxHeartbeats 2000000 in
theorem fewer_ok (K : List Int) (hKb : IsB K) (hKl : K.length = 32) (I : List Int) (a : Option Addr) (ni ci : Nat) (N M : Int) (hNM : (-9223372036854775808 ≤ N ∧ N < 9223372036854775808) ∧ (-9223372036854775808 ≤ M ∧ M < 9223372036854775808)) (w : World) (hF : Fst w) (hI : Lb w a ni ci I) :
    Calls Tryd.prog 7 #[.agg (kc K), .slice a ni ci, .agg #[.int .i64 N, .int .i64 M]] w (Woke w) := by
  obtain ⟨T, hT⟩ : ∃ T, T = Woke w := ⟨_, rfl⟩
  rw [← hT]
  obtain ⟨KK, hKK⟩ : ∃ KK, KK = kc K := ⟨_, rfl⟩
  rw [← hKK]
  have hKs : KK.size = 32 := by rw [hKK, kc_size, hKl]
  replace hT := hide hT
  replace hF := hide hF
  replace hI := hide hI
  replace hKK := hide hKK
  replace hKb := hide hKb
  have hB := ((Bl.nil w).new KK 28).new #[.int .i64 N, .int .i64 M] 46
  simp only [List.nil_append, List.cons_append, size_alloc] at hB
  have hF2 := hide ((unhide hF).gr hB.gr)
  have hI2 := hide ((unhide hI).gr hB.gr)
  by_cases hbig : 4096 < ni
  · have h1 : (4096 : Int) < (ni : Int) := by omega
    have hgr := hide hB.gr
    clear hB
    go_enter Tryd.func7, Tryd.ntmps7
    go_wp2_with (go_at_call 9; refine (wakes_ok _ (unhide hF2)).mono ?_; rintro e u1 ⟨rfl, hG⟩)
    rw [unhide hT]
    exact ⟨rfl, (unhide hgr).trans hG⟩
  · have h1 : ¬ (4096 : Int) < (ni : Int) := by omega
    obtain ⟨p, hp, hpe⟩ := pos_rem N
    obtain ⟨q, hq, hqe⟩ := pos_rem M
    obtain ⟨N', hN'⟩ : ∃ N' : Int, (if N < 0 then 0 else N) = N' := ⟨_, rfl⟩
    obtain ⟨M', hM'⟩ : ∃ M' : Int, (if M < 0 then 0 else M) = M' := ⟨_, rfl⟩
    rw [hN'] at hpe
    rw [hM'] at hqe
    have wp : IntKind.i64.wrap (p : Int) = (p : Int) := by rw [IntKind.wrap_i64]; omega
    have wq : IntKind.i64.wrap (q : Int) = (q : Int) := by rw [IntKind.wrap_i64]; omega
    obtain ⟨lo, hlo⟩ : ∃ lo, lo = min p q := ⟨_, rfl⟩
    obtain ⟨hi, hhi⟩ : ∃ hi, hi = max p q := ⟨_, rfl⟩
    have elo : (if (q : Int) < (p : Int) then (q : Int) else (p : Int)) = (lo : Int) := by split <;> omega
    have ehi : (if (p : Int) < (q : Int) then (q : Int) else (p : Int)) = (hi : Int) := by split <;> omega
    have elo' : (if q < p then (q : Int) else (p : Int)) = (lo : Int) := by split <;> omega
    have ehi' : (if p < q then (q : Int) else (p : Int)) = (hi : Int) := by split <;> omega
    have hlh : lo ≤ hi := by omega
    have hhb : hi < 1000 := by omega
    clear hlo hhi
    have hlhI : (lo : Int) ≤ (hi : Int) := by omega
    have c0 : ((w.alloc (.cells KK 28)).alloc (.cells #[.int .i64 N, .int .i64 M] 46)).cell? ⟨w.heap.size + 1, 0, none⟩ = some (.int .i64 N) := cell_of (hB.get 1 (x := ⟨w.heap.size + 1, #[.int .i64 N, .int .i64 M], 46⟩) rfl) rfl
    have c1 : ((w.alloc (.cells KK 28)).alloc (.cells #[.int .i64 N, .int .i64 M] 46)).cell? ⟨w.heap.size + 1, 1, none⟩ = some (.int .i64 M) := cell_of (hB.get 1 (x := ⟨w.heap.size + 1, #[.int .i64 N, .int .i64 M], 46⟩) rfl) rfl
    replace hB := hide hB
    go_enter Tryd.func7, Tryd.ntmps7
    go_upto_region 5 with (go_at_call 9; refine (wakes_ok _ (unhide hF2)).mono ?_; rintro e u1 ⟨rfl, hG⟩)
    replace c0 := hG.cell c0
    replace c1 := hG.cell c1
    replace hB := hide ((unhide hB).more hG)
    clear hF2 hI2 hG
    go_quiet (fail)
    replace hB := hide ((unhide hB).drewN nq)
    clear c0 c1
    generalize World.drewN _ _ = u2 at *
    go_upto_region 6 with fail
    replace hB := unhide hB
    refine wp_region_lit ?_
    refine list_val (.agg KK) (by kernel_rfl) (exec_arr _ 28 (.tmp 3) rfl w.heap.size (by kernel_rfl) KK 28 _ (hB.get 0 (x := ⟨w.heap.size, KK, 28⟩) rfl) Tryd.underlying28 rfl (by rw [Tryd.infoKey, hKs])) ?_
    simp only [Act.put, List.setIfInBounds_toArray, List.set_cons_zero, List.set_cons_succ, List.getElem_toArray, List.getElem_cons_zero, List.getElem_cons_succ]
    replace hB := hide hB
    iterate 4 (refine wpList_step fun K hK => ?_; replace hK := hide hK; go_simp; refine unhide hK _ _ ?_; clear hK K)
    replace hB := unhide hB
    rw [unhide hKK]
    refine list_call 16 #[.agg (kc K), .slice a ni ci, .int .i64 lo] (by kernel_rfl) (by kernel_rfl) ((expand_ok K hKl (unhide hKb) I a ni ci lo (by omega) (by omega) _ ((unhide hF).gr hB.gr) ((unhide hI).gr hB.gr)).mono ?_)
    rintro r u3 ⟨a1, rfl, l1, hg⟩
    refine ⟨_, rfl, ?_⟩
    rw [← unhide hKK]
    replace hB := hB.more hg
    clear hg
    simp only [Act.put, List.setIfInBounds_toArray, List.set_cons_zero, List.set_cons_succ, List.getElem_toArray, List.getElem_cons_zero, List.getElem_cons_succ]
    replace hB := hide hB
    replace l1 := hide l1
    iterate 5 (refine wpList_step fun K hK => ?_; replace hK := hide hK; go_simp; refine unhide hK _ _ ?_; clear hK K)
    refine wpList_nil ?_
    go_upto_region 7 with fail
    replace hB := unhide hB
    refine wp_region_lit ?_
    refine list_val (.agg KK) (by kernel_rfl) (exec_arr _ 28 (.tmp 3) rfl w.heap.size (by kernel_rfl) KK 28 _ (hB.get 0 (x := ⟨w.heap.size, KK, 28⟩) rfl) Tryd.underlying28 rfl (by rw [Tryd.infoKey, hKs])) ?_
    simp only [Act.put, List.setIfInBounds_toArray, List.set_cons_zero, List.set_cons_succ, List.getElem_toArray, List.getElem_cons_zero, List.getElem_cons_succ]
    replace hB := hide hB
    iterate 4 (refine wpList_step fun K hK => ?_; replace hK := hide hK; go_simp; refine unhide hK _ _ ?_; clear hK K)
    replace hB := unhide hB
    rw [unhide hKK]
    refine list_call 16 #[.agg (kc K), .slice a ni ci, .int .i64 hi] (by kernel_rfl) (by kernel_rfl) ((expand_ok K hKl (unhide hKb) I a ni ci hi (by omega) (by omega) _ ((unhide hF).gr hB.gr) ((unhide hI).gr hB.gr)).mono ?_)
    rintro r u4 ⟨a2, rfl, l2, hg⟩
    refine ⟨_, rfl, ?_⟩
    rw [← unhide hKK]
    have hG := hide (hB.gr.trans hg)
    replace l1 := hide ((unhide l1).gr hg)
    clear hg hB
    simp only [Act.put, List.setIfInBounds_toArray, List.set_cons_zero, List.set_cons_succ, List.getElem_toArray, List.getElem_cons_zero, List.getElem_cons_succ]
    have l3 := Sl.cutl l2 lo hlh
    rw [spL_fewer K I lo hi hlh] at l3
    replace l3 := hide l3
    clear l2
    iterate 5 (refine wpList_step fun K hK => ?_; replace hK := hide hK; go_simp; refine unhide hK _ _ ?_; clear hK K)
    refine wpList_nil ?_
    go_upto_region 8 with fail
    refine wp_region_lit ?_
    iterate 20 (refine wpList_step fun K hK => ?_; replace hK := hide hK; go_simp; refine unhide hK _ _ ?_; clear hK K)
    refine list_call 24 #[.slice a1 lo lo, .slice a2 lo hi] (by kernel_rfl) (by kernel_rfl) ((equal_ok (spL K I lo) a1 a2 lo lo hi _ (unhide l1) (unhide l3) (by omega)).mono ?_)
    rintro r u5 ⟨rfl, rfl⟩
    refine ⟨_, rfl, ?_⟩
    clear l1 l3
    simp only [Act.put, List.setIfInBounds_toArray, List.set_cons_zero, List.set_cons_succ, List.getElem_toArray, List.getElem_cons_zero, List.getElem_cons_succ]
    iterate 10 (refine wpList_step fun K hK => ?_; replace hK := hide hK; go_simp; refine unhide hK _ _ ?_; clear hK K)
    refine wpList_nil ?_
    go_wp2_with fail
    rw [unhide hT]
    exact ⟨rfl, unhide hG⟩
end Go.Proofs.YthnmebhljkccnaaDoor
