/-
  Layer 14: envelopes.
-/
import Derived.Test.YtfmocneoffkmpaaFF
namespace Go.Proofs.Ytfmocneoffkmpaa
open Go.RowKit
set_option maxRecDepth 100000
set_option linter.unusedSimpArgs false
set_option linter.unusedVariables false
/-- may an envelope be? -/
def evR (k s : Int) (B : List Int) : Bool := (k == 1) || ((k == 0) && ((s == 0) && allZ B))
/-- an envelope's bytes -/
def evB (k a s : Int) (B : List Int) : List Int := (([k] ++ lowL a 4) ++ lowL s 4) ++ B
theorem evl_setb (k a s : Int) (B B' : List Int) (h : B'.length = B.length) : sp (evl k a s B) 3 (bv B') = evl k a s B' := by
  have := sp_mid (bv B') [.int .i64 k, .int .u32 a, .int .u32 s] (bv B) [] (by rw [bv_len, bv_len, h])
  rw [evl_body, evl_body]
  exact this
theorem evR_kind {k s : Int} {B : List Int} (h : evR k s B = true) : k = 0 ∨ k = 1 := by
  unfold evR at h
  simp only [Bool.or_eq_true, Bool.and_eq_true, beq_iff_eq] at h
  omega
theorem ev_load {w : World} {g : Nat} {k a s : Int} {B : List Int} {t : TypeId} (h : w.heap[g]? = some (.cells (evl k a s B).toArray t (0, 0))) : w.cell? ⟨g, 0, none⟩ = some (.int .i64 k) ∧ w.cell? ⟨g, 1, none⟩ = some (.int .u32 a) ∧ w.cell? ⟨g, 2, none⟩ = some (.int .u32 s) := ⟨cell_of h rfl, cell_of h rfl, cell_of h rfl⟩
set_option maxHeartbeats 4000000 in
theorem fev_ok (k a s : Int) (B : List Int) (hl : B.length = 105) (hb : IsB B) (w : World) : Calls Try.prog 57 #[.agg (evl k a s B).toArray] w (Vl (.bool (evR k s B)) w) := by
  obtain ⟨T, hT⟩ : ∃ T, T = Vl (.bool (evR k s B)) w := ⟨_, rfl⟩
  rw [← hT]
  replace hT := hide hT
  obtain ⟨C, hC⟩ : ∃ C, C = (evl k a s B).toArray := ⟨_, rfl⟩
  rw [← hC]
  replace hC := hide hC; replace hb := hide hb
  go_enter Try.func57, Try.ntmps57
  go_upto_region 1 with fail
  have hB := ((Bl.nil w).new C 55)
  simp only [size_alloc, List.nil_append, List.cons_append] at hB
  generalize World.alloc _ _ = u at *
  rw [unhide hC] at hB
  replace hB : Bl w [⟨w.heap.size, (evl k a s B).toArray, 55⟩] u := hB
  clear hC
  have hbl : Hid (u.heap[w.heap.size]? = some (.cells (evl k a s B).toArray 55 (0, 0))) := (hB.get 0 (x := ⟨w.heap.size, (evl k a s B).toArray, 55⟩) rfl)
  have hG := hB.gr
  clear hB
  replace hG := hide hG
  refine wp_region_lit ?_
  refine list_val (.pointer (some ⟨w.heap.size, 0, none⟩)) (by kernel_rfl) (by kernel_rfl) ?_
  simp only [Act.put, List.setIfInBounds_toArray, List.set_cons_zero, List.set_cons_succ, List.getElem_toArray, List.getElem_cons_zero, List.getElem_cons_succ]
  refine list_val (.int .i64 k) (by kernel_rfl) (exec_i64 _ (.tmp 3) rfl (w.heap.size) 0 (by kernel_rfl) k (ev_load (unhide hbl)).1) ?_
  simp only [Act.put, List.setIfInBounds_toArray, List.set_cons_zero, List.set_cons_succ, List.getElem_toArray, List.getElem_cons_zero, List.getElem_cons_succ]
  refine wpList_nil ?_
  go_upto_region 2 with fail
  by_cases hk : k = 0
  · skip
    subst hk
    refine wp_region_lit ?_
    refine list_val (.bool true) (by kernel_rfl) (by kernel_rfl) ?_
    simp only [Act.put, List.setIfInBounds_toArray, List.set_cons_zero, List.set_cons_succ, List.getElem_toArray, List.getElem_cons_zero, List.getElem_cons_succ]
    (refine wpList_step fun K hK => ?_; replace hK := hide hK; go_simp; refine unhide hK _ _ ?_; clear hK K)
    refine wpList_nil ?_
    go_upto_region 3 with fail
    by_cases hs : s = 0
    · skip
      subst hs
      refine wp_region_lit ?_
      refine list_val (.pointer (some ⟨w.heap.size, 2, none⟩)) (by kernel_rfl) (by kernel_rfl) ?_
      simp only [Act.put, List.setIfInBounds_toArray, List.set_cons_zero, List.set_cons_succ, List.getElem_toArray, List.getElem_cons_zero, List.getElem_cons_succ]
      refine list_val (.int .u32 0) (by kernel_rfl) (exec_u32 _ (.tmp 7) rfl (w.heap.size) 2 (by kernel_rfl) 0 (ev_load (unhide hbl)).2.2) ?_
      simp only [Act.put, List.setIfInBounds_toArray, List.set_cons_zero, List.set_cons_succ, List.getElem_toArray, List.getElem_cons_zero, List.getElem_cons_succ]
      refine list_val (.bool true) (by kernel_rfl) (by kernel_rfl) ?_
      simp only [Act.put, List.setIfInBounds_toArray, List.set_cons_zero, List.set_cons_succ, List.getElem_toArray, List.getElem_cons_zero, List.getElem_cons_succ]
      refine list_val (.bool true) (by kernel_rfl) (by kernel_rfl) ?_
      simp only [Act.put, List.setIfInBounds_toArray, List.set_cons_zero, List.set_cons_succ, List.getElem_toArray, List.getElem_cons_zero, List.getElem_cons_succ]
      refine list_val (.pointer (some ⟨w.heap.size, 3, none⟩)) (by kernel_rfl) (by kernel_rfl) ?_
      simp only [Act.put, List.setIfInBounds_toArray, List.set_cons_zero, List.set_cons_succ, List.getElem_toArray, List.getElem_cons_zero, List.getElem_cons_succ]
      refine list_val (.slice (some ⟨w.heap.size, 3, none⟩) 105 105) (by kernel_rfl) (by kernel_rfl) ?_
      simp only [Act.put, List.setIfInBounds_toArray, List.set_cons_zero, List.set_cons_succ, List.getElem_toArray, List.getElem_cons_zero, List.getElem_cons_succ]
      refine list_call 65 #[.slice (some ⟨w.heap.size, 3, none⟩) 105 105] (by kernel_rfl) (by kernel_rfl) ((zero_ok B (some ⟨w.heap.size, 3, none⟩) 105 105 (by omega) u (lb_mid (unhide hbl) (evl_body 0 a 0 B) rfl (unhide hb) hl (by omega) (by omega))).mono ?_)
      rintro r u1 ⟨rfl, rfl⟩
      have ez : evR 0 0 B = allZ B := by unfold evR; simp
      rw [ez] at hT
      generalize allZ B = z at *
      refine ⟨_, rfl, ?_⟩
      simp only [Act.put, List.setIfInBounds_toArray, List.set_cons_zero, List.set_cons_succ, List.getElem_toArray, List.getElem_cons_zero, List.getElem_cons_succ]
      refine list_val (.bool z) (by kernel_rfl) (by kernel_rfl) ?_
      simp only [Act.put, List.setIfInBounds_toArray, List.set_cons_zero, List.set_cons_succ, List.getElem_toArray, List.getElem_cons_zero, List.getElem_cons_succ]
      (refine wpList_step fun K hK => ?_; replace hK := hide hK; go_simp; refine unhide hK _ _ ?_; clear hK K)
      refine wpList_nil ?_
      have hZ : Hid (Vl (.bool z) w (.returned (.bool z)) u1) := ⟨rfl, unhide hG⟩
      go_wp2_with fail
      rw [unhide hT]
      exact unhide hZ
    · skip
      refine wp_region_lit ?_
      refine list_val (.pointer (some ⟨w.heap.size, 2, none⟩)) (by kernel_rfl) (by kernel_rfl) ?_
      simp only [Act.put, List.setIfInBounds_toArray, List.set_cons_zero, List.set_cons_succ, List.getElem_toArray, List.getElem_cons_zero, List.getElem_cons_succ]
      refine list_val (.int .u32 s) (by kernel_rfl) (exec_u32 _ (.tmp 7) rfl (w.heap.size) 2 (by kernel_rfl) s (ev_load (unhide hbl)).2.2) ?_
      simp only [Act.put, List.setIfInBounds_toArray, List.set_cons_zero, List.set_cons_succ, List.getElem_toArray, List.getElem_cons_zero, List.getElem_cons_succ]
      refine list_val (.bool false) (by kernel_rfl) (by go_simp) ?_
      simp only [Act.put, List.setIfInBounds_toArray, List.set_cons_zero, List.set_cons_succ, List.getElem_toArray, List.getElem_cons_zero, List.getElem_cons_succ]
      refine list_val (.bool false) (by kernel_rfl) (by kernel_rfl) ?_
      simp only [Act.put, List.setIfInBounds_toArray, List.set_cons_zero, List.set_cons_succ, List.getElem_toArray, List.getElem_cons_zero, List.getElem_cons_succ]
      refine wpList_step fun K hK => ?_
      rw [if_neg (ne_true_of_eq_false (by kernel_rfl))]
      refine hK _ _ ?_
      clear hK K
      simp only [Act.put, List.setIfInBounds_toArray, List.set_cons_zero, List.set_cons_succ, List.getElem_toArray, List.getElem_cons_zero, List.getElem_cons_succ]
      refine wpList_step fun K hK => ?_
      rw [if_neg (ne_true_of_eq_false (by kernel_rfl))]
      refine hK _ _ ?_
      clear hK K
      simp only [Act.put, List.setIfInBounds_toArray, List.set_cons_zero, List.set_cons_succ, List.getElem_toArray, List.getElem_cons_zero, List.getElem_cons_succ]
      refine wpList_step fun K hK => ?_
      rw [if_neg (ne_true_of_eq_false (by kernel_rfl))]
      refine hK _ _ ?_
      clear hK K
      simp only [Act.put, List.setIfInBounds_toArray, List.set_cons_zero, List.set_cons_succ, List.getElem_toArray, List.getElem_cons_zero, List.getElem_cons_succ]
      refine list_val (.bool false) (by kernel_rfl) (by kernel_rfl) ?_
      simp only [Act.put, List.setIfInBounds_toArray, List.set_cons_zero, List.set_cons_succ, List.getElem_toArray, List.getElem_cons_zero, List.getElem_cons_succ]
      (refine wpList_step fun K hK => ?_; replace hK := hide hK; go_simp; refine unhide hK _ _ ?_; clear hK K)
      refine wpList_nil ?_
      have ez : evR 0 s B = false := by unfold evR; simp [hs]
      rw [ez] at hT
      have hZ : Hid (Vl (.bool false) w (.returned (.bool false)) u) := ⟨rfl, unhide hG⟩
      go_wp2_with fail
      rw [unhide hT]
      exact unhide hZ
  · skip
    refine wp_region_lit ?_
    refine list_val (.bool false) (by kernel_rfl) (by go_simp) ?_
    simp only [Act.put, List.setIfInBounds_toArray, List.set_cons_zero, List.set_cons_succ, List.getElem_toArray, List.getElem_cons_zero, List.getElem_cons_succ]
    (refine wpList_step fun K hK => ?_; replace hK := hide hK; go_simp; refine unhide hK _ _ ?_; clear hK K)
    refine wpList_nil ?_
    go_upto_region 4 with fail
    by_cases hk1 : k = 1
    · skip
      subst hk1
      refine wp_region_lit ?_
      refine list_val (.bool true) (by kernel_rfl) (by kernel_rfl) ?_
      simp only [Act.put, List.setIfInBounds_toArray, List.set_cons_zero, List.set_cons_succ, List.getElem_toArray, List.getElem_cons_zero, List.getElem_cons_succ]
      (refine wpList_step fun K hK => ?_; replace hK := hide hK; go_simp; refine unhide hK _ _ ?_; clear hK K)
      refine wpList_nil ?_
      have ez : evR 1 s B = true := by unfold evR; simp
      rw [ez] at hT
      have hZ : Hid (Vl (.bool true) w (.returned (.bool true)) u) := ⟨rfl, unhide hG⟩
      go_wp2_with fail
      rw [unhide hT]
      exact unhide hZ
    · skip
      refine wp_region_lit ?_
      refine list_val (.bool false) (by kernel_rfl) (by go_simp) ?_
      simp only [Act.put, List.setIfInBounds_toArray, List.set_cons_zero, List.set_cons_succ, List.getElem_toArray, List.getElem_cons_zero, List.getElem_cons_succ]
      (refine wpList_step fun K hK => ?_; replace hK := hide hK; go_simp; refine unhide hK _ _ ?_; clear hK K)
      refine wpList_nil ?_
      have ez : evR k s B = false := by unfold evR; simp [hk, hk1]
      rw [ez] at hT
      have hZ : Hid (Vl (.bool false) w (.returned (.bool false)) u) := ⟨rfl, unhide hG⟩
      go_wp2_with fail
      rw [unhide hT]
      exact unhide hZ
/-- what a Put that may refuse answers -/
def Pok (L : List Int) (w : World) (r : Ending) (w' : World) : Prop := ∃ v, r = .returned (.tuple #[v, .int .i64 0]) ∧ Ob w.heap.size w' v L ∧ Gr w w'
def Pno (w : World) (r : Ending) (w' : World) : Prop := r = .returned (.tuple #[.slice none 0 0, .int .i64 241]) ∧ Gr w w'
set_option maxHeartbeats 4000000 in
theorem fpute_no (k a s : Int) (B : List Int) (hl : B.length = 105) (hb : IsB B) (ha : U4 a) (hs : U4 s) (hr : evR k s B = false) (w : World) : Calls Try.prog 25 #[.agg (evl k a s B).toArray] w (Pno w) := by
  obtain ⟨T, hT⟩ : ∃ T, T = Pno w := ⟨_, rfl⟩
  rw [← hT]
  replace hT := hide hT
  obtain ⟨C, hC⟩ : ∃ C, C = (evl k a s B).toArray := ⟨_, rfl⟩
  rw [← hC]
  replace hC := hide hC; replace hb := hide hb; replace hr := hide hr
  go_enter Try.func25, Try.ntmps25
  go_upto_region 1 with fail
  have hB := ((Bl.nil w).new C 55)
  simp only [size_alloc, List.nil_append, List.cons_append] at hB
  generalize World.alloc _ _ = u at *
  rw [unhide hC] at hB
  replace hB : Bl w [⟨w.heap.size, (evl k a s B).toArray, 55⟩] u := hB
  clear hC
  have hbl : Hid (u.heap[w.heap.size]? = some (.cells (evl k a s B).toArray 55 (0, 0))) := (hB.get 0 (x := ⟨w.heap.size, (evl k a s B).toArray, 55⟩) rfl)
  have hG := hB.gr
  clear hB
  refine wp_region_lit ?_
  refine list_val (.agg (evl k a s B).toArray) (by kernel_rfl) (exec_arr _ 55 (.tmp 1) rfl (w.heap.size) (by kernel_rfl) (evl k a s B).toArray 55 _ (unhide hbl) Try.underlying55 rfl (by rw [Try.infoE, List.size_toArray, evl_len _ _ _ hl])) ?_
  simp only [Act.put, List.setIfInBounds_toArray, List.set_cons_zero, List.set_cons_succ, List.getElem_toArray, List.getElem_cons_zero, List.getElem_cons_succ]
  refine list_call 57 #[.agg (evl k a s B).toArray] (by kernel_rfl) (by kernel_rfl) ((fev_ok k a s B hl (unhide hb) u).mono ?_)
  rintro r u1 ⟨rfl, hg1⟩
  rw [unhide hr]
  replace hG := hG.trans hg1
  replace hbl := hide (hg1.blk (unhide hbl))
  clear hg1
  refine ⟨_, rfl, ?_⟩
  simp only [Act.put, List.setIfInBounds_toArray, List.set_cons_zero, List.set_cons_succ, List.getElem_toArray, List.getElem_cons_zero, List.getElem_cons_succ]
  refine list_val (.bool true) (by kernel_rfl) (by kernel_rfl) ?_
  simp only [Act.put, List.setIfInBounds_toArray, List.set_cons_zero, List.set_cons_succ, List.getElem_toArray, List.getElem_cons_zero, List.getElem_cons_succ]
  refine wpList_nil ?_
  have hZ : Hid (Pno w (.returned (.tuple #[.slice none 0 0, .int .i64 241])) u1) := ⟨rfl, hG⟩
  replace hG := hide hG
  go_wp2_with fail
  rw [unhide hT]
  exact unhide hZ
set_option maxHeartbeats 4000000 in
theorem fpute_ok (k a s : Int) (B : List Int) (hl : B.length = 105) (hb : IsB B) (ha : U4 a) (hs : U4 s) (hr : evR k s B = true) (w : World) : Calls Try.prog 25 #[.agg (evl k a s B).toArray] w (Pok (evB k a s B) w) := by
  obtain ⟨T, hT⟩ : ∃ T, T = Pok (evB k a s B) w := ⟨_, rfl⟩
  rw [← hT]
  replace hT := hide hT
  obtain ⟨C, hC⟩ : ∃ C, C = (evl k a s B).toArray := ⟨_, rfl⟩
  rw [← hC]
  replace hC := hide hC; replace hb := hide hb; replace hr := hide hr
  go_enter Try.func25, Try.ntmps25
  go_upto_region 1 with fail
  have hB := ((Bl.nil w).new C 55)
  simp only [size_alloc, List.nil_append, List.cons_append] at hB
  generalize World.alloc _ _ = u at *
  rw [unhide hC] at hB
  replace hB : Bl w [⟨w.heap.size, (evl k a s B).toArray, 55⟩] u := hB
  clear hC
  have hbl : Hid (u.heap[w.heap.size]? = some (.cells (evl k a s B).toArray 55 (0, 0))) := (hB.get 0 (x := ⟨w.heap.size, (evl k a s B).toArray, 55⟩) rfl)
  have hG := hB.gr
  clear hB
  refine wp_region_lit ?_
  refine list_val (.agg (evl k a s B).toArray) (by kernel_rfl) (exec_arr _ 55 (.tmp 1) rfl (w.heap.size) (by kernel_rfl) (evl k a s B).toArray 55 _ (unhide hbl) Try.underlying55 rfl (by rw [Try.infoE, List.size_toArray, evl_len _ _ _ hl])) ?_
  simp only [Act.put, List.setIfInBounds_toArray, List.set_cons_zero, List.set_cons_succ, List.getElem_toArray, List.getElem_cons_zero, List.getElem_cons_succ]
  refine list_call 57 #[.agg (evl k a s B).toArray] (by kernel_rfl) (by kernel_rfl) ((fev_ok k a s B hl (unhide hb) u).mono ?_)
  rintro r u1 ⟨rfl, hg1⟩
  rw [unhide hr]
  replace hG := hG.trans hg1
  replace hbl := hide (hg1.blk (unhide hbl))
  clear hg1
  refine ⟨_, rfl, ?_⟩
  simp only [Act.put, List.setIfInBounds_toArray, List.set_cons_zero, List.set_cons_succ, List.getElem_toArray, List.getElem_cons_zero, List.getElem_cons_succ]
  refine list_val (.bool false) (by kernel_rfl) (by kernel_rfl) ?_
  simp only [Act.put, List.setIfInBounds_toArray, List.set_cons_zero, List.set_cons_succ, List.getElem_toArray, List.getElem_cons_zero, List.getElem_cons_succ]
  refine wpList_nil ?_
  have hk := evR_kind (unhide hr)
  have hwk : IntKind.u8.wrap k = k := by rw [IntKind.wrap_u8]; omega
  have hkB : IsB [k] := fun y hy => by rw [List.mem_singleton.1 hy]; omega
  replace hk := hide hk; replace hkB := hide hkB; replace hG := hide hG
  go_upto_region 3 with fail
  refine wp_region_lit ?_
  refine list_val (.pointer (some ⟨w.heap.size, 0, none⟩)) (by kernel_rfl) (by kernel_rfl) ?_
  simp only [Act.put, List.setIfInBounds_toArray, List.set_cons_zero, List.set_cons_succ, List.getElem_toArray, List.getElem_cons_zero, List.getElem_cons_succ]
  refine list_val (.int .i64 k) (by kernel_rfl) (exec_i64 _ (.tmp 8) rfl (w.heap.size) 0 (by kernel_rfl) k (ev_load (unhide hbl)).1) ?_
  simp only [Act.put, List.setIfInBounds_toArray, List.set_cons_zero, List.set_cons_succ, List.getElem_toArray, List.getElem_cons_zero, List.getElem_cons_succ]
  refine list_val (.int .u8 k) (by kernel_rfl) (by go_simp) ?_
  simp only [Act.put, List.setIfInBounds_toArray, List.set_cons_zero, List.set_cons_succ, List.getElem_toArray, List.getElem_cons_zero, List.getElem_cons_succ]
  refine list_valw (.slice (some ⟨u1.heap.size, 0, none⟩) 1 1) (u1.alloc (.cells (kc [k]) 5 (0, 0))) (by kernel_rfl) (by kernel_rfl) ?_
  have hg := (Gr.refl u1).alloc (.cells (kc [k]) 5 (0, 0))
  have hlb1 := hide (kc_lb (n := 1) (blk_new u1 (.cells (kc [k]) 5 (0, 0))) rfl (unhide hkB) (by decide))
  replace hG := hide ((unhide hG).trans hg)
  replace hbl := hide (hg.blk (unhide hbl))
  clear hg
  generalize World.alloc _ _ = u2 at *
  generalize u1.heap.size = h1 at *
  simp only [Act.put, List.setIfInBounds_toArray, List.set_cons_zero, List.set_cons_succ, List.getElem_toArray, List.getElem_cons_zero, List.getElem_cons_succ]
  (refine wpList_step fun K hK => ?_; replace hK := hide hK; go_simp; refine unhide hK _ _ ?_; clear hK K)
  refine wpList_nil ?_
  go_upto_region 4 with fail
  refine wp_region_lit ?_
  refine list_val (.slice (some ⟨h1, 0, none⟩) 1 1) (by kernel_rfl) (by kernel_rfl) ?_
  simp only [Act.put, List.setIfInBounds_toArray, List.set_cons_zero, List.set_cons_succ, List.getElem_toArray, List.getElem_cons_zero, List.getElem_cons_succ]
  refine list_val (.pointer (some ⟨w.heap.size, 1, none⟩)) (by kernel_rfl) (by kernel_rfl) ?_
  simp only [Act.put, List.setIfInBounds_toArray, List.set_cons_zero, List.set_cons_succ, List.getElem_toArray, List.getElem_cons_zero, List.getElem_cons_succ]
  refine list_val (.int .u32 a) (by kernel_rfl) (exec_u32 _ (.tmp 13) rfl (w.heap.size) 1 (by kernel_rfl) a (ev_load (unhide hbl)).2.1) ?_
  simp only [Act.put, List.setIfInBounds_toArray, List.set_cons_zero, List.set_cons_succ, List.getElem_toArray, List.getElem_cons_zero, List.getElem_cons_succ]
  refine list_call 50 #[.slice (some ⟨h1, 0, none⟩) 1 1, .int .u32 a] (by kernel_rfl) (by kernel_rfl) ((put32g_ok [k] (some ⟨h1, 0, none⟩) 1 1 a ha (by omega) u2 (unhide hlb1)).mono ?_)
  rintro r u3 ⟨h2, rfl, hh1, hh2, hh3⟩
  have hl2 : ([k] ++ lowL a 4).length = 5 := by simp [lowL_len]
  rw [hl2]
  have hO2 := hide (ob_of hh2 hl2 (Nat.le_trans (unhide hG).size hh1) (by omega))
  have hlb2 := hide (kc_lb hh2 hl2 (isB_append (unhide hlb1).isB (lowL_isB _ _)) (by decide))
  replace hG := hide ((unhide hG).trans hh3)
  replace hbl := hide (hh3.blk (unhide hbl))
  clear hh1 hh2 hh3 hl2
  refine ⟨_, rfl, ?_⟩
  simp only [Act.put, List.setIfInBounds_toArray, List.set_cons_zero, List.set_cons_succ, List.getElem_toArray, List.getElem_cons_zero, List.getElem_cons_succ]
  (refine wpList_step fun K hK => ?_; replace hK := hide hK; go_simp; refine unhide hK _ _ ?_; clear hK K)
  refine wpList_nil ?_
  clear hO2
  go_upto_region 5 with fail
  refine wp_region_lit ?_
  refine list_val (.slice (some ⟨h2, 0, none⟩) 5 5) (by kernel_rfl) (by kernel_rfl) ?_
  simp only [Act.put, List.setIfInBounds_toArray, List.set_cons_zero, List.set_cons_succ, List.getElem_toArray, List.getElem_cons_zero, List.getElem_cons_succ]
  refine list_val (.pointer (some ⟨w.heap.size, 2, none⟩)) (by kernel_rfl) (by kernel_rfl) ?_
  simp only [Act.put, List.setIfInBounds_toArray, List.set_cons_zero, List.set_cons_succ, List.getElem_toArray, List.getElem_cons_zero, List.getElem_cons_succ]
  refine list_val (.int .u32 s) (by kernel_rfl) (exec_u32 _ (.tmp 17) rfl (w.heap.size) 2 (by kernel_rfl) s (ev_load (unhide hbl)).2.2) ?_
  simp only [Act.put, List.setIfInBounds_toArray, List.set_cons_zero, List.set_cons_succ, List.getElem_toArray, List.getElem_cons_zero, List.getElem_cons_succ]
  refine list_call 50 #[.slice (some ⟨h2, 0, none⟩) 5 5, .int .u32 s] (by kernel_rfl) (by kernel_rfl) ((put32g_ok ([k] ++ lowL a 4) (some ⟨h2, 0, none⟩) 5 5 s hs (by omega) u3 (unhide hlb2)).mono ?_)
  rintro r u4 ⟨h3, rfl, hh1, hh2, hh3⟩
  have hl2 : (([k] ++ lowL a 4) ++ lowL s 4).length = 9 := by simp [lowL_len]
  rw [hl2]
  have hO2 := hide (ob_of hh2 hl2 (Nat.le_trans (unhide hG).size hh1) (by omega))
  have hlb3 := hide (kc_lb hh2 hl2 (isB_append (unhide hlb2).isB (lowL_isB _ _)) (by decide))
  replace hG := hide ((unhide hG).trans hh3)
  replace hbl := hide (hh3.blk (unhide hbl))
  clear hh1 hh2 hh3 hl2
  refine ⟨_, rfl, ?_⟩
  simp only [Act.put, List.setIfInBounds_toArray, List.set_cons_zero, List.set_cons_succ, List.getElem_toArray, List.getElem_cons_zero, List.getElem_cons_succ]
  (refine wpList_step fun K hK => ?_; replace hK := hide hK; go_simp; refine unhide hK _ _ ?_; clear hK K)
  refine wpList_nil ?_
  go_upto_region 6 with fail
  refine wp_region_lit ?_
  refine list_val (.slice (some ⟨h3, 0, none⟩) 9 9) (by kernel_rfl) (by kernel_rfl) ?_
  simp only [Act.put, List.setIfInBounds_toArray, List.set_cons_zero, List.set_cons_succ, List.getElem_toArray, List.getElem_cons_zero, List.getElem_cons_succ]
  refine list_val (.pointer (some ⟨w.heap.size, 3, none⟩)) (by kernel_rfl) (by kernel_rfl) ?_
  simp only [Act.put, List.setIfInBounds_toArray, List.set_cons_zero, List.set_cons_succ, List.getElem_toArray, List.getElem_cons_zero, List.getElem_cons_succ]
  refine list_val (.slice (some ⟨w.heap.size, 3, none⟩) 105 105) (by kernel_rfl) (by kernel_rfl) ?_
  simp only [Act.put, List.setIfInBounds_toArray, List.set_cons_zero, List.set_cons_succ, List.getElem_toArray, List.getElem_cons_zero, List.getElem_cons_succ]
  refine app_bs (by kernel_rfl) (.tmp 20) (.tmp 22) rfl w.heap.size _ (([k] ++ lowL a 4) ++ lowL s 4) rfl (unhide hO2) (some ⟨w.heap.size, 3, none⟩) 105 105 B (by kernel_rfl) hl (.inr ⟨_, 3, rfl, at_mid (unhide hbl) (evl_body k a s B) rfl⟩) (by simp [lowL_len]) (unhide hG).size ?_
  intro v2 u5 hO3 hgr
  have hZ : Hid (Pok (evB k a s B) w (.returned (.tuple #[v2, .int .i64 0])) u5) := ⟨v2, rfl, hO3, (unhide hO2).grown (Nat.le_refl _) (unhide hG) hgr⟩
  clear hO3 hgr
  simp only [Act.put, List.setIfInBounds_toArray, List.set_cons_zero, List.set_cons_succ, List.getElem_toArray, List.getElem_cons_zero, List.getElem_cons_succ]
  (refine wpList_step fun K hK => ?_; replace hK := hide hK; go_simp; refine unhide hK _ _ ?_; clear hK K)
  (refine wpList_step fun K hK => ?_; replace hK := hide hK; go_simp; refine unhide hK _ _ ?_; clear hK K)
  refine wpList_nil ?_
  go_wp2_with fail
  rw [unhide hT]
  exact unhide hZ
/-- an envelope of bytes, as they seem -/
def evO (L : List Int) : List Value := evl (L.getD 0 0) (lowN ((L.drop 1).take 4)) (lowN ((L.drop 5).take 4)) ((L.drop 9).take 105)
def evRO (L : List Int) : Bool := evR (L.getD 0 0) (lowN ((L.drop 5).take 4)) ((L.drop 9).take 105)
theorem ev_set0 (k a s x : Int) (B : List Int) : (evl k a s B).toArray.setIfInBounds 0 (.int .i64 x) = (evl x a s B).toArray := by simp [evl]
theorem ev_set1 (k a s x : Int) (B : List Int) : (evl k a s B).toArray.setIfInBounds 1 (.int .u32 x) = (evl k x s B).toArray := by simp [evl]
theorem ev_set2 (k a s x : Int) (B : List Int) : (evl k a s B).toArray.setIfInBounds 2 (.int .u32 x) = (evl k a x B).toArray := by simp [evl]
set_option maxHeartbeats 4000000 in
theorem fgete_no (a : Option Addr) (m c : Nat) (hm : ¬ m = 114) (w : World) : Calls Try.prog 28 #[.slice a m c] w (Rno (evl 0 0 0 Z105).toArray 240 w) := by
  obtain ⟨T, hT⟩ : ∃ T, T = Rno (evl 0 0 0 Z105).toArray 240 w := ⟨_, rfl⟩
  rw [← hT]
  replace hT := hide hT
  have hmI : ¬ (m : Int) = 114 := by omega
  clear hm
  go_enter Try.func28, Try.ntmps28
  go_upto_region 0 with fail
  refine wp_region_lit ?_
  refine list_valw (.pointer (some ⟨w.heap.size, 0, none⟩)) (w.alloc (.cells (evl 0 0 0 Z105).toArray 55 (0, 0))) (by kernel_rfl) (by kernel_rfl) ?_
  have hB := (Bl.nil w).new (evl 0 0 0 Z105).toArray 55
  simp only [List.nil_append] at hB
  generalize World.alloc _ _ = u at *
  replace hB : Bl w [⟨w.heap.size, (evl 0 0 0 Z105).toArray, 55⟩] u := hB
  simp only [Act.put, List.setIfInBounds_toArray, List.set_cons_zero, List.set_cons_succ, List.getElem_toArray, List.getElem_cons_zero, List.getElem_cons_succ]
  (refine wpList_step fun K hK => ?_; replace hK := hide hK; go_simp; refine unhide hK _ _ ?_; clear hK K)
  refine wpList_nil ?_
  replace hB := hide hB
  go_upto_region 1 with fail
  replace hB := unhide hB
  refine wp_region_lit ?_
  refine list_val (.slice a m c) (by kernel_rfl) (by kernel_rfl) ?_
  simp only [Act.put, List.setIfInBounds_toArray, List.set_cons_zero, List.set_cons_succ, List.getElem_toArray, List.getElem_cons_zero, List.getElem_cons_succ]
  refine list_val (.int .i64 m) (by kernel_rfl) (by kernel_rfl) ?_
  simp only [Act.put, List.setIfInBounds_toArray, List.set_cons_zero, List.set_cons_succ, List.getElem_toArray, List.getElem_cons_zero, List.getElem_cons_succ]
  refine list_val (.bool true) (by kernel_rfl) (by go_simp) ?_
  simp only [Act.put, List.setIfInBounds_toArray, List.set_cons_zero, List.set_cons_succ, List.getElem_toArray, List.getElem_cons_zero, List.getElem_cons_succ]
  refine wpList_nil ?_
  replace hB := hide hB
  go_upto_region 2 with fail
  replace hB := unhide hB
  refine wp_region_lit ?_
  refine list_val (.agg (evl 0 0 0 Z105).toArray) (by kernel_rfl) (by kernel_rfl) ?_
  simp only [Act.put, List.setIfInBounds_toArray, List.set_cons_zero, List.set_cons_succ, List.getElem_toArray, List.getElem_cons_zero, List.getElem_cons_succ]
  refine list_store 55 (.tmp 2) (.tmp 9) (w.heap.size) (evl 0 0 0 Z105).toArray 55 (evl 0 0 0 Z105).toArray (by kernel_rfl) rfl (by kernel_rfl) (by kernel_rfl) (hB.get 0 (x := ⟨w.heap.size, (evl 0 0 0 Z105).toArray, 55⟩) rfl) (by rw [Try.infoE]; rfl) rfl (evl_one ..) ?_
  replace hB := hB.set 0 (x := ⟨w.heap.size, (evl 0 0 0 Z105).toArray, 55⟩) rfl (evl 0 0 0 Z105).toArray
  simp only [List.set_cons_zero, List.set_cons_succ] at hB
  generalize World.setRow _ _ _ = u2 at *
  replace hB : Bl w [⟨w.heap.size, (evl 0 0 0 Z105).toArray, 55⟩] u2 := hB
  simp only [Act.put, List.setIfInBounds_toArray, List.set_cons_zero, List.set_cons_succ, List.getElem_toArray, List.getElem_cons_zero, List.getElem_cons_succ]
  (refine wpList_step fun K hK => ?_; replace hK := hide hK; go_simp; refine unhide hK _ _ ?_; clear hK K)
  refine wpList_nil ?_
  replace hB := hide hB
  go_wp2_with fail
  replace hB := unhide hB
  rw [unhide hT]
  exact bodyPost_ret (v := .tuple #[.agg (evl 0 0 0 Z105).toArray, .int .i64 240]) (results_cell_tmp Try.results28 _ _ (w.heap.size) 55 (evl 0 0 0 Z105).toArray (0, 0) _ rfl (.int .i64 240) rfl (hB.get 0 (x := ⟨w.heap.size, (evl 0 0 0 Z105).toArray, 55⟩) rfl) Try.underlying55 rfl (by rw [Try.infoE]; rfl)) rfl ⟨rfl, hB.gr⟩
set_option maxHeartbeats 4000000 in
theorem fgete_ok (L : List Int) (a : Option Addr) (c0 : Nat) (w : World) (hB0 : Lb w a 114 c0 L) (hr : evRO L = true) : Calls Try.prog 28 #[.slice a 114 c0] w (Rno (evO L).toArray 0 w) := by
  obtain ⟨T, hT⟩ : ∃ T, T = Rno (evO L).toArray 0 w := ⟨_, rfl⟩
  rw [← hT]
  replace hT := hide hT
  obtain ⟨p0, q0, rfl, hB0⟩ := hB0.some (by omega)
  have hL := hB0.len
  have hLb := hide hB0.isB
  replace hB0 := hide hB0
  unfold evRO at hr
  replace hr := hide hr
  go_enter Try.func28, Try.ntmps28
  go_upto_region 0 with fail
  refine wp_region_lit ?_
  refine list_valw (.pointer (some ⟨w.heap.size, 0, none⟩)) (w.alloc (.cells (evl 0 0 0 Z105).toArray 55 (0, 0))) (by kernel_rfl) (by kernel_rfl) ?_
  have hB := (Bl.nil w).new (evl 0 0 0 Z105).toArray 55
  simp only [List.nil_append] at hB
  generalize World.alloc _ _ = u at *
  replace hB : Bl w [⟨w.heap.size, (evl 0 0 0 Z105).toArray, 55⟩] u := hB
  simp only [Act.put, List.setIfInBounds_toArray, List.set_cons_zero, List.set_cons_succ, List.getElem_toArray, List.getElem_cons_zero, List.getElem_cons_succ]
  (refine wpList_step fun K hK => ?_; replace hK := hide hK; go_simp; refine unhide hK _ _ ?_; clear hK K)
  refine wpList_nil ?_
  replace hB := hide hB
  go_upto_region 1 with fail
  replace hB := unhide hB
  refine wp_region_lit ?_
  refine list_val (.slice (some ⟨p0, q0, none⟩) 114 c0) (by kernel_rfl) (by kernel_rfl) ?_
  simp only [Act.put, List.setIfInBounds_toArray, List.set_cons_zero, List.set_cons_succ, List.getElem_toArray, List.getElem_cons_zero, List.getElem_cons_succ]
  refine list_val (.int .i64 114) (by kernel_rfl) (by kernel_rfl) ?_
  simp only [Act.put, List.setIfInBounds_toArray, List.set_cons_zero, List.set_cons_succ, List.getElem_toArray, List.getElem_cons_zero, List.getElem_cons_succ]
  refine list_val (.bool false) (by kernel_rfl) (by kernel_rfl) ?_
  simp only [Act.put, List.setIfInBounds_toArray, List.set_cons_zero, List.set_cons_succ, List.getElem_toArray, List.getElem_cons_zero, List.getElem_cons_succ]
  refine wpList_nil ?_
  replace hB := hide hB
  go_upto_region 3 with fail
  replace hB := unhide hB
  refine wp_region_lit ?_
  refine list_val (.slice (some ⟨p0, q0, none⟩) 114 c0) (by kernel_rfl) (by kernel_rfl) ?_
  simp only [Act.put, List.setIfInBounds_toArray, List.set_cons_zero, List.set_cons_succ, List.getElem_toArray, List.getElem_cons_zero, List.getElem_cons_succ]
  refine list_call 54 #[.slice (some ⟨p0, q0, none⟩) 114 c0] (by kernel_rfl) (by kernel_rfl) ((oreadt_ok L p0 q0 114 c0 u ((unhide hB0).gr hB.gr) (by omega) (by omega)).mono ?_)
  rintro r u1 ⟨g, p, c, rfl, hgg, hpp, hrd, hty, hgr⟩
  rw [hL] at hrd
  have hG : Gt g w [⟨w.heap.size, (evl 0 0 0 Z105).toArray, 55⟩] p 114 c 0 L u1 := hB.gt hgr hgg hpp hrd hty (by intro y hy; rw [List.mem_singleton.1 hy]; exact ⟨(by decide : (55 : TypeId) ≠ 126), (by decide : (55 : TypeId) ≠ 5)⟩)
  have hwg : w.heap.size ≤ g := Nat.le_trans hB.gr.size hgg
  clear hB hgr hgg hpp hrd hty
  refine ⟨_, rfl, ?_⟩
  simp only [Act.put, List.setIfInBounds_toArray, List.set_cons_zero, List.set_cons_succ, List.getElem_toArray, List.getElem_cons_zero, List.getElem_cons_succ]
  (refine wpList_step fun K hK => ?_; replace hK := hide hK; go_simp; refine unhide hK _ _ ?_; clear hK K)
  refine wpList_nil ?_
  replace hG := hide hG
  go_upto_region 4 with fail
  replace hG := unhide hG
  refine wp_region_lit ?_
  refine list_valw (.pointer (some ⟨u1.heap.size, 0, none⟩)) (u1.alloc (.cells (evl 0 0 0 Z105).toArray 55 (0, 0))) (by kernel_rfl) (by kernel_rfl) ?_
  replace hG := hG.new (evl 0 0 0 Z105).toArray 55 ⟨by decide, by decide⟩
  simp only [List.nil_append, List.cons_append] at hG
  generalize World.alloc _ _ = u2 at *
  generalize u1.heap.size = q5 at *
  replace hG : Gt g w [⟨w.heap.size, (evl 0 0 0 Z105).toArray, 55⟩, ⟨q5, (evl 0 0 0 Z105).toArray, 55⟩] p 114 c (0) L u2 := hG
  simp only [Act.put, List.setIfInBounds_toArray, List.set_cons_zero, List.set_cons_succ, List.getElem_toArray, List.getElem_cons_zero, List.getElem_cons_succ]
  refine wpList_nil ?_
  replace hG := hide hG
  go_upto_region 5 with fail
  replace hG := unhide hG
  refine wp_region_lit ?_
  refine list_val (.pointer (some ⟨g, 0, none⟩)) (by kernel_rfl) (by kernel_rfl) ?_
  simp only [Act.put, List.setIfInBounds_toArray, List.set_cons_zero, List.set_cons_succ, List.getElem_toArray, List.getElem_cons_zero, List.getElem_cons_succ]
  refine list_call 59 #[P0 g] (by kernel_rfl) (by kernel_rfl) ((fone_ok g p 114 c (0) L u2 hG.rd (by omega) (by omega)).mono ?_)
  rintro r u3a ⟨rfl, hR1, hb1⟩
  replace hG := hG.read hR1 hb1
  clear hR1 hb1
  obtain ⟨k1, hk10⟩ : ∃ x, x = L.getD 0 0 := ⟨_, rfl⟩
  rw [← hk10]
  refine ⟨_, rfl, ?_⟩
  replace hk10 := hide hk10
  simp only [Act.put, List.setIfInBounds_toArray, List.set_cons_zero, List.set_cons_succ, List.getElem_toArray, List.getElem_cons_zero, List.getElem_cons_succ]
  refine list_val (.pointer (some ⟨q5, 0, none⟩)) (by kernel_rfl) (by kernel_rfl) ?_
  simp only [Act.put, List.setIfInBounds_toArray, List.set_cons_zero, List.set_cons_succ, List.getElem_toArray, List.getElem_cons_zero, List.getElem_cons_succ]
  have c4 := cell_of (hG.get 1 (x := ⟨q5, (evl 0 0 0 Z105).toArray, 55⟩) rfl) (i := 0) rfl
  have fz := froz_of (i := 0) (hG.get 1 (x := ⟨q5, (evl 0 0 0 Z105).toArray, 55⟩) rfl)
  have hG2 := hG.cell 1 (x := ⟨q5, (evl 0 0 0 Z105).toArray, 55⟩) rfl 0 (.int .i64 k1)
  simp only [List.set_cons_zero, List.set_cons_succ] at hG2
  rw [ev_set0] at hG2
  clear hG
  replace hG2 := hide hG2
  dsimp only at c4 fz
  (refine wpList_step fun K hK => ?_; replace hK := hide hK; go_simp; refine unhide hK _ _ ?_; clear hK K)
  clear c4 fz
  have hG := unhide hG2
  clear hG2
  generalize World.setCell _ _ _ = u3 at *
  replace hG : Gt g w [⟨w.heap.size, (evl 0 0 0 Z105).toArray, 55⟩, ⟨q5, (evl k1 0 0 Z105).toArray, 55⟩] p 114 c (0 + 1) L u3 := hG
  refine wpList_nil ?_
  replace hG : Gt g w [⟨w.heap.size, (evl 0 0 0 Z105).toArray, 55⟩, ⟨q5, (evl k1 0 0 Z105).toArray, 55⟩] p 114 c (1) L u3 := hG
  replace hG := hide hG
  go_upto_region 6 with fail
  replace hG := unhide hG
  refine wp_region_lit ?_
  refine list_val (.pointer (some ⟨g, 0, none⟩)) (by kernel_rfl) (by kernel_rfl) ?_
  simp only [Act.put, List.setIfInBounds_toArray, List.set_cons_zero, List.set_cons_succ, List.getElem_toArray, List.getElem_cons_zero, List.getElem_cons_succ]
  refine list_call 60 #[P0 g] (by kernel_rfl) (by kernel_rfl) ((ru32_ok g p 114 c (1) L u3 hG.rd (by omega) (by omega)).mono ?_)
  rintro r u4a ⟨rfl, hR1, hb1⟩
  replace hG := hG.read hR1 hb1
  clear hR1 hb1
  obtain ⟨a1, ha10⟩ : ∃ x, x = lowN ((L.drop 1).take 4) := ⟨_, rfl⟩
  rw [← ha10]
  refine ⟨_, rfl, ?_⟩
  replace ha10 := hide ha10
  simp only [Act.put, List.setIfInBounds_toArray, List.set_cons_zero, List.set_cons_succ, List.getElem_toArray, List.getElem_cons_zero, List.getElem_cons_succ]
  refine list_val (.pointer (some ⟨q5, 1, none⟩)) (by kernel_rfl) (by kernel_rfl) ?_
  simp only [Act.put, List.setIfInBounds_toArray, List.set_cons_zero, List.set_cons_succ, List.getElem_toArray, List.getElem_cons_zero, List.getElem_cons_succ]
  have c4 := cell_of (hG.get 1 (x := ⟨q5, (evl k1 0 0 Z105).toArray, 55⟩) rfl) (i := 1) rfl
  have fz := froz_of (i := 1) (hG.get 1 (x := ⟨q5, (evl k1 0 0 Z105).toArray, 55⟩) rfl)
  have hG2 := hG.cell 1 (x := ⟨q5, (evl k1 0 0 Z105).toArray, 55⟩) rfl 1 (.int .u32 a1)
  simp only [List.set_cons_zero, List.set_cons_succ] at hG2
  rw [ev_set1] at hG2
  clear hG
  replace hG2 := hide hG2
  dsimp only at c4 fz
  (refine wpList_step fun K hK => ?_; replace hK := hide hK; go_simp; refine unhide hK _ _ ?_; clear hK K)
  clear c4 fz
  have hG := unhide hG2
  clear hG2
  generalize World.setCell _ _ _ = u4 at *
  replace hG : Gt g w [⟨w.heap.size, (evl 0 0 0 Z105).toArray, 55⟩, ⟨q5, (evl k1 a1 0 Z105).toArray, 55⟩] p 114 c (1 + 4) L u4 := hG
  refine wpList_nil ?_
  replace hG : Gt g w [⟨w.heap.size, (evl 0 0 0 Z105).toArray, 55⟩, ⟨q5, (evl k1 a1 0 Z105).toArray, 55⟩] p 114 c (5) L u4 := hG
  replace hG := hide hG
  go_upto_region 7 with fail
  replace hG := unhide hG
  refine wp_region_lit ?_
  refine list_val (.pointer (some ⟨g, 0, none⟩)) (by kernel_rfl) (by kernel_rfl) ?_
  simp only [Act.put, List.setIfInBounds_toArray, List.set_cons_zero, List.set_cons_succ, List.getElem_toArray, List.getElem_cons_zero, List.getElem_cons_succ]
  refine list_call 60 #[P0 g] (by kernel_rfl) (by kernel_rfl) ((ru32_ok g p 114 c (5) L u4 hG.rd (by omega) (by omega)).mono ?_)
  rintro r u5a ⟨rfl, hR1, hb1⟩
  replace hG := hG.read hR1 hb1
  clear hR1 hb1
  obtain ⟨s1, hs10⟩ : ∃ x, x = lowN ((L.drop 5).take 4) := ⟨_, rfl⟩
  rw [← hs10]
  refine ⟨_, rfl, ?_⟩
  replace hs10 := hide hs10
  simp only [Act.put, List.setIfInBounds_toArray, List.set_cons_zero, List.set_cons_succ, List.getElem_toArray, List.getElem_cons_zero, List.getElem_cons_succ]
  refine list_val (.pointer (some ⟨q5, 2, none⟩)) (by kernel_rfl) (by kernel_rfl) ?_
  simp only [Act.put, List.setIfInBounds_toArray, List.set_cons_zero, List.set_cons_succ, List.getElem_toArray, List.getElem_cons_zero, List.getElem_cons_succ]
  have c4 := cell_of (hG.get 1 (x := ⟨q5, (evl k1 a1 0 Z105).toArray, 55⟩) rfl) (i := 2) rfl
  have fz := froz_of (i := 2) (hG.get 1 (x := ⟨q5, (evl k1 a1 0 Z105).toArray, 55⟩) rfl)
  have hG2 := hG.cell 1 (x := ⟨q5, (evl k1 a1 0 Z105).toArray, 55⟩) rfl 2 (.int .u32 s1)
  simp only [List.set_cons_zero, List.set_cons_succ] at hG2
  rw [ev_set2] at hG2
  clear hG
  replace hG2 := hide hG2
  dsimp only at c4 fz
  (refine wpList_step fun K hK => ?_; replace hK := hide hK; go_simp; refine unhide hK _ _ ?_; clear hK K)
  clear c4 fz
  have hG := unhide hG2
  clear hG2
  generalize World.setCell _ _ _ = u5 at *
  replace hG : Gt g w [⟨w.heap.size, (evl 0 0 0 Z105).toArray, 55⟩, ⟨q5, (evl k1 a1 s1 Z105).toArray, 55⟩] p 114 c (5 + 4) L u5 := hG
  refine wpList_nil ?_
  replace hG : Gt g w [⟨w.heap.size, (evl 0 0 0 Z105).toArray, 55⟩, ⟨q5, (evl k1 a1 s1 Z105).toArray, 55⟩] p 114 c (9) L u5 := hG
  replace hG := hide hG
  go_upto_region 8 with fail
  replace hG := unhide hG
  refine any_start (S := fun _ => True) (by kernel_rfl) ?_
  replace hG := hG.more (Gr.refl _).drew
  generalize World.drew _ = x_B at *
  simp only [List.size_toArray, List.length_cons, List.length_nil, Array.replicate, List.replicate]
  refine any_take (i := 0) (v := (.pointer (some ⟨q5, 3, none⟩))) #[false, false, false, false, false] rfl (by kernel_rfl) (by kernel_rfl) (by kernel_rfl) (by kernel_rfl) (fun _ _ _ h => h) (.inl ⟨by kernel_rfl, fun x_ hu => by kernel_rfl⟩) trivial ?_
  simp only [Act.put, List.setIfInBounds_toArray, List.set_cons_zero, List.set_cons_succ, List.getElem_toArray, List.getElem_cons_zero, List.getElem_cons_succ]
  refine any_take (i := 1) (v := (.slice (some ⟨q5, 3, none⟩) 105 105)) #[true, false, false, false, false] rfl (by kernel_rfl) (by kernel_rfl) (by kernel_rfl) (by kernel_rfl) (fun _ _ _ h => h) (.inl ⟨by kernel_rfl, fun x_ hu => by kernel_rfl⟩) trivial ?_
  simp only [Act.put, List.setIfInBounds_toArray, List.set_cons_zero, List.set_cons_succ, List.getElem_toArray, List.getElem_cons_zero, List.getElem_cons_succ]
  refine any_take (i := 2) (v := (.pointer (some ⟨g, 0, none⟩))) #[true, true, false, false, false] rfl (by kernel_rfl) (by kernel_rfl) (by kernel_rfl) (by kernel_rfl) (fun _ _ _ h => h) (.inl ⟨by kernel_rfl, fun x_ hu => by kernel_rfl⟩) trivial ?_
  simp only [Act.put, List.setIfInBounds_toArray, List.set_cons_zero, List.set_cons_succ, List.getElem_toArray, List.getElem_cons_zero, List.getElem_cons_succ]
  refine any_one (i := 3) (by kernel_rfl) rfl (fun K_ hQ => ?_)
  refine step_callw (by kernel_rfl) 55 #[P0 g, .int .i64 ((105 : Nat) : Int)] (by kernel_rfl) ((rraw_ok g p 114 c (9) 105 L x_B hG.rd (by omega) (by omega) (by omega)).mono ?_)
  rintro r y_B ⟨v, rfl, hO, hR1, hb1⟩
  refine ⟨_, rfl, ?_⟩
  obtain ⟨B, hB0⟩ : ∃ X, X = ((L.drop (9)).take 105) := ⟨_, rfl⟩
  rw [← hB0] at hO
  have hlB : B.length = 105 := by rw [hB0]; exact sub_len hL (by omega)
  have hbB : IsB B := by rw [hB0]; exact sub_isB (unhide hLb) _ _
  obtain ⟨ar_B, cr_B, rfl, hlr⟩ := ob_lb hO hbB hlB
  replace hG := hG.read hR1 hb1
  clear hO hR1 hb1
  replace hB0 := hide hB0; replace hbB := hide hbB
  refine hQ.out _ _ trivial (fun _ => ?_)
  clear hQ K_
  simp only [Act.put, List.setIfInBounds_toArray, List.set_cons_zero, List.set_cons_succ, List.getElem_toArray, List.getElem_cons_zero, List.getElem_cons_succ]
  refine any_one (i := 4) (by kernel_rfl) rfl (fun K_ hQ => ?_)
  rw [if_pos (by kernel_rfl)]
  refine copy_wp (.tmp 22) (.tmp 24) rfl (q5) 3 105 105 ar_B 105 cr_B (by kernel_rfl) (by kernel_rfl) (evl k1 a1 s1 Z105) 55 (hG.get 1 (x := ⟨q5, (evl k1 a1 s1 Z105).toArray, 55⟩) rfl) B (by rw [hlB]; rfl) hlr.sl (by rw [hlB, evl_len _ _ _ rfl]; decide) ?_
  replace hG := hG.cells 1 (q := q5) (C := evl k1 a1 s1 Z105) (t := 55) rfl 3 (bv B)
  simp only [List.set_cons_zero, List.set_cons_succ] at hG
  rw [evl_setb k1 a1 s1 Z105 B (by rw [hlB]; rfl)] at hG
  have eb : B.map (Value.int .u8) = bv B := rfl
  rw [eb]
  generalize World.setCells _ _ _ _ = u6 at *
  replace hG : Gt g w [⟨w.heap.size, (evl 0 0 0 Z105).toArray, 55⟩, ⟨q5, (evl k1 a1 s1 B).toArray, 55⟩] p 114 c (9 + 105) L u6 := hG
  rw [hlB]
  clear hlr eb
  refine hQ.out _ _ trivial (fun _ => ?_)
  clear hQ K_
  simp only [Act.put, List.setIfInBounds_toArray, List.set_cons_zero, List.set_cons_succ, List.getElem_toArray, List.getElem_cons_zero, List.getElem_cons_succ]
  refine any_done (by kernel_rfl) ?_
  rw [← unhide hk10, ← unhide hs10, ← unhide hB0] at hr
  replace hG := hide hG
  go_upto_region 9 with fail
  replace hG := unhide hG
  refine wp_region_lit ?_
  refine list_val (.agg (evl k1 a1 s1 B).toArray) (by kernel_rfl) (exec_arr _ 55 (.tmp 5) rfl q5 (by kernel_rfl) (evl k1 a1 s1 B).toArray 55 _ (hG.get 1 (x := ⟨q5, (evl k1 a1 s1 B).toArray, 55⟩) rfl) Try.underlying55 rfl (by rw [Try.infoE, List.size_toArray, evl_len _ _ _ hlB])) ?_
  simp only [Act.put, List.setIfInBounds_toArray, List.set_cons_zero, List.set_cons_succ, List.getElem_toArray, List.getElem_cons_zero, List.getElem_cons_succ]
  refine list_call 57 #[.agg (evl k1 a1 s1 B).toArray] (by kernel_rfl) (by kernel_rfl) ((fev_ok k1 a1 s1 B hlB (unhide hbB) u6).mono ?_)
  rintro r u7 ⟨rfl, hg1⟩
  rw [unhide hr]
  replace hG := hG.more hg1
  clear hg1
  refine ⟨_, rfl, ?_⟩
  simp only [Act.put, List.setIfInBounds_toArray, List.set_cons_zero, List.set_cons_succ, List.getElem_toArray, List.getElem_cons_zero, List.getElem_cons_succ]
  refine list_val (.bool false) (by kernel_rfl) (by kernel_rfl) ?_
  simp only [Act.put, List.setIfInBounds_toArray, List.set_cons_zero, List.set_cons_succ, List.getElem_toArray, List.getElem_cons_zero, List.getElem_cons_succ]
  refine wpList_nil ?_
  replace hG := hide hG
  go_upto_region 11 with fail
  replace hG := unhide hG
  refine wp_region_lit ?_
  refine list_val (.agg (evl k1 a1 s1 B).toArray) (by kernel_rfl) (exec_arr _ 55 (.tmp 5) rfl q5 (by kernel_rfl) (evl k1 a1 s1 B).toArray 55 _ (hG.get 1 (x := ⟨q5, (evl k1 a1 s1 B).toArray, 55⟩) rfl) Try.underlying55 rfl (by rw [Try.infoE, List.size_toArray, evl_len _ _ _ hlB])) ?_
  simp only [Act.put, List.setIfInBounds_toArray, List.set_cons_zero, List.set_cons_succ, List.getElem_toArray, List.getElem_cons_zero, List.getElem_cons_succ]
  refine list_store 55 (.tmp 2) (.tmp 30) (w.heap.size) (evl k1 a1 s1 B).toArray 55 (evl 0 0 0 Z105).toArray (by kernel_rfl) rfl (by kernel_rfl) (by kernel_rfl) (hG.get 0 (x := ⟨w.heap.size, (evl 0 0 0 Z105).toArray, 55⟩) rfl) (by rw [Try.infoE, List.size_toArray, evl_len _ _ _ hlB]) (by rw [List.size_toArray, List.size_toArray, evl_len _ _ _ hlB]; rfl) (evl_one ..) ?_
  replace hG := hG.set 0 (x := ⟨w.heap.size, (evl 0 0 0 Z105).toArray, 55⟩) rfl (evl k1 a1 s1 B).toArray
  simp only [List.set_cons_zero, List.set_cons_succ] at hG
  generalize World.setRow _ _ _ = u8 at *
  replace hG : Gt g w [⟨w.heap.size, (evl k1 a1 s1 B).toArray, 55⟩, ⟨q5, (evl k1 a1 s1 B).toArray, 55⟩] p 114 c (9 + 105) L u8 := hG
  simp only [Act.put, List.setIfInBounds_toArray, List.set_cons_zero, List.set_cons_succ, List.getElem_toArray, List.getElem_cons_zero, List.getElem_cons_succ]
  (refine wpList_step fun K hK => ?_; replace hK := hide hK; go_simp; refine unhide hK _ _ ?_; clear hK K)
  refine wpList_nil ?_
  have hbk : Hid (u8.heap[w.heap.size]? = some (.cells (evl k1 a1 s1 B).toArray 55 (0, 0))) := (hG.get 0 (x := ⟨w.heap.size, (evl k1 a1 s1 B).toArray, 55⟩) rfl)
  have hP : Hid (T (.returned (.tuple #[.agg (evl k1 a1 s1 B).toArray, .int .i64 0])) u8) := by
    rw [unhide hT]
    exact ⟨by unfold evO; rw [unhide hk10, unhide ha10, unhide hs10, unhide hB0], hG.gr hwg⟩
  clear hG
  go_wp2_with fail
  exact bodyPost_ret (v := .tuple #[.agg (evl k1 a1 s1 B).toArray, .int .i64 0]) (results_cell_tmp Try.results28 _ _ (w.heap.size) 55 (evl k1 a1 s1 B).toArray (0, 0) _ rfl (.int .i64 0) rfl (unhide hbk) Try.underlying55 rfl (by rw [Try.infoE, List.size_toArray, evl_len _ _ _ hlB])) rfl (unhide hP)
set_option maxHeartbeats 4000000 in
theorem fgete_bad (L : List Int) (a : Option Addr) (c0 : Nat) (w : World) (hB0 : Lb w a 114 c0 L) (hr : evRO L = false) : Calls Try.prog 28 #[.slice a 114 c0] w (Rno (evl 0 0 0 Z105).toArray 241 w) := by
  obtain ⟨T, hT⟩ : ∃ T, T = Rno (evl 0 0 0 Z105).toArray 241 w := ⟨_, rfl⟩
  rw [← hT]
  replace hT := hide hT
  obtain ⟨p0, q0, rfl, hB0⟩ := hB0.some (by omega)
  have hL := hB0.len
  have hLb := hide hB0.isB
  replace hB0 := hide hB0
  unfold evRO at hr
  replace hr := hide hr
  go_enter Try.func28, Try.ntmps28
  go_upto_region 0 with fail
  refine wp_region_lit ?_
  refine list_valw (.pointer (some ⟨w.heap.size, 0, none⟩)) (w.alloc (.cells (evl 0 0 0 Z105).toArray 55 (0, 0))) (by kernel_rfl) (by kernel_rfl) ?_
  have hB := (Bl.nil w).new (evl 0 0 0 Z105).toArray 55
  simp only [List.nil_append] at hB
  generalize World.alloc _ _ = u at *
  replace hB : Bl w [⟨w.heap.size, (evl 0 0 0 Z105).toArray, 55⟩] u := hB
  simp only [Act.put, List.setIfInBounds_toArray, List.set_cons_zero, List.set_cons_succ, List.getElem_toArray, List.getElem_cons_zero, List.getElem_cons_succ]
  (refine wpList_step fun K hK => ?_; replace hK := hide hK; go_simp; refine unhide hK _ _ ?_; clear hK K)
  refine wpList_nil ?_
  replace hB := hide hB
  go_upto_region 1 with fail
  replace hB := unhide hB
  refine wp_region_lit ?_
  refine list_val (.slice (some ⟨p0, q0, none⟩) 114 c0) (by kernel_rfl) (by kernel_rfl) ?_
  simp only [Act.put, List.setIfInBounds_toArray, List.set_cons_zero, List.set_cons_succ, List.getElem_toArray, List.getElem_cons_zero, List.getElem_cons_succ]
  refine list_val (.int .i64 114) (by kernel_rfl) (by kernel_rfl) ?_
  simp only [Act.put, List.setIfInBounds_toArray, List.set_cons_zero, List.set_cons_succ, List.getElem_toArray, List.getElem_cons_zero, List.getElem_cons_succ]
  refine list_val (.bool false) (by kernel_rfl) (by kernel_rfl) ?_
  simp only [Act.put, List.setIfInBounds_toArray, List.set_cons_zero, List.set_cons_succ, List.getElem_toArray, List.getElem_cons_zero, List.getElem_cons_succ]
  refine wpList_nil ?_
  replace hB := hide hB
  go_upto_region 3 with fail
  replace hB := unhide hB
  refine wp_region_lit ?_
  refine list_val (.slice (some ⟨p0, q0, none⟩) 114 c0) (by kernel_rfl) (by kernel_rfl) ?_
  simp only [Act.put, List.setIfInBounds_toArray, List.set_cons_zero, List.set_cons_succ, List.getElem_toArray, List.getElem_cons_zero, List.getElem_cons_succ]
  refine list_call 54 #[.slice (some ⟨p0, q0, none⟩) 114 c0] (by kernel_rfl) (by kernel_rfl) ((oreadt_ok L p0 q0 114 c0 u ((unhide hB0).gr hB.gr) (by omega) (by omega)).mono ?_)
  rintro r u1 ⟨g, p, c, rfl, hgg, hpp, hrd, hty, hgr⟩
  rw [hL] at hrd
  have hG : Gt g w [⟨w.heap.size, (evl 0 0 0 Z105).toArray, 55⟩] p 114 c 0 L u1 := hB.gt hgr hgg hpp hrd hty (by intro y hy; rw [List.mem_singleton.1 hy]; exact ⟨(by decide : (55 : TypeId) ≠ 126), (by decide : (55 : TypeId) ≠ 5)⟩)
  have hwg : w.heap.size ≤ g := Nat.le_trans hB.gr.size hgg
  clear hB hgr hgg hpp hrd hty
  refine ⟨_, rfl, ?_⟩
  simp only [Act.put, List.setIfInBounds_toArray, List.set_cons_zero, List.set_cons_succ, List.getElem_toArray, List.getElem_cons_zero, List.getElem_cons_succ]
  (refine wpList_step fun K hK => ?_; replace hK := hide hK; go_simp; refine unhide hK _ _ ?_; clear hK K)
  refine wpList_nil ?_
  replace hG := hide hG
  go_upto_region 4 with fail
  replace hG := unhide hG
  refine wp_region_lit ?_
  refine list_valw (.pointer (some ⟨u1.heap.size, 0, none⟩)) (u1.alloc (.cells (evl 0 0 0 Z105).toArray 55 (0, 0))) (by kernel_rfl) (by kernel_rfl) ?_
  replace hG := hG.new (evl 0 0 0 Z105).toArray 55 ⟨by decide, by decide⟩
  simp only [List.nil_append, List.cons_append] at hG
  generalize World.alloc _ _ = u2 at *
  generalize u1.heap.size = q5 at *
  replace hG : Gt g w [⟨w.heap.size, (evl 0 0 0 Z105).toArray, 55⟩, ⟨q5, (evl 0 0 0 Z105).toArray, 55⟩] p 114 c (0) L u2 := hG
  simp only [Act.put, List.setIfInBounds_toArray, List.set_cons_zero, List.set_cons_succ, List.getElem_toArray, List.getElem_cons_zero, List.getElem_cons_succ]
  refine wpList_nil ?_
  replace hG := hide hG
  go_upto_region 5 with fail
  replace hG := unhide hG
  refine wp_region_lit ?_
  refine list_val (.pointer (some ⟨g, 0, none⟩)) (by kernel_rfl) (by kernel_rfl) ?_
  simp only [Act.put, List.setIfInBounds_toArray, List.set_cons_zero, List.set_cons_succ, List.getElem_toArray, List.getElem_cons_zero, List.getElem_cons_succ]
  refine list_call 59 #[P0 g] (by kernel_rfl) (by kernel_rfl) ((fone_ok g p 114 c (0) L u2 hG.rd (by omega) (by omega)).mono ?_)
  rintro r u3a ⟨rfl, hR1, hb1⟩
  replace hG := hG.read hR1 hb1
  clear hR1 hb1
  obtain ⟨k1, hk10⟩ : ∃ x, x = L.getD 0 0 := ⟨_, rfl⟩
  rw [← hk10]
  refine ⟨_, rfl, ?_⟩
  replace hk10 := hide hk10
  simp only [Act.put, List.setIfInBounds_toArray, List.set_cons_zero, List.set_cons_succ, List.getElem_toArray, List.getElem_cons_zero, List.getElem_cons_succ]
  refine list_val (.pointer (some ⟨q5, 0, none⟩)) (by kernel_rfl) (by kernel_rfl) ?_
  simp only [Act.put, List.setIfInBounds_toArray, List.set_cons_zero, List.set_cons_succ, List.getElem_toArray, List.getElem_cons_zero, List.getElem_cons_succ]
  have c4 := cell_of (hG.get 1 (x := ⟨q5, (evl 0 0 0 Z105).toArray, 55⟩) rfl) (i := 0) rfl
  have fz := froz_of (i := 0) (hG.get 1 (x := ⟨q5, (evl 0 0 0 Z105).toArray, 55⟩) rfl)
  have hG2 := hG.cell 1 (x := ⟨q5, (evl 0 0 0 Z105).toArray, 55⟩) rfl 0 (.int .i64 k1)
  simp only [List.set_cons_zero, List.set_cons_succ] at hG2
  rw [ev_set0] at hG2
  clear hG
  replace hG2 := hide hG2
  dsimp only at c4 fz
  (refine wpList_step fun K hK => ?_; replace hK := hide hK; go_simp; refine unhide hK _ _ ?_; clear hK K)
  clear c4 fz
  have hG := unhide hG2
  clear hG2
  generalize World.setCell _ _ _ = u3 at *
  replace hG : Gt g w [⟨w.heap.size, (evl 0 0 0 Z105).toArray, 55⟩, ⟨q5, (evl k1 0 0 Z105).toArray, 55⟩] p 114 c (0 + 1) L u3 := hG
  refine wpList_nil ?_
  replace hG : Gt g w [⟨w.heap.size, (evl 0 0 0 Z105).toArray, 55⟩, ⟨q5, (evl k1 0 0 Z105).toArray, 55⟩] p 114 c (1) L u3 := hG
  replace hG := hide hG
  go_upto_region 6 with fail
  replace hG := unhide hG
  refine wp_region_lit ?_
  refine list_val (.pointer (some ⟨g, 0, none⟩)) (by kernel_rfl) (by kernel_rfl) ?_
  simp only [Act.put, List.setIfInBounds_toArray, List.set_cons_zero, List.set_cons_succ, List.getElem_toArray, List.getElem_cons_zero, List.getElem_cons_succ]
  refine list_call 60 #[P0 g] (by kernel_rfl) (by kernel_rfl) ((ru32_ok g p 114 c (1) L u3 hG.rd (by omega) (by omega)).mono ?_)
  rintro r u4a ⟨rfl, hR1, hb1⟩
  replace hG := hG.read hR1 hb1
  clear hR1 hb1
  obtain ⟨a1, ha10⟩ : ∃ x, x = lowN ((L.drop 1).take 4) := ⟨_, rfl⟩
  rw [← ha10]
  refine ⟨_, rfl, ?_⟩
  replace ha10 := hide ha10
  simp only [Act.put, List.setIfInBounds_toArray, List.set_cons_zero, List.set_cons_succ, List.getElem_toArray, List.getElem_cons_zero, List.getElem_cons_succ]
  refine list_val (.pointer (some ⟨q5, 1, none⟩)) (by kernel_rfl) (by kernel_rfl) ?_
  simp only [Act.put, List.setIfInBounds_toArray, List.set_cons_zero, List.set_cons_succ, List.getElem_toArray, List.getElem_cons_zero, List.getElem_cons_succ]
  have c4 := cell_of (hG.get 1 (x := ⟨q5, (evl k1 0 0 Z105).toArray, 55⟩) rfl) (i := 1) rfl
  have fz := froz_of (i := 1) (hG.get 1 (x := ⟨q5, (evl k1 0 0 Z105).toArray, 55⟩) rfl)
  have hG2 := hG.cell 1 (x := ⟨q5, (evl k1 0 0 Z105).toArray, 55⟩) rfl 1 (.int .u32 a1)
  simp only [List.set_cons_zero, List.set_cons_succ] at hG2
  rw [ev_set1] at hG2
  clear hG
  replace hG2 := hide hG2
  dsimp only at c4 fz
  (refine wpList_step fun K hK => ?_; replace hK := hide hK; go_simp; refine unhide hK _ _ ?_; clear hK K)
  clear c4 fz
  have hG := unhide hG2
  clear hG2
  generalize World.setCell _ _ _ = u4 at *
  replace hG : Gt g w [⟨w.heap.size, (evl 0 0 0 Z105).toArray, 55⟩, ⟨q5, (evl k1 a1 0 Z105).toArray, 55⟩] p 114 c (1 + 4) L u4 := hG
  refine wpList_nil ?_
  replace hG : Gt g w [⟨w.heap.size, (evl 0 0 0 Z105).toArray, 55⟩, ⟨q5, (evl k1 a1 0 Z105).toArray, 55⟩] p 114 c (5) L u4 := hG
  replace hG := hide hG
  go_upto_region 7 with fail
  replace hG := unhide hG
  refine wp_region_lit ?_
  refine list_val (.pointer (some ⟨g, 0, none⟩)) (by kernel_rfl) (by kernel_rfl) ?_
  simp only [Act.put, List.setIfInBounds_toArray, List.set_cons_zero, List.set_cons_succ, List.getElem_toArray, List.getElem_cons_zero, List.getElem_cons_succ]
  refine list_call 60 #[P0 g] (by kernel_rfl) (by kernel_rfl) ((ru32_ok g p 114 c (5) L u4 hG.rd (by omega) (by omega)).mono ?_)
  rintro r u5a ⟨rfl, hR1, hb1⟩
  replace hG := hG.read hR1 hb1
  clear hR1 hb1
  obtain ⟨s1, hs10⟩ : ∃ x, x = lowN ((L.drop 5).take 4) := ⟨_, rfl⟩
  rw [← hs10]
  refine ⟨_, rfl, ?_⟩
  replace hs10 := hide hs10
  simp only [Act.put, List.setIfInBounds_toArray, List.set_cons_zero, List.set_cons_succ, List.getElem_toArray, List.getElem_cons_zero, List.getElem_cons_succ]
  refine list_val (.pointer (some ⟨q5, 2, none⟩)) (by kernel_rfl) (by kernel_rfl) ?_
  simp only [Act.put, List.setIfInBounds_toArray, List.set_cons_zero, List.set_cons_succ, List.getElem_toArray, List.getElem_cons_zero, List.getElem_cons_succ]
  have c4 := cell_of (hG.get 1 (x := ⟨q5, (evl k1 a1 0 Z105).toArray, 55⟩) rfl) (i := 2) rfl
  have fz := froz_of (i := 2) (hG.get 1 (x := ⟨q5, (evl k1 a1 0 Z105).toArray, 55⟩) rfl)
  have hG2 := hG.cell 1 (x := ⟨q5, (evl k1 a1 0 Z105).toArray, 55⟩) rfl 2 (.int .u32 s1)
  simp only [List.set_cons_zero, List.set_cons_succ] at hG2
  rw [ev_set2] at hG2
  clear hG
  replace hG2 := hide hG2
  dsimp only at c4 fz
  (refine wpList_step fun K hK => ?_; replace hK := hide hK; go_simp; refine unhide hK _ _ ?_; clear hK K)
  clear c4 fz
  have hG := unhide hG2
  clear hG2
  generalize World.setCell _ _ _ = u5 at *
  replace hG : Gt g w [⟨w.heap.size, (evl 0 0 0 Z105).toArray, 55⟩, ⟨q5, (evl k1 a1 s1 Z105).toArray, 55⟩] p 114 c (5 + 4) L u5 := hG
  refine wpList_nil ?_
  replace hG : Gt g w [⟨w.heap.size, (evl 0 0 0 Z105).toArray, 55⟩, ⟨q5, (evl k1 a1 s1 Z105).toArray, 55⟩] p 114 c (9) L u5 := hG
  replace hG := hide hG
  go_upto_region 8 with fail
  replace hG := unhide hG
  refine any_start (S := fun _ => True) (by kernel_rfl) ?_
  replace hG := hG.more (Gr.refl _).drew
  generalize World.drew _ = x_B at *
  simp only [List.size_toArray, List.length_cons, List.length_nil, Array.replicate, List.replicate]
  refine any_take (i := 0) (v := (.pointer (some ⟨q5, 3, none⟩))) #[false, false, false, false, false] rfl (by kernel_rfl) (by kernel_rfl) (by kernel_rfl) (by kernel_rfl) (fun _ _ _ h => h) (.inl ⟨by kernel_rfl, fun x_ hu => by kernel_rfl⟩) trivial ?_
  simp only [Act.put, List.setIfInBounds_toArray, List.set_cons_zero, List.set_cons_succ, List.getElem_toArray, List.getElem_cons_zero, List.getElem_cons_succ]
  refine any_take (i := 1) (v := (.slice (some ⟨q5, 3, none⟩) 105 105)) #[true, false, false, false, false] rfl (by kernel_rfl) (by kernel_rfl) (by kernel_rfl) (by kernel_rfl) (fun _ _ _ h => h) (.inl ⟨by kernel_rfl, fun x_ hu => by kernel_rfl⟩) trivial ?_
  simp only [Act.put, List.setIfInBounds_toArray, List.set_cons_zero, List.set_cons_succ, List.getElem_toArray, List.getElem_cons_zero, List.getElem_cons_succ]
  refine any_take (i := 2) (v := (.pointer (some ⟨g, 0, none⟩))) #[true, true, false, false, false] rfl (by kernel_rfl) (by kernel_rfl) (by kernel_rfl) (by kernel_rfl) (fun _ _ _ h => h) (.inl ⟨by kernel_rfl, fun x_ hu => by kernel_rfl⟩) trivial ?_
  simp only [Act.put, List.setIfInBounds_toArray, List.set_cons_zero, List.set_cons_succ, List.getElem_toArray, List.getElem_cons_zero, List.getElem_cons_succ]
  refine any_one (i := 3) (by kernel_rfl) rfl (fun K_ hQ => ?_)
  refine step_callw (by kernel_rfl) 55 #[P0 g, .int .i64 ((105 : Nat) : Int)] (by kernel_rfl) ((rraw_ok g p 114 c (9) 105 L x_B hG.rd (by omega) (by omega) (by omega)).mono ?_)
  rintro r y_B ⟨v, rfl, hO, hR1, hb1⟩
  refine ⟨_, rfl, ?_⟩
  obtain ⟨B, hB0⟩ : ∃ X, X = ((L.drop (9)).take 105) := ⟨_, rfl⟩
  rw [← hB0] at hO
  have hlB : B.length = 105 := by rw [hB0]; exact sub_len hL (by omega)
  have hbB : IsB B := by rw [hB0]; exact sub_isB (unhide hLb) _ _
  obtain ⟨ar_B, cr_B, rfl, hlr⟩ := ob_lb hO hbB hlB
  replace hG := hG.read hR1 hb1
  clear hO hR1 hb1
  replace hB0 := hide hB0; replace hbB := hide hbB
  refine hQ.out _ _ trivial (fun _ => ?_)
  clear hQ K_
  simp only [Act.put, List.setIfInBounds_toArray, List.set_cons_zero, List.set_cons_succ, List.getElem_toArray, List.getElem_cons_zero, List.getElem_cons_succ]
  refine any_one (i := 4) (by kernel_rfl) rfl (fun K_ hQ => ?_)
  rw [if_pos (by kernel_rfl)]
  refine copy_wp (.tmp 22) (.tmp 24) rfl (q5) 3 105 105 ar_B 105 cr_B (by kernel_rfl) (by kernel_rfl) (evl k1 a1 s1 Z105) 55 (hG.get 1 (x := ⟨q5, (evl k1 a1 s1 Z105).toArray, 55⟩) rfl) B (by rw [hlB]; rfl) hlr.sl (by rw [hlB, evl_len _ _ _ rfl]; decide) ?_
  replace hG := hG.cells 1 (q := q5) (C := evl k1 a1 s1 Z105) (t := 55) rfl 3 (bv B)
  simp only [List.set_cons_zero, List.set_cons_succ] at hG
  rw [evl_setb k1 a1 s1 Z105 B (by rw [hlB]; rfl)] at hG
  have eb : B.map (Value.int .u8) = bv B := rfl
  rw [eb]
  generalize World.setCells _ _ _ _ = u6 at *
  replace hG : Gt g w [⟨w.heap.size, (evl 0 0 0 Z105).toArray, 55⟩, ⟨q5, (evl k1 a1 s1 B).toArray, 55⟩] p 114 c (9 + 105) L u6 := hG
  rw [hlB]
  clear hlr eb
  refine hQ.out _ _ trivial (fun _ => ?_)
  clear hQ K_
  simp only [Act.put, List.setIfInBounds_toArray, List.set_cons_zero, List.set_cons_succ, List.getElem_toArray, List.getElem_cons_zero, List.getElem_cons_succ]
  refine any_done (by kernel_rfl) ?_
  rw [← unhide hk10, ← unhide hs10, ← unhide hB0] at hr
  replace hG := hide hG
  go_upto_region 9 with fail
  replace hG := unhide hG
  refine wp_region_lit ?_
  refine list_val (.agg (evl k1 a1 s1 B).toArray) (by kernel_rfl) (exec_arr _ 55 (.tmp 5) rfl q5 (by kernel_rfl) (evl k1 a1 s1 B).toArray 55 _ (hG.get 1 (x := ⟨q5, (evl k1 a1 s1 B).toArray, 55⟩) rfl) Try.underlying55 rfl (by rw [Try.infoE, List.size_toArray, evl_len _ _ _ hlB])) ?_
  simp only [Act.put, List.setIfInBounds_toArray, List.set_cons_zero, List.set_cons_succ, List.getElem_toArray, List.getElem_cons_zero, List.getElem_cons_succ]
  refine list_call 57 #[.agg (evl k1 a1 s1 B).toArray] (by kernel_rfl) (by kernel_rfl) ((fev_ok k1 a1 s1 B hlB (unhide hbB) u6).mono ?_)
  rintro r u7 ⟨rfl, hg1⟩
  rw [unhide hr]
  replace hG := hG.more hg1
  clear hg1
  refine ⟨_, rfl, ?_⟩
  simp only [Act.put, List.setIfInBounds_toArray, List.set_cons_zero, List.set_cons_succ, List.getElem_toArray, List.getElem_cons_zero, List.getElem_cons_succ]
  refine list_val (.bool true) (by kernel_rfl) (by kernel_rfl) ?_
  simp only [Act.put, List.setIfInBounds_toArray, List.set_cons_zero, List.set_cons_succ, List.getElem_toArray, List.getElem_cons_zero, List.getElem_cons_succ]
  refine wpList_nil ?_
  replace hG := hide hG
  go_upto_region 10 with fail
  replace hG := unhide hG
  refine wp_region_lit ?_
  refine list_val (.agg (evl 0 0 0 Z105).toArray) (by kernel_rfl) (by kernel_rfl) ?_
  simp only [Act.put, List.setIfInBounds_toArray, List.set_cons_zero, List.set_cons_succ, List.getElem_toArray, List.getElem_cons_zero, List.getElem_cons_succ]
  refine list_store 55 (.tmp 2) (.tmp 29) (w.heap.size) (evl 0 0 0 Z105).toArray 55 (evl 0 0 0 Z105).toArray (by kernel_rfl) rfl (by kernel_rfl) (by kernel_rfl) (hG.get 0 (x := ⟨w.heap.size, (evl 0 0 0 Z105).toArray, 55⟩) rfl) (by rw [Try.infoE, List.size_toArray, evl_len _ _ _ rfl]) (rfl) (evl_one ..) ?_
  replace hG := hG.set 0 (x := ⟨w.heap.size, (evl 0 0 0 Z105).toArray, 55⟩) rfl (evl 0 0 0 Z105).toArray
  simp only [List.set_cons_zero, List.set_cons_succ] at hG
  generalize World.setRow _ _ _ = u8 at *
  replace hG : Gt g w [⟨w.heap.size, (evl 0 0 0 Z105).toArray, 55⟩, ⟨q5, (evl k1 a1 s1 B).toArray, 55⟩] p 114 c (9 + 105) L u8 := hG
  simp only [Act.put, List.setIfInBounds_toArray, List.set_cons_zero, List.set_cons_succ, List.getElem_toArray, List.getElem_cons_zero, List.getElem_cons_succ]
  (refine wpList_step fun K hK => ?_; replace hK := hide hK; go_simp; refine unhide hK _ _ ?_; clear hK K)
  refine wpList_nil ?_
  have hbk : Hid (u8.heap[w.heap.size]? = some (.cells (evl 0 0 0 Z105).toArray 55 (0, 0))) := (hG.get 0 (x := ⟨w.heap.size, (evl 0 0 0 Z105).toArray, 55⟩) rfl)
  have hP : Hid (T (.returned (.tuple #[.agg (evl 0 0 0 Z105).toArray, .int .i64 241])) u8) := by
    rw [unhide hT]
    exact ⟨rfl, hG.gr hwg⟩
  clear hG
  go_wp2_with fail
  exact bodyPost_ret (v := .tuple #[.agg (evl 0 0 0 Z105).toArray, .int .i64 241]) (results_cell_tmp Try.results28 _ _ (w.heap.size) 55 (evl 0 0 0 Z105).toArray (0, 0) _ rfl (.int .i64 241) rfl (unhide hbk) Try.underlying55 rfl (by rw [Try.infoE]; rfl)) rfl (unhide hP)
end Go.Proofs.Ytfmocneoffkmpaa
