/-
  wakes answers true; tags held against themselves.
-/
import Derived.Test.YtgjejgaendlkjaaPolyT
import Derived.ChangeKeysEq
namespace Go.Proofs.Ytgjejgaendlkjaa
open Go.RowKit
set_option maxRecDepth 100000
set_option linter.unusedSimpArgs false
set_option linter.unusedVariables false
theorem Try.cells_b : Try.prog.cellsOf 5 = 1 := by kernel_rfl
theorem Try.info_b : (Try.prog.info? 5).map (fun i => (i.zero, i.size, i.bytes)) = some (some (.int .u8 0), 1, 1) := by kernel_rfl
theorem Try.plain_b : Try.prog.plainKey 5 = true := by kernel_rfl
theorem eq_b (k : List Int) (d : Nat) (is : List Nat) (h : ∀ i ∈ is, i < k.length) (w : World) : (Op.eqItems (d + 1) 5 1 (kc k) (kc k) is).run Try.prog w = .ok true w := by
  induction is with
  | nil => simp [Op.eqItems]
  | cons i is ih =>
    have hi : i < k.length := h i (by simp)
    have hp : ∀ m : List Int, i < m.length → (part 5 (kc m) (i * 1)).run Try.prog w = .ok (.int .u8 (m.getD i 0)) w := by
      intro m hm
      refine run_part_plain w Try.plain_b ?_
      simp [kc, List.getD, List.getElem?_eq_getElem hm]
    have he := run_equalIn_int (P := Try.prog) w d 5 .u8 .u8 (k.getD i 0) (k.getD i 0) Try.underlying5
    simp only [Op.eqItems, Sem.run_bind, hp k hi, he, Result.andThen_ok]
    have ih := ih (fun j hj => h j (List.mem_cons_of_mem _ hj))
    simp
    exact ih
theorem refl_T (k : List Int) (hk : k.length = 16) (w : World) : Sem.run Try.prog (Op.equalIn 10000 27 (.agg (kc k)) (.agg (kc k))) w = .ok true w := by
  obtain ⟨i0, hi0, _⟩ := info_parts Try.info_b
  rw [run_equalIn_array (P := Try.prog) w 9999 (kc k) (kc k) Try.underlying27 hi0, Try.cells_b]
  exact eq_b k 9998 _ (by intro i hi; simp at hi; omega) w
def K2 : List Int := 2 :: List.replicate 31 0
def F16 : List Int := List.replicate 16 255
def T3 : List Int := 3 :: List.replicate 15 0
theorem woke_m : mcL K2 F16 = T3 := by decide +kernel
theorem K2_isB : IsB K2 := by unfold IsB K2; decide
theorem F16_isB : IsB F16 := fun x hx => by have := List.eq_of_mem_replicate hx; omega
def Woke (w : World) (r : Ending) (w' : World) : Prop := r = .returned (.bool true) ∧ Gr w w'
set_option maxHeartbeats 4000000 in
theorem wakes_ok (w : World) : Calls Try.prog 9 #[] w (Woke w) := by
  obtain ⟨T, hT⟩ : ∃ T, T = Woke w := ⟨_, rfl⟩
  rw [← hT]
  replace hT := hide hT
  go_enter Try.func9, Try.ntmps9
  go_upto_region 1 with fail
  refine wp_region_lit ?_
  refine list_val (.agg (kc K2)) (by kernel_rfl) (by kernel_rfl) ?_
  simp only [Act.put, List.setIfInBounds_toArray, List.set_cons_zero, List.set_cons_succ, List.getElem_toArray, List.getElem_cons_zero, List.getElem_cons_succ]
  refine list_valw (.slice (some ⟨w.heap.size, 0, none⟩) 16 16) (w.alloc (.cells (kc F16) 5 (0, 0))) (by kernel_rfl) (by kernel_rfl) ?_
  simp only [Act.put, List.setIfInBounds_toArray, List.set_cons_zero, List.set_cons_succ, List.getElem_toArray, List.getElem_cons_zero, List.getElem_cons_succ]
  have lb : Lb (w.alloc (.cells (kc F16) 5 (0, 0))) (some ⟨w.heap.size, 0, none⟩) 16 16 F16 := kc_lb (blk_new _ _) rfl F16_isB (by omega)
  have hG := (Gr.refl w).alloc (.cells (kc F16) 5 (0, 0))
  generalize World.alloc _ _ = u at *
  generalize w.heap.size = h1 at lb ⊢
  refine list_call 10 #[.agg (kc K2), .slice (some ⟨h1, 0, none⟩) 16 16] (by kernel_rfl) (by kernel_rfl) ((mac_ok K2 rfl K2_isB F16 _ 16 16 (by omega) _ lb).mono ?_)
  rintro r u1 ⟨rfl, hg⟩
  refine ⟨_, rfl, ?_⟩
  rw [woke_m]
  replace hG := hG.trans hg
  clear hg lb
  simp only [Act.put, List.setIfInBounds_toArray, List.set_cons_zero, List.set_cons_succ, List.getElem_toArray, List.getElem_cons_zero, List.getElem_cons_succ]
  refine list_val (.agg (kc T3)) (by kernel_rfl) (by kernel_rfl) ?_
  simp only [Act.put, List.setIfInBounds_toArray, List.set_cons_zero, List.set_cons_succ, List.getElem_toArray, List.getElem_cons_zero, List.getElem_cons_succ]
  refine list_val (.bool true) (by kernel_rfl) (by have e := refl_T T3 rfl; go_simp) ?_
  simp only [Act.put, List.setIfInBounds_toArray, List.set_cons_zero, List.set_cons_succ, List.getElem_toArray, List.getElem_cons_zero, List.getElem_cons_succ]
  (refine wpList_step fun K hK => ?_; replace hK := hide hK; go_simp; refine unhide hK _ _ ?_; clear hK K)
  refine wpList_nil ?_
  replace hG := hide hG
  go_wp2_with fail
  rw [unhide hT]
  exact ⟨rfl, unhide hG⟩
end Go.Proofs.Ytgjejgaendlkjaa
