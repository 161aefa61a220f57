/-
  What Public answers, and that the layer does something.
-/
import Derived.Test.YtebgmneffpeahaaDoorX
namespace Go.Proofs.YtebgmneffpeahaaDoor
open Go.RowKit
set_option maxRecDepth 100000
set_option linter.unusedSimpArgs false

set_option maxHeartbeats 1000000 in
theorem public_at (M : Nat) (w : World) :
    Calls Tryd.prog 6 #[.agg (kc (digs (M : Int) 32))] w (fun r w' => r = .returned (.agg (kc (digs (xN M 9 : Int) 32))) ∧ Gr w w') := by
  go_enter Tryd.func6, Tryd.ntmps6
  go_upto_region 1 with fail
  have hB := (((Bl.nil w).new (kc (digs (M : Int) 32)) 23).new #[.int .u8 0, .int .u8 0, .int .u8 0, .int .u8 0, .int .u8 0, .int .u8 0, .int .u8 0, .int .u8 0, .int .u8 0, .int .u8 0, .int .u8 0, .int .u8 0, .int .u8 0, .int .u8 0, .int .u8 0, .int .u8 0, .int .u8 0, .int .u8 0, .int .u8 0, .int .u8 0, .int .u8 0, .int .u8 0, .int .u8 0, .int .u8 0, .int .u8 0, .int .u8 0, .int .u8 0, .int .u8 0, .int .u8 0, .int .u8 0, .int .u8 0, .int .u8 0] 23)
  simp only [size_alloc, List.nil_append, List.cons_append] at hB
  generalize World.alloc _ _ = v1_ at *
  replace hB : Bl w [⟨w.heap.size, (kc (digs (M : Int) 32)), 23⟩, ⟨w.heap.size + 1, Z32, 23⟩] v1_ := hB
  refine wp_region_lit ?_
  refine list_val (.agg (kc (digs (M : Int) 32))) (by kernel_rfl) (exec_arr _ 23 (.tmp 1) rfl w.heap.size (by kernel_rfl) (kc (digs (M : Int) 32)) 23 _ (hB.get 0 (x := ⟨w.heap.size, (kc (digs (M : Int) 32)), 23⟩) rfl) Tryd.underlying23 rfl (by rw [Tryd.infoKey, kc32])) ?_
  simp only [Act.put, List.setIfInBounds_toArray, List.set_cons_zero, List.set_cons_succ, List.getElem_toArray, List.getElem_cons_zero, List.getElem_cons_succ]
  refine list_val (.agg (kc (digs ((9 : Nat) : Int) 32))) (by kernel_rfl) (by kernel_rfl) ?_
  simp only [Act.put, List.setIfInBounds_toArray, List.set_cons_zero, List.set_cons_succ, List.getElem_toArray, List.getElem_cons_zero, List.getElem_cons_succ]
  refine list_call 13 #[.agg (kc (digs (M : Int) 32)), .agg (kc (digs ((9 : Nat) : Int) 32))] (by kernel_rfl) (by kernel_rfl) ((x_at M (9 : Nat) _).mono ?_)
  rintro r v2_ ⟨rfl, hg⟩
  refine ⟨_, rfl, ?_⟩
  replace hB := hB.more hg
  clear hg
  simp only [Act.put, List.setIfInBounds_toArray, List.set_cons_zero, List.set_cons_succ, List.getElem_toArray, List.getElem_cons_zero, List.getElem_cons_succ]
  refine list_store 23 (.tmp 2) (.tmp 5) (w.heap.size + 1) (kc (digs (xN M (9 : Nat) : Int) 32)) 23 Z32 (by kernel_rfl) rfl (by kernel_rfl) (by kernel_rfl) (hB.get 1 (x := ⟨w.heap.size + 1, Z32, 23⟩) rfl) (by rw [Tryd.infoKey, kc32]) (Z32_size.trans (kc32 (xN M (9 : Nat) : Int) 32).symm) (kc_one _) ?_
  replace hB := hB.set 1 (x := ⟨w.heap.size + 1, Z32, 23⟩) rfl (kc (digs (xN M (9 : Nat) : Int) 32))
  simp only [List.set_cons_zero, List.set_cons_succ] at hB
  generalize World.setRow _ _ _ = v3_ at *
  simp only [Act.put, List.setIfInBounds_toArray, List.set_cons_zero, List.set_cons_succ, List.getElem_toArray, List.getElem_cons_zero, List.getElem_cons_succ]
  refine wpList_nil ?_
  go_wp2_with fail
  exact bodyPost_ret (v := .agg (kc (digs (xN M (9 : Nat) : Int) 32))) (results_cell_row Tryd.results6 _ _ (w.heap.size + 1) 23 (kc (digs (xN M (9 : Nat) : Int) 32)) (0, 0) _ rfl (hB.get 1 (x := ⟨w.heap.size + 1, (kc (digs (xN M (9 : Nat) : Int) 32)), 23⟩) rfl) Tryd.underlying23 rfl (by rw [Tryd.infoKey, kc32])) rfl ⟨rfl, hB.gr⟩
def wN : Nat := 52573937849532372069814888178136277301931757964231753054399601207743438775599
theorem wake_num : xN 0 9 = wN := by
  have h := Ed.wake
  have e : cl 0 = 2 ^ 254 := by decide +kernel
  have e9 : (((9 : Nat) : Int) % 57896044618658097711785492504343953926634992332820282019728792003956564819968) = 9 := by decide +kernel
  unfold xN
  rw [xn_out, e, e9, pp_p, h]
  decide +kernel

set_option maxHeartbeats 1000000 in
theorem wakes_ok (w : World) : Calls Tryd.prog 5 #[] w (fun r w' => r = .returned (.bool true) ∧ Gr w w') := by
  go_enter Tryd.func5, Tryd.ntmps5
  go_upto_region 1 with fail
  have hB := Bl.nil w
  obtain ⟨v, hv⟩ : ∃ v, v = w := ⟨_, rfl⟩
  rw [← hv]
  replace hB : Bl w [] v := hv ▸ hB
  clear hv
  refine wp_region_lit ?_
  refine list_val (.agg (kc (digs ((0 : Nat) : Int) 32))) (by kernel_rfl) (by kernel_rfl) ?_
  simp only [Act.put, List.setIfInBounds_toArray, List.set_cons_zero, List.set_cons_succ, List.getElem_toArray, List.getElem_cons_zero, List.getElem_cons_succ]
  refine list_call 6 #[.agg (kc (digs ((0 : Nat) : Int) 32))] (by kernel_rfl) (by kernel_rfl) ((public_at 0 _).mono ?_)
  rintro r v1_ ⟨rfl, hg⟩
  refine ⟨_, rfl, ?_⟩
  rw [wake_num]
  replace hB := hB.more hg
  clear hg
  simp only [Act.put, List.setIfInBounds_toArray, List.set_cons_zero, List.set_cons_succ, List.getElem_toArray, List.getElem_cons_zero, List.getElem_cons_succ]
  refine wpList_step fun K hK => ?_
  replace hK := hide hK
  go_simp
  refine unhide hK _ _ ?_
  clear hK K
  replace hB := hB.new #[.int .u8 0, .int .u8 0, .int .u8 0, .int .u8 0, .int .u8 0, .int .u8 0, .int .u8 0, .int .u8 0, .int .u8 0, .int .u8 0, .int .u8 0, .int .u8 0, .int .u8 0, .int .u8 0, .int .u8 0, .int .u8 0, .int .u8 0, .int .u8 0, .int .u8 0, .int .u8 0, .int .u8 0, .int .u8 0, .int .u8 0, .int .u8 0, .int .u8 0, .int .u8 0, .int .u8 0, .int .u8 0, .int .u8 0, .int .u8 0, .int .u8 0, .int .u8 0] 23
  simp only [List.cons_append, List.nil_append] at hB
  generalize v1_.heap.size = g1_2 at *
  generalize World.alloc _ _ = v2_ at *
  replace hB : Bl w [⟨g1_2, Z32, 23⟩] v2_ := hB
  refine list_store 23 (.tmp 1) (.tmp 3) g1_2 (kc (digs (wN : Int) 32)) 23 Z32 (by kernel_rfl) rfl (by kernel_rfl) (by kernel_rfl) (hB.get 0 (x := ⟨g1_2, Z32, 23⟩) rfl) (by rw [Tryd.infoKey, kc32]) (Z32_size.trans (kc32 (wN : Int) 32).symm) (kc_one _) ?_
  replace hB := hB.set 0 (x := ⟨g1_2, Z32, 23⟩) rfl (kc (digs (wN : Int) 32))
  simp only [List.set_cons_zero, List.set_cons_succ] at hB
  generalize World.setRow _ _ _ = v3_ at *
  simp only [Act.put, List.setIfInBounds_toArray, List.set_cons_zero, List.set_cons_succ, List.getElem_toArray, List.getElem_cons_zero, List.getElem_cons_succ]
  refine wpList_nil ?_
  have hk := (hB.get 0 (x := ⟨g1_2, (kc (digs (wN : Int) 32)), 23⟩) rfl)
  have k0 : v3_.cell? ⟨g1_2, 0, none⟩ = some (.int .u8 47) := (key_cell (KB.of hk) 0 (by omega)).trans (by kernel_rfl)
  have k31 : v3_.cell? ⟨g1_2, 31, none⟩ = some (.int .u8 116) := (key_cell (KB.of hk) 31 (by omega)).trans (by kernel_rfl)
  have hG := hide hB.gr
  clear hk hB
  go_wp2_with fail
  refine bodyPost_ret (v := .bool true) ?_ rfl ⟨rfl, unhide hG⟩
  simp [results, Tryd.results5, go_sem]
end Go.Proofs.YtebgmneffpeahaaDoor
