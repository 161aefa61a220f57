/-
  The reference's Clamp.
-/
import Derived.Test.YtpmgmpihmpifgaaDoorXK1
import Derived.Test.YtpmgmpihmpifgaaDoorURefBytes
namespace Go.Proofs.YtpmgmpihmpifgaaDoor.Cv
open Go.RowKit
set_option maxRecDepth 100000
set_option linter.unusedSimpArgs false

set_option maxHeartbeats 2000000 in
theorem rclamp_ok (M : Nat) (w : World) : Calls Tryd.prog 51 #[.agg (kc (digs (M : Int) 32))] w (fun r w' => r = .returned (.agg (kc (digs (cl M : Int) 32))) ∧ Gr w w') := by
  go_enter Tryd.func51, Tryd.ntmps51
  go_upto_region 1 with fail
  have hB := ((Bl.nil w).new (kc (digs (M : Int) 32)) 25).new #[.int .u8 0, .int .u8 0, .int .u8 0, .int .u8 0, .int .u8 0, .int .u8 0, .int .u8 0, .int .u8 0, .int .u8 0, .int .u8 0, .int .u8 0, .int .u8 0, .int .u8 0, .int .u8 0, .int .u8 0, .int .u8 0, .int .u8 0, .int .u8 0, .int .u8 0, .int .u8 0, .int .u8 0, .int .u8 0, .int .u8 0, .int .u8 0, .int .u8 0, .int .u8 0, .int .u8 0, .int .u8 0, .int .u8 0, .int .u8 0, .int .u8 0, .int .u8 0] 25
  simp only [size_alloc, List.nil_append, List.cons_append] at hB
  generalize World.alloc _ _ = v1_ at *
  replace hB : Bl w [⟨w.heap.size, kc (digs (M : Int) 32), 25⟩, ⟨w.heap.size + 1, Z32, 25⟩] v1_ := hB
  have k0 := key_cell (KB.of (hB.get 0 (x := ⟨w.heap.size, kc (digs (M : Int) 32), 25⟩) rfl)) 0 (by omega)
  have k31 := key_cell (KB.of (hB.get 0 (x := ⟨w.heap.size, kc (digs (M : Int) 32), 25⟩) rfl)) 31 (by omega)
  have f0 := KB.froz (KB.of (hB.get 0 (x := ⟨w.heap.size, kc (digs (M : Int) 32), 25⟩) rfl)) 0
  have f31 := KB.froz (KB.of (hB.get 0 (x := ⟨w.heap.size, kc (digs (M : Int) 32), 25⟩) rfl)) 31
  have r0 : 0 ≤ (M : Int) / 256 ^ 0 % 256 ∧ (M : Int) / 256 ^ 0 % 256 < 256 := by omega
  have r31 : 0 ≤ (M : Int) / 256 ^ 31 % 256 ∧ (M : Int) / 256 ^ 31 % 256 < 256 := by omega
  have hC := hide (clamp_cells M)
  generalize (M : Int) / 256 ^ 0 % 256 = x0 at k0 r0 hC
  generalize (M : Int) / 256 ^ 31 % 256 = x31 at k31 r31 hC
  replace hB := hide hB
  have t0 : x0.tdiv 8 = x0 / 8 := Int.tdiv_eq_ediv_of_nonneg r0.1
  have t31 : x31.tmod 64 = x31 % 64 := Int.tmod_eq_emod_of_nonneg r31.1
  have w0 : IntKind.u8.wrap (x0 / 8 * 8) = x0 / 8 * 8 := by rw [IntKind.wrap_u8]; omega
  have w31 : IntKind.u8.wrap (x31 % 64 + 64) = x31 % 64 + 64 := by rw [IntKind.wrap_u8]; omega
  go_upto_region 3 with fail
  replace hB := unhide hB
  replace hB := (hB.cell 0 rfl 0 (.int .u8 (x0 / 8 * 8))).cell 0 rfl 31 (.int .u8 (x31 % 64 + 64))
  simp only [List.set_cons_zero, List.getElem?_cons_zero, Option.some.injEq] at hB
  generalize World.setCell _ _ _ = v2_ at *
  rw [unhide hC] at hB
  clear k0 k31 f0 f31 r0 r31 hC t0 t31 w0 w31
  refine wp_region_lit ?_
  refine list_val (.agg (kc (digs (cl M : Int) 32))) (by kernel_rfl) (exec_arr _ 25 (.tmp 1) rfl w.heap.size (by kernel_rfl) (kc (digs (cl M : Int) 32)) 25 _ (hB.get 0 (x := ⟨w.heap.size, (kc (digs (cl M : Int) 32)), 25⟩) rfl) Tryd.underlying25 rfl (by rw [Tryd.infoKey, kc32])) ?_
  simp only [nrm]
  refine list_store 25 (.tmp 2) (.tmp 13) (w.heap.size + 1) (kc (digs (cl M : Int) 32)) 25 Z32 (by kernel_rfl) rfl (by kernel_rfl) (by kernel_rfl) (hB.get 1 (x := ⟨w.heap.size + 1, Z32, 25⟩) rfl) (by rw [Tryd.infoKey, kc32]) (Z32_size.trans (kc32 (cl M : Int) 32).symm) (kc_one _) ?_
  replace hB := hB.set 1 (x := ⟨w.heap.size + 1, Z32, 25⟩) rfl (kc (digs (cl M : Int) 32))
  simp only [List.set_cons_zero, List.set_cons_succ] at hB
  generalize World.setRow _ _ _ = v3_ at *
  simp only [nrm]
  refine wpList_nil ?_
  go_wp2_with fail
  exact bodyPost_ret (v := .agg (kc (digs (cl M : Int) 32))) (results_cell_row Tryd.results51 _ _ (w.heap.size + 1) 25 (kc (digs (cl M : Int) 32)) (0, 0) _ rfl (hB.get 1 (x := ⟨w.heap.size + 1, (kc (digs (cl M : Int) 32)), 25⟩) rfl) Tryd.underlying25 rfl (by rw [Tryd.infoKey, kc32])) rfl ⟨rfl, hB.gr⟩
end Go.Proofs.YtpmgmpihmpifgaaDoor.Cv
