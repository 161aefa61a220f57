/-
  What Public answers, and that the layer does something.
-/
import Derived.Test.YtpmgmpihmpifgaaDoorXK1
import Derived.Test.YtpmgmpihmpifgaaDoorUX
namespace Go.Proofs.YtpmgmpihmpifgaaDoor.Cv
open Go.RowKit
set_option maxRecDepth 100000
set_option linter.unusedSimpArgs false

set_option maxHeartbeats 1000000 in
theorem public_at (M : Nat) (w : World) :
    Calls Tryd.prog 26 #[.agg (kc (digs (M : Int) 32))] w (fun r w' => r = .returned (.agg (kc (digs (xN M 9 : Int) 32))) ∧ Gr w w') := by
  go_enter Tryd.func26, Tryd.ntmps26
  go_upto_region 1 with fail
  have hB := (((Bl.nil w).new (kc (digs (M : Int) 32)) 25).new #[.int .u8 0, .int .u8 0, .int .u8 0, .int .u8 0, .int .u8 0, .int .u8 0, .int .u8 0, .int .u8 0, .int .u8 0, .int .u8 0, .int .u8 0, .int .u8 0, .int .u8 0, .int .u8 0, .int .u8 0, .int .u8 0, .int .u8 0, .int .u8 0, .int .u8 0, .int .u8 0, .int .u8 0, .int .u8 0, .int .u8 0, .int .u8 0, .int .u8 0, .int .u8 0, .int .u8 0, .int .u8 0, .int .u8 0, .int .u8 0, .int .u8 0, .int .u8 0] 25)
  simp only [size_alloc, List.nil_append, List.cons_append] at hB
  generalize World.alloc _ _ = v1_ at *
  replace hB : Bl w [⟨w.heap.size, (kc (digs (M : Int) 32)), 25⟩, ⟨w.heap.size + 1, Z32, 25⟩] v1_ := hB
  refine wp_region_lit ?_
  refine list_val (.agg (kc (digs (M : Int) 32))) (by kernel_rfl) (exec_arr _ 25 (.tmp 1) rfl w.heap.size (by kernel_rfl) (kc (digs (M : Int) 32)) 25 _ (hB.get 0 (x := ⟨w.heap.size, (kc (digs (M : Int) 32)), 25⟩) rfl) Tryd.underlying25 rfl (by rw [Tryd.infoKey, kc32])) ?_
  simp only [nrm]
  refine list_val (.agg (kc (digs ((9 : Nat) : Int) 32))) (by kernel_rfl) (by kernel_rfl) ?_
  simp only [nrm]
  refine list_call 40 #[.agg (kc (digs (M : Int) 32)), .agg (kc (digs ((9 : Nat) : Int) 32))] (by kernel_rfl) (by kernel_rfl) ((x_at M (9 : Nat) _).mono ?_)
  rintro r v2_ ⟨rfl, hg⟩
  refine ⟨_, rfl, ?_⟩
  replace hB := hB.more hg
  clear hg
  simp only [nrm]
  refine list_store 25 (.tmp 2) (.tmp 5) (w.heap.size + 1) (kc (digs (xN M (9 : Nat) : Int) 32)) 25 Z32 (by kernel_rfl) rfl (by kernel_rfl) (by kernel_rfl) (hB.get 1 (x := ⟨w.heap.size + 1, Z32, 25⟩) rfl) (by rw [Tryd.infoKey, kc32]) (Z32_size.trans (kc32 (xN M (9 : Nat) : Int) 32).symm) (kc_one _) ?_
  replace hB := hB.set 1 (x := ⟨w.heap.size + 1, Z32, 25⟩) rfl (kc (digs (xN M (9 : Nat) : Int) 32))
  simp only [List.set_cons_zero, List.set_cons_succ] at hB
  generalize World.setRow _ _ _ = v3_ at *
  simp only [nrm]
  refine wpList_nil ?_
  go_wp2_with fail
  exact bodyPost_ret (v := .agg (kc (digs (xN M (9 : Nat) : Int) 32))) (results_cell_row Tryd.results26 _ _ (w.heap.size + 1) 25 (kc (digs (xN M (9 : Nat) : Int) 32)) (0, 0) _ rfl (hB.get 1 (x := ⟨w.heap.size + 1, (kc (digs (xN M (9 : Nat) : Int) 32)), 25⟩) rfl) Tryd.underlying25 rfl (by rw [Tryd.infoKey, kc32])) rfl ⟨rfl, hB.gr⟩
end Go.Proofs.YtpmgmpihmpifgaaDoor.Cv

