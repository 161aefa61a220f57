/-
  The reference's low.
-/
import Derived.Test.YtcefkkoombmndaaPG
namespace Go.Proofs.Ytcefkkoombmndaa
open Go.RowKit
set_option maxRecDepth 100000
set_option linter.unusedSimpArgs false
set_option linter.unusedVariables false
theorem exec_shr8 {a : Act} {o : Oper} (w : World) (x y : Operand) (ho : o.op = .binOp .shr 74 x y 3) (X : Int) (j : Nat) (hj : j < 8) (hx : a.eval x = .int .u64 X) (hy : a.eval y = .int .i64 ((8 * j : Nat) : Int)) : (execOp a.eval o).run Try.prog w = .ok (.value (.int .u64 (X / 256 ^ j))) w := by
  unfold execOp
  simp only [ho, hx, hy]
  obtain rfl | rfl | rfl | rfl | rfl | rfl | rfl | rfl : j = 0 ∨ j = 1 ∨ j = 2 ∨ j = 3 ∨ j = 4 ∨ j = 5 ∨ j = 6 ∨ j = 7 := by omega
  all_goals go_simp
set_option maxHeartbeats 4000000 in
theorem rlow_ok (x : Int) (hx : 0 ≤ x) (n : Nat) (hn : n ≤ 8) (w : World) : Calls Try.prog 44 #[.int .u64 x, .int .i64 (n : Int)] w (Infd (lowL x n) w) := by
  obtain ⟨T, hT⟩ : ∃ T, T = Infd (lowL x n) w := ⟨_, rfl⟩
  rw [← hT]
  replace hT := hide hT
  have hI0 : Hid (Ob w.heap.size w (.slice none 0 0) (lowL x 0) ∧ Gr w w) := ⟨ob_none _ _, Gr.refl w⟩
  go_enter Try.func44, Try.ntmps44
  go_wp2_with fail
  go_loopw [5, 6] (fun v i wr => ∃ (j : Nat) (v' : Value), j ≤ n ∧ v' = v ∧ i = .int .i64 (j : Int) ∧ Hid (Ob w.heap.size wr v' (lowL x j) ∧ Gr w wr)) (fun _ i _ => n - (intOf i).toNat)
  case atStart => exact ⟨0, _, by omega, rfl, rfl, hI0⟩
  case round =>
  clear hI0
  obtain ⟨j, v', hj, rfl, rfl, hA⟩ := hrel
  obtain ⟨hO, hG⟩ := unhide hA
  clear hA
  by_cases hlt : j < n
  · skip
    have jI : (j : Int) < (n : Int) := by omega
    have hj8 : IntKind.i64.wrap (8 * (j : Int)) = ((8 * j : Nat) : Int) := by rw [IntKind.wrap_i64]; omega
    obtain ⟨y, hy⟩ : ∃ y, y = x / 256 ^ j := ⟨_, rfl⟩
    obtain ⟨z, hz⟩ : ∃ z, z = y % 256 := ⟨_, rfl⟩
    have hz8 : IntKind.u8.wrap y = z := by rw [IntKind.wrap_u8, hz]
    have hsn : Hid (lowL x (j + 1) = lowL x j ++ [z]) := by show lowL x (j + 1) = _; rw [lowL_snoc, ← hy, ← hz]
    have hzb : Hid (IsB [z]) := fun u hu => by rw [List.mem_singleton.1 hu]; omega
    replace hO := hide hO; replace hG := hide hG; replace hy := hide hy
    clear hz
    go_upto_region 5 with fail
    refine wp_region_lit ?_
    refine lvk v' ?_
    simp only [nrm]
    refine lvk (.int .u64 x) ?_
    simp only [nrm]
    refine lvk (.int .i64 (j : Int)) ?_
    simp only [nrm]
    refine list_val (.int .i64 ((8 * j : Nat) : Int)) (by kernel_rfl) (by go_simp) ?_
    simp only [nrm]
    refine list_val (.int .u64 y) (by kernel_rfl) (by rw [unhide hy]; exact exec_shr8 _ (.tmp 13) (.tmp 15) rfl x j (by omega) (by kernel_rfl) (by kernel_rfl)) ?_
    simp only [nrm]
    refine list_val (.int .u8 z) (by kernel_rfl) (by go_simp) ?_
    simp only [nrm]
    refine list_valw (.slice (some ⟨wr.heap.size, 0, none⟩) 1 1) (wr.alloc (.cells (kc [z]) 5 (0, 0))) (by kernel_rfl) (by kernel_rfl) ?_
    have hg := (Gr.refl wr).alloc (.cells (kc [z]) 5 (0, 0))
    have hlb := hide (kc_lb (n := 1) (blk_new wr (.cells (kc [z]) 5 (0, 0))) rfl (unhide hzb) (by decide))
    replace hO := hide ((unhide hO).gr hg)
    replace hG := hide ((unhide hG).trans hg)
    clear hg
    generalize World.alloc _ _ = y1 at *
    generalize wr.heap.size = h1 at *
    simp only [nrm]
    refine app_bs (by kernel_rfl) (.tmp 12) (.tmp 18) rfl w.heap.size _ (lowL x j) rfl (unhide hO) (some ⟨h1, 0, none⟩) 1 1 [z] (by kernel_rfl) rfl (unhide hlb).sl (by rw [lowL_len]; omega) (unhide hG).size ?_
    intro v2 y2 hO3 hgr
    have hI2 : Hid (Ob w.heap.size y2 v2 (lowL x (j + 1)) ∧ Gr w y2) := by
      refine ⟨?_, (unhide hO).grown (Nat.le_refl _) (unhide hG) hgr⟩
      rw [unhide hsn]
      exact hO3
    clear hO3 hgr hlb
    simp only [nrm]
    (refine wpList_step fun K hK => ?_; replace hK := hide hK; go_simp; refine unhide hK _ _ ?_; clear hK K)
    refine wpList_nil ?_
    have ej : IntKind.i64.wrap ((j : Int) + 1) = ((j + 1 : Nat) : Int) := by rw [IntKind.wrap_i64]; omega
    clear hj8 hz8 hy
    go_wp2_with fail
    go_roundw
    case rel => exact ⟨j + 1, _, by omega, rfl, by go_num, hI2⟩
    case measure => simp [intOf]; omega
  · skip
    obtain rfl : j = n := by omega
    have jI : ¬ (j : Int) < (j : Int) := by omega
    have hZ : Hid (Infd (lowL x j) w (.returned v') wr) := ⟨v', rfl, hO, hG⟩
    clear hO hG
    go_wp2_with fail
    rw [unhide hT]
    exact unhide hZ
end Go.Proofs.Ytcefkkoombmndaa
