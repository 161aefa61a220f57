/-
  What Inv answers.
-/
import Derived.Test.YtpmgmpihmpifgaaDoorVPower
import Derived.Test.YtpmgmpihmpifgaaDoorVPrime
import Derived.Deep.RegionHeld3
namespace Go.Proofs.YtpmgmpihmpifgaaDoor.Cv
open Go.RowKit
set_option maxRecDepth 100000

/-- the prime less two -/
def p2 : Nat := 57896044618658097711785492504343953926634992332820282019728792003956564819947
theorem p2_eq : (0 - 2 : Int) % pp = (p2 : Int) := by decide +kernel
theorem p2_lt : Hid (p2 < 2 ^ 256) := by show p2 < 2 ^ 256; decide +kernel

/-- a number of its own, and room for the answer -/
def IS (w v : World) (a0 a1 a2 a3 a4 : Int) : Prop := v.cell? ⟨w.heap.size, 0, none⟩ = some (.int .u64 a0) ∧ v.cell? ⟨w.heap.size, 1, none⟩ = some (.int .u64 a1) ∧ v.cell? ⟨w.heap.size, 2, none⟩ = some (.int .u64 a2) ∧ v.cell? ⟨w.heap.size, 3, none⟩ = some (.int .u64 a3) ∧ v.cell? ⟨w.heap.size, 4, none⟩ = some (.int .u64 a4) ∧ Hid (Res w (w.heap.size + 1) 5 91 v)
theorem IS.gr {w u v : World} {a0 a1 a2 a3 a4 : Int} (h : IS w u a0 a1 a2 a3 a4) (g : Gr u v) : IS w v a0 a1 a2 a3 a4 :=
  ⟨g.cell h.1, g.cell h.2.1, g.cell h.2.2.1, g.cell h.2.2.2.1, g.cell h.2.2.2.2.1, hide ((unhide h.2.2.2.2.2).gr g)⟩
theorem IS.set {w v : World} {a0 a1 a2 a3 a4 : Int} (h : IS w v a0 a1 a2 a3 a4) (x0 x1 x2 x3 x4 : Value) : IS w (((((v.setCell ⟨w.heap.size + 1, 0, none⟩ x0).setCell ⟨w.heap.size + 1, 1, none⟩ x1).setCell ⟨w.heap.size + 1, 2, none⟩ x2).setCell ⟨w.heap.size + 1, 3, none⟩ x3).setCell ⟨w.heap.size + 1, 4, none⟩ x4) a0 a1 a2 a3 a4 := by
  have k : ∀ i x, v.cell? ⟨w.heap.size, i, none⟩ = some x → (((((v.setCell ⟨w.heap.size + 1, 0, none⟩ x0).setCell ⟨w.heap.size + 1, 1, none⟩ x1).setCell ⟨w.heap.size + 1, 2, none⟩ x2).setCell ⟨w.heap.size + 1, 3, none⟩ x3).setCell ⟨w.heap.size + 1, 4, none⟩ x4).cell? ⟨w.heap.size, i, none⟩ = some x := by
    intro i x hx
    rw [World.cell?_setCell_far _ _ _ _ (by show w.heap.size + 1 ≠ w.heap.size; omega), World.cell?_setCell_far _ _ _ _ (by show w.heap.size + 1 ≠ w.heap.size; omega), World.cell?_setCell_far _ _ _ _ (by show w.heap.size + 1 ≠ w.heap.size; omega), World.cell?_setCell_far _ _ _ _ (by show w.heap.size + 1 ≠ w.heap.size; omega), World.cell?_setCell_far _ _ _ _ (by show w.heap.size + 1 ≠ w.heap.size; omega)]
    exact hx
  exact ⟨k _ _ h.1, k _ _ h.2.1, k _ _ h.2.2.1, k _ _ h.2.2.2.1, k _ _ h.2.2.2.2.1, hide ((unhide h.2.2.2.2.2).set5 _ _ _ _ _)⟩

set_option maxHeartbeats 1000000 in
theorem inv_ok (n a0 a1 a2 a3 a4 : Int) (hf : Rep n a0 a1 a2 a3 a4) (w : World) :
    Calls Tryd.prog 65 #[five a0 a1 a2 a3 a4] w (Reck (n ^ p2) w) := by
  have hA := hide hf
  have hp2 := p2_lt
  have ep2 := hide p2_eq
  clear hf
  unfold five
  go_enter Tryd.func65, Tryd.ntmps65
  go_wp2_with fail
  have keep0 : IS w ((w.alloc (.cells #[.int .u64 a0, .int .u64 a1, .int .u64 a2, .int .u64 a3, .int .u64 a4] 91 (0, 0))).alloc (.cells #[.int .u64 0, .int .u64 0, .int .u64 0, .int .u64 0, .int .u64 0] 91 (0, 0))) a0 a1 a2 a3 a4 := by
    have B0 : ((w.alloc (.cells #[.int .u64 a0, .int .u64 a1, .int .u64 a2, .int .u64 a3, .int .u64 a4] 91 (0, 0))).alloc (.cells #[.int .u64 0, .int .u64 0, .int .u64 0, .int .u64 0, .int .u64 0] 91 (0, 0))).heap[w.heap.size]? = some (.cells #[.int .u64 a0, .int .u64 a1, .int .u64 a2, .int .u64 a3, .int .u64 a4] 91 (0, 0)) := by
      simp only [blk_alloc, size_alloc]
      rw [if_neg (by omega), if_pos trivial]
    exact ⟨cell_of B0 rfl, cell_of B0 rfl, cell_of B0 rfl, cell_of B0 rfl, cell_of B0 rfl, hide (res22 (Gr.refl _) rfl)⟩
  generalize hW : World.alloc _ _ = W at *
  clear hW
  have keepS : Hid (∀ u v : World, Gr u v → IS w u a0 a1 a2 a3 a4 → IS w v a0 a1 a2 a3 a4) := hide (fun u v g h => h.gr g)
  have keepT : Hid (∀ (v : World) (x0 x1 x2 x3 x4 : Value), IS w v a0 a1 a2 a3 a4 → IS w (((((v.setCell ⟨w.heap.size + 1, 0, none⟩ x0).setCell ⟨w.heap.size + 1, 1, none⟩ x1).setCell ⟨w.heap.size + 1, 2, none⟩ x2).setCell ⟨w.heap.size + 1, 3, none⟩ x3).setCell ⟨w.heap.size + 1, 4, none⟩ x4) a0 a1 a2 a3 a4) := hide (fun v x0 x1 x2 x3 x4 h => h.set x0 x1 x2 x3 x4)
  unfold IS at *
  go_region_held3 (fun v => v.cell? ⟨w.heap.size, 0, none⟩ = some (.int .u64 a0) ∧ v.cell? ⟨w.heap.size, 1, none⟩ = some (.int .u64 a1) ∧ v.cell? ⟨w.heap.size, 2, none⟩ = some (.int .u64 a2) ∧ v.cell? ⟨w.heap.size, 3, none⟩ = some (.int .u64 a3) ∧ v.cell? ⟨w.heap.size, 4, none⟩ = some (.int .u64 a4) ∧ Hid (Res w (w.heap.size + 1) 5 91 v))
    (first | with_reducible exact unhide keepS _ _ (by assumption) (by assumption) | with_reducible exact unhide keepS _ _ (Gr.refl _).drew (by assumption) | with_reducible exact unhide keepT _ _ _ _ _ _ (by assumption))
    (first
      | (go_at_call 77; refine (of_at _ (by omega) _).mono ?_; rintro r w' ⟨y0, y1, y2, y3, y4, rfl, hO, hg⟩)
      | (go_at_call 84; (try clear hg); refine (neg_at _ _ _ _ _ _ (by assumption) _).mono ?_; rintro r w' ⟨y0, y1, y2, y3, y4, rfl, hN, hg⟩)
      | (go_at_call 66; (try clear hg); refine (bytes_at _ _ _ _ _ _ (by assumption) _).mono ?_; rintro r w' ⟨rfl, hg⟩; rw [unhide ep2])
      | (go_at_call 83; (try clear hg); refine (power_at _ _ _ _ _ _ _ (by assumption) (by assumption) _).mono ?_; rintro r w' ⟨y0, y1, y2, y3, y4, rfl, hR, hg⟩; have hS := unhide keepS _ _ hg (by assumption); have hE := unhide hS.2.2.2.2.2; obtain ⟨q0, q1, q2, q3, q4, hq0, hq1, hq2, hq3, hq4, z0, z1, z2, z3, z4⟩ := hE.five; have hF := hide (hE.set5 (.int .u64 y0) (.int .u64 y1) (.int .u64 y2) (.int .u64 y3) (.int .u64 y4))))
  all_goals go_wp2_with fail
  all_goals refine bodyPost_ret (v := five y0 y1 y2 y3 y4) ?_ rfl ?_
  · simp [results, Tryd.results65, go_sem, five, hq0, hq1, hq2, hq3, hq4]
  · exact ⟨_, _, _, _, _, rfl, unhide hR, (unhide hF).1⟩
theorem inv_at (n a0 a1 a2 a3 a4 : Int) (h : Hid (Rep n a0 a1 a2 a3 a4)) (w : World) :
    Calls Tryd.prog 65 #[.agg #[.int .u64 a0, .int .u64 a1, .int .u64 a2, .int .u64 a3, .int .u64 a4]] w (fun r w' => ∃ a b c d e, r = .returned (.agg #[.int .u64 a, .int .u64 b, .int .u64 c, .int .u64 d, .int .u64 e]) ∧ Hid (Rep (n ^ p2) a b c d e) ∧ Gr w w') := inv_ok n a0 a1 a2 a3 a4 h w
end Go.Proofs.YtpmgmpihmpifgaaDoor.Cv
