/-
  What Swap answers.
-/
import Derived.Test.YtpmgmpihmpifgaaDoorVPower
import Derived.Test.YtpmgmpihmpifgaaDoorXK1
import Derived.BigQuiet
import Derived.Deep.QuietTactic
import Derived.Deep.RegionHeld3
namespace Go.Proofs.YtpmgmpihmpifgaaDoor.Cv
open Go.RowKit
set_option maxRecDepth 100000
set_option linter.unusedSimpArgs false

/-- where the two numbers and the two results lie -/
def SW (w u : World) (A B : Array Value) : Prop := u.heap[w.heap.size]? = some (.cells A 91 (0, 0)) ∧ u.heap[w.heap.size + 1]? = some (.cells B 91 (0, 0)) ∧ Res w (w.heap.size + 1 + 1) 5 91 u ∧ Res w (w.heap.size + 1 + 1 + 1) 5 91 u
theorem SW.step {w u : World} {A B : Array Value} (h : SW w u A B) (n i : Nat) (x y : Value) : SW w (((u.drewN n).setCell ⟨w.heap.size, i, none⟩ x).setCell ⟨w.heap.size + 1, i, none⟩ y) (A.setIfInBounds i x) (B.setIfInBounds i y) := by
  obtain ⟨h1, h2, ⟨h3, h4, c, h5, h6⟩, ⟨h7, h8, d, h9, h10⟩⟩ := h
  have k1 : ((u.drewN n).setCell ⟨w.heap.size, i, none⟩ x).heap[w.heap.size]? = some (.cells (A.setIfInBounds i x) 91 (0, 0)) := heap_setCell_same _ _ _ _ _ _ h1
  have k2 : ∀ j, j ≠ w.heap.size → ((u.drewN n).setCell ⟨w.heap.size, i, none⟩ x).heap[j]? = u.heap[j]? := fun j hj => Below.heap_setCell (u.drewN n) ⟨w.heap.size, i, none⟩ x j hj
  have k3 : ∀ j, j ≠ w.heap.size + 1 → (((u.drewN n).setCell ⟨w.heap.size, i, none⟩ x).setCell ⟨w.heap.size + 1, i, none⟩ y).heap[j]? = ((u.drewN n).setCell ⟨w.heap.size, i, none⟩ x).heap[j]? := fun j hj => Below.heap_setCell _ ⟨w.heap.size + 1, i, none⟩ y j hj
  have g : Gr w (((u.drewN n).setCell ⟨w.heap.size, i, none⟩ x).setCell ⟨w.heap.size + 1, i, none⟩ y) := ((h3.drewN n).setCell (Nat.le_refl _) x).setCell (Nat.le_succ _) y
  refine ⟨(k3 _ (by omega)).trans k1, heap_setCell_same _ _ _ _ _ _ ((k2 _ (by omega)).trans h2), ⟨g, h4, c, h5, ?_⟩, ⟨g, h8, d, h9, ?_⟩⟩
  · exact (k3 _ (by omega)).trans ((k2 _ (by omega)).trans h6)
  · exact (k3 _ (by omega)).trans ((k2 _ (by omega)).trans h10)
theorem SW.to {w u : World} {A B A' B' : Array Value} (h : SW w u A B) (e : A = A') (e2 : B = B') : SW w u A' B' := e ▸ e2 ▸ h
theorem SW.start (w : World) (A B Z : Array Value) (hz : Z.size = 5) : SW w ((((w.alloc (.cells A 91 (0, 0))).alloc (.cells B 91 (0, 0))).alloc (.cells Z 91 (0, 0))).alloc (.cells Z 91 (0, 0))) A B := by
  have g := ((((Gr.refl w).alloc (.cells A 91 (0, 0))).alloc (.cells B 91 (0, 0))).alloc (.cells Z 91 (0, 0))).alloc (.cells Z 91 (0, 0))
  refine ⟨?_, ?_, ⟨g, by omega, Z, hz, ?_⟩, ⟨g, by omega, Z, hz, ?_⟩⟩ <;> (simp only [blk_alloc, size_alloc]; repeat (first | rw [if_pos trivial] | rw [if_pos (by omega)] | rw [if_neg (by omega)]))
theorem SW.drew {w u : World} {A B : Array Value} (h : SW w u A B) : SW w u.drew A B := ⟨h.1, h.2.1, ⟨h.2.2.1.1.drew, h.2.2.1.2⟩, ⟨h.2.2.2.1.drew, h.2.2.2.2⟩⟩
theorem SW.row2 {w u : World} {A B : Array Value} (h : SW w u A B) (cs : Array Value) (hs : cs.size = 5) : SW w (u.setRow (w.heap.size + 1 + 1) cs) A B := by
  obtain ⟨h1, h2, h3, ⟨h7, h8, d, h9, h10⟩⟩ := h
  refine ⟨(setRow_other _ _ _ _ (by omega)).trans h1, (setRow_other _ _ _ _ (by omega)).trans h2, h3.row cs hs, ⟨below_setRow h7 (by omega) cs, h8, d, h9, (setRow_other _ _ _ _ (by omega)).trans h10⟩⟩
theorem SW.row3 {w u : World} {A B : Array Value} (h : SW w u A B) (cs : Array Value) (hs : cs.size = 5) : SW w (u.setRow (w.heap.size + 1 + 1 + 1) cs) A B := by
  obtain ⟨h1, h2, ⟨h7, h8, d, h9, h10⟩, h3⟩ := h
  refine ⟨(setRow_other _ _ _ _ (by omega)).trans h1, (setRow_other _ _ _ _ (by omega)).trans h2, ⟨below_setRow h7 (by omega) cs, h8, d, h9, (setRow_other _ _ _ _ (by omega)).trans h10⟩, h3.row cs hs⟩
theorem Tryd.infoElem' : (Tryd.prog.info? 91).map (·.size) = some 5 := by kernel_rfl

set_option maxHeartbeats 4000000 in
theorem swap_core (bit M a0 a1 a2 a3 a4 b0 b1 b2 b3 b4 x0 x1 x2 x3 x4 t0 t1 t2 t3 t4 p0 p1 p2 p3 p4 q0 q1 q2 q3 q4 : Int) (hM : IntKind.u64.wrap (-IntKind.u64.wrap (bits .and .i64 bit 1)) = M) (hx0 : bits .xor .u64 a0 b0 = x0) (ht0 : bits .and .u64 M x0 = t0) (hp0 : bits .xor .u64 a0 t0 = p0) (hq0 : bits .xor .u64 b0 t0 = q0) (hx1 : bits .xor .u64 a1 b1 = x1) (ht1 : bits .and .u64 M x1 = t1) (hp1 : bits .xor .u64 a1 t1 = p1) (hq1 : bits .xor .u64 b1 t1 = q1) (hx2 : bits .xor .u64 a2 b2 = x2) (ht2 : bits .and .u64 M x2 = t2) (hp2 : bits .xor .u64 a2 t2 = p2) (hq2 : bits .xor .u64 b2 t2 = q2) (hx3 : bits .xor .u64 a3 b3 = x3) (ht3 : bits .and .u64 M x3 = t3) (hp3 : bits .xor .u64 a3 t3 = p3) (hq3 : bits .xor .u64 b3 t3 = q3) (hx4 : bits .xor .u64 a4 b4 = x4) (ht4 : bits .and .u64 M x4 = t4) (hp4 : bits .xor .u64 a4 t4 = p4) (hq4 : bits .xor .u64 b4 t4 = q4) (w : World) :
    Calls Tryd.prog 78 #[.int .i64 bit, .agg #[.int .u64 a0, .int .u64 a1, .int .u64 a2, .int .u64 a3, .int .u64 a4], .agg #[.int .u64 b0, .int .u64 b1, .int .u64 b2, .int .u64 b3, .int .u64 b4]] w (fun r w' => r = .returned (.tuple #[.agg #[.int .u64 p0, .int .u64 p1, .int .u64 p2, .int .u64 p3, .int .u64 p4], .agg #[.int .u64 q0, .int .u64 q1, .int .u64 q2, .int .u64 q3, .int .u64 q4]]) ∧ Gr w w') := by
  go_enter Tryd.func78, Tryd.ntmps78
  go_upto_region 2 with fail
  clear hM
  go_wp2_with fail
  refine wp_loop_rounds 6 ?_
  rw [rounds_succ]
  go_wp2_with fail
  go_quiet (fail)
  go_wp2_with fail
  rw [rounds_succ]
  go_wp2_with fail
  go_quiet (fail)
  go_wp2_with fail
  rw [rounds_succ]
  go_wp2_with fail
  go_quiet (fail)
  go_wp2_with fail
  rw [rounds_succ]
  go_wp2_with fail
  go_quiet (fail)
  go_wp2_with fail
  rw [rounds_succ]
  go_wp2_with fail
  go_quiet (fail)
  go_wp2_with fail
  rw [rounds_succ]
  go_wp2_with fail
  generalize hW : World.setCell _ _ _ = u
  have hS : SW w u #[.int .u64 p0, .int .u64 p1, .int .u64 p2, .int .u64 p3, .int .u64 p4] #[.int .u64 q0, .int .u64 q1, .int .u64 q2, .int .u64 q3, .int .u64 q4] := by
    rw [← hW]
    exact SW.to ((((((SW.start w #[.int .u64 a0, .int .u64 a1, .int .u64 a2, .int .u64 a3, .int .u64 a4] #[.int .u64 b0, .int .u64 b1, .int .u64 b2, .int .u64 b3, .int .u64 b4] #[.int .u64 0, .int .u64 0, .int .u64 0, .int .u64 0, .int .u64 0] rfl).step _ 0 _ _).step _ 1 _ _).step _ 2 _ _).step _ 3 _ _).step _ 4 _ _) (by simp only [List.setIfInBounds_toArray, List.set_cons_zero, List.set_cons_succ]) (by simp only [List.setIfInBounds_toArray, List.set_cons_zero, List.set_cons_succ])
  clear hW
  clear hx0 ht0 hp0 hq0 hx1 ht1 hp1 hq1 hx2 ht2 hp2 hq2 hx3 ht3 hp3 hq3 hx4 ht4 hp4 hq4
  refine wp_region_held_drew (S := fun v => SW w v #[.int .u64 p0, .int .u64 p1, .int .u64 p2, .int .u64 p3, .int .u64 p4] #[.int .u64 q0, .int .u64 q1, .int .u64 q2, .int .u64 q3, .int .u64 q4]) (by kernel_rfl) hS.drew (fun hS0 => ?_)
  refine wpAnyH_take (i := 0) (v := .agg #[.int .u64 p0, .int .u64 p1, .int .u64 p2, .int .u64 p3, .int .u64 p4]) rfl (by kernel_rfl) (by kernel_rfl) (by kernel_rfl) (fun _ _ _ h => h) (.inl ⟨by kernel_rfl, fun v hv => exec_row v 91 (.tmp 4) rfl w.heap.size 0 (by kernel_rfl) [.int .u64 p0, .int .u64 p1, .int .u64 p2, .int .u64 p3, .int .u64 p4] _ (range_row hv.1) Tryd.underlying91 rfl Tryd.infoElem'⟩) hS0 ?_
  simp only [nrm]
  refine wpAnyH_take (i := 1) (v := .agg #[.int .u64 q0, .int .u64 q1, .int .u64 q2, .int .u64 q3, .int .u64 q4]) rfl (by kernel_rfl) (by kernel_rfl) (by kernel_rfl) (fun _ _ _ h => h) (.inl ⟨by kernel_rfl, fun v hv => exec_row v 91 (.tmp 5) rfl (w.heap.size + 1) 0 (by kernel_rfl) [.int .u64 q0, .int .u64 q1, .int .u64 q2, .int .u64 q3, .int .u64 q4] _ (range_row hv.2.1) Tryd.underlying91 rfl Tryd.infoElem'⟩) hS0 ?_
  simp only [nrm]
  refine wpAnyH_ready (rs := [2]) (by kernel_rfl) (by simp) (AllReadyH.cons (o := _) rfl (fun K hK => ?_) AllReadyH.nil)
  rw [if_pos (by kernel_rfl)]
  simp only [Go.wp_at_zero, Go.wp_at_succ]
  obtain ⟨o, ho1, ho2⟩ := hS0.2.2.1.2.2
  refine wp_store_row 91 (.tmp 6) (.tmp 46) rfl (w.heap.size + 1 + 1) #[.int .u64 p0, .int .u64 p1, .int .u64 p2, .int .u64 p3, .int .u64 p4] (by kernel_rfl) (by kernel_rfl) 91 o ho2 Tryd.infoElem' ho1 (by simp [Value.oneCell']) ?_
  have hS1 := hS0.row2 #[.int .u64 p0, .int .u64 p1, .int .u64 p2, .int .u64 p3, .int .u64 p4] rfl
  have hp := setRow_heap u.drew (w.heap.size + 1 + 1) _ #[.int .u64 p0, .int .u64 p1, .int .u64 p2, .int .u64 p3, .int .u64 p4] 91 _ ho2
  refine hK.out _ _ hS1 (fun _ => ?_)
  clear hK K
  simp only [nrm]
  refine wpAnyH_ready (rs := [3]) (by kernel_rfl) (by simp) (AllReadyH.cons (o := _) rfl (fun K hK => ?_) AllReadyH.nil)
  rw [if_pos (by kernel_rfl)]
  simp only [Go.wp_at_zero, Go.wp_at_succ]
  obtain ⟨o2, ho3, ho4⟩ := hS1.2.2.2.2.2
  refine wp_store_row 91 (.tmp 7) (.tmp 47) rfl (w.heap.size + 1 + 1 + 1) #[.int .u64 q0, .int .u64 q1, .int .u64 q2, .int .u64 q3, .int .u64 q4] (by kernel_rfl) (by kernel_rfl) 91 o2 ho4 Tryd.infoElem' ho3 (by simp [Value.oneCell']) ?_
  have hS2 := hS1.row3 #[.int .u64 q0, .int .u64 q1, .int .u64 q2, .int .u64 q3, .int .u64 q4] rfl
  have hq := setRow_heap (u.drew.setRow (w.heap.size + 1 + 1) #[.int .u64 p0, .int .u64 p1, .int .u64 p2, .int .u64 p3, .int .u64 p4]) (w.heap.size + 1 + 1 + 1) _ #[.int .u64 q0, .int .u64 q1, .int .u64 q2, .int .u64 q3, .int .u64 q4] 91 _ ho4
  replace hp := (setRow_other (u.drew.setRow (w.heap.size + 1 + 1) #[.int .u64 p0, .int .u64 p1, .int .u64 p2, .int .u64 p3, .int .u64 p4]) (w.heap.size + 1 + 1 + 1) (w.heap.size + 1 + 1) #[.int .u64 q0, .int .u64 q1, .int .u64 q2, .int .u64 q3, .int .u64 q4] (by omega)).trans hp
  refine hK.out _ _ hS2 (fun _ => ?_)
  clear hK K hS hS0 hS1 ho1 ho2 ho3 ho4
  simp only [nrm]
  refine wpAnyH_done (by kernel_rfl) ?_ _
  have hG := hS2.2.2.1.1
  clear hS2
  generalize World.setRow _ _ _ = v at *
  have p0c := cell_of (i := 0) hp rfl
  have p1c := cell_of (i := 1) hp rfl
  have p2c := cell_of (i := 2) hp rfl
  have p3c := cell_of (i := 3) hp rfl
  have p4c := cell_of (i := 4) hp rfl
  have q0c := cell_of (i := 0) hq rfl
  have q1c := cell_of (i := 1) hq rfl
  have q2c := cell_of (i := 2) hq rfl
  have q3c := cell_of (i := 3) hq rfl
  have q4c := cell_of (i := 4) hq rfl
  clear hp hq
  go_wp2_with fail
  refine bodyPost_ret (v := .tuple #[.agg #[.int .u64 p0, .int .u64 p1, .int .u64 p2, .int .u64 p3, .int .u64 p4], .agg #[.int .u64 q0, .int .u64 q1, .int .u64 q2, .int .u64 q3, .int .u64 q4]]) ?_ rfl ?_
  · simp [results, Tryd.results78, go_sem, p0c, p1c, p2c, p3c, p4c, q0c, q1c, q2c, q3c, q4c]
  · exact ⟨rfl, hG⟩
end Go.Proofs.YtpmgmpihmpifgaaDoor.Cv
