/-
  What Times answers.
-/
import Derived.Test.YtpmgmpihmpifgaaDoorVMul
import Derived.Test.YtpmgmpihmpifgaaDoorXK1
import Derived.Deep.Cut
namespace Go.Proofs.YtpmgmpihmpifgaaDoor.Cv
open Go.RowKit
set_option maxRecDepth 100000
set_option linter.unusedSimpArgs false
attribute [local go_sem ↓] Go.wp_at_zero Go.wp_at_succ

theorem Tryd.infoElemT : (Tryd.prog.info? 91).map (·.size) = some 5 := by kernel_rfl
theorem Tryd.infoSum : (Tryd.prog.info? 113).map (·.size) = some 2 := by kernel_rfl
/-- the limbs, no sum, and room for the answer -/
def TS (w v : World) (a0 a1 a2 a3 a4 : Int) : Prop := v.heap[w.heap.size + 1 + 1]? = some (.cells #[.int .u64 a0, .int .u64 a1, .int .u64 a2, .int .u64 a3, .int .u64 a4] 89 (0, 0)) ∧ v.heap[w.heap.size + 1 + 1 + 1]? = some (.cells #[.int .u64 0, .int .u64 0] 113 (0, 0)) ∧ Res w (w.heap.size + 1) 5 91 v
theorem TS.gr {w u v : World} {a0 a1 a2 a3 a4 : Int} (h : TS w u a0 a1 a2 a3 a4) (g : Gr u v) : TS w v a0 a1 a2 a3 a4 := ⟨g.blk h.1, g.blk h.2.1, h.2.2.gr g⟩
theorem TS.row {w v : World} {a0 a1 a2 a3 a4 : Int} (h : TS w v a0 a1 a2 a3 a4) (cs : Array Value) (hs : cs.size = 5) : TS w (v.setRow (w.heap.size + 1) cs) a0 a1 a2 a3 a4 :=
  ⟨(setRow_other _ _ _ _ (by omega)).trans h.1, (setRow_other _ _ _ _ (by omega)).trans h.2.1, h.2.2.row cs hs⟩
theorem times_val (a0 a1 a2 a3 a4 n : Int) : val (0 + a0 * n) (0 + a1 * n) (0 + a2 * n) (0 + a3 * n) (0 + a4 * n) = val a0 a1 a2 a3 a4 * n := by unfold val; grind

set_option maxHeartbeats 2000000 in
theorem times_ok (m n a0 a1 a2 a3 a4 : Int) (h : Rep m a0 a1 a2 a3 a4) (hn : 0 ≤ n ∧ n < 4294967296) (w : World) :
    Calls Tryd.prog 97 #[.agg #[.int .u64 a0, .int .u64 a1, .int .u64 a2, .int .u64 a3, .int .u64 a4], .int .u32 n] w (Reck (m * n) w) := by
  obtain ⟨⟨ha0, ha1, ha2, ha3, ha4⟩, hv⟩ := h
  have hm : val (0 + a0 * n) (0 + a1 * n) (0 + a2 * n) (0 + a3 * n) (0 + a4 * n) % pp = m * n % pp := by
    rw [times_val]
    exact mul_mod m n _ _ hv rfl
  have p0 := prod_lt ha0 hn
  obtain ⟨s0, s0e⟩ : ∃ s, s = (0 : Int) + a0 * n := ⟨_, rfl⟩
  have p1 := prod_lt ha1 hn
  obtain ⟨s1, s1e⟩ : ∃ s, s = (0 : Int) + a1 * n := ⟨_, rfl⟩
  have p2 := prod_lt ha2 hn
  obtain ⟨s2, s2e⟩ : ∃ s, s = (0 : Int) + a2 * n := ⟨_, rfl⟩
  have p3 := prod_lt ha3 hn
  obtain ⟨s3, s3e⟩ : ∃ s, s = (0 : Int) + a3 * n := ⟨_, rfl⟩
  have p4 := prod_lt ha4 hn
  obtain ⟨s4, s4e⟩ : ∃ s, s = (0 : Int) + a4 * n := ⟨_, rfl⟩
  rw [← s0e, ← s1e, ← s2e, ← s3e, ← s4e] at hm
  replace hm := hide hm
  have n0 : Hid (Nx 0 a0 n s0) := hide ⟨⟨by omega, by omega⟩, ⟨by omega, by omega⟩, s0e, by unfold Lo; omega⟩
  have n1 : Hid (Nx 0 a1 n s1) := hide ⟨⟨by omega, by omega⟩, ⟨by omega, by omega⟩, s1e, by unfold Lo; omega⟩
  have n2 : Hid (Nx 0 a2 n s2) := hide ⟨⟨by omega, by omega⟩, ⟨by omega, by omega⟩, s2e, by unfold Lo; omega⟩
  have n3 : Hid (Nx 0 a3 n s3) := hide ⟨⟨by omega, by omega⟩, ⟨by omega, by omega⟩, s3e, by unfold Lo; omega⟩
  have n4 : Hid (Nx 0 a4 n s4) := hide ⟨⟨by omega, by omega⟩, ⟨by omega, by omega⟩, s4e, by unfold Lo; omega⟩
  have nb : Hid (Nb s0 s1 s2 s3 s4) := hide ⟨by omega, by omega, by omega, by omega, by omega⟩
  have hwr : IntKind.u64.wrap n = n := wrap_id n (by omega) (by omega)
  have z0 : Hid (Sm 0 0 0) := hide ⟨⟨by omega, by omega⟩, rfl⟩
  clear ha0 ha1 ha2 ha3 ha4 hv p0 p1 p2 p3 p4 s0e s1e s2e s3e s4e
  go_enter Tryd.func97, Tryd.ntmps97
  go_upto_region 3 with fail
  generalize hW : World.alloc _ _ = u
  have hS : TS w u a0 a1 a2 a3 a4 := by
    rw [← hW]
    refine ⟨?_, ?_, (((((Gr.refl w).alloc _).alloc _).alloc _).alloc _), by omega, #[.int .u64 0, .int .u64 0, .int .u64 0, .int .u64 0, .int .u64 0], rfl, ?_⟩ <;> (simp only [blk_alloc, size_alloc]; repeat (first | rw [if_pos trivial] | rw [if_pos (by omega)] | rw [if_neg (by omega)]))
  clear hW hwr hn
  refine wp_region_held_drew (S := fun v => TS w v a0 a1 a2 a3 a4) (by kernel_rfl) (hS.gr ((Gr.refl _).drew)) (fun hS0 => ?_)
  refine wpAnyH_take (i := 0) (v := (.agg #[.int .u64 0, .int .u64 0])) rfl (by kernel_rfl) (by kernel_rfl) (by kernel_rfl) (fun _ _ _ h => h) (.inl ⟨by kernel_rfl, fun u hu => exec_row u 113 (.tmp 7) rfl (w.heap.size + 1 + 1 + 1) 0 (by kernel_rfl) [.int .u64 0, .int .u64 0] _ (range_row (id hu.2.1)) Tryd.underlying113 rfl Tryd.infoSum⟩) hS0 ?_
  simp only [nrm]
  refine wpAnyH_take (i := 1) (v := (.pointer (some ⟨w.heap.size + 1 + 1, 0, none⟩))) rfl (by kernel_rfl) (by kernel_rfl) (by kernel_rfl) (fun _ _ _ h => h) (.inl ⟨by kernel_rfl, fun u hu => by go_simp⟩) hS0 ?_
  simp only [nrm]
  refine wpAnyH_take (i := 2) (v := (.int .u64 a0)) rfl (by kernel_rfl) (by kernel_rfl) (by kernel_rfl) (fun _ _ _ h => h) (.inl ⟨by kernel_rfl, fun u hu => by have c := cell_of (i := 0) hu.1 rfl; go_simp⟩) hS0 ?_
  simp only [nrm]
  refine wpAnyH_take (i := 3) (v := (.int .u64 n)) rfl (by kernel_rfl) (by kernel_rfl) (by kernel_rfl) (fun _ _ _ h => h) (.inl ⟨by kernel_rfl, fun u hu => by kernel_rfl⟩) hS0 ?_
  simp only [nrm]
  refine wpAnyH_take (i := 5) (v := (.agg #[.int .u64 0, .int .u64 0])) rfl (by kernel_rfl) (by kernel_rfl) (by kernel_rfl) (fun _ _ _ h => h) (.inl ⟨by kernel_rfl, fun u hu => exec_row u 113 (.tmp 7) rfl (w.heap.size + 1 + 1 + 1) 0 (by kernel_rfl) [.int .u64 0, .int .u64 0] _ (range_row (id hu.2.1)) Tryd.underlying113 rfl Tryd.infoSum⟩) hS0 ?_
  simp only [nrm]
  refine wpAnyH_take (i := 6) (v := (.pointer (some ⟨w.heap.size + 1 + 1, 1, none⟩))) rfl (by kernel_rfl) (by kernel_rfl) (by kernel_rfl) (fun _ _ _ h => h) (.inl ⟨by kernel_rfl, fun u hu => by go_simp⟩) hS0 ?_
  simp only [nrm]
  refine wpAnyH_take (i := 7) (v := (.int .u64 a1)) rfl (by kernel_rfl) (by kernel_rfl) (by kernel_rfl) (fun _ _ _ h => h) (.inl ⟨by kernel_rfl, fun u hu => by have c := cell_of (i := 1) hu.1 rfl; go_simp⟩) hS0 ?_
  simp only [nrm]
  refine wpAnyH_take (i := 8) (v := (.int .u64 n)) rfl (by kernel_rfl) (by kernel_rfl) (by kernel_rfl) (fun _ _ _ h => h) (.inl ⟨by kernel_rfl, fun u hu => by kernel_rfl⟩) hS0 ?_
  simp only [nrm]
  refine wpAnyH_take (i := 10) (v := (.agg #[.int .u64 0, .int .u64 0])) rfl (by kernel_rfl) (by kernel_rfl) (by kernel_rfl) (fun _ _ _ h => h) (.inl ⟨by kernel_rfl, fun u hu => exec_row u 113 (.tmp 7) rfl (w.heap.size + 1 + 1 + 1) 0 (by kernel_rfl) [.int .u64 0, .int .u64 0] _ (range_row (id hu.2.1)) Tryd.underlying113 rfl Tryd.infoSum⟩) hS0 ?_
  simp only [nrm]
  refine wpAnyH_take (i := 11) (v := (.pointer (some ⟨w.heap.size + 1 + 1, 2, none⟩))) rfl (by kernel_rfl) (by kernel_rfl) (by kernel_rfl) (fun _ _ _ h => h) (.inl ⟨by kernel_rfl, fun u hu => by go_simp⟩) hS0 ?_
  simp only [nrm]
  refine wpAnyH_take (i := 12) (v := (.int .u64 a2)) rfl (by kernel_rfl) (by kernel_rfl) (by kernel_rfl) (fun _ _ _ h => h) (.inl ⟨by kernel_rfl, fun u hu => by have c := cell_of (i := 2) hu.1 rfl; go_simp⟩) hS0 ?_
  simp only [nrm]
  refine wpAnyH_take (i := 13) (v := (.int .u64 n)) rfl (by kernel_rfl) (by kernel_rfl) (by kernel_rfl) (fun _ _ _ h => h) (.inl ⟨by kernel_rfl, fun u hu => by kernel_rfl⟩) hS0 ?_
  simp only [nrm]
  refine wpAnyH_take (i := 15) (v := (.agg #[.int .u64 0, .int .u64 0])) rfl (by kernel_rfl) (by kernel_rfl) (by kernel_rfl) (fun _ _ _ h => h) (.inl ⟨by kernel_rfl, fun u hu => exec_row u 113 (.tmp 7) rfl (w.heap.size + 1 + 1 + 1) 0 (by kernel_rfl) [.int .u64 0, .int .u64 0] _ (range_row (id hu.2.1)) Tryd.underlying113 rfl Tryd.infoSum⟩) hS0 ?_
  simp only [nrm]
  refine wpAnyH_take (i := 16) (v := (.pointer (some ⟨w.heap.size + 1 + 1, 3, none⟩))) rfl (by kernel_rfl) (by kernel_rfl) (by kernel_rfl) (fun _ _ _ h => h) (.inl ⟨by kernel_rfl, fun u hu => by go_simp⟩) hS0 ?_
  simp only [nrm]
  refine wpAnyH_take (i := 17) (v := (.int .u64 a3)) rfl (by kernel_rfl) (by kernel_rfl) (by kernel_rfl) (fun _ _ _ h => h) (.inl ⟨by kernel_rfl, fun u hu => by have c := cell_of (i := 3) hu.1 rfl; go_simp⟩) hS0 ?_
  simp only [nrm]
  refine wpAnyH_take (i := 18) (v := (.int .u64 n)) rfl (by kernel_rfl) (by kernel_rfl) (by kernel_rfl) (fun _ _ _ h => h) (.inl ⟨by kernel_rfl, fun u hu => by kernel_rfl⟩) hS0 ?_
  simp only [nrm]
  refine wpAnyH_take (i := 20) (v := (.agg #[.int .u64 0, .int .u64 0])) rfl (by kernel_rfl) (by kernel_rfl) (by kernel_rfl) (fun _ _ _ h => h) (.inl ⟨by kernel_rfl, fun u hu => exec_row u 113 (.tmp 7) rfl (w.heap.size + 1 + 1 + 1) 0 (by kernel_rfl) [.int .u64 0, .int .u64 0] _ (range_row (id hu.2.1)) Tryd.underlying113 rfl Tryd.infoSum⟩) hS0 ?_
  simp only [nrm]
  refine wpAnyH_take (i := 21) (v := (.pointer (some ⟨w.heap.size + 1 + 1, 4, none⟩))) rfl (by kernel_rfl) (by kernel_rfl) (by kernel_rfl) (fun _ _ _ h => h) (.inl ⟨by kernel_rfl, fun u hu => by go_simp⟩) hS0 ?_
  simp only [nrm]
  refine wpAnyH_take (i := 22) (v := (.int .u64 a4)) rfl (by kernel_rfl) (by kernel_rfl) (by kernel_rfl) (fun _ _ _ h => h) (.inl ⟨by kernel_rfl, fun u hu => by have c := cell_of (i := 4) hu.1 rfl; go_simp⟩) hS0 ?_
  simp only [nrm]
  refine wpAnyH_take (i := 23) (v := (.int .u64 n)) rfl (by kernel_rfl) (by kernel_rfl) (by kernel_rfl) (fun _ _ _ h => h) (.inl ⟨by kernel_rfl, fun u hu => by kernel_rfl⟩) hS0 ?_
  simp only [nrm]
  refine wpAnyH_ready (rs := [4]) (by kernel_rfl) (by simp) (AllReadyH.cons (o := _) rfl (fun K hK => ?_) AllReadyH.nil)
  refine step_callw (by kernel_rfl) 82 #[(.agg #[.int .u64 0, .int .u64 0]), (.int .u64 a0), (.int .u64 n)] (by kernel_rfl) ((and_at _ _ _ _ _ _ (by assumption) (by assumption) _).mono ?_)
  rintro r w1_ ⟨h0, l0, rfl, hs0, hg⟩
  refine ⟨_, rfl, ?_⟩
  have hS1_ : TS w w1_ a0 a1 a2 a3 a4 := TS.gr hS0 hg
  clear hg
  refine hK.out _ _ hS1_ (fun _ => ?_)
  clear hK K
  simp only [nrm]
  refine wpAnyH_ready (rs := [9]) (by kernel_rfl) (by simp) (AllReadyH.cons (o := _) rfl (fun K hK => ?_) AllReadyH.nil)
  refine step_callw (by kernel_rfl) 82 #[(.agg #[.int .u64 0, .int .u64 0]), (.int .u64 a1), (.int .u64 n)] (by kernel_rfl) ((and_at _ _ _ _ _ _ (by assumption) (by assumption) _).mono ?_)
  rintro r w2_ ⟨h1, l1, rfl, hs1, hg⟩
  refine ⟨_, rfl, ?_⟩
  have hS2_ : TS w w2_ a0 a1 a2 a3 a4 := TS.gr hS1_ hg
  clear hg
  refine hK.out _ _ hS2_ (fun _ => ?_)
  clear hK K
  simp only [nrm]
  refine wpAnyH_ready (rs := [14]) (by kernel_rfl) (by simp) (AllReadyH.cons (o := _) rfl (fun K hK => ?_) AllReadyH.nil)
  refine step_callw (by kernel_rfl) 82 #[(.agg #[.int .u64 0, .int .u64 0]), (.int .u64 a2), (.int .u64 n)] (by kernel_rfl) ((and_at _ _ _ _ _ _ (by assumption) (by assumption) _).mono ?_)
  rintro r w3_ ⟨h2, l2, rfl, hs2, hg⟩
  refine ⟨_, rfl, ?_⟩
  have hS3_ : TS w w3_ a0 a1 a2 a3 a4 := TS.gr hS2_ hg
  clear hg
  refine hK.out _ _ hS3_ (fun _ => ?_)
  clear hK K
  simp only [nrm]
  refine wpAnyH_ready (rs := [19]) (by kernel_rfl) (by simp) (AllReadyH.cons (o := _) rfl (fun K hK => ?_) AllReadyH.nil)
  refine step_callw (by kernel_rfl) 82 #[(.agg #[.int .u64 0, .int .u64 0]), (.int .u64 a3), (.int .u64 n)] (by kernel_rfl) ((and_at _ _ _ _ _ _ (by assumption) (by assumption) _).mono ?_)
  rintro r w4_ ⟨h3, l3, rfl, hs3, hg⟩
  refine ⟨_, rfl, ?_⟩
  have hS4_ : TS w w4_ a0 a1 a2 a3 a4 := TS.gr hS3_ hg
  clear hg
  refine hK.out _ _ hS4_ (fun _ => ?_)
  clear hK K
  simp only [nrm]
  refine wpAnyH_ready (rs := [24]) (by kernel_rfl) (by simp) (AllReadyH.cons (o := _) rfl (fun K hK => ?_) AllReadyH.nil)
  refine step_callw (by kernel_rfl) 82 #[(.agg #[.int .u64 0, .int .u64 0]), (.int .u64 a4), (.int .u64 n)] (by kernel_rfl) ((and_at _ _ _ _ _ _ (by assumption) (by assumption) _).mono ?_)
  rintro r w5_ ⟨h4, l4, rfl, hs4, hg⟩
  refine ⟨_, rfl, ?_⟩
  have hS5_ : TS w w5_ a0 a1 a2 a3 a4 := TS.gr hS4_ hg
  clear hg
  refine hK.out _ _ hS5_ (fun _ => ?_)
  clear hK K
  simp only [nrm]
  refine wpAnyH_ready (rs := [25]) (by kernel_rfl) (by simp) (AllReadyH.cons (o := _) rfl (fun K hK => ?_) AllReadyH.nil)
  refine step_callw (by kernel_rfl) 81 #[(.agg #[.int .u64 h0, .int .u64 l0]), (.agg #[.int .u64 h1, .int .u64 l1]), (.agg #[.int .u64 h2, .int .u64 l2]), (.agg #[.int .u64 h3, .int .u64 l3]), (.agg #[.int .u64 h4, .int .u64 l4])] (by kernel_rfl) ((narrow_at _ _ _ _ _ _ _ _ _ _ _ _ _ _ _ (by assumption) (by assumption) (by assumption) (by assumption) (by assumption) (by assumption) _).mono ?_)
  rintro r w6_ ⟨r0, r1, r2, r3, r4, rfl, hR, hg⟩
  unfold five
  refine ⟨_, rfl, ?_⟩
  have hS6_ : TS w w6_ a0 a1 a2 a3 a4 := TS.gr hS5_ hg
  clear hg
  refine hK.out _ _ hS6_ (fun _ => ?_)
  clear hK K
  simp only [nrm]
  refine wpAnyH_take (i := 26) (v := (.agg #[.int .u64 r0, .int .u64 r1, .int .u64 r2, .int .u64 r3, .int .u64 r4])) rfl (by kernel_rfl) (by kernel_rfl) (by kernel_rfl) (fun _ _ _ h => h) (.inl ⟨by kernel_rfl, fun u hu => by go_simp⟩) hS6_ ?_
  simp only [nrm]
  refine wpAnyH_ready (rs := [27]) (by kernel_rfl) (by simp) (AllReadyH.cons (o := _) rfl (fun K hK => ?_) AllReadyH.nil)
  rw [if_pos (by kernel_rfl)]
  simp only [Go.wp_at_zero, Go.wp_at_succ]
  obtain ⟨o, ho1, ho2⟩ := hS6_.2.2.2.2
  refine wp_store_row 91 (.tmp 4) (.tmp 38) rfl (w.heap.size + 1) #[.int .u64 r0, .int .u64 r1, .int .u64 r2, .int .u64 r3, .int .u64 r4] (by kernel_rfl) (by kernel_rfl) 91 o ho2 Tryd.infoElemT ho1 (by simp [Value.oneCell']) ?_
  have hF := hS6_.row #[.int .u64 r0, .int .u64 r1, .int .u64 r2, .int .u64 r3, .int .u64 r4] rfl
  have hq := setRow_heap w6_ (w.heap.size + 1) _ #[.int .u64 r0, .int .u64 r1, .int .u64 r2, .int .u64 r3, .int .u64 r4] 91 _ ho2
  refine hK.out _ _ hF (fun _ => ?_)
  clear hK K
  simp only [nrm]
  refine wpAnyH_done (by kernel_rfl) ?_ _
  have c0 := cell_of (i := 0) hq rfl
  have c1 := cell_of (i := 1) hq rfl
  have c2 := cell_of (i := 2) hq rfl
  have c3 := cell_of (i := 3) hq rfl
  have c4 := cell_of (i := 4) hq rfl
  generalize World.setRow _ _ _ = v at *
  go_wp2_with fail
  refine bodyPost_ret (v := .agg #[.int .u64 r0, .int .u64 r1, .int .u64 r2, .int .u64 r3, .int .u64 r4]) ?_ rfl ?_
  · simp [results, Tryd.results97, go_sem, c0, c1, c2, c3, c4]
  · exact ⟨_, _, _, _, _, rfl, ⟨hR.1, hR.2.trans (unhide hm)⟩, hF.2.2.1⟩
theorem times_at (m n a0 a1 a2 a3 a4 : Int) (h : Hid (Rep m a0 a1 a2 a3 a4)) (hn : Hid (0 ≤ n ∧ n < 4294967296)) (w : World) :
    Calls Tryd.prog 97 #[.agg #[.int .u64 a0, .int .u64 a1, .int .u64 a2, .int .u64 a3, .int .u64 a4], .int .u32 n] w (fun r w' => ∃ a b c d e, r = .returned (.agg #[.int .u64 a, .int .u64 b, .int .u64 c, .int .u64 d, .int .u64 e]) ∧ Hid (Rep (m * n) a b c d e) ∧ Gr w w') := times_ok m n a0 a1 a2 a3 a4 h (unhide hn) w
end Go.Proofs.YtpmgmpihmpifgaaDoor.Cv
