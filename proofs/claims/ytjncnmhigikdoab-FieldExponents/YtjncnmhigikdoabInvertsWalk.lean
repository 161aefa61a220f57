/-
  FieldInverts: the walk, for whatever keys.
-/
import Derived.Test.YtjncnmhigikdoabBackMath
import Derived.Test.YtjncnmhigikdoabFerm
import Derived.Test.YtjncnmhigikdoabRegs
import Derived.Deep.RegionHeld3
namespace Go.Proofs.Ytjncnmhigikdoab
open Go.RowKit
set_option maxRecDepth 100000
set_option linter.unusedSimpArgs false
attribute [local go_sem ↓] Go.wp_at_zero Go.wp_at_succ

/-- cells of a number of the field -/
def EC (n : Int) (c : Array Value) : Prop := ∃ a0 a1 a2 a3 a4, c = #[.int .u64 a0, .int .u64 a1, .int .u64 a2, .int .u64 a3, .int .u64 a4] ∧ Hid (Rep n a0 a1 a2 a3 a4)
theorem EC.size {n : Int} (c : Array Value) (h : EC n c) : c.size = 5 := by
  obtain ⟨_, _, _, _, _, rfl, _⟩ := h; rfl
theorem EC.one {n : Int} (c : Array Value) (h : EC n c) : c.all (·.oneCell') = true := by
  obtain ⟨_, _, _, _, _, rfl, _⟩ := h; simp [Value.oneCell']
theorem Try.infoElem : (Try.prog.info? 29).map (·.size) = some 5 := by kernel_rfl
theorem wakes_at' (w : World) : Calls Try.prog 7 #[] w (fun r w' => r = .returned (.bool true) ∧ Gr w w') := wakes_ok w
set_option maxHeartbeats 4000000 in
theorem inverts_any (n m : Int) (hn : 0 ≤ n ∧ n < 115792089237316195423570985008687907853269984665640564039457584007913129639936) (hm : 0 ≤ m ∧ m < 115792089237316195423570985008687907853269984665640564039457584007913129639936) (w : World) :
    Calls Try.prog 4 #[.agg (kc (digs n 32)), .agg (kc (digs m 32))] w (fun r w' => r = .returned (.bool true) ∧ Gr w w') := by
  obtain ⟨LX, hLX⟩ : ∃ L, L = (digs n 32).map (Value.int .u8) := ⟨_, rfl⟩
  obtain ⟨LY, hLY⟩ : ∃ L, L = (digs m 32).map (Value.int .u8) := ⟨_, rfl⟩
  have eX : kc (digs n 32) = LX.toArray := by rw [hLX]; rfl
  have eY : kc (digs m 32) = LY.toArray := by rw [hLY]; rfl
  have kX : Hid (KeyIs LX n) := hide ⟨hn.1, hLX⟩
  have kY : Hid (KeyIs LY m) := hide ⟨hm.1, hLY⟩
  have hiX : (Try.prog.info? 23).map (·.size) = some LX.length := by rw [Try.infoKey, hLX, List.length_map, digs_len]
  have hiY : (Try.prog.info? 23).map (·.size) = some LY.length := by rw [Try.infoKey, hLY, List.length_map, digs_len]
  have hN0 : 0 ≤ n % 57896044618658097711785492504343953926634992332820282019728792003956564819968 := by omega
  have hM0 : 0 ≤ m % 57896044618658097711785492504343953926634992332820282019728792003956564819968 := by omega
  rw [eX, eY]
  clear hLX hLY eX eY hn hm
  generalize hNe : n % 57896044618658097711785492504343953926634992332820282019728792003956564819968 = N at hN0
  generalize hMe : m % 57896044618658097711785492504343953926634992332820282019728792003956564819968 = M at hM0
  have HNe := hide hNe
  have HMe := hide hMe
  have HN0 := hide hN0
  have HM0 := hide hM0
  clear hNe hMe hN0 hM0
  have HiX := hide hiX
  have HiY := hide hiY
  clear hiX hiY
  go_enter Try.func4, Try.ntmps4
  go_upto_region 3 with (go_at_call 7; refine (wakes_at' _).mono ?_; rintro r w1 ⟨rfl, hg⟩; have hG := hide (Gr.trans (((Gr.refl w).alloc _).alloc _) hg); have hX := hide (hg.blk (((Gr.refl _).alloc _).blk (blk_new w _))); have hY : Hid (w1.heap[w.heap.size + 1]? = some (.cells LY.toArray 23 (0, 0))) := by rw [← size_alloc w (.cells LX.toArray 23 (0, 0))]; exact hide (hg.blk (blk_new _ _)))
  refine wp_region_held_drew (S := fun v => Gr w1.drew v) (by kernel_rfl) (Gr.refl _) (fun hHeld => ?_)
  refine wpAnyH_take (i := 0) (v := .agg LX.toArray) rfl (by kernel_rfl) (by kernel_rfl) (by kernel_rfl) (fun _ _ _ h => h) (.inl ⟨by kernel_rfl, fun u hu => exec_row u 23 (.tmp 2) rfl w.heap.size 0 (by kernel_rfl) LX (.array 32 5) (range_row (hu.blk (unhide hX))) Try.underlying23 rfl (unhide HiX)⟩) (by assumption) ?_
  try simp only [Act.put, List.setIfInBounds_toArray, List.set_cons_zero, List.set_cons_succ, List.getElem_toArray, List.getElem_cons_zero, List.getElem_cons_succ]
  refine wpAnyH_take (i := 2) (v := .agg LY.toArray) rfl (by kernel_rfl) (by kernel_rfl) (by kernel_rfl) (fun _ _ _ h => h) (.inl ⟨by kernel_rfl, fun u hu => exec_row u 23 (.tmp 3) rfl (w.heap.size + 1) 0 (by kernel_rfl) LY (.array 32 5) (range_row (hu.blk (unhide hY))) Try.underlying23 rfl (unhide HiY)⟩) (by assumption) ?_
  try simp only [Act.put, List.setIfInBounds_toArray, List.set_cons_zero, List.set_cons_succ, List.getElem_toArray, List.getElem_cons_zero, List.getElem_cons_succ]
  refine define2 w1.drew _ (fun b1 b2 b3 b4 b5 b6 => #[true, b1, true, b2, b3, b4, b5, b6]) (EC N) (EC M) 5 5 29 29 #[.int .u64 0, .int .u64 0, .int .u64 0, .int .u64 0, .int .u64 0] #[.int .u64 0, .int .u64 0, .int .u64 0, .int .u64 0, .int .u64 0] 1 3 4 5 6 7
    rfl rfl EC.size EC.size (by kernel_rfl) (fun _ _ _ _ _ _ => ⟨rfl, rfl, rfl, rfl, rfl, rfl⟩) ?_ ?_ ?_ ?_ ?_ ?_ ?_ _ _ _ _ (by decide +kernel) (d2_start _ _ 11 13 5 6 _ _ _ _ _ _ _ _ _ rfl (Gr.refl _))
  all_goals simp only [fr2, Act.put, List.setIfInBounds_toArray, List.set_cons_zero, List.set_cons_succ, List.getElem_toArray, List.getElem_cons_zero, List.getElem_cons_succ]
  · intro v1 v2 q1 q2 u K hu hK
    refine wpOp_step (o := _) rfl (fun K' hK' => ?_)
    replace hK' := hide hK'
    replace hK := hide hK
    go_simp
    refine (from_L _ _ (by assumption) _).mono ?_
    rintro r w2 ⟨y0, y1, y2, y3, y4, rfl, hB, hg⟩
    rw [unhide HNe] at hB
    exact unhide hK' _ _ (unhide hK _ _ ⟨y0, y1, y2, y3, y4, rfl, hB⟩ hg)
  · intro v1 v2 q1 q2 u K hu hK
    refine wpOp_step (o := _) rfl (fun K' hK' => ?_)
    replace hK' := hide hK'
    replace hK := hide hK
    go_simp
    refine (from_L _ _ (by assumption) _).mono ?_
    rintro r w2 ⟨y0, y1, y2, y3, y4, rfl, hB, hg⟩
    rw [unhide HMe] at hB
    exact unhide hK' _ _ (unhide hK _ _ ⟨y0, y1, y2, y3, y4, rfl, hB⟩ hg)
  · intro v1 v2 q1 q2 u K hK
    refine wpOp_step (o := _) rfl (fun K' hK' => ?_)
    replace hK' := hide hK'
    replace hK := hide hK
    go_simp
    exact unhide hK' _ _ (unhide hK)
  · intro v1 v2 q1 q2 u K hK
    refine wpOp_step (o := _) rfl (fun K' hK' => ?_)
    replace hK' := hide hK'
    replace hK := hide hK
    go_simp
    exact unhide hK' _ _ (unhide hK)
  · intro c v2 g q2 u o K hb ho hc hK
    refine wpOp_step (o := _) rfl (fun K' hK' => ?_)
    rw [if_pos (by kernel_rfl)]
    simp only [Go.wp_at_zero, Go.wp_at_succ]
    exact wp_store_row 29 (.tmp 5) (.tmp 11) rfl g c (by kernel_rfl) (by kernel_rfl) 29 o hb (by rw [Try.infoElem, hc.size]) (by rw [ho, hc.size]) hc.one (hK' _ _ hK)
  · intro v1 c q1 g u o K hb ho hc hK
    refine wpOp_step (o := _) rfl (fun K' hK' => ?_)
    rw [if_pos (by kernel_rfl)]
    simp only [Go.wp_at_zero, Go.wp_at_succ]
    exact wp_store_row 29 (.tmp 6) (.tmp 13) rfl g c (by kernel_rfl) (by kernel_rfl) 29 o hb (by rw [Try.infoElem, hc.size]) (by rw [ho, hc.size]) hc.one (hK' _ _ hK)
  rintro c1 c2 g1 g2 u hgu ⟨a0, a1, a2, a3, a4, rfl, hA⟩ ⟨b0, b1, b2, b3, b4, rfl, hB⟩ hz1 hz2 hne hb1 hb2
  replace hG := hide (((unhide hG).drew).trans hgu)
  clear hgu hz1 hz2 hX hY hg hHeld kX kY HNe HMe HiX HiY
  have c0 := cell_of (i := 0) hb1 rfl
  have c1 := cell_of (i := 1) hb1 rfl
  have c2 := cell_of (i := 2) hb1 rfl
  have c3 := cell_of (i := 3) hb1 rfl
  have c4 := cell_of (i := 4) hb1 rfl
  replace hb1 := hide hb1
  replace hb2 := hide hb2
  go_upto_region 5 with (go_at_call 17; refine (inv_at _ _ _ _ _ _ (by assumption) _).mono ?_; rintro r w3 ⟨i0, i1, i2, i3, i4, rfl, hI, hg⟩)
  replace hb1 := hide (((Gr.refl _).alloc (.cells #[.int .u64 i0, .int .u64 i1, .int .u64 i2, .int .u64 i3, .int .u64 i4] 29 (0, 0))).blk (hg.blk (unhide hb1)))
  replace hb2 := hide (((Gr.refl _).alloc (.cells #[.int .u64 i0, .int .u64 i1, .int .u64 i2, .int .u64 i3, .int .u64 i4] 29 (0, 0))).blk (hg.blk (unhide hb2)))
  have hb3 := hide (blk_new w3 (.cells #[.int .u64 i0, .int .u64 i1, .int .u64 i2, .int .u64 i3, .int .u64 i4] 29 (0, 0)))
  replace hG := hide ((unhide hG).trans (hg.trans ((Gr.refl _).alloc (.cells #[.int .u64 i0, .int .u64 i1, .int .u64 i2, .int .u64 i3, .int .u64 i4] 29 (0, 0)))))
  clear hg c0 c1 c2 c3 c4
  generalize w3.heap.size = g3 at *
  generalize w3.alloc _ = v at *
  have a0c := cell_of (i := 0) (unhide hb1) rfl
  have a1c := cell_of (i := 1) (unhide hb1) rfl
  have a2c := cell_of (i := 2) (unhide hb1) rfl
  have a3c := cell_of (i := 3) (unhide hb1) rfl
  have a4c := cell_of (i := 4) (unhide hb1) rfl
  by_cases hz : N % pp = 0
  · have hq1 : Hid (decide (N % pp = 0) = true) := hide (by simp [hz])
    have hq2 : Hid (decide (N ^ p2 % pp = 0) = true) := hide (by simp [pow_zero_mod N hz])
    have hq3 : Hid (decide (N * M % pp = 0) = true) := hide (by simp [Int.mul_emod, hz])
    clear hz
    go_wp2_with (first
      | (go_at_call 15; refine (zero_at _ _ _ _ _ _ _ (by assumption) (by assumption) _).mono ?_; rintro r w4 ⟨rfl, hg⟩; replace hb1 := hide (hg.blk (unhide hb1)); replace hb2 := hide (hg.blk (unhide hb2)); replace hb3 := hide (hg.blk (unhide hb3)); replace hG := hide ((unhide hG).trans hg); clear hg; have a0c := cell_of (i := 0) (unhide hb1) rfl; have a1c := cell_of (i := 1) (unhide hb1) rfl; have a2c := cell_of (i := 2) (unhide hb1) rfl; have a3c := cell_of (i := 3) (unhide hb1) rfl; have a4c := cell_of (i := 4) (unhide hb1) rfl; have b0c := cell_of (i := 0) (unhide hb2) rfl; have b1c := cell_of (i := 1) (unhide hb2) rfl; have b2c := cell_of (i := 2) (unhide hb2) rfl; have b3c := cell_of (i := 3) (unhide hb2) rfl; have b4c := cell_of (i := 4) (unhide hb2) rfl; have i0c := cell_of (i := 0) (unhide hb3) rfl; have i1c := cell_of (i := 1) (unhide hb3) rfl; have i2c := cell_of (i := 2) (unhide hb3) rfl; have i3c := cell_of (i := 3) (unhide hb3) rfl; have i4c := cell_of (i := 4) (unhide hb3) rfl)
      | (go_at_call 11; refine (mul_at _ _ _ _ _ _ _ _ _ _ _ _ (by assumption) (by assumption) _).mono ?_; rintro r w5 ⟨y0, y1, y2, y3, y4, rfl, hP, hg⟩; replace hb1 := hide (hg.blk (unhide hb1)); replace hb2 := hide (hg.blk (unhide hb2)); replace hb3 := hide (hg.blk (unhide hb3)); replace hG := hide ((unhide hG).trans hg); clear hg))
    refine bodyPost_ret (v := .bool true) ?_ rfl ?_
    · simp [results, Try.results4, go_sem]
    · exact ⟨rfl, unhide hG⟩
  · have hq1 : Hid (decide (N % pp = 0) = false) := hide (by simp [hz])
    have Hz := hide hz
    clear hz
    go_upto_region 7 with (go_at_call 15; refine (zero_at _ _ _ _ _ _ _ (by assumption) (by assumption) _).mono ?_; rintro r w4 ⟨rfl, hg⟩; replace hb1 := hide (hg.blk (unhide hb1)); replace hb2 := hide (hg.blk (unhide hb2)); replace hb3 := hide (hg.blk (unhide hb3)); replace hG := hide ((unhide hG).trans hg); clear hg)
    have ha1 : Hid (decide (N * N ^ p2 % pp = 1 % pp) = true) := hide (by simp [finv N (unhide HN0) (unhide Hz)])
    have ha2 : Hid (decide ((N ^ p2) ^ p2 % pp = N % pp) = true) := hide (by simp [finv2 N (unhide HN0) (unhide Hz)])
    have ha3 : Hid (decide (N * M * N ^ p2 % pp = M % pp) = true) := hide (by simp [fdivides N M (unhide HN0) (unhide Hz)])
    have ha6 : Hid (decide ((N * M) ^ p2 % pp = N ^ p2 * M ^ p2 % pp) = true) := hide (by simp [mul_pow_mod N M])
    clear a0c a1c a2c a3c a4c
    generalize w4 = v at *
    by_cases hz2 : M % pp = 0
    · have hq4 : Hid (decide (N * M % pp = 0) = true) := hide (by simp [fzero N M (unhide HN0) (unhide Hz), hz2])
      have hq5 : Hid (decide (M % pp = 0) = true) := hide (by simp [hz2])
      clear hz2
      refine wp_region_held_drew (S := fun x => Gr v.drew x) (by kernel_rfl) (Gr.refl _) (fun hS0 => ?_)
      refine wpAnyH_take (i := 0) (v := (.agg #[.int .u64 a0, .int .u64 a1, .int .u64 a2, .int .u64 a3, .int .u64 a4])) rfl (by kernel_rfl) (by kernel_rfl) (by kernel_rfl) (fun _ _ _ h => h) (.inl ⟨by kernel_rfl, fun u hu => exec_row u 29 (.tmp 5) rfl g1 0 (by kernel_rfl) [.int .u64 a0, .int .u64 a1, .int .u64 a2, .int .u64 a3, .int .u64 a4] _ (range_row (hu.blk (unhide hb1))) Try.underlying29 rfl Try.infoElem⟩) hS0 ?_
      simp only [Act.put, List.setIfInBounds_toArray, List.set_cons_zero, List.set_cons_succ, List.getElem_toArray, List.getElem_cons_zero, List.getElem_cons_succ]
      refine wpAnyH_take (i := 1) (v := (.agg #[.int .u64 i0, .int .u64 i1, .int .u64 i2, .int .u64 i3, .int .u64 i4])) rfl (by kernel_rfl) (by kernel_rfl) (by kernel_rfl) (fun _ _ _ h => h) (.inl ⟨by kernel_rfl, fun u hu => exec_row u 29 (.tmp 7) rfl g3 0 (by kernel_rfl) [.int .u64 i0, .int .u64 i1, .int .u64 i2, .int .u64 i3, .int .u64 i4] _ (range_row (hu.blk (unhide hb3))) Try.underlying29 rfl Try.infoElem⟩) hS0 ?_
      simp only [Act.put, List.setIfInBounds_toArray, List.set_cons_zero, List.set_cons_succ, List.getElem_toArray, List.getElem_cons_zero, List.getElem_cons_succ]
      refine wpAnyH_ready (rs := [2]) (by kernel_rfl) (by simp) (AllReadyH.cons (o := _) rfl (fun K hK => ?_) AllReadyH.nil)
      refine step_callw (by kernel_rfl) 11 #[(.agg #[.int .u64 a0, .int .u64 a1, .int .u64 a2, .int .u64 a3, .int .u64 a4]), (.agg #[.int .u64 i0, .int .u64 i1, .int .u64 i2, .int .u64 i3, .int .u64 i4])] (by kernel_rfl) ((mul_at _ _ _ _ _ _ _ _ _ _ _ _ (by assumption) (by assumption) _).mono ?_)
      rintro r w1_ ⟨e2_0, e2_1, e2_2, e2_3, e2_4, rfl, h2_, hg⟩
      refine ⟨_, rfl, ?_⟩
      have hS1_ : Gr v.drew w1_ := Gr.trans hS0 hg
      clear hg
      refine hK.out _ _ hS1_ (fun _ => ?_)
      clear hK K
      simp only [Act.put, List.setIfInBounds_toArray, List.set_cons_zero, List.set_cons_succ, List.getElem_toArray, List.getElem_cons_zero, List.getElem_cons_succ]
      refine wpAnyH_ready (rs := [3]) (by kernel_rfl) (by simp) (AllReadyH.cons (o := _) rfl (fun K hK => ?_) AllReadyH.nil)
      refine step_callw (by kernel_rfl) 12 #[(.int .u64 1)] (by kernel_rfl) ((of_at _ (by omega) _).mono ?_)
      rintro r w2_ ⟨e3_0, e3_1, e3_2, e3_3, e3_4, rfl, h3_, hg⟩
      refine ⟨_, rfl, ?_⟩
      have hS2_ : Gr v.drew w2_ := Gr.trans hS1_ hg
      clear hg
      refine hK.out _ _ hS2_ (fun _ => ?_)
      clear hK K
      simp only [Act.put, List.setIfInBounds_toArray, List.set_cons_zero, List.set_cons_succ, List.getElem_toArray, List.getElem_cons_zero, List.getElem_cons_succ]
      refine wpAnyH_ready (rs := [4]) (by kernel_rfl) (by simp) (AllReadyH.cons (o := _) rfl (fun K hK => ?_) AllReadyH.nil)
      refine step_callw (by kernel_rfl) 10 #[(.agg #[.int .u64 e2_0, .int .u64 e2_1, .int .u64 e2_2, .int .u64 e2_3, .int .u64 e2_4]), (.agg #[.int .u64 e3_0, .int .u64 e3_1, .int .u64 e3_2, .int .u64 e3_3, .int .u64 e3_4])] (by kernel_rfl) ((same_at _ _ _ _ _ _ _ _ _ _ _ _ true (by assumption) (by assumption) (by assumption) _).mono ?_)
      rintro r w3_ ⟨rfl, hg⟩
      refine ⟨_, rfl, ?_⟩
      have hS3_ : Gr v.drew w3_ := Gr.trans hS2_ hg
      clear hg
      refine hK.out _ _ hS3_ (fun _ => ?_)
      clear hK K
      simp only [Act.put, List.setIfInBounds_toArray, List.set_cons_zero, List.set_cons_succ, List.getElem_toArray, List.getElem_cons_zero, List.getElem_cons_succ]
      refine wpAnyH_take (i := 5) (v := (.bool true)) rfl (by kernel_rfl) (by kernel_rfl) (by kernel_rfl) (fun _ _ _ h => h) (.inl ⟨by kernel_rfl, fun u hu => by kernel_rfl⟩) hS3_ ?_
      simp only [Act.put, List.setIfInBounds_toArray, List.set_cons_zero, List.set_cons_succ, List.getElem_toArray, List.getElem_cons_zero, List.getElem_cons_succ]
      refine wpAnyH_take (i := 6) (v := (.agg #[.int .u64 i0, .int .u64 i1, .int .u64 i2, .int .u64 i3, .int .u64 i4])) rfl (by kernel_rfl) (by kernel_rfl) (by kernel_rfl) (fun _ _ _ h => h) (.inl ⟨by kernel_rfl, fun u hu => exec_row u 29 (.tmp 7) rfl g3 0 (by kernel_rfl) [.int .u64 i0, .int .u64 i1, .int .u64 i2, .int .u64 i3, .int .u64 i4] _ (range_row (hu.blk (unhide hb3))) Try.underlying29 rfl Try.infoElem⟩) hS3_ ?_
      simp only [Act.put, List.setIfInBounds_toArray, List.set_cons_zero, List.set_cons_succ, List.getElem_toArray, List.getElem_cons_zero, List.getElem_cons_succ]
      refine wpAnyH_take (i := 8) (v := (.agg #[.int .u64 a0, .int .u64 a1, .int .u64 a2, .int .u64 a3, .int .u64 a4])) rfl (by kernel_rfl) (by kernel_rfl) (by kernel_rfl) (fun _ _ _ h => h) (.inl ⟨by kernel_rfl, fun u hu => exec_row u 29 (.tmp 5) rfl g1 0 (by kernel_rfl) [.int .u64 a0, .int .u64 a1, .int .u64 a2, .int .u64 a3, .int .u64 a4] _ (range_row (hu.blk (unhide hb1))) Try.underlying29 rfl Try.infoElem⟩) hS3_ ?_
      simp only [Act.put, List.setIfInBounds_toArray, List.set_cons_zero, List.set_cons_succ, List.getElem_toArray, List.getElem_cons_zero, List.getElem_cons_succ]
      refine wpAnyH_ready (rs := [7]) (by kernel_rfl) (by simp) (AllReadyH.cons (o := _) rfl (fun K hK => ?_) AllReadyH.nil)
      refine step_callw (by kernel_rfl) 17 #[(.agg #[.int .u64 i0, .int .u64 i1, .int .u64 i2, .int .u64 i3, .int .u64 i4])] (by kernel_rfl) ((inv_at _ _ _ _ _ _ (by assumption) _).mono ?_)
      rintro r w4_ ⟨e7_0, e7_1, e7_2, e7_3, e7_4, rfl, h7_, hg⟩
      refine ⟨_, rfl, ?_⟩
      have hS4_ : Gr v.drew w4_ := Gr.trans hS3_ hg
      clear hg
      refine hK.out _ _ hS4_ (fun _ => ?_)
      clear hK K
      simp only [Act.put, List.setIfInBounds_toArray, List.set_cons_zero, List.set_cons_succ, List.getElem_toArray, List.getElem_cons_zero, List.getElem_cons_succ]
      refine wpAnyH_ready (rs := [9]) (by kernel_rfl) (by simp) (AllReadyH.cons (o := _) rfl (fun K hK => ?_) AllReadyH.nil)
      refine step_callw (by kernel_rfl) 10 #[(.agg #[.int .u64 e7_0, .int .u64 e7_1, .int .u64 e7_2, .int .u64 e7_3, .int .u64 e7_4]), (.agg #[.int .u64 a0, .int .u64 a1, .int .u64 a2, .int .u64 a3, .int .u64 a4])] (by kernel_rfl) ((same_at _ _ _ _ _ _ _ _ _ _ _ _ true (by assumption) (by assumption) (by assumption) _).mono ?_)
      rintro r w5_ ⟨rfl, hg⟩
      refine ⟨_, rfl, ?_⟩
      have hS5_ : Gr v.drew w5_ := Gr.trans hS4_ hg
      clear hg
      refine hK.out _ _ hS5_ (fun _ => ?_)
      clear hK K
      simp only [Act.put, List.setIfInBounds_toArray, List.set_cons_zero, List.set_cons_succ, List.getElem_toArray, List.getElem_cons_zero, List.getElem_cons_succ]
      refine wpAnyH_take (i := 10) (v := (.bool true)) rfl (by kernel_rfl) (by kernel_rfl) (by kernel_rfl) (fun _ _ _ h => h) (.inl ⟨by kernel_rfl, fun u hu => by kernel_rfl⟩) hS5_ ?_
      simp only [Act.put, List.setIfInBounds_toArray, List.set_cons_zero, List.set_cons_succ, List.getElem_toArray, List.getElem_cons_zero, List.getElem_cons_succ]
      refine wpAnyH_take (i := 11) (v := (.bool true)) rfl (by kernel_rfl) (by kernel_rfl) (by kernel_rfl) (fun _ _ _ h => h) (.inl ⟨by kernel_rfl, fun u hu => by kernel_rfl⟩) hS5_ ?_
      simp only [Act.put, List.setIfInBounds_toArray, List.set_cons_zero, List.set_cons_succ, List.getElem_toArray, List.getElem_cons_zero, List.getElem_cons_succ]
      refine wpAnyH_take (i := 12) (v := (.agg #[.int .u64 a0, .int .u64 a1, .int .u64 a2, .int .u64 a3, .int .u64 a4])) rfl (by kernel_rfl) (by kernel_rfl) (by kernel_rfl) (fun _ _ _ h => h) (.inl ⟨by kernel_rfl, fun u hu => exec_row u 29 (.tmp 5) rfl g1 0 (by kernel_rfl) [.int .u64 a0, .int .u64 a1, .int .u64 a2, .int .u64 a3, .int .u64 a4] _ (range_row (hu.blk (unhide hb1))) Try.underlying29 rfl Try.infoElem⟩) hS5_ ?_
      simp only [Act.put, List.setIfInBounds_toArray, List.set_cons_zero, List.set_cons_succ, List.getElem_toArray, List.getElem_cons_zero, List.getElem_cons_succ]
      refine wpAnyH_take (i := 13) (v := (.agg #[.int .u64 b0, .int .u64 b1, .int .u64 b2, .int .u64 b3, .int .u64 b4])) rfl (by kernel_rfl) (by kernel_rfl) (by kernel_rfl) (fun _ _ _ h => h) (.inl ⟨by kernel_rfl, fun u hu => exec_row u 29 (.tmp 6) rfl g2 0 (by kernel_rfl) [.int .u64 b0, .int .u64 b1, .int .u64 b2, .int .u64 b3, .int .u64 b4] _ (range_row (hu.blk (unhide hb2))) Try.underlying29 rfl Try.infoElem⟩) hS5_ ?_
      simp only [Act.put, List.setIfInBounds_toArray, List.set_cons_zero, List.set_cons_succ, List.getElem_toArray, List.getElem_cons_zero, List.getElem_cons_succ]
      refine wpAnyH_take (i := 15) (v := (.agg #[.int .u64 i0, .int .u64 i1, .int .u64 i2, .int .u64 i3, .int .u64 i4])) rfl (by kernel_rfl) (by kernel_rfl) (by kernel_rfl) (fun _ _ _ h => h) (.inl ⟨by kernel_rfl, fun u hu => exec_row u 29 (.tmp 7) rfl g3 0 (by kernel_rfl) [.int .u64 i0, .int .u64 i1, .int .u64 i2, .int .u64 i3, .int .u64 i4] _ (range_row (hu.blk (unhide hb3))) Try.underlying29 rfl Try.infoElem⟩) hS5_ ?_
      simp only [Act.put, List.setIfInBounds_toArray, List.set_cons_zero, List.set_cons_succ, List.getElem_toArray, List.getElem_cons_zero, List.getElem_cons_succ]
      refine wpAnyH_take (i := 17) (v := (.agg #[.int .u64 b0, .int .u64 b1, .int .u64 b2, .int .u64 b3, .int .u64 b4])) rfl (by kernel_rfl) (by kernel_rfl) (by kernel_rfl) (fun _ _ _ h => h) (.inl ⟨by kernel_rfl, fun u hu => exec_row u 29 (.tmp 6) rfl g2 0 (by kernel_rfl) [.int .u64 b0, .int .u64 b1, .int .u64 b2, .int .u64 b3, .int .u64 b4] _ (range_row (hu.blk (unhide hb2))) Try.underlying29 rfl Try.infoElem⟩) hS5_ ?_
      simp only [Act.put, List.setIfInBounds_toArray, List.set_cons_zero, List.set_cons_succ, List.getElem_toArray, List.getElem_cons_zero, List.getElem_cons_succ]
      refine wpAnyH_ready (rs := [14]) (by kernel_rfl) (by simp) (AllReadyH.cons (o := _) rfl (fun K hK => ?_) AllReadyH.nil)
      refine step_callw (by kernel_rfl) 11 #[(.agg #[.int .u64 a0, .int .u64 a1, .int .u64 a2, .int .u64 a3, .int .u64 a4]), (.agg #[.int .u64 b0, .int .u64 b1, .int .u64 b2, .int .u64 b3, .int .u64 b4])] (by kernel_rfl) ((mul_at _ _ _ _ _ _ _ _ _ _ _ _ (by assumption) (by assumption) _).mono ?_)
      rintro r w6_ ⟨e14_0, e14_1, e14_2, e14_3, e14_4, rfl, h14_, hg⟩
      refine ⟨_, rfl, ?_⟩
      have hS6_ : Gr v.drew w6_ := Gr.trans hS5_ hg
      clear hg
      refine hK.out _ _ hS6_ (fun _ => ?_)
      clear hK K
      simp only [Act.put, List.setIfInBounds_toArray, List.set_cons_zero, List.set_cons_succ, List.getElem_toArray, List.getElem_cons_zero, List.getElem_cons_succ]
      refine wpAnyH_ready (rs := [16]) (by kernel_rfl) (by simp) (AllReadyH.cons (o := _) rfl (fun K hK => ?_) AllReadyH.nil)
      refine step_callw (by kernel_rfl) 11 #[(.agg #[.int .u64 e14_0, .int .u64 e14_1, .int .u64 e14_2, .int .u64 e14_3, .int .u64 e14_4]), (.agg #[.int .u64 i0, .int .u64 i1, .int .u64 i2, .int .u64 i3, .int .u64 i4])] (by kernel_rfl) ((mul_at _ _ _ _ _ _ _ _ _ _ _ _ (by assumption) (by assumption) _).mono ?_)
      rintro r w7_ ⟨e16_0, e16_1, e16_2, e16_3, e16_4, rfl, h16_, hg⟩
      refine ⟨_, rfl, ?_⟩
      have hS7_ : Gr v.drew w7_ := Gr.trans hS6_ hg
      clear hg
      refine hK.out _ _ hS7_ (fun _ => ?_)
      clear hK K
      simp only [Act.put, List.setIfInBounds_toArray, List.set_cons_zero, List.set_cons_succ, List.getElem_toArray, List.getElem_cons_zero, List.getElem_cons_succ]
      refine wpAnyH_ready (rs := [18]) (by kernel_rfl) (by simp) (AllReadyH.cons (o := _) rfl (fun K hK => ?_) AllReadyH.nil)
      refine step_callw (by kernel_rfl) 10 #[(.agg #[.int .u64 e16_0, .int .u64 e16_1, .int .u64 e16_2, .int .u64 e16_3, .int .u64 e16_4]), (.agg #[.int .u64 b0, .int .u64 b1, .int .u64 b2, .int .u64 b3, .int .u64 b4])] (by kernel_rfl) ((same_at _ _ _ _ _ _ _ _ _ _ _ _ true (by assumption) (by assumption) (by assumption) _).mono ?_)
      rintro r w8_ ⟨rfl, hg⟩
      refine ⟨_, rfl, ?_⟩
      have hS8_ : Gr v.drew w8_ := Gr.trans hS7_ hg
      clear hg
      refine hK.out _ _ hS8_ (fun _ => ?_)
      clear hK K
      simp only [Act.put, List.setIfInBounds_toArray, List.set_cons_zero, List.set_cons_succ, List.getElem_toArray, List.getElem_cons_zero, List.getElem_cons_succ]
      refine wpAnyH_take (i := 19) (v := (.bool true)) rfl (by kernel_rfl) (by kernel_rfl) (by kernel_rfl) (fun _ _ _ h => h) (.inl ⟨by kernel_rfl, fun u hu => by kernel_rfl⟩) hS8_ ?_
      simp only [Act.put, List.setIfInBounds_toArray, List.set_cons_zero, List.set_cons_succ, List.getElem_toArray, List.getElem_cons_zero, List.getElem_cons_succ]
      refine wpAnyH_take (i := 20) (v := (.bool true)) rfl (by kernel_rfl) (by kernel_rfl) (by kernel_rfl) (fun _ _ _ h => h) (.inl ⟨by kernel_rfl, fun u hu => by kernel_rfl⟩) hS8_ ?_
      simp only [Act.put, List.setIfInBounds_toArray, List.set_cons_zero, List.set_cons_succ, List.getElem_toArray, List.getElem_cons_zero, List.getElem_cons_succ]
      refine wpAnyH_take (i := 21) (v := (.agg #[.int .u64 a0, .int .u64 a1, .int .u64 a2, .int .u64 a3, .int .u64 a4])) rfl (by kernel_rfl) (by kernel_rfl) (by kernel_rfl) (fun _ _ _ h => h) (.inl ⟨by kernel_rfl, fun u hu => exec_row u 29 (.tmp 5) rfl g1 0 (by kernel_rfl) [.int .u64 a0, .int .u64 a1, .int .u64 a2, .int .u64 a3, .int .u64 a4] _ (range_row (hu.blk (unhide hb1))) Try.underlying29 rfl Try.infoElem⟩) hS8_ ?_
      simp only [Act.put, List.setIfInBounds_toArray, List.set_cons_zero, List.set_cons_succ, List.getElem_toArray, List.getElem_cons_zero, List.getElem_cons_succ]
      refine wpAnyH_take (i := 22) (v := (.agg #[.int .u64 b0, .int .u64 b1, .int .u64 b2, .int .u64 b3, .int .u64 b4])) rfl (by kernel_rfl) (by kernel_rfl) (by kernel_rfl) (fun _ _ _ h => h) (.inl ⟨by kernel_rfl, fun u hu => exec_row u 29 (.tmp 6) rfl g2 0 (by kernel_rfl) [.int .u64 b0, .int .u64 b1, .int .u64 b2, .int .u64 b3, .int .u64 b4] _ (range_row (hu.blk (unhide hb2))) Try.underlying29 rfl Try.infoElem⟩) hS8_ ?_
      simp only [Act.put, List.setIfInBounds_toArray, List.set_cons_zero, List.set_cons_succ, List.getElem_toArray, List.getElem_cons_zero, List.getElem_cons_succ]
      refine wpAnyH_take (i := 25) (v := (.agg #[.int .u64 b0, .int .u64 b1, .int .u64 b2, .int .u64 b3, .int .u64 b4])) rfl (by kernel_rfl) (by kernel_rfl) (by kernel_rfl) (fun _ _ _ h => h) (.inl ⟨by kernel_rfl, fun u hu => exec_row u 29 (.tmp 6) rfl g2 0 (by kernel_rfl) [.int .u64 b0, .int .u64 b1, .int .u64 b2, .int .u64 b3, .int .u64 b4] _ (range_row (hu.blk (unhide hb2))) Try.underlying29 rfl Try.infoElem⟩) hS8_ ?_
      simp only [Act.put, List.setIfInBounds_toArray, List.set_cons_zero, List.set_cons_succ, List.getElem_toArray, List.getElem_cons_zero, List.getElem_cons_succ]
      refine wpAnyH_ready (rs := [23]) (by kernel_rfl) (by simp) (AllReadyH.cons (o := _) rfl (fun K hK => ?_) AllReadyH.nil)
      refine step_callw (by kernel_rfl) 11 #[(.agg #[.int .u64 a0, .int .u64 a1, .int .u64 a2, .int .u64 a3, .int .u64 a4]), (.agg #[.int .u64 b0, .int .u64 b1, .int .u64 b2, .int .u64 b3, .int .u64 b4])] (by kernel_rfl) ((mul_at _ _ _ _ _ _ _ _ _ _ _ _ (by assumption) (by assumption) _).mono ?_)
      rintro r w9_ ⟨e23_0, e23_1, e23_2, e23_3, e23_4, rfl, h23_, hg⟩
      refine ⟨_, rfl, ?_⟩
      have hS9_ : Gr v.drew w9_ := Gr.trans hS8_ hg
      clear hg
      refine hK.out _ _ hS9_ (fun _ => ?_)
      clear hK K
      simp only [Act.put, List.setIfInBounds_toArray, List.set_cons_zero, List.set_cons_succ, List.getElem_toArray, List.getElem_cons_zero, List.getElem_cons_succ]
      refine wpAnyH_ready (rs := [24]) (by kernel_rfl) (by simp) (AllReadyH.cons (o := _) rfl (fun K hK => ?_) AllReadyH.nil)
      refine step_callw (by kernel_rfl) 15 #[(.agg #[.int .u64 e23_0, .int .u64 e23_1, .int .u64 e23_2, .int .u64 e23_3, .int .u64 e23_4])] (by kernel_rfl) ((zero_at _ _ _ _ _ _ true (by assumption) (by assumption) _).mono ?_)
      rintro r w10_ ⟨rfl, hg⟩
      refine ⟨_, rfl, ?_⟩
      have hS10_ : Gr v.drew w10_ := Gr.trans hS9_ hg
      clear hg
      refine hK.out _ _ hS10_ (fun _ => ?_)
      clear hK K
      simp only [Act.put, List.setIfInBounds_toArray, List.set_cons_zero, List.set_cons_succ, List.getElem_toArray, List.getElem_cons_zero, List.getElem_cons_succ]
      refine wpAnyH_ready (rs := [26]) (by kernel_rfl) (by simp) (AllReadyH.cons (o := _) rfl (fun K hK => ?_) AllReadyH.nil)
      refine step_callw (by kernel_rfl) 15 #[(.agg #[.int .u64 b0, .int .u64 b1, .int .u64 b2, .int .u64 b3, .int .u64 b4])] (by kernel_rfl) ((zero_at _ _ _ _ _ _ true (by assumption) (by assumption) _).mono ?_)
      rintro r w11_ ⟨rfl, hg⟩
      refine ⟨_, rfl, ?_⟩
      have hS11_ : Gr v.drew w11_ := Gr.trans hS10_ hg
      clear hg
      refine hK.out _ _ hS11_ (fun _ => ?_)
      clear hK K
      simp only [Act.put, List.setIfInBounds_toArray, List.set_cons_zero, List.set_cons_succ, List.getElem_toArray, List.getElem_cons_zero, List.getElem_cons_succ]
      refine wpAnyH_take (i := 27) (v := (.bool true)) rfl (by kernel_rfl) (by kernel_rfl) (by kernel_rfl) (fun _ _ _ h => h) (.inl ⟨by kernel_rfl, fun u hu => by kernel_rfl⟩) hS11_ ?_
      simp only [Act.put, List.setIfInBounds_toArray, List.set_cons_zero, List.set_cons_succ, List.getElem_toArray, List.getElem_cons_zero, List.getElem_cons_succ]
      refine wpAnyH_take (i := 28) (v := (.bool true)) rfl (by kernel_rfl) (by kernel_rfl) (by kernel_rfl) (fun _ _ _ h => h) (.inl ⟨by kernel_rfl, fun u hu => by kernel_rfl⟩) hS11_ ?_
      simp only [Act.put, List.setIfInBounds_toArray, List.set_cons_zero, List.set_cons_succ, List.getElem_toArray, List.getElem_cons_zero, List.getElem_cons_succ]
      refine wpAnyH_take (i := 29) (v := (.bool true)) rfl (by kernel_rfl) (by kernel_rfl) (by kernel_rfl) (fun _ _ _ h => h) (.inl ⟨by kernel_rfl, fun u hu => by kernel_rfl⟩) hS11_ ?_
      simp only [Act.put, List.setIfInBounds_toArray, List.set_cons_zero, List.set_cons_succ, List.getElem_toArray, List.getElem_cons_zero, List.getElem_cons_succ]
      refine wpAnyH_take (i := 30) (v := (.agg #[.int .u64 a0, .int .u64 a1, .int .u64 a2, .int .u64 a3, .int .u64 a4])) rfl (by kernel_rfl) (by kernel_rfl) (by kernel_rfl) (fun _ _ _ h => h) (.inl ⟨by kernel_rfl, fun u hu => exec_row u 29 (.tmp 5) rfl g1 0 (by kernel_rfl) [.int .u64 a0, .int .u64 a1, .int .u64 a2, .int .u64 a3, .int .u64 a4] _ (range_row (hu.blk (unhide hb1))) Try.underlying29 rfl Try.infoElem⟩) hS11_ ?_
      simp only [Act.put, List.setIfInBounds_toArray, List.set_cons_zero, List.set_cons_succ, List.getElem_toArray, List.getElem_cons_zero, List.getElem_cons_succ]
      refine wpAnyH_take (i := 31) (v := (.agg #[.int .u64 b0, .int .u64 b1, .int .u64 b2, .int .u64 b3, .int .u64 b4])) rfl (by kernel_rfl) (by kernel_rfl) (by kernel_rfl) (fun _ _ _ h => h) (.inl ⟨by kernel_rfl, fun u hu => exec_row u 29 (.tmp 6) rfl g2 0 (by kernel_rfl) [.int .u64 b0, .int .u64 b1, .int .u64 b2, .int .u64 b3, .int .u64 b4] _ (range_row (hu.blk (unhide hb2))) Try.underlying29 rfl Try.infoElem⟩) hS11_ ?_
      simp only [Act.put, List.setIfInBounds_toArray, List.set_cons_zero, List.set_cons_succ, List.getElem_toArray, List.getElem_cons_zero, List.getElem_cons_succ]
      refine wpAnyH_take (i := 34) (v := (.agg #[.int .u64 i0, .int .u64 i1, .int .u64 i2, .int .u64 i3, .int .u64 i4])) rfl (by kernel_rfl) (by kernel_rfl) (by kernel_rfl) (fun _ _ _ h => h) (.inl ⟨by kernel_rfl, fun u hu => exec_row u 29 (.tmp 7) rfl g3 0 (by kernel_rfl) [.int .u64 i0, .int .u64 i1, .int .u64 i2, .int .u64 i3, .int .u64 i4] _ (range_row (hu.blk (unhide hb3))) Try.underlying29 rfl Try.infoElem⟩) hS11_ ?_
      simp only [Act.put, List.setIfInBounds_toArray, List.set_cons_zero, List.set_cons_succ, List.getElem_toArray, List.getElem_cons_zero, List.getElem_cons_succ]
      refine wpAnyH_take (i := 35) (v := (.agg #[.int .u64 b0, .int .u64 b1, .int .u64 b2, .int .u64 b3, .int .u64 b4])) rfl (by kernel_rfl) (by kernel_rfl) (by kernel_rfl) (fun _ _ _ h => h) (.inl ⟨by kernel_rfl, fun u hu => exec_row u 29 (.tmp 6) rfl g2 0 (by kernel_rfl) [.int .u64 b0, .int .u64 b1, .int .u64 b2, .int .u64 b3, .int .u64 b4] _ (range_row (hu.blk (unhide hb2))) Try.underlying29 rfl Try.infoElem⟩) hS11_ ?_
      simp only [Act.put, List.setIfInBounds_toArray, List.set_cons_zero, List.set_cons_succ, List.getElem_toArray, List.getElem_cons_zero, List.getElem_cons_succ]
      refine wpAnyH_ready (rs := [32]) (by kernel_rfl) (by simp) (AllReadyH.cons (o := _) rfl (fun K hK => ?_) AllReadyH.nil)
      refine step_callw (by kernel_rfl) 11 #[(.agg #[.int .u64 a0, .int .u64 a1, .int .u64 a2, .int .u64 a3, .int .u64 a4]), (.agg #[.int .u64 b0, .int .u64 b1, .int .u64 b2, .int .u64 b3, .int .u64 b4])] (by kernel_rfl) ((mul_at _ _ _ _ _ _ _ _ _ _ _ _ (by assumption) (by assumption) _).mono ?_)
      rintro r w12_ ⟨e32_0, e32_1, e32_2, e32_3, e32_4, rfl, h32_, hg⟩
      refine ⟨_, rfl, ?_⟩
      have hS12_ : Gr v.drew w12_ := Gr.trans hS11_ hg
      clear hg
      refine hK.out _ _ hS12_ (fun _ => ?_)
      clear hK K
      simp only [Act.put, List.setIfInBounds_toArray, List.set_cons_zero, List.set_cons_succ, List.getElem_toArray, List.getElem_cons_zero, List.getElem_cons_succ]
      refine wpAnyH_ready (rs := [33]) (by kernel_rfl) (by simp) (AllReadyH.cons (o := _) rfl (fun K hK => ?_) AllReadyH.nil)
      refine step_callw (by kernel_rfl) 17 #[(.agg #[.int .u64 e32_0, .int .u64 e32_1, .int .u64 e32_2, .int .u64 e32_3, .int .u64 e32_4])] (by kernel_rfl) ((inv_at _ _ _ _ _ _ (by assumption) _).mono ?_)
      rintro r w13_ ⟨e33_0, e33_1, e33_2, e33_3, e33_4, rfl, h33_, hg⟩
      refine ⟨_, rfl, ?_⟩
      have hS13_ : Gr v.drew w13_ := Gr.trans hS12_ hg
      clear hg
      refine hK.out _ _ hS13_ (fun _ => ?_)
      clear hK K
      simp only [Act.put, List.setIfInBounds_toArray, List.set_cons_zero, List.set_cons_succ, List.getElem_toArray, List.getElem_cons_zero, List.getElem_cons_succ]
      refine wpAnyH_ready (rs := [36]) (by kernel_rfl) (by simp) (AllReadyH.cons (o := _) rfl (fun K hK => ?_) AllReadyH.nil)
      refine step_callw (by kernel_rfl) 17 #[(.agg #[.int .u64 b0, .int .u64 b1, .int .u64 b2, .int .u64 b3, .int .u64 b4])] (by kernel_rfl) ((inv_at _ _ _ _ _ _ (by assumption) _).mono ?_)
      rintro r w14_ ⟨e36_0, e36_1, e36_2, e36_3, e36_4, rfl, h36_, hg⟩
      refine ⟨_, rfl, ?_⟩
      have hS14_ : Gr v.drew w14_ := Gr.trans hS13_ hg
      clear hg
      refine hK.out _ _ hS14_ (fun _ => ?_)
      clear hK K
      simp only [Act.put, List.setIfInBounds_toArray, List.set_cons_zero, List.set_cons_succ, List.getElem_toArray, List.getElem_cons_zero, List.getElem_cons_succ]
      refine wpAnyH_ready (rs := [37]) (by kernel_rfl) (by simp) (AllReadyH.cons (o := _) rfl (fun K hK => ?_) AllReadyH.nil)
      refine step_callw (by kernel_rfl) 11 #[(.agg #[.int .u64 i0, .int .u64 i1, .int .u64 i2, .int .u64 i3, .int .u64 i4]), (.agg #[.int .u64 e36_0, .int .u64 e36_1, .int .u64 e36_2, .int .u64 e36_3, .int .u64 e36_4])] (by kernel_rfl) ((mul_at _ _ _ _ _ _ _ _ _ _ _ _ (by assumption) (by assumption) _).mono ?_)
      rintro r w15_ ⟨e37_0, e37_1, e37_2, e37_3, e37_4, rfl, h37_, hg⟩
      refine ⟨_, rfl, ?_⟩
      have hS15_ : Gr v.drew w15_ := Gr.trans hS14_ hg
      clear hg
      refine hK.out _ _ hS15_ (fun _ => ?_)
      clear hK K
      simp only [Act.put, List.setIfInBounds_toArray, List.set_cons_zero, List.set_cons_succ, List.getElem_toArray, List.getElem_cons_zero, List.getElem_cons_succ]
      refine wpAnyH_ready (rs := [38]) (by kernel_rfl) (by simp) (AllReadyH.cons (o := _) rfl (fun K hK => ?_) AllReadyH.nil)
      refine step_callw (by kernel_rfl) 10 #[(.agg #[.int .u64 e33_0, .int .u64 e33_1, .int .u64 e33_2, .int .u64 e33_3, .int .u64 e33_4]), (.agg #[.int .u64 e37_0, .int .u64 e37_1, .int .u64 e37_2, .int .u64 e37_3, .int .u64 e37_4])] (by kernel_rfl) ((same_at _ _ _ _ _ _ _ _ _ _ _ _ true (by assumption) (by assumption) (by assumption) _).mono ?_)
      rintro r w16_ ⟨rfl, hg⟩
      refine ⟨_, rfl, ?_⟩
      have hS16_ : Gr v.drew w16_ := Gr.trans hS15_ hg
      clear hg
      refine hK.out _ _ hS16_ (fun _ => ?_)
      clear hK K
      simp only [Act.put, List.setIfInBounds_toArray, List.set_cons_zero, List.set_cons_succ, List.getElem_toArray, List.getElem_cons_zero, List.getElem_cons_succ]
      refine wpAnyH_take (i := 39) (v := (.bool true)) rfl (by kernel_rfl) (by kernel_rfl) (by kernel_rfl) (fun _ _ _ h => h) (.inl ⟨by kernel_rfl, fun u hu => by kernel_rfl⟩) hS16_ ?_
      simp only [Act.put, List.setIfInBounds_toArray, List.set_cons_zero, List.set_cons_succ, List.getElem_toArray, List.getElem_cons_zero, List.getElem_cons_succ]
      refine wpAnyH_ready (rs := [40]) (by kernel_rfl) (by simp) (AllReadyH.cons (o := _) rfl (fun K hK => ?_) AllReadyH.nil)
      go_simp
      refine hK.out _ _ hS16_ (fun _ => ?_)
      clear hK K
      refine wpAnyH_done (by kernel_rfl) ?_ _
      go_wp2_with fail
      refine bodyPost_ret (v := .bool true) ?_ rfl ?_
      · simp [results, Try.results4, go_sem]
      · exact ⟨rfl, (unhide hG).trans (((Gr.refl _).drew).trans hS16_)⟩
    · have hq4 : Hid (decide (N * M % pp = 0) = false) := hide (by simp [fzero N M (unhide HN0) (unhide Hz), hz2])
      have hq5 : Hid (decide (M % pp = 0) = false) := hide (by simp [hz2])
      clear hz2
      refine wp_region_held_drew (S := fun x => Gr v.drew x) (by kernel_rfl) (Gr.refl _) (fun hS0 => ?_)
      refine wpAnyH_take (i := 0) (v := (.agg #[.int .u64 a0, .int .u64 a1, .int .u64 a2, .int .u64 a3, .int .u64 a4])) rfl (by kernel_rfl) (by kernel_rfl) (by kernel_rfl) (fun _ _ _ h => h) (.inl ⟨by kernel_rfl, fun u hu => exec_row u 29 (.tmp 5) rfl g1 0 (by kernel_rfl) [.int .u64 a0, .int .u64 a1, .int .u64 a2, .int .u64 a3, .int .u64 a4] _ (range_row (hu.blk (unhide hb1))) Try.underlying29 rfl Try.infoElem⟩) hS0 ?_
      simp only [Act.put, List.setIfInBounds_toArray, List.set_cons_zero, List.set_cons_succ, List.getElem_toArray, List.getElem_cons_zero, List.getElem_cons_succ]
      refine wpAnyH_take (i := 1) (v := (.agg #[.int .u64 i0, .int .u64 i1, .int .u64 i2, .int .u64 i3, .int .u64 i4])) rfl (by kernel_rfl) (by kernel_rfl) (by kernel_rfl) (fun _ _ _ h => h) (.inl ⟨by kernel_rfl, fun u hu => exec_row u 29 (.tmp 7) rfl g3 0 (by kernel_rfl) [.int .u64 i0, .int .u64 i1, .int .u64 i2, .int .u64 i3, .int .u64 i4] _ (range_row (hu.blk (unhide hb3))) Try.underlying29 rfl Try.infoElem⟩) hS0 ?_
      simp only [Act.put, List.setIfInBounds_toArray, List.set_cons_zero, List.set_cons_succ, List.getElem_toArray, List.getElem_cons_zero, List.getElem_cons_succ]
      refine wpAnyH_ready (rs := [2]) (by kernel_rfl) (by simp) (AllReadyH.cons (o := _) rfl (fun K hK => ?_) AllReadyH.nil)
      refine step_callw (by kernel_rfl) 11 #[(.agg #[.int .u64 a0, .int .u64 a1, .int .u64 a2, .int .u64 a3, .int .u64 a4]), (.agg #[.int .u64 i0, .int .u64 i1, .int .u64 i2, .int .u64 i3, .int .u64 i4])] (by kernel_rfl) ((mul_at _ _ _ _ _ _ _ _ _ _ _ _ (by assumption) (by assumption) _).mono ?_)
      rintro r w1_ ⟨e2_0, e2_1, e2_2, e2_3, e2_4, rfl, h2_, hg⟩
      refine ⟨_, rfl, ?_⟩
      have hS1_ : Gr v.drew w1_ := Gr.trans hS0 hg
      clear hg
      refine hK.out _ _ hS1_ (fun _ => ?_)
      clear hK K
      simp only [Act.put, List.setIfInBounds_toArray, List.set_cons_zero, List.set_cons_succ, List.getElem_toArray, List.getElem_cons_zero, List.getElem_cons_succ]
      refine wpAnyH_ready (rs := [3]) (by kernel_rfl) (by simp) (AllReadyH.cons (o := _) rfl (fun K hK => ?_) AllReadyH.nil)
      refine step_callw (by kernel_rfl) 12 #[(.int .u64 1)] (by kernel_rfl) ((of_at _ (by omega) _).mono ?_)
      rintro r w2_ ⟨e3_0, e3_1, e3_2, e3_3, e3_4, rfl, h3_, hg⟩
      refine ⟨_, rfl, ?_⟩
      have hS2_ : Gr v.drew w2_ := Gr.trans hS1_ hg
      clear hg
      refine hK.out _ _ hS2_ (fun _ => ?_)
      clear hK K
      simp only [Act.put, List.setIfInBounds_toArray, List.set_cons_zero, List.set_cons_succ, List.getElem_toArray, List.getElem_cons_zero, List.getElem_cons_succ]
      refine wpAnyH_ready (rs := [4]) (by kernel_rfl) (by simp) (AllReadyH.cons (o := _) rfl (fun K hK => ?_) AllReadyH.nil)
      refine step_callw (by kernel_rfl) 10 #[(.agg #[.int .u64 e2_0, .int .u64 e2_1, .int .u64 e2_2, .int .u64 e2_3, .int .u64 e2_4]), (.agg #[.int .u64 e3_0, .int .u64 e3_1, .int .u64 e3_2, .int .u64 e3_3, .int .u64 e3_4])] (by kernel_rfl) ((same_at _ _ _ _ _ _ _ _ _ _ _ _ true (by assumption) (by assumption) (by assumption) _).mono ?_)
      rintro r w3_ ⟨rfl, hg⟩
      refine ⟨_, rfl, ?_⟩
      have hS3_ : Gr v.drew w3_ := Gr.trans hS2_ hg
      clear hg
      refine hK.out _ _ hS3_ (fun _ => ?_)
      clear hK K
      simp only [Act.put, List.setIfInBounds_toArray, List.set_cons_zero, List.set_cons_succ, List.getElem_toArray, List.getElem_cons_zero, List.getElem_cons_succ]
      refine wpAnyH_take (i := 5) (v := (.bool true)) rfl (by kernel_rfl) (by kernel_rfl) (by kernel_rfl) (fun _ _ _ h => h) (.inl ⟨by kernel_rfl, fun u hu => by kernel_rfl⟩) hS3_ ?_
      simp only [Act.put, List.setIfInBounds_toArray, List.set_cons_zero, List.set_cons_succ, List.getElem_toArray, List.getElem_cons_zero, List.getElem_cons_succ]
      refine wpAnyH_take (i := 6) (v := (.agg #[.int .u64 i0, .int .u64 i1, .int .u64 i2, .int .u64 i3, .int .u64 i4])) rfl (by kernel_rfl) (by kernel_rfl) (by kernel_rfl) (fun _ _ _ h => h) (.inl ⟨by kernel_rfl, fun u hu => exec_row u 29 (.tmp 7) rfl g3 0 (by kernel_rfl) [.int .u64 i0, .int .u64 i1, .int .u64 i2, .int .u64 i3, .int .u64 i4] _ (range_row (hu.blk (unhide hb3))) Try.underlying29 rfl Try.infoElem⟩) hS3_ ?_
      simp only [Act.put, List.setIfInBounds_toArray, List.set_cons_zero, List.set_cons_succ, List.getElem_toArray, List.getElem_cons_zero, List.getElem_cons_succ]
      refine wpAnyH_take (i := 8) (v := (.agg #[.int .u64 a0, .int .u64 a1, .int .u64 a2, .int .u64 a3, .int .u64 a4])) rfl (by kernel_rfl) (by kernel_rfl) (by kernel_rfl) (fun _ _ _ h => h) (.inl ⟨by kernel_rfl, fun u hu => exec_row u 29 (.tmp 5) rfl g1 0 (by kernel_rfl) [.int .u64 a0, .int .u64 a1, .int .u64 a2, .int .u64 a3, .int .u64 a4] _ (range_row (hu.blk (unhide hb1))) Try.underlying29 rfl Try.infoElem⟩) hS3_ ?_
      simp only [Act.put, List.setIfInBounds_toArray, List.set_cons_zero, List.set_cons_succ, List.getElem_toArray, List.getElem_cons_zero, List.getElem_cons_succ]
      refine wpAnyH_ready (rs := [7]) (by kernel_rfl) (by simp) (AllReadyH.cons (o := _) rfl (fun K hK => ?_) AllReadyH.nil)
      refine step_callw (by kernel_rfl) 17 #[(.agg #[.int .u64 i0, .int .u64 i1, .int .u64 i2, .int .u64 i3, .int .u64 i4])] (by kernel_rfl) ((inv_at _ _ _ _ _ _ (by assumption) _).mono ?_)
      rintro r w4_ ⟨e7_0, e7_1, e7_2, e7_3, e7_4, rfl, h7_, hg⟩
      refine ⟨_, rfl, ?_⟩
      have hS4_ : Gr v.drew w4_ := Gr.trans hS3_ hg
      clear hg
      refine hK.out _ _ hS4_ (fun _ => ?_)
      clear hK K
      simp only [Act.put, List.setIfInBounds_toArray, List.set_cons_zero, List.set_cons_succ, List.getElem_toArray, List.getElem_cons_zero, List.getElem_cons_succ]
      refine wpAnyH_ready (rs := [9]) (by kernel_rfl) (by simp) (AllReadyH.cons (o := _) rfl (fun K hK => ?_) AllReadyH.nil)
      refine step_callw (by kernel_rfl) 10 #[(.agg #[.int .u64 e7_0, .int .u64 e7_1, .int .u64 e7_2, .int .u64 e7_3, .int .u64 e7_4]), (.agg #[.int .u64 a0, .int .u64 a1, .int .u64 a2, .int .u64 a3, .int .u64 a4])] (by kernel_rfl) ((same_at _ _ _ _ _ _ _ _ _ _ _ _ true (by assumption) (by assumption) (by assumption) _).mono ?_)
      rintro r w5_ ⟨rfl, hg⟩
      refine ⟨_, rfl, ?_⟩
      have hS5_ : Gr v.drew w5_ := Gr.trans hS4_ hg
      clear hg
      refine hK.out _ _ hS5_ (fun _ => ?_)
      clear hK K
      simp only [Act.put, List.setIfInBounds_toArray, List.set_cons_zero, List.set_cons_succ, List.getElem_toArray, List.getElem_cons_zero, List.getElem_cons_succ]
      refine wpAnyH_take (i := 10) (v := (.bool true)) rfl (by kernel_rfl) (by kernel_rfl) (by kernel_rfl) (fun _ _ _ h => h) (.inl ⟨by kernel_rfl, fun u hu => by kernel_rfl⟩) hS5_ ?_
      simp only [Act.put, List.setIfInBounds_toArray, List.set_cons_zero, List.set_cons_succ, List.getElem_toArray, List.getElem_cons_zero, List.getElem_cons_succ]
      refine wpAnyH_take (i := 11) (v := (.bool true)) rfl (by kernel_rfl) (by kernel_rfl) (by kernel_rfl) (fun _ _ _ h => h) (.inl ⟨by kernel_rfl, fun u hu => by kernel_rfl⟩) hS5_ ?_
      simp only [Act.put, List.setIfInBounds_toArray, List.set_cons_zero, List.set_cons_succ, List.getElem_toArray, List.getElem_cons_zero, List.getElem_cons_succ]
      refine wpAnyH_take (i := 12) (v := (.agg #[.int .u64 a0, .int .u64 a1, .int .u64 a2, .int .u64 a3, .int .u64 a4])) rfl (by kernel_rfl) (by kernel_rfl) (by kernel_rfl) (fun _ _ _ h => h) (.inl ⟨by kernel_rfl, fun u hu => exec_row u 29 (.tmp 5) rfl g1 0 (by kernel_rfl) [.int .u64 a0, .int .u64 a1, .int .u64 a2, .int .u64 a3, .int .u64 a4] _ (range_row (hu.blk (unhide hb1))) Try.underlying29 rfl Try.infoElem⟩) hS5_ ?_
      simp only [Act.put, List.setIfInBounds_toArray, List.set_cons_zero, List.set_cons_succ, List.getElem_toArray, List.getElem_cons_zero, List.getElem_cons_succ]
      refine wpAnyH_take (i := 13) (v := (.agg #[.int .u64 b0, .int .u64 b1, .int .u64 b2, .int .u64 b3, .int .u64 b4])) rfl (by kernel_rfl) (by kernel_rfl) (by kernel_rfl) (fun _ _ _ h => h) (.inl ⟨by kernel_rfl, fun u hu => exec_row u 29 (.tmp 6) rfl g2 0 (by kernel_rfl) [.int .u64 b0, .int .u64 b1, .int .u64 b2, .int .u64 b3, .int .u64 b4] _ (range_row (hu.blk (unhide hb2))) Try.underlying29 rfl Try.infoElem⟩) hS5_ ?_
      simp only [Act.put, List.setIfInBounds_toArray, List.set_cons_zero, List.set_cons_succ, List.getElem_toArray, List.getElem_cons_zero, List.getElem_cons_succ]
      refine wpAnyH_take (i := 15) (v := (.agg #[.int .u64 i0, .int .u64 i1, .int .u64 i2, .int .u64 i3, .int .u64 i4])) rfl (by kernel_rfl) (by kernel_rfl) (by kernel_rfl) (fun _ _ _ h => h) (.inl ⟨by kernel_rfl, fun u hu => exec_row u 29 (.tmp 7) rfl g3 0 (by kernel_rfl) [.int .u64 i0, .int .u64 i1, .int .u64 i2, .int .u64 i3, .int .u64 i4] _ (range_row (hu.blk (unhide hb3))) Try.underlying29 rfl Try.infoElem⟩) hS5_ ?_
      simp only [Act.put, List.setIfInBounds_toArray, List.set_cons_zero, List.set_cons_succ, List.getElem_toArray, List.getElem_cons_zero, List.getElem_cons_succ]
      refine wpAnyH_take (i := 17) (v := (.agg #[.int .u64 b0, .int .u64 b1, .int .u64 b2, .int .u64 b3, .int .u64 b4])) rfl (by kernel_rfl) (by kernel_rfl) (by kernel_rfl) (fun _ _ _ h => h) (.inl ⟨by kernel_rfl, fun u hu => exec_row u 29 (.tmp 6) rfl g2 0 (by kernel_rfl) [.int .u64 b0, .int .u64 b1, .int .u64 b2, .int .u64 b3, .int .u64 b4] _ (range_row (hu.blk (unhide hb2))) Try.underlying29 rfl Try.infoElem⟩) hS5_ ?_
      simp only [Act.put, List.setIfInBounds_toArray, List.set_cons_zero, List.set_cons_succ, List.getElem_toArray, List.getElem_cons_zero, List.getElem_cons_succ]
      refine wpAnyH_ready (rs := [14]) (by kernel_rfl) (by simp) (AllReadyH.cons (o := _) rfl (fun K hK => ?_) AllReadyH.nil)
      refine step_callw (by kernel_rfl) 11 #[(.agg #[.int .u64 a0, .int .u64 a1, .int .u64 a2, .int .u64 a3, .int .u64 a4]), (.agg #[.int .u64 b0, .int .u64 b1, .int .u64 b2, .int .u64 b3, .int .u64 b4])] (by kernel_rfl) ((mul_at _ _ _ _ _ _ _ _ _ _ _ _ (by assumption) (by assumption) _).mono ?_)
      rintro r w6_ ⟨e14_0, e14_1, e14_2, e14_3, e14_4, rfl, h14_, hg⟩
      refine ⟨_, rfl, ?_⟩
      have hS6_ : Gr v.drew w6_ := Gr.trans hS5_ hg
      clear hg
      refine hK.out _ _ hS6_ (fun _ => ?_)
      clear hK K
      simp only [Act.put, List.setIfInBounds_toArray, List.set_cons_zero, List.set_cons_succ, List.getElem_toArray, List.getElem_cons_zero, List.getElem_cons_succ]
      refine wpAnyH_ready (rs := [16]) (by kernel_rfl) (by simp) (AllReadyH.cons (o := _) rfl (fun K hK => ?_) AllReadyH.nil)
      refine step_callw (by kernel_rfl) 11 #[(.agg #[.int .u64 e14_0, .int .u64 e14_1, .int .u64 e14_2, .int .u64 e14_3, .int .u64 e14_4]), (.agg #[.int .u64 i0, .int .u64 i1, .int .u64 i2, .int .u64 i3, .int .u64 i4])] (by kernel_rfl) ((mul_at _ _ _ _ _ _ _ _ _ _ _ _ (by assumption) (by assumption) _).mono ?_)
      rintro r w7_ ⟨e16_0, e16_1, e16_2, e16_3, e16_4, rfl, h16_, hg⟩
      refine ⟨_, rfl, ?_⟩
      have hS7_ : Gr v.drew w7_ := Gr.trans hS6_ hg
      clear hg
      refine hK.out _ _ hS7_ (fun _ => ?_)
      clear hK K
      simp only [Act.put, List.setIfInBounds_toArray, List.set_cons_zero, List.set_cons_succ, List.getElem_toArray, List.getElem_cons_zero, List.getElem_cons_succ]
      refine wpAnyH_ready (rs := [18]) (by kernel_rfl) (by simp) (AllReadyH.cons (o := _) rfl (fun K hK => ?_) AllReadyH.nil)
      refine step_callw (by kernel_rfl) 10 #[(.agg #[.int .u64 e16_0, .int .u64 e16_1, .int .u64 e16_2, .int .u64 e16_3, .int .u64 e16_4]), (.agg #[.int .u64 b0, .int .u64 b1, .int .u64 b2, .int .u64 b3, .int .u64 b4])] (by kernel_rfl) ((same_at _ _ _ _ _ _ _ _ _ _ _ _ true (by assumption) (by assumption) (by assumption) _).mono ?_)
      rintro r w8_ ⟨rfl, hg⟩
      refine ⟨_, rfl, ?_⟩
      have hS8_ : Gr v.drew w8_ := Gr.trans hS7_ hg
      clear hg
      refine hK.out _ _ hS8_ (fun _ => ?_)
      clear hK K
      simp only [Act.put, List.setIfInBounds_toArray, List.set_cons_zero, List.set_cons_succ, List.getElem_toArray, List.getElem_cons_zero, List.getElem_cons_succ]
      refine wpAnyH_take (i := 19) (v := (.bool true)) rfl (by kernel_rfl) (by kernel_rfl) (by kernel_rfl) (fun _ _ _ h => h) (.inl ⟨by kernel_rfl, fun u hu => by kernel_rfl⟩) hS8_ ?_
      simp only [Act.put, List.setIfInBounds_toArray, List.set_cons_zero, List.set_cons_succ, List.getElem_toArray, List.getElem_cons_zero, List.getElem_cons_succ]
      refine wpAnyH_take (i := 20) (v := (.bool true)) rfl (by kernel_rfl) (by kernel_rfl) (by kernel_rfl) (fun _ _ _ h => h) (.inl ⟨by kernel_rfl, fun u hu => by kernel_rfl⟩) hS8_ ?_
      simp only [Act.put, List.setIfInBounds_toArray, List.set_cons_zero, List.set_cons_succ, List.getElem_toArray, List.getElem_cons_zero, List.getElem_cons_succ]
      refine wpAnyH_take (i := 21) (v := (.agg #[.int .u64 a0, .int .u64 a1, .int .u64 a2, .int .u64 a3, .int .u64 a4])) rfl (by kernel_rfl) (by kernel_rfl) (by kernel_rfl) (fun _ _ _ h => h) (.inl ⟨by kernel_rfl, fun u hu => exec_row u 29 (.tmp 5) rfl g1 0 (by kernel_rfl) [.int .u64 a0, .int .u64 a1, .int .u64 a2, .int .u64 a3, .int .u64 a4] _ (range_row (hu.blk (unhide hb1))) Try.underlying29 rfl Try.infoElem⟩) hS8_ ?_
      simp only [Act.put, List.setIfInBounds_toArray, List.set_cons_zero, List.set_cons_succ, List.getElem_toArray, List.getElem_cons_zero, List.getElem_cons_succ]
      refine wpAnyH_take (i := 22) (v := (.agg #[.int .u64 b0, .int .u64 b1, .int .u64 b2, .int .u64 b3, .int .u64 b4])) rfl (by kernel_rfl) (by kernel_rfl) (by kernel_rfl) (fun _ _ _ h => h) (.inl ⟨by kernel_rfl, fun u hu => exec_row u 29 (.tmp 6) rfl g2 0 (by kernel_rfl) [.int .u64 b0, .int .u64 b1, .int .u64 b2, .int .u64 b3, .int .u64 b4] _ (range_row (hu.blk (unhide hb2))) Try.underlying29 rfl Try.infoElem⟩) hS8_ ?_
      simp only [Act.put, List.setIfInBounds_toArray, List.set_cons_zero, List.set_cons_succ, List.getElem_toArray, List.getElem_cons_zero, List.getElem_cons_succ]
      refine wpAnyH_take (i := 25) (v := (.agg #[.int .u64 b0, .int .u64 b1, .int .u64 b2, .int .u64 b3, .int .u64 b4])) rfl (by kernel_rfl) (by kernel_rfl) (by kernel_rfl) (fun _ _ _ h => h) (.inl ⟨by kernel_rfl, fun u hu => exec_row u 29 (.tmp 6) rfl g2 0 (by kernel_rfl) [.int .u64 b0, .int .u64 b1, .int .u64 b2, .int .u64 b3, .int .u64 b4] _ (range_row (hu.blk (unhide hb2))) Try.underlying29 rfl Try.infoElem⟩) hS8_ ?_
      simp only [Act.put, List.setIfInBounds_toArray, List.set_cons_zero, List.set_cons_succ, List.getElem_toArray, List.getElem_cons_zero, List.getElem_cons_succ]
      refine wpAnyH_ready (rs := [23]) (by kernel_rfl) (by simp) (AllReadyH.cons (o := _) rfl (fun K hK => ?_) AllReadyH.nil)
      refine step_callw (by kernel_rfl) 11 #[(.agg #[.int .u64 a0, .int .u64 a1, .int .u64 a2, .int .u64 a3, .int .u64 a4]), (.agg #[.int .u64 b0, .int .u64 b1, .int .u64 b2, .int .u64 b3, .int .u64 b4])] (by kernel_rfl) ((mul_at _ _ _ _ _ _ _ _ _ _ _ _ (by assumption) (by assumption) _).mono ?_)
      rintro r w9_ ⟨e23_0, e23_1, e23_2, e23_3, e23_4, rfl, h23_, hg⟩
      refine ⟨_, rfl, ?_⟩
      have hS9_ : Gr v.drew w9_ := Gr.trans hS8_ hg
      clear hg
      refine hK.out _ _ hS9_ (fun _ => ?_)
      clear hK K
      simp only [Act.put, List.setIfInBounds_toArray, List.set_cons_zero, List.set_cons_succ, List.getElem_toArray, List.getElem_cons_zero, List.getElem_cons_succ]
      refine wpAnyH_ready (rs := [24]) (by kernel_rfl) (by simp) (AllReadyH.cons (o := _) rfl (fun K hK => ?_) AllReadyH.nil)
      refine step_callw (by kernel_rfl) 15 #[(.agg #[.int .u64 e23_0, .int .u64 e23_1, .int .u64 e23_2, .int .u64 e23_3, .int .u64 e23_4])] (by kernel_rfl) ((zero_at _ _ _ _ _ _ false (by assumption) (by assumption) _).mono ?_)
      rintro r w10_ ⟨rfl, hg⟩
      refine ⟨_, rfl, ?_⟩
      have hS10_ : Gr v.drew w10_ := Gr.trans hS9_ hg
      clear hg
      refine hK.out _ _ hS10_ (fun _ => ?_)
      clear hK K
      simp only [Act.put, List.setIfInBounds_toArray, List.set_cons_zero, List.set_cons_succ, List.getElem_toArray, List.getElem_cons_zero, List.getElem_cons_succ]
      refine wpAnyH_ready (rs := [26]) (by kernel_rfl) (by simp) (AllReadyH.cons (o := _) rfl (fun K hK => ?_) AllReadyH.nil)
      refine step_callw (by kernel_rfl) 15 #[(.agg #[.int .u64 b0, .int .u64 b1, .int .u64 b2, .int .u64 b3, .int .u64 b4])] (by kernel_rfl) ((zero_at _ _ _ _ _ _ false (by assumption) (by assumption) _).mono ?_)
      rintro r w11_ ⟨rfl, hg⟩
      refine ⟨_, rfl, ?_⟩
      have hS11_ : Gr v.drew w11_ := Gr.trans hS10_ hg
      clear hg
      refine hK.out _ _ hS11_ (fun _ => ?_)
      clear hK K
      simp only [Act.put, List.setIfInBounds_toArray, List.set_cons_zero, List.set_cons_succ, List.getElem_toArray, List.getElem_cons_zero, List.getElem_cons_succ]
      refine wpAnyH_take (i := 27) (v := (.bool true)) rfl (by kernel_rfl) (by kernel_rfl) (by kernel_rfl) (fun _ _ _ h => h) (.inl ⟨by kernel_rfl, fun u hu => by kernel_rfl⟩) hS11_ ?_
      simp only [Act.put, List.setIfInBounds_toArray, List.set_cons_zero, List.set_cons_succ, List.getElem_toArray, List.getElem_cons_zero, List.getElem_cons_succ]
      refine wpAnyH_take (i := 28) (v := (.bool true)) rfl (by kernel_rfl) (by kernel_rfl) (by kernel_rfl) (fun _ _ _ h => h) (.inl ⟨by kernel_rfl, fun u hu => by kernel_rfl⟩) hS11_ ?_
      simp only [Act.put, List.setIfInBounds_toArray, List.set_cons_zero, List.set_cons_succ, List.getElem_toArray, List.getElem_cons_zero, List.getElem_cons_succ]
      refine wpAnyH_take (i := 29) (v := (.bool true)) rfl (by kernel_rfl) (by kernel_rfl) (by kernel_rfl) (fun _ _ _ h => h) (.inl ⟨by kernel_rfl, fun u hu => by kernel_rfl⟩) hS11_ ?_
      simp only [Act.put, List.setIfInBounds_toArray, List.set_cons_zero, List.set_cons_succ, List.getElem_toArray, List.getElem_cons_zero, List.getElem_cons_succ]
      refine wpAnyH_take (i := 30) (v := (.agg #[.int .u64 a0, .int .u64 a1, .int .u64 a2, .int .u64 a3, .int .u64 a4])) rfl (by kernel_rfl) (by kernel_rfl) (by kernel_rfl) (fun _ _ _ h => h) (.inl ⟨by kernel_rfl, fun u hu => exec_row u 29 (.tmp 5) rfl g1 0 (by kernel_rfl) [.int .u64 a0, .int .u64 a1, .int .u64 a2, .int .u64 a3, .int .u64 a4] _ (range_row (hu.blk (unhide hb1))) Try.underlying29 rfl Try.infoElem⟩) hS11_ ?_
      simp only [Act.put, List.setIfInBounds_toArray, List.set_cons_zero, List.set_cons_succ, List.getElem_toArray, List.getElem_cons_zero, List.getElem_cons_succ]
      refine wpAnyH_take (i := 31) (v := (.agg #[.int .u64 b0, .int .u64 b1, .int .u64 b2, .int .u64 b3, .int .u64 b4])) rfl (by kernel_rfl) (by kernel_rfl) (by kernel_rfl) (fun _ _ _ h => h) (.inl ⟨by kernel_rfl, fun u hu => exec_row u 29 (.tmp 6) rfl g2 0 (by kernel_rfl) [.int .u64 b0, .int .u64 b1, .int .u64 b2, .int .u64 b3, .int .u64 b4] _ (range_row (hu.blk (unhide hb2))) Try.underlying29 rfl Try.infoElem⟩) hS11_ ?_
      simp only [Act.put, List.setIfInBounds_toArray, List.set_cons_zero, List.set_cons_succ, List.getElem_toArray, List.getElem_cons_zero, List.getElem_cons_succ]
      refine wpAnyH_take (i := 34) (v := (.agg #[.int .u64 i0, .int .u64 i1, .int .u64 i2, .int .u64 i3, .int .u64 i4])) rfl (by kernel_rfl) (by kernel_rfl) (by kernel_rfl) (fun _ _ _ h => h) (.inl ⟨by kernel_rfl, fun u hu => exec_row u 29 (.tmp 7) rfl g3 0 (by kernel_rfl) [.int .u64 i0, .int .u64 i1, .int .u64 i2, .int .u64 i3, .int .u64 i4] _ (range_row (hu.blk (unhide hb3))) Try.underlying29 rfl Try.infoElem⟩) hS11_ ?_
      simp only [Act.put, List.setIfInBounds_toArray, List.set_cons_zero, List.set_cons_succ, List.getElem_toArray, List.getElem_cons_zero, List.getElem_cons_succ]
      refine wpAnyH_take (i := 35) (v := (.agg #[.int .u64 b0, .int .u64 b1, .int .u64 b2, .int .u64 b3, .int .u64 b4])) rfl (by kernel_rfl) (by kernel_rfl) (by kernel_rfl) (fun _ _ _ h => h) (.inl ⟨by kernel_rfl, fun u hu => exec_row u 29 (.tmp 6) rfl g2 0 (by kernel_rfl) [.int .u64 b0, .int .u64 b1, .int .u64 b2, .int .u64 b3, .int .u64 b4] _ (range_row (hu.blk (unhide hb2))) Try.underlying29 rfl Try.infoElem⟩) hS11_ ?_
      simp only [Act.put, List.setIfInBounds_toArray, List.set_cons_zero, List.set_cons_succ, List.getElem_toArray, List.getElem_cons_zero, List.getElem_cons_succ]
      refine wpAnyH_ready (rs := [32]) (by kernel_rfl) (by simp) (AllReadyH.cons (o := _) rfl (fun K hK => ?_) AllReadyH.nil)
      refine step_callw (by kernel_rfl) 11 #[(.agg #[.int .u64 a0, .int .u64 a1, .int .u64 a2, .int .u64 a3, .int .u64 a4]), (.agg #[.int .u64 b0, .int .u64 b1, .int .u64 b2, .int .u64 b3, .int .u64 b4])] (by kernel_rfl) ((mul_at _ _ _ _ _ _ _ _ _ _ _ _ (by assumption) (by assumption) _).mono ?_)
      rintro r w12_ ⟨e32_0, e32_1, e32_2, e32_3, e32_4, rfl, h32_, hg⟩
      refine ⟨_, rfl, ?_⟩
      have hS12_ : Gr v.drew w12_ := Gr.trans hS11_ hg
      clear hg
      refine hK.out _ _ hS12_ (fun _ => ?_)
      clear hK K
      simp only [Act.put, List.setIfInBounds_toArray, List.set_cons_zero, List.set_cons_succ, List.getElem_toArray, List.getElem_cons_zero, List.getElem_cons_succ]
      refine wpAnyH_ready (rs := [33]) (by kernel_rfl) (by simp) (AllReadyH.cons (o := _) rfl (fun K hK => ?_) AllReadyH.nil)
      refine step_callw (by kernel_rfl) 17 #[(.agg #[.int .u64 e32_0, .int .u64 e32_1, .int .u64 e32_2, .int .u64 e32_3, .int .u64 e32_4])] (by kernel_rfl) ((inv_at _ _ _ _ _ _ (by assumption) _).mono ?_)
      rintro r w13_ ⟨e33_0, e33_1, e33_2, e33_3, e33_4, rfl, h33_, hg⟩
      refine ⟨_, rfl, ?_⟩
      have hS13_ : Gr v.drew w13_ := Gr.trans hS12_ hg
      clear hg
      refine hK.out _ _ hS13_ (fun _ => ?_)
      clear hK K
      simp only [Act.put, List.setIfInBounds_toArray, List.set_cons_zero, List.set_cons_succ, List.getElem_toArray, List.getElem_cons_zero, List.getElem_cons_succ]
      refine wpAnyH_ready (rs := [36]) (by kernel_rfl) (by simp) (AllReadyH.cons (o := _) rfl (fun K hK => ?_) AllReadyH.nil)
      refine step_callw (by kernel_rfl) 17 #[(.agg #[.int .u64 b0, .int .u64 b1, .int .u64 b2, .int .u64 b3, .int .u64 b4])] (by kernel_rfl) ((inv_at _ _ _ _ _ _ (by assumption) _).mono ?_)
      rintro r w14_ ⟨e36_0, e36_1, e36_2, e36_3, e36_4, rfl, h36_, hg⟩
      refine ⟨_, rfl, ?_⟩
      have hS14_ : Gr v.drew w14_ := Gr.trans hS13_ hg
      clear hg
      refine hK.out _ _ hS14_ (fun _ => ?_)
      clear hK K
      simp only [Act.put, List.setIfInBounds_toArray, List.set_cons_zero, List.set_cons_succ, List.getElem_toArray, List.getElem_cons_zero, List.getElem_cons_succ]
      refine wpAnyH_ready (rs := [37]) (by kernel_rfl) (by simp) (AllReadyH.cons (o := _) rfl (fun K hK => ?_) AllReadyH.nil)
      refine step_callw (by kernel_rfl) 11 #[(.agg #[.int .u64 i0, .int .u64 i1, .int .u64 i2, .int .u64 i3, .int .u64 i4]), (.agg #[.int .u64 e36_0, .int .u64 e36_1, .int .u64 e36_2, .int .u64 e36_3, .int .u64 e36_4])] (by kernel_rfl) ((mul_at _ _ _ _ _ _ _ _ _ _ _ _ (by assumption) (by assumption) _).mono ?_)
      rintro r w15_ ⟨e37_0, e37_1, e37_2, e37_3, e37_4, rfl, h37_, hg⟩
      refine ⟨_, rfl, ?_⟩
      have hS15_ : Gr v.drew w15_ := Gr.trans hS14_ hg
      clear hg
      refine hK.out _ _ hS15_ (fun _ => ?_)
      clear hK K
      simp only [Act.put, List.setIfInBounds_toArray, List.set_cons_zero, List.set_cons_succ, List.getElem_toArray, List.getElem_cons_zero, List.getElem_cons_succ]
      refine wpAnyH_ready (rs := [38]) (by kernel_rfl) (by simp) (AllReadyH.cons (o := _) rfl (fun K hK => ?_) AllReadyH.nil)
      refine step_callw (by kernel_rfl) 10 #[(.agg #[.int .u64 e33_0, .int .u64 e33_1, .int .u64 e33_2, .int .u64 e33_3, .int .u64 e33_4]), (.agg #[.int .u64 e37_0, .int .u64 e37_1, .int .u64 e37_2, .int .u64 e37_3, .int .u64 e37_4])] (by kernel_rfl) ((same_at _ _ _ _ _ _ _ _ _ _ _ _ true (by assumption) (by assumption) (by assumption) _).mono ?_)
      rintro r w16_ ⟨rfl, hg⟩
      refine ⟨_, rfl, ?_⟩
      have hS16_ : Gr v.drew w16_ := Gr.trans hS15_ hg
      clear hg
      refine hK.out _ _ hS16_ (fun _ => ?_)
      clear hK K
      simp only [Act.put, List.setIfInBounds_toArray, List.set_cons_zero, List.set_cons_succ, List.getElem_toArray, List.getElem_cons_zero, List.getElem_cons_succ]
      refine wpAnyH_take (i := 39) (v := (.bool true)) rfl (by kernel_rfl) (by kernel_rfl) (by kernel_rfl) (fun _ _ _ h => h) (.inl ⟨by kernel_rfl, fun u hu => by kernel_rfl⟩) hS16_ ?_
      simp only [Act.put, List.setIfInBounds_toArray, List.set_cons_zero, List.set_cons_succ, List.getElem_toArray, List.getElem_cons_zero, List.getElem_cons_succ]
      refine wpAnyH_ready (rs := [40]) (by kernel_rfl) (by simp) (AllReadyH.cons (o := _) rfl (fun K hK => ?_) AllReadyH.nil)
      go_simp
      refine hK.out _ _ hS16_ (fun _ => ?_)
      clear hK K
      refine wpAnyH_done (by kernel_rfl) ?_ _
      go_wp2_with fail
      refine bodyPost_ret (v := .bool true) ?_ rfl ?_
      · simp [results, Try.results4, go_sem]
      · exact ⟨rfl, (unhide hG).trans (((Gr.refl _).drew).trans hS16_)⟩
end Go.Proofs.Ytjncnmhigikdoab
