/-
  FieldBack: the walk, for whatever key.
-/
import Derived.Test.YtjncnmhigikdoabBackMath
namespace Go.Proofs.Ytjncnmhigikdoab
open Go.RowKit
set_option maxRecDepth 100000
set_option linter.unusedSimpArgs false
attribute [local go_sem ↓] Go.wp_at_zero Go.wp_at_succ

theorem wakes_at (w : World) : Calls Try.prog 7 #[] w (fun r w' => r = .returned (.bool true) ∧ Gr w w') := wakes_ok w

theorem blk2 (w : World) (o o' : Obj) : ((w.alloc o).alloc o').heap[w.heap.size + 1]? = some o' := by
  simp only [blk_alloc, size_alloc]
  rw [if_pos trivial]
theorem alloc_row2 (w : World) (o : Obj) (z cs : Array Value) (t : TypeId) : Gr w (((w.alloc o).alloc (.cells z t (0, 0))).setRow (w.heap.size + 1) cs) ∧ (((w.alloc o).alloc (.cells z t (0, 0))).setRow (w.heap.size + 1) cs).heap[w.heap.size]? = some o ∧ (((w.alloc o).alloc (.cells z t (0, 0))).setRow (w.heap.size + 1) cs).heap[w.heap.size + 1]? = some (.cells cs t (0, 0)) := by
  have h := below_setRow (B := w.heap.size + 1) (g := w.heap.size + 1) (w0 := (w.alloc o).alloc (.cells z t (0, 0))) (Below.refl _ _) (Nat.le_refl _) cs
  refine ⟨below_setRow (((Gr.refl w).alloc _).alloc _) (by omega) _, ?_, setRow_heap _ _ _ _ _ _ (blk2 _ _ _)⟩
  rw [h.block w.heap.size (by omega)]
  simp only [blk_alloc, size_alloc]
  rw [if_neg (by omega), if_pos trivial]
theorem key_c31 {v : World} {b : Nat} {n : Int} (h : v.heap[b]? = some (.cells (kc (digs n 32)) 23 (0, 0))) : v.cell? ⟨b, 31, none⟩ = some (.int .u8 (n / 256 ^ 31 % 256)) := by
  have := KB.cell (l := digs n 32) h 31 (by rw [digs_len]; omega)
  rwa [digs_getD n 31 (by omega)] at this

theorem exec_mid {op : Oper} {a : Act} (w : World) (ty : TypeId) (x : Operand) (ho : op.op = .load ty x)
    (b o : Nat) (hx : a.eval x = .pointer (some ⟨b, o, none⟩)) (cs : List Value) (d : TypeDesc) (h : w.rangeAt b o cs)
    (hu : Try.prog.underlying ty = some d) (hd : d.isRow = true) (hi : (Try.prog.info? ty).map (·.size) = some cs.length) : (execOp a.eval op).run Try.prog w = .ok (.value (.agg cs.toArray)) w := by
  unfold execOp
  simp only [ho, hx, Instr.loadAt, Instr.sureAddr, Sem.run_bind, Sem.run_pure, Result.andThen_ok, run_loadVar_mid w b o ty cs d h hu hd hi]

set_option maxHeartbeats 4000000 in
theorem back_any (n : Int) (hn : 0 ≤ n ∧ n < 115792089237316195423570985008687907853269984665640564039457584007913129639936) (w : World) :
    Calls Try.prog 6 #[.agg (kc (digs n 32))] w (fun r w' => r = .returned (.bool true) ∧ Gr w w') := by
  have hm : 0 ≤ n % 57896044618658097711785492504343953926634992332820282019728792003956564819968 % pp ∧ n % 57896044618658097711785492504343953926634992332820282019728792003956564819968 % pp < pp := by unfold pp; omega
  have hpp : pp < 57896044618658097711785492504343953926634992332820282019728792003956564819968 := by decide
  generalize hp : n % 57896044618658097711785492504343953926634992332820282019728792003956564819968 % pp = p at hm
  have hN : Hid (0 ≤ n) := hide hn.1
  have hP : Hid (0 ≤ p) := hide hm.1
  have hB31 : kc (digs p 32) = kc (digs p 32) := rfl
  have Hn := hide hn
  have Hp := hide hp
  have Hm := hide hm
  have Hpp := hide hpp
  clear hn hp hm hpp hB31
  obtain ⟨z, hz⟩ : ∃ z, z = n / 256 ^ 31 % 256 := ⟨_, rfl⟩
  replace hz := hide hz
  go_enter Try.func6, Try.ntmps6
  go_wp2_with (first
    | (go_at_call 7; refine (wakes_at _).mono ?_; rintro r w1 ⟨rfl, hg⟩; have hG := Gr.trans ((Gr.refl w).alloc _) hg; have hX := hide (hg.blk (blk_new w _)))
    | (go_at_call 8; refine (from_at _ (by assumption) _).mono ?_; rintro r w2 ⟨a0, a1, a2, a3, a4, rfl, hA, hg⟩; (try replace hBk := hide (hg.blk (unhide hBk))); replace hX := hide (hg.blk (unhide hX)); replace hG := hG.trans hg)
    | (go_at_call 20; refine (bytes_at _ _ _ _ _ _ (by assumption) _).mono ?_; rintro r w3 ⟨rfl, hg⟩; rw [unhide Hp]; replace hX := hide (hg.blk (unhide hX)); replace hG := hG.trans hg)
    | (refine wpList_load_row rfl 23 (.tmp 1) rfl w.heap.size rfl 23 (kc (digs n 32)) (0, 0) _ (by first | exact unhide hX | exact ((Gr.refl _).alloc _).blk (unhide hX)) Try.underlying23 rfl (by rw [Try.infoKey, kc_size, digs_len]) ?_)
    | (refine wpList_load_row rfl 23 (.tmp 3) rfl w3.heap.size rfl 23 (kc (digs p 32)) (0, 0) _ (by exact unhide hBk) Try.underlying23 rfl (by rw [Try.infoKey, kc_size, digs_len]) ?_)
    | (refine wpList_store_row rfl 23 (.tmp 3) (.tmp 10) rfl w3.heap.size (kc (digs p 32)) rfl rfl 23 _ (by exact blk_new _ _) (by rw [Try.infoKey, kc_size, digs_len]) (by rw [kc_size, digs_len]; rfl) (kc_one _) ?_; obtain ⟨hgR, hbR⟩ := alloc_row w3 _ (kc (digs p 32)) 23; generalize World.setRow _ _ _ = u3 at *; have hBk := hide hbR; clear hbR; replace hX := hide (hgR.blk (unhide hX)); replace hG := hG.trans hgR)
    | (refine wpList_store_row rfl 23 (.tmp 5) (.tmp 13) rfl (w2.heap.size + 1) (kc (digs n 32)) rfl rfl 23 _ (by exact blk2 _ _ _) (by rw [Try.infoKey, kc_size, digs_len]) (by rw [kc_size, digs_len]; rfl) (kc_one _) ?_; have sx := lt_of_block (unhide hX); have sb := lt_of_block (unhide hBk); obtain ⟨hgR, hbC, hbR⟩ := alloc_row2 w2 _ _ (kc (digs n 32)) 23; generalize World.setRow _ _ _ = u5 at *; have hT := hide hbR; have hCk := hide hbC; clear hbC; replace hX := hide (hgR.blk (unhide hX)); replace hBk := hide (hgR.blk (unhide hBk)); replace hG := hG.trans hgR; have c31 := key_c31 hbR; have f31 := froz_of (i := 31) hbR; clear hbR; rw [← unhide hz] at c31))
  have sw : w.heap.size ≤ w2.heap.size + 1 := by omega
  have hG6 : Gr w (u5.setCell ⟨w2.heap.size + 1, 31, none⟩ (.int .u8 (bits .xor .u8 z 128))) := hG.setCell (by exact sw) _
  obtain ⟨y, hy⟩ : ∃ y, y = p / 256 ^ 31 % 256 := ⟨_, rfl⟩
  obtain ⟨LX, hLX⟩ : ∃ L, L = (digs n 32).map (Value.int .u8) := ⟨_, rfl⟩
  obtain ⟨LB, hLB⟩ : ∃ L, L = (digs p 32).map (Value.int .u8) := ⟨_, rfl⟩
  obtain ⟨LT, hLT⟩ : ∃ L, L = (digs (turn n) 32).map (Value.int .u8) := ⟨_, rfl⟩
  have hF : Hid (FB w.heap.size w3.heap.size w2.heap.size (w2.heap.size + 1) LX LB LT a0 a1 a2 a3 a4 (u5.setCell ⟨w2.heap.size + 1, 31, none⟩ (.int .u8 (bits .xor .u8 z 128)))) := by
    refine hide ⟨?_, ?_, ?_, ?_⟩
    · rw [Below.heap_setCell u5 _ _ _ (by show w.heap.size ≠ w2.heap.size + 1; omega), hLX]; exact unhide hX
    · rw [Below.heap_setCell u5 _ _ _ (by show w3.heap.size ≠ w2.heap.size + 1; omega), hLB]; exact unhide hBk
    · rw [Below.heap_setCell u5 _ _ _ (by show w2.heap.size ≠ w2.heap.size + 1; omega)]; exact unhide hCk
    · have h1 := KB.set (l := digs n 32) (unhide hT) 31 (bits .xor .u8 z 128)
      rw [unhide hz, turn_digs n (unhide Hn)] at h1
      rw [hLT, unhide hz]; exact h1
  have c31y : ∀ v, FB w.heap.size w3.heap.size w2.heap.size (w2.heap.size + 1) LX LB LT a0 a1 a2 a3 a4 v → v.cell? ⟨w3.heap.size, 31, none⟩ = some (.int .u8 y) := by
    intro v hv
    have h1 := hv.2.1
    rw [hLB] at h1
    rw [hy]
    exact key_c31 h1
  have HR : Hid (∀ v, FB w.heap.size w3.heap.size w2.heap.size (w2.heap.size + 1) LX LB LT a0 a1 a2 a3 a4 v → (v.rangeAt w.heap.size 0 LX ∧ v.rangeAt w3.heap.size 0 LB ∧ v.rangeAt (w2.heap.size + 1) 0 LT ∧ v.cell? ⟨w2.heap.size, 0, none⟩ = some (.int .u64 a0) ∧ v.cell? ⟨w2.heap.size, 1, none⟩ = some (.int .u64 a1) ∧ v.cell? ⟨w2.heap.size, 2, none⟩ = some (.int .u64 a2) ∧ v.cell? ⟨w2.heap.size, 3, none⟩ = some (.int .u64 a3) ∧ v.cell? ⟨w2.heap.size, 4, none⟩ = some (.int .u64 a4) ∧ v.cell? ⟨w3.heap.size, 31, none⟩ = some (.int .u8 y))) := hide (fun v hv => ⟨range_of hv.1, range_of hv.2.1, range_of hv.2.2.2, cell_of hv.2.2.1 rfl, cell_of hv.2.2.1 rfl, cell_of hv.2.2.1 rfl, cell_of hv.2.2.1 rfl, cell_of hv.2.2.1 rfl, c31y v hv⟩)
  clear c31y c31 f31 hX hBk hCk hT
  have hy128 : y < 128 := by
    have h1 := unhide Hm
    have e : (256 : Int) ^ 31 = 452312848583266388373324160190187140051835877600158453279131187530910662656 := by decide
    rw [hy, e]
    unfold pp at h1
    omega
  have hyd : decide (y < 128) = true := by simp [hy128]
  have hpt : p % 57896044618658097711785492504343953926634992332820282019728792003956564819968 = p := by have := unhide Hm; have := unhide Hpp; omega
  have hpp2 : p % pp = p := by have := unhide Hm; exact Int.emod_eq_of_lt this.1 this.2
  have e1 : ∀ w, Sem.run Try.prog (Op.equalIn 10000 23 (.agg (kc (digs (p % 57896044618658097711785492504343953926634992332820282019728792003956564819968 % pp) 32))) (.agg LB.toArray)) w = .ok true w := by
    intro w
    rw [hpt, hpp2, hLB]
    have := key_eq (digs p 32) (digs p 32) (digs_len _ _) (digs_len _ _) w
    simpa [kc] using this
  have hq1 : Hid (decide (p % 57896044618658097711785492504343953926634992332820282019728792003956564819968 % pp = n % 57896044618658097711785492504343953926634992332820282019728792003956564819968 % pp) = true) := hide (by rw [hpt, hpp2, unhide Hp]; simp)
  have hq2 : Hid (decide (p % 57896044618658097711785492504343953926634992332820282019728792003956564819968 % pp = turn n % 57896044618658097711785492504343953926634992332820282019728792003956564819968 % pp) = true) := hide (by rw [(turn_ok n (unhide Hn)).2, hpt, hpp2, unhide Hp]; simp)
  have kX : Hid (KeyIs LX n) := hide ⟨unhide hN, hLX⟩
  have kT : Hid (KeyIs LT (turn n)) := hide ⟨(turn_ok n (unhide Hn)).1, hLT⟩
  have hu23 := Try.underlying23
  have hiX : (Try.prog.info? 23).map (·.size) = some LX.length := by rw [Try.infoKey, hLX, List.length_map, digs_len]
  have hiB : (Try.prog.info? 23).map (·.size) = some LB.length := by rw [Try.infoKey, hLB, List.length_map, digs_len]
  have hiT : (Try.prog.info? 23).map (·.size) = some LT.length := by rw [Try.infoKey, hLT, List.length_map, digs_len]
  clear hLX hLB hLT hpt hpp2 hy Hp Hm Hpp Hn hz sx sb sw hG hg hgR hN hP
  generalize u5.setCell _ _ = u6 at *
  have hS0 := unhide HR _ ((unhide hF).gr ((Gr.refl u6).drew))
  replace hF := hide ((unhide hF).gr ((Gr.refl u6).drew))
  have hG := hG6.drew
  clear hG6
  refine wp_region_held_drew (S := fun v => (v.rangeAt w.heap.size 0 LX ∧ v.rangeAt w3.heap.size 0 LB ∧ v.rangeAt (w2.heap.size + 1) 0 LT ∧ v.cell? ⟨w2.heap.size, 0, none⟩ = some (.int .u64 a0) ∧ v.cell? ⟨w2.heap.size, 1, none⟩ = some (.int .u64 a1) ∧ v.cell? ⟨w2.heap.size, 2, none⟩ = some (.int .u64 a2) ∧ v.cell? ⟨w2.heap.size, 3, none⟩ = some (.int .u64 a3) ∧ v.cell? ⟨w2.heap.size, 4, none⟩ = some (.int .u64 a4) ∧ v.cell? ⟨w3.heap.size, 31, none⟩ = some (.int .u8 y))) (by kernel_rfl) hS0 (fun hHeld => ?_)
  refine wpAnyH_take (i := 0) (v := (.agg #[.int .u64 a0, .int .u64 a1, .int .u64 a2, .int .u64 a3, .int .u64 a4])) rfl (by kernel_rfl) (by kernel_rfl) (by kernel_rfl) (fun _ _ _ h => h) (.inl ⟨by kernel_rfl, fun u hu => ?_⟩) (by assumption) ?_
  · obtain ⟨hr1, hr2, hr3, hc0, hc1, hc2, hc3, hc4, hcy⟩ := hu; go_simp
  try simp only [Act.put, List.setIfInBounds_toArray, List.set_cons_zero, List.set_cons_succ]
  refine wpAnyH_take (i := 2) (v := .agg LB.toArray) rfl (by kernel_rfl) (by kernel_rfl) (by kernel_rfl) (fun _ _ _ h => h) (.inl ⟨by kernel_rfl, fun u hu => ?_⟩) (by assumption) ?_
  · have hr := hu.2.1; clear hu; exact exec_mid u 23 (.tmp 3) rfl w3.heap.size 0 (by kernel_rfl) LB (.array 32 5) hr hu23 rfl hiB
  try simp only [Act.put, List.setIfInBounds_toArray, List.set_cons_zero, List.set_cons_succ]
  refine wpAnyH_ready (rs := [1]) (by kernel_rfl) (by simp) (AllReadyH.cons (o := _) rfl (fun K hK => ?_) AllReadyH.nil)
  go_simp
  refine (bytes_at _ _ _ _ _ _ (by assumption) _).mono ?_; rintro r w1 ⟨rfl, hg⟩; replace hF := hide ((unhide hF).gr hg); replace hG := hG.trans hg; have hS1 := unhide HR _ (unhide hF)
  refine hK.out _ _ hS1 (fun hHeld => ?_)
  clear hK K hS1
  try simp only [Act.put, List.setIfInBounds_toArray, List.set_cons_zero, List.set_cons_succ]
  refine wpAnyH_take (i := 3) (v := (.bool true)) rfl (by kernel_rfl) (by kernel_rfl) (by kernel_rfl) (fun _ _ _ h => h) (.inl ⟨by kernel_rfl, fun u hu => ?_⟩) (by assumption) ?_
  · obtain ⟨hr1, hr2, hr3, hc0, hc1, hc2, hc3, hc4, hcy⟩ := hu; go_simp
  try simp only [Act.put, List.setIfInBounds_toArray, List.set_cons_zero, List.set_cons_succ]
  refine wpAnyH_take (i := 4) (v := (.bool true)) rfl (by kernel_rfl) (by kernel_rfl) (by kernel_rfl) (fun _ _ _ h => h) (.inl ⟨by kernel_rfl, fun u hu => ?_⟩) (by assumption) ?_
  · obtain ⟨hr1, hr2, hr3, hc0, hc1, hc2, hc3, hc4, hcy⟩ := hu; go_simp
  try simp only [Act.put, List.setIfInBounds_toArray, List.set_cons_zero, List.set_cons_succ]
  refine wpAnyH_take (i := 5) (v := (.pointer (some ⟨w3.heap.size, 31, none⟩))) rfl (by kernel_rfl) (by kernel_rfl) (by kernel_rfl) (fun _ _ _ h => h) (.inl ⟨by kernel_rfl, fun u hu => ?_⟩) (by assumption) ?_
  · obtain ⟨hr1, hr2, hr3, hc0, hc1, hc2, hc3, hc4, hcy⟩ := hu; go_simp
  try simp only [Act.put, List.setIfInBounds_toArray, List.set_cons_zero, List.set_cons_succ]
  refine wpAnyH_take (i := 6) (v := (.int .u8 y)) rfl (by kernel_rfl) (by kernel_rfl) (by kernel_rfl) (fun _ _ _ h => h) (.inl ⟨by kernel_rfl, fun u hu => ?_⟩) (by assumption) ?_
  · obtain ⟨hr1, hr2, hr3, hc0, hc1, hc2, hc3, hc4, hcy⟩ := hu; go_simp
  try simp only [Act.put, List.setIfInBounds_toArray, List.set_cons_zero, List.set_cons_succ]
  refine wpAnyH_take (i := 7) (v := (.bool true)) rfl (by kernel_rfl) (by kernel_rfl) (by kernel_rfl) (fun _ _ _ h => h) (.inl ⟨by kernel_rfl, fun u hu => ?_⟩) (by assumption) ?_
  · obtain ⟨hr1, hr2, hr3, hc0, hc1, hc2, hc3, hc4, hcy⟩ := hu; go_simp
  try simp only [Act.put, List.setIfInBounds_toArray, List.set_cons_zero, List.set_cons_succ]
  refine wpAnyH_take (i := 8) (v := (.bool true)) rfl (by kernel_rfl) (by kernel_rfl) (by kernel_rfl) (fun _ _ _ h => h) (.inl ⟨by kernel_rfl, fun u hu => ?_⟩) (by assumption) ?_
  · obtain ⟨hr1, hr2, hr3, hc0, hc1, hc2, hc3, hc4, hcy⟩ := hu; go_simp
  try simp only [Act.put, List.setIfInBounds_toArray, List.set_cons_zero, List.set_cons_succ]
  refine wpAnyH_take (i := 9) (v := (.bool true)) rfl (by kernel_rfl) (by kernel_rfl) (by kernel_rfl) (fun _ _ _ h => h) (.inl ⟨by kernel_rfl, fun u hu => ?_⟩) (by assumption) ?_
  · obtain ⟨hr1, hr2, hr3, hc0, hc1, hc2, hc3, hc4, hcy⟩ := hu; go_simp
  try simp only [Act.put, List.setIfInBounds_toArray, List.set_cons_zero, List.set_cons_succ]
  refine wpAnyH_take (i := 10) (v := (.agg #[.int .u64 a0, .int .u64 a1, .int .u64 a2, .int .u64 a3, .int .u64 a4])) rfl (by kernel_rfl) (by kernel_rfl) (by kernel_rfl) (fun _ _ _ h => h) (.inl ⟨by kernel_rfl, fun u hu => ?_⟩) (by assumption) ?_
  · obtain ⟨hr1, hr2, hr3, hc0, hc1, hc2, hc3, hc4, hcy⟩ := hu; go_simp
  try simp only [Act.put, List.setIfInBounds_toArray, List.set_cons_zero, List.set_cons_succ]
  refine wpAnyH_take (i := 11) (v := .agg LX.toArray) rfl (by kernel_rfl) (by kernel_rfl) (by kernel_rfl) (fun _ _ _ h => h) (.inl ⟨by kernel_rfl, fun u hu => ?_⟩) (by assumption) ?_
  · have hr := hu.1; clear hu; exact exec_mid u 23 (.tmp 1) rfl w.heap.size 0 (by kernel_rfl) LX (.array 32 5) hr hu23 rfl hiX
  try simp only [Act.put, List.setIfInBounds_toArray, List.set_cons_zero, List.set_cons_succ]
  refine wpAnyH_ready (rs := [12]) (by kernel_rfl) (by simp) (AllReadyH.cons (o := _) rfl (fun K hK => ?_) AllReadyH.nil)
  go_simp
  refine (from_L _ _ (by assumption) _).mono ?_; rintro r w1 ⟨y0, y1, y2, y3, y4, rfl, hB, hg⟩; replace hF := hide ((unhide hF).gr hg); replace hG := hG.trans hg; have hS1 := unhide HR _ (unhide hF)
  refine hK.out _ _ hS1 (fun hHeld => ?_)
  clear hK K hS1
  try simp only [Act.put, List.setIfInBounds_toArray, List.set_cons_zero, List.set_cons_succ]
  refine wpAnyH_ready (rs := [13]) (by kernel_rfl) (by simp) (AllReadyH.cons (o := _) rfl (fun K hK => ?_) AllReadyH.nil)
  go_simp
  refine (same_at _ _ _ _ _ _ _ _ _ _ _ _ _ (by assumption) (by assumption) (by assumption) _).mono ?_; rintro r w1 ⟨rfl, hg⟩; replace hF := hide ((unhide hF).gr hg); replace hG := hG.trans hg; have hS1 := unhide HR _ (unhide hF)
  refine hK.out _ _ hS1 (fun hHeld => ?_)
  clear hK K hS1
  try simp only [Act.put, List.setIfInBounds_toArray, List.set_cons_zero, List.set_cons_succ]
  refine wpAnyH_take (i := 14) (v := (.bool true)) rfl (by kernel_rfl) (by kernel_rfl) (by kernel_rfl) (fun _ _ _ h => h) (.inl ⟨by kernel_rfl, fun u hu => ?_⟩) (by assumption) ?_
  · obtain ⟨hr1, hr2, hr3, hc0, hc1, hc2, hc3, hc4, hcy⟩ := hu; go_simp
  try simp only [Act.put, List.setIfInBounds_toArray, List.set_cons_zero, List.set_cons_succ]
  refine wpAnyH_take (i := 15) (v := (.bool true)) rfl (by kernel_rfl) (by kernel_rfl) (by kernel_rfl) (fun _ _ _ h => h) (.inl ⟨by kernel_rfl, fun u hu => ?_⟩) (by assumption) ?_
  · obtain ⟨hr1, hr2, hr3, hc0, hc1, hc2, hc3, hc4, hcy⟩ := hu; go_simp
  try simp only [Act.put, List.setIfInBounds_toArray, List.set_cons_zero, List.set_cons_succ]
  refine wpAnyH_take (i := 16) (v := (.agg #[.int .u64 a0, .int .u64 a1, .int .u64 a2, .int .u64 a3, .int .u64 a4])) rfl (by kernel_rfl) (by kernel_rfl) (by kernel_rfl) (fun _ _ _ h => h) (.inl ⟨by kernel_rfl, fun u hu => ?_⟩) (by assumption) ?_
  · obtain ⟨hr1, hr2, hr3, hc0, hc1, hc2, hc3, hc4, hcy⟩ := hu; go_simp
  try simp only [Act.put, List.setIfInBounds_toArray, List.set_cons_zero, List.set_cons_succ]
  refine wpAnyH_take (i := 17) (v := .agg LT.toArray) rfl (by kernel_rfl) (by kernel_rfl) (by kernel_rfl) (fun _ _ _ h => h) (.inl ⟨by kernel_rfl, fun u hu => ?_⟩) (by assumption) ?_
  · have hr := hu.2.2.1; clear hu; exact exec_mid u 23 (.tmp 5) rfl (w2.heap.size + 1) 0 (by kernel_rfl) LT (.array 32 5) hr hu23 rfl hiT
  try simp only [Act.put, List.setIfInBounds_toArray, List.set_cons_zero, List.set_cons_succ]
  refine wpAnyH_ready (rs := [18]) (by kernel_rfl) (by simp) (AllReadyH.cons (o := _) rfl (fun K hK => ?_) AllReadyH.nil)
  go_simp
  refine (from_L _ _ (by assumption) _).mono ?_; rintro r w1 ⟨y0, y1, y2, y3, y4, rfl, hB, hg⟩; replace hF := hide ((unhide hF).gr hg); replace hG := hG.trans hg; have hS1 := unhide HR _ (unhide hF)
  refine hK.out _ _ hS1 (fun hHeld => ?_)
  clear hK K hS1
  try simp only [Act.put, List.setIfInBounds_toArray, List.set_cons_zero, List.set_cons_succ]
  refine wpAnyH_ready (rs := [19]) (by kernel_rfl) (by simp) (AllReadyH.cons (o := _) rfl (fun K hK => ?_) AllReadyH.nil)
  go_simp
  refine (same_at _ _ _ _ _ _ _ _ _ _ _ _ _ (by assumption) (by assumption) (by assumption) _).mono ?_; rintro r w1 ⟨rfl, hg⟩; replace hF := hide ((unhide hF).gr hg); replace hG := hG.trans hg; have hS1 := unhide HR _ (unhide hF)
  refine hK.out _ _ hS1 (fun hHeld => ?_)
  clear hK K hS1
  try simp only [Act.put, List.setIfInBounds_toArray, List.set_cons_zero, List.set_cons_succ]
  refine wpAnyH_take (i := 20) (v := (.bool true)) rfl (by kernel_rfl) (by kernel_rfl) (by kernel_rfl) (fun _ _ _ h => h) (.inl ⟨by kernel_rfl, fun u hu => ?_⟩) (by assumption) ?_
  · obtain ⟨hr1, hr2, hr3, hc0, hc1, hc2, hc3, hc4, hcy⟩ := hu; go_simp
  try simp only [Act.put, List.setIfInBounds_toArray, List.set_cons_zero, List.set_cons_succ]
  refine wpAnyH_ready (rs := [21]) (by kernel_rfl) (by simp) (AllReadyH.cons (o := _) rfl (fun K hK => ?_) AllReadyH.nil)
  go_simp
  refine hK.out _ _ (by assumption) (fun hHeld => ?_)
  clear hK K
  refine wpAnyH_done (by kernel_rfl) ?_ _
  go_wp2_with fail
  refine bodyPost_ret (v := .bool true) ?_ rfl ?_
  · simp [results, Try.results6, go_sem]
  · exact ⟨rfl, hG⟩
end Go.Proofs.Ytjncnmhigikdoab
