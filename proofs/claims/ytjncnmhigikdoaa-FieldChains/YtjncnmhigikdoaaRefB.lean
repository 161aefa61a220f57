/-
  The reference: Mod, Of, Made.
-/
import Derived.Test.YtjncnmhigikdoaaRefA
import Derived.Test.YtjncnmhigikdoaaBackMath
namespace Go.Proofs.Ytjncnmhigikdoaa
open Go.RowKit
set_option maxRecDepth 100000
set_option linter.unusedSimpArgs false
attribute [local go_sem ↓] Go.wp_at_zero Go.wp_at_succ

theorem mod_next (a : Int) (_h : pp ≤ a) : (a - pp) % pp = a % pp := Int.sub_emod_right a pp

set_option maxHeartbeats 2000000 in
theorem mod_ok (A : Int) (hA : 0 ≤ A ∧ A < 115792089237316195423570985008687907853269984665640564039457584007913129639936) (w : World) :
    Calls Try.prog 32 #[.agg (kc (digs A 32))] w (fun r w' => r = .returned (.agg (kc (digs (A % pp) 32))) ∧ Gr w w') := by
  obtain ⟨V, hV⟩ : ∃ V, V = A % pp := ⟨_, rfl⟩
  rw [← hV]
  have Hb := hide hA
  clear hA
  replace hV := hide hV
  go_enter Try.func32, Try.ntmps32
  go_wp2_with fail
  generalize hW : World.alloc _ _ = u
  have hS : Hid (Gr w u ∧ KB u w.heap.size (digs A 32) ∧ KB u (w.heap.size + 1) (digs 0 0)) := by
    rw [← hW]
    have e := kc_zero 0
    refine hide ⟨((Gr.refl w).alloc _).alloc _, (two2 w _ _).1, ?_⟩
    unfold KB; rw [e]; exact (two2 w _ _).2
  clear hW
  go_loopg [] 3 (fun k wr => ∃ a : Int, Hid (0 ≤ a ∧ a < 115792089237316195423570985008687907853269984665640564039457584007913129639936) ∧ Hid (a < (k : Int) * pp) ∧ Hid (a % pp = V) ∧ Hid (KB wr w.heap.size (digs a 32)) ∧ Hid (KB wr (w.heap.size + 1) (digs 0 0)) ∧ Hid (Gr w wr))
  case atStart => exact ⟨A, Hb, hide (by have := unhide Hb; unfold pp; omega), hide (unhide hV).symm, hide (unhide hS).2.1, hide (unhide hS).2.2, hide (unhide hS).1⟩
  case round =>
  clear hS hV Hb
  obtain ⟨a, hab, hak, ha, h1, h2, hG⟩ := hrel
  by_cases hlt : a < pp
  · have hd : Hid (decide (a < pp) = true) := hide (decide_eq_true hlt)
    have e : a = V := by rw [← unhide ha]; exact (Int.emod_eq_of_lt (unhide hab).1 hlt).symm
    go_upto_region 1 with fail
    refine wp_region_held_drew (S := fun v => Gr wr.drew v) (by kernel_rfl) (Gr.refl _) (fun hS0 => ?_)
    refine wpAnyH_take (i := 0) (v := .agg (kc (digs a 32))) rfl (by kernel_rfl) (by kernel_rfl) (by kernel_rfl) (fun _ _ _ h => h) (.inl ⟨by kernel_rfl, fun u hu => exec_row u 23 (.tmp 1) rfl w.heap.size 0 (by kernel_rfl) ((digs a 32).map (Value.int .u8)) (.array 32 5) (range_row (hu.blk (unhide h1))) Try.underlying23 rfl (by rw [Try.infoKey, List.length_map, digs_len])⟩) hS0 ?_
    simp only [Act.put, List.setIfInBounds_toArray, List.set_cons_zero, List.set_cons_succ, List.getElem_toArray, List.getElem_cons_zero, List.getElem_cons_succ]
    refine wpAnyH_ready (rs := [1]) (by kernel_rfl) (by simp) (AllReadyH.cons (o := _) rfl (fun K hK => ?_) AllReadyH.nil)
    refine step_callw (by kernel_rfl) 36 #[] (by kernel_rfl) ((rp_ok _).mono ?_)
    rintro r w1 ⟨rfl, hg⟩
    refine ⟨_, rfl, ?_⟩
    have hS1 : Gr wr.drew w1 := Gr.trans hS0 hg
    clear hg
    refine hK.out _ _ hS1 (fun _ => ?_)
    clear hK K
    simp only [Act.put, List.setIfInBounds_toArray, List.set_cons_zero, List.set_cons_succ, List.getElem_toArray, List.getElem_cons_zero, List.getElem_cons_succ]
    refine wpAnyH_ready (rs := [2]) (by kernel_rfl) (by simp) (AllReadyH.cons (o := _) rfl (fun K hK => ?_) AllReadyH.nil)
    refine step_callw (by kernel_rfl) 39 #[.agg (kc (digs a 32)), .agg (kc (digs pp 32))] (by kernel_rfl) ((less_ok a pp _ (unhide hab) (by unfold pp; omega)).mono ?_)
    rintro r w2 ⟨rfl, hg⟩
    refine ⟨_, rfl, ?_⟩
    rw [unhide hd]
    have hS2 : Gr wr.drew w2 := Gr.trans hS1 hg
    clear hg
    refine hK.out _ _ hS2 (fun _ => ?_)
    clear hK K
    simp only [Act.put, List.setIfInBounds_toArray, List.set_cons_zero, List.set_cons_succ, List.getElem_toArray, List.getElem_cons_zero, List.getElem_cons_succ]
    refine wpAnyH_take (i := 3) (v := .bool false) rfl (by kernel_rfl) (by kernel_rfl) (by kernel_rfl) (fun _ _ _ h => h) (.inl ⟨by kernel_rfl, fun u hu => by kernel_rfl⟩) hS2 ?_
    simp only [Act.put, List.setIfInBounds_toArray, List.set_cons_zero, List.set_cons_succ, List.getElem_toArray, List.getElem_cons_zero, List.getElem_cons_succ]
    refine wpAnyH_done (by kernel_rfl) ?_ _
    replace h1 := hide (hS2.blk (unhide h1))
    replace h2 := hide (hS2.blk (unhide h2))
    replace hG := hide (((unhide hG).drew).trans hS2)
    clear hS0 hS1 hS2 hd
    rw [e] at h1
    clear hak ha e hlt
    go_wp2_with (first | (refine wpList_load_row rfl 23 (.tmp 1) rfl w.heap.size rfl 23 (kc (digs V 32)) (0, 0) _ (by exact unhide h1) Try.underlying23 rfl (by rw [Try.infoKey, kc_size, digs_len]) ?_) | (refine wpList_store_row rfl 23 (.tmp 2) (.tmp 10) rfl (w.heap.size + 1) (kc (digs V 32)) rfl rfl 23 (kc (digs 0 0)) (by exact unhide h2) (by rw [Try.infoKey, kc_size, digs_len]) (by rw [kc_size, kc_size, digs_len, digs_len]) (kc_one _) ?_))
    refine bodyPost_ret (v := .agg (kc (digs V 32))) (results_cell_row Try.results32 _ _ (w.heap.size + 1) 23 (kc (digs V 32)) (0, 0) _ rfl (setRow_heap w2 (w.heap.size + 1) _ _ 23 _ (unhide h2)) Try.underlying23 rfl (by rw [Try.infoKey, kc_size, digs_len])) rfl ⟨rfl, ?_⟩
    exact below_setRow (unhide hG) (by omega) _
  · have hd : Hid (decide (a < pp) = false) := hide (decide_eq_false hlt)
    go_upto_region 1 with fail
    refine wp_region_held_drew (S := fun v => Gr wr.drew v) (by kernel_rfl) (Gr.refl _) (fun hS0 => ?_)
    refine wpAnyH_take (i := 0) (v := .agg (kc (digs a 32))) rfl (by kernel_rfl) (by kernel_rfl) (by kernel_rfl) (fun _ _ _ h => h) (.inl ⟨by kernel_rfl, fun u hu => exec_row u 23 (.tmp 1) rfl w.heap.size 0 (by kernel_rfl) ((digs a 32).map (Value.int .u8)) (.array 32 5) (range_row (hu.blk (unhide h1))) Try.underlying23 rfl (by rw [Try.infoKey, List.length_map, digs_len])⟩) hS0 ?_
    simp only [Act.put, List.setIfInBounds_toArray, List.set_cons_zero, List.set_cons_succ, List.getElem_toArray, List.getElem_cons_zero, List.getElem_cons_succ]
    refine wpAnyH_ready (rs := [1]) (by kernel_rfl) (by simp) (AllReadyH.cons (o := _) rfl (fun K hK => ?_) AllReadyH.nil)
    refine step_callw (by kernel_rfl) 36 #[] (by kernel_rfl) ((rp_ok _).mono ?_)
    rintro r w1 ⟨rfl, hg⟩
    refine ⟨_, rfl, ?_⟩
    have hS1 : Gr wr.drew w1 := Gr.trans hS0 hg
    clear hg
    refine hK.out _ _ hS1 (fun _ => ?_)
    clear hK K
    simp only [Act.put, List.setIfInBounds_toArray, List.set_cons_zero, List.set_cons_succ, List.getElem_toArray, List.getElem_cons_zero, List.getElem_cons_succ]
    refine wpAnyH_ready (rs := [2]) (by kernel_rfl) (by simp) (AllReadyH.cons (o := _) rfl (fun K hK => ?_) AllReadyH.nil)
    refine step_callw (by kernel_rfl) 39 #[.agg (kc (digs a 32)), .agg (kc (digs pp 32))] (by kernel_rfl) ((less_ok a pp _ (unhide hab) (by unfold pp; omega)).mono ?_)
    rintro r w2 ⟨rfl, hg⟩
    refine ⟨_, rfl, ?_⟩
    rw [unhide hd]
    have hS2 : Gr wr.drew w2 := Gr.trans hS1 hg
    clear hg
    refine hK.out _ _ hS2 (fun _ => ?_)
    clear hK K
    simp only [Act.put, List.setIfInBounds_toArray, List.set_cons_zero, List.set_cons_succ, List.getElem_toArray, List.getElem_cons_zero, List.getElem_cons_succ]
    refine wpAnyH_take (i := 3) (v := .bool true) rfl (by kernel_rfl) (by kernel_rfl) (by kernel_rfl) (fun _ _ _ h => h) (.inl ⟨by kernel_rfl, fun u hu => by kernel_rfl⟩) hS2 ?_
    simp only [Act.put, List.setIfInBounds_toArray, List.set_cons_zero, List.set_cons_succ, List.getElem_toArray, List.getElem_cons_zero, List.getElem_cons_succ]
    refine wpAnyH_done (by kernel_rfl) ?_ _
    replace h1 := hide (hS2.blk (unhide h1))
    replace h2 := hide (hS2.blk (unhide h2))
    replace hG := hide (((unhide hG).drew).trans hS2)
    clear hS0 hS1 hS2 hd
    generalize w2 = x at *
    go_upto_region 2 with fail
    have hst : ∀ u, Gr x u → Hid (KB (u.setRow w.heap.size (kc (digs (a - pp) 32))) w.heap.size (digs (a - pp) 32) ∧ KB (u.setRow w.heap.size (kc (digs (a - pp) 32))) (w.heap.size + 1) (digs 0 0) ∧ Gr w (u.setRow w.heap.size (kc (digs (a - pp) 32)))) := by
      intro u hu
      exact hide ⟨setRow_heap u _ _ _ _ _ (hu.blk (unhide h1)), (setRow_other u _ _ _ (by omega)).trans (hu.blk (unhide h2)), below_setRow ((unhide hG).trans hu) (Nat.le_refl _) _⟩
    refine wp_region_held_drew (S := fun _ => True) (by kernel_rfl) trivial (fun _ => ?_)
    refine wpAnyH_ready (rs := [0, 1]) (by kernel_rfl) (by simp) (AllReadyH.cons (o := _) rfl (fun K hK => ?_) (AllReadyH.cons (o := _) rfl (fun K hK => ?_) AllReadyH.nil))
    · rw [if_pos (by kernel_rfl)]
      simp only [Go.wp_at_zero, Go.wp_at_succ]
      refine wp_load_mid 23 (.tmp 1) rfl w.heap.size 0 (by kernel_rfl) ((digs a 32).map (Value.int .u8)) (.array 32 5) (range_row (unhide h1)) Try.underlying23 rfl (by rw [Try.infoKey, List.length_map, digs_len]) ?_
      refine hK.out _ _ trivial (fun _ => ?_)
      clear hK K
      simp only [Act.put, List.setIfInBounds_toArray, List.set_cons_zero, List.set_cons_succ, List.getElem_toArray, List.getElem_cons_zero, List.getElem_cons_succ]
      refine wpAnyH_ready (rs := [1]) (by kernel_rfl) (by simp) (AllReadyH.cons (o := _) rfl (fun K hK => ?_) AllReadyH.nil)
      refine step_callw (by kernel_rfl) 36 #[] (by kernel_rfl) ((rp_ok _).mono ?_)
      rintro r y1 ⟨rfl, hg1⟩
      refine ⟨_, rfl, ?_⟩
      refine hK.out _ _ trivial (fun _ => ?_)
      clear hK K
      simp only [Act.put, List.setIfInBounds_toArray, List.set_cons_zero, List.set_cons_succ, List.getElem_toArray, List.getElem_cons_zero, List.getElem_cons_succ]
      refine wpAnyH_ready (rs := [2]) (by kernel_rfl) (by simp) (AllReadyH.cons (o := _) rfl (fun K hK => ?_) AllReadyH.nil)
      refine step_callw (by kernel_rfl) 35 #[.agg (kc (digs a 32)), .agg (kc (digs pp 32))] (by kernel_rfl) ((minus_core a pp (a - pp) rfl _).mono ?_)
      rintro r y2 ⟨rfl, hg2⟩
      refine ⟨_, rfl, ?_⟩
      refine hK.out _ _ trivial (fun _ => ?_)
      clear hK K
      simp only [Act.put, List.setIfInBounds_toArray, List.set_cons_zero, List.set_cons_succ, List.getElem_toArray, List.getElem_cons_zero, List.getElem_cons_succ]
      have gx : Gr x y2 := (Gr.refl x).drew.trans (Gr.trans hg1 hg2)
      refine wpAnyH_ready (rs := [3]) (by kernel_rfl) (by simp) (AllReadyH.cons (o := _) rfl (fun K hK => ?_) AllReadyH.nil)
      rw [if_pos (by kernel_rfl)]
      simp only [Go.wp_at_zero, Go.wp_at_succ]
      refine wp_store_row 23 (.tmp 1) (.tmp 9) rfl w.heap.size (kc (digs (a - pp) 32)) (by kernel_rfl) (by kernel_rfl) 23 _ (gx.blk (unhide h1)) (by rw [Try.infoKey, kc_size, digs_len]) (by rw [kc_size, kc_size, digs_len, digs_len]) (kc_one _) ?_
      have hq := hst y2 gx
      refine hK.out _ _ trivial (fun _ => ?_)
      clear hK K
      simp only [Act.put, List.setIfInBounds_toArray, List.set_cons_zero, List.set_cons_succ, List.getElem_toArray, List.getElem_cons_zero, List.getElem_cons_succ]
      refine wpAnyH_done (by kernel_rfl) ?_ _
      generalize World.setRow _ _ _ = z at *
      clear gx hg1 hg2 h1 h2 hG hst
      go_wp2_with fail
      go_roundg (gk - 1)
      case measure =>
        have h3 := unhide hak
        have h0 := (unhide hab).1
        rcases Nat.eq_zero_or_pos gk with e | e
        · subst e; simp at h3; omega
        · omega
      case rel =>
        refine ⟨a - pp, hide ⟨by omega, ?_⟩, hide ?_, hide (by rw [mod_next a (by omega)]; exact unhide ha), hide (unhide hq).1, hide (unhide hq).2.1, hide (unhide hq).2.2⟩
        · have := (unhide hab).2
          have : (0 : Int) < pp := by decide
          omega
        · have h3 := unhide hak
          have h0 := (unhide hab).1
          have hpos : 0 < gk := by
            rcases Nat.eq_zero_or_pos gk with e | e
            · subst e; simp at h3; omega
            · exact e
          obtain ⟨m, rfl⟩ : ∃ m, gk = m + 1 := ⟨gk - 1, by omega⟩
          simp only [Nat.add_sub_cancel]
          have : ((m + 1 : Nat) : Int) * pp = (m : Int) * pp + pp := by rw [Int.natCast_add, Int.add_mul]; simp
          omega
    · refine step_callw (by kernel_rfl) 36 #[] (by kernel_rfl) ((rp_ok _).mono ?_)
      rintro r y1 ⟨rfl, hg1⟩
      refine ⟨_, rfl, ?_⟩
      refine hK.out _ _ trivial (fun _ => ?_)
      clear hK K
      simp only [Act.put, List.setIfInBounds_toArray, List.set_cons_zero, List.set_cons_succ, List.getElem_toArray, List.getElem_cons_zero, List.getElem_cons_succ]
      refine wpAnyH_ready (rs := [0]) (by kernel_rfl) (by simp) (AllReadyH.cons (o := _) rfl (fun K hK => ?_) AllReadyH.nil)
      rw [if_pos (by kernel_rfl)]
      simp only [Go.wp_at_zero, Go.wp_at_succ]
      refine wp_load_mid 23 (.tmp 1) rfl w.heap.size 0 (by kernel_rfl) ((digs a 32).map (Value.int .u8)) (.array 32 5) (range_row (hg1.blk (unhide h1))) Try.underlying23 rfl (by rw [Try.infoKey, List.length_map, digs_len]) ?_
      refine hK.out _ _ trivial (fun _ => ?_)
      clear hK K
      simp only [Act.put, List.setIfInBounds_toArray, List.set_cons_zero, List.set_cons_succ, List.getElem_toArray, List.getElem_cons_zero, List.getElem_cons_succ]
      refine wpAnyH_ready (rs := [2]) (by kernel_rfl) (by simp) (AllReadyH.cons (o := _) rfl (fun K hK => ?_) AllReadyH.nil)
      refine step_callw (by kernel_rfl) 35 #[.agg (kc (digs a 32)), .agg (kc (digs pp 32))] (by kernel_rfl) ((minus_core a pp (a - pp) rfl _).mono ?_)
      rintro r y2 ⟨rfl, hg2⟩
      refine ⟨_, rfl, ?_⟩
      refine hK.out _ _ trivial (fun _ => ?_)
      clear hK K
      simp only [Act.put, List.setIfInBounds_toArray, List.set_cons_zero, List.set_cons_succ, List.getElem_toArray, List.getElem_cons_zero, List.getElem_cons_succ]
      have gx : Gr x y2 := (Gr.refl x).drew.trans (Gr.trans hg1 hg2)
      refine wpAnyH_ready (rs := [3]) (by kernel_rfl) (by simp) (AllReadyH.cons (o := _) rfl (fun K hK => ?_) AllReadyH.nil)
      rw [if_pos (by kernel_rfl)]
      simp only [Go.wp_at_zero, Go.wp_at_succ]
      refine wp_store_row 23 (.tmp 1) (.tmp 9) rfl w.heap.size (kc (digs (a - pp) 32)) (by kernel_rfl) (by kernel_rfl) 23 _ (gx.blk (unhide h1)) (by rw [Try.infoKey, kc_size, digs_len]) (by rw [kc_size, kc_size, digs_len, digs_len]) (kc_one _) ?_
      have hq := hst y2 gx
      refine hK.out _ _ trivial (fun _ => ?_)
      clear hK K
      simp only [Act.put, List.setIfInBounds_toArray, List.set_cons_zero, List.set_cons_succ, List.getElem_toArray, List.getElem_cons_zero, List.getElem_cons_succ]
      refine wpAnyH_done (by kernel_rfl) ?_ _
      generalize World.setRow _ _ _ = z at *
      clear gx hg1 hg2 h1 h2 hG hst
      go_wp2_with fail
      go_roundg (gk - 1)
      case measure =>
        have h3 := unhide hak
        have h0 := (unhide hab).1
        rcases Nat.eq_zero_or_pos gk with e | e
        · subst e; simp at h3; omega
        · omega
      case rel =>
        refine ⟨a - pp, hide ⟨by omega, ?_⟩, hide ?_, hide (by rw [mod_next a (by omega)]; exact unhide ha), hide (unhide hq).1, hide (unhide hq).2.1, hide (unhide hq).2.2⟩
        · have := (unhide hab).2
          have : (0 : Int) < pp := by decide
          omega
        · have h3 := unhide hak
          have h0 := (unhide hab).1
          have hpos : 0 < gk := by
            rcases Nat.eq_zero_or_pos gk with e | e
            · subst e; simp at h3; omega
            · exact e
          obtain ⟨m, rfl⟩ : ∃ m, gk = m + 1 := ⟨gk - 1, by omega⟩
          simp only [Nat.add_sub_cancel]
          have : ((m + 1 : Nat) : Int) * pp = (m : Int) * pp + pp := by rw [Int.natCast_add, Int.add_mul]; simp
          omega

/-! Of -/
theorem digs_end (N : Int) (i : Nat) (_h0 : 0 ≤ N) (h : N / 256 ^ i = 0) : digs N i = digs N 32 := by
  unfold digs
  apply List.map_congr_left
  intro j hj
  have hj2 : j < 32 := by simpa using hj
  rw [if_pos hj2]
  by_cases e : j < i
  · rw [if_pos e]
  · rw [if_neg e]
    have hp : (0 : Int) < 256 ^ i := Int.pow_pos (by decide)
    have h1 : N < 256 ^ i := by
      have := Int.lt_mul_ediv_self_add (x := N) hp
      rw [h] at this
      simpa using this
    obtain ⟨m, rfl⟩ : ∃ m, j = i + m := ⟨j - i, by omega⟩
    have h2 : N / 256 ^ (i + m) = 0 := by
      rw [Int.pow_add, ← Int.ediv_ediv_of_nonneg (Int.le_of_lt hp), h, Int.zero_ediv]
    rw [h2]
    rfl

set_option maxHeartbeats 1000000 in
theorem rof_ok (N : Int) (hN : 0 ≤ N ∧ N < 18446744073709551616) (w : World) :
    Calls Try.prog 14 #[.int .u64 N] w (fun r w' => r = .returned (.agg (kc (digs N 32))) ∧ Gr w w') := by
  have HN := hide hN
  have e0 : N / 256 ^ 0 = N := by simp
  replace e0 := hide e0
  clear hN
  go_enter Try.func14, Try.ntmps14
  go_wp2_with fail
  generalize hW : World.alloc _ _ = u
  have hS : Hid (K2 w u (digs N 0) (digs 0 0)) := by
    rw [← hW]
    refine hide ⟨((Gr.refl w).alloc _).alloc _, ?_, ?_⟩
    · unfold KB; rw [kc_zero]; exact (two2 w _ _).1
    · unfold KB; rw [kc_zero]; exact (two2 w _ _).2
  clear hW
  go_loopw [0, 4] (fun n i wr => ∃ k : Nat, k ≤ 8 ∧ n = .int .u64 (N / 256 ^ k) ∧ i = .int .i64 k ∧ Hid (K2 w wr (digs N k) (digs 0 0))) (fun _ i _ => 8 - (intOf i).toNat)
  case atStart => exact ⟨0, by omega, by rw [unhide e0], rfl, hS⟩
  case round =>
    clear hS e0
    obtain ⟨k, hk, rfl, rfl, hS⟩ := hrel
    have hn0 : 0 ≤ N / 256 ^ k := Int.ediv_nonneg (unhide HN).1 (Int.le_of_lt (Int.pow_pos (by decide)))
    have hn1 : N / 256 ^ k < 18446744073709551616 := Int.lt_of_le_of_lt (Int.ediv_le_self _ (unhide HN).1) (unhide HN).2
    have hnx := hide (div_next N k)
    by_cases hz : N / 256 ^ k = 0
    · have hde := digs_end N k (unhide HN).1 hz
      rw [hde] at hS
      rw [hz]
      obtain ⟨hG, hZ, hL⟩ := unhide hS
      replace hL := hide hL; replace hZ := hide hZ; replace hG := hide hG
      clear hS hde hz hn0 hn1 hnx
      go_wp2_with (first | (refine wpList_load_row rfl 23 (.tmp 3) rfl (w.heap.size + 1) rfl 23 (kc (digs N 32)) (0, 0) _ (by exact unhide hL) Try.underlying23 rfl (by rw [Try.infoKey, kc_size, digs_len]) ?_) | (refine wpList_store_row rfl 23 (.tmp 2) (.tmp 15) rfl w.heap.size (kc (digs N 32)) rfl rfl 23 (kc (digs 0 0)) (by exact unhide hZ) (by rw [Try.infoKey, kc_size, digs_len]) (by rw [kc_size, kc_size, digs_len, digs_len]) (kc_one _) ?_))
      refine bodyPost_ret (v := .agg (kc (digs N 32))) (results_cell_row Try.results14 _ _ w.heap.size 23 (kc (digs N 32)) (0, 0) _ rfl (setRow_heap wr w.heap.size _ _ 23 _ (unhide hZ)) Try.underlying23 rfl (by rw [Try.infoKey, kc_size, digs_len])) rfl ⟨rfl, ?_⟩
      exact below_setRow (unhide hG) (by omega) _
    · have hlt : k < 8 := by
        rcases Nat.lt_or_ge k 8 with h | h
        · exact h
        · have : k = 8 := by omega
          subst this
          have h8 : (256 : Int) ^ 8 = 18446744073709551616 := by decide
          have := unhide HN
          rw [h8] at hz
          omega
      have ck := (unhide hS).2.2.cell k (by rw [digs_len]; omega)
      have fk := (unhide hS).2.2.froz k
      generalize (digs N k).getD k 0 = old at ck
      have hst := hide (digs_set N (N / 256 ^ k % 256) k rfl)
      have hnx2 : Hid (N / 256 ^ k / 256 = N / 256 ^ (k + 1)) := hide (unhide hnx).symm
      generalize hq : N / 256 ^ k = q at *
      have hpos : 0 < q := by omega
      clear hz hnx
      replace hq := hide hq
      go_wp2_with fail
      go_roundw
      case rel =>
        refine ⟨k + 1, by omega, by rw [← unhide hnx2], by go_num, hide ⟨(unhide hS).1.setCell (by show w.heap.size ≤ w.heap.size + 1; omega) _, (unhide hS).2.1.other (by omega), ?_⟩⟩
        rw [← unhide hst]
        exact (unhide hS).2.2.set k (q % 256)
      case measure => simp [intOf]; omega

/-! Made -/
theorem set_self (l : List Int) (i : Nat) (x : Int) (h : l[i]? = some x) : l.set i x = l := by
  apply List.ext_getElem?
  intro j
  rw [List.getElem?_set]
  split
  · rename_i e
    subst e
    split
    · exact h.symm
    · rename_i hl
      rw [List.getElem?_eq_none (by omega)]
  · rfl
theorem made_digs (n : Int) (h : 0 ≤ n ∧ n < 115792089237316195423570985008687907853269984665640564039457584007913129639936) : (digs n 32).set 31 (n / 256 ^ 31 % 256 % 128) = digs (n % 57896044618658097711785492504343953926634992332820282019728792003956564819968) 32 := by
  have e : (256 : Int) ^ 31 = 452312848583266388373324160190187140051835877600158453279131187530910662656 := by decide
  by_cases hl : n < 57896044618658097711785492504343953926634992332820282019728792003956564819968
  · rw [Int.emod_eq_of_lt h.1 hl]
    have h1 : n / 256 ^ 31 % 256 % 128 = n / 256 ^ 31 % 256 := by rw [e]; omega
    rw [h1]
    apply set_self
    simp [digs]
  · have h1 := turn_digs n h
    have h2 : turn n = n % 57896044618658097711785492504343953926634992332820282019728792003956564819968 := by unfold turn; rw [if_neg hl]; omega
    rw [h2, xor128 _ (by rw [e]; omega), if_neg (by rw [e]; omega)] at h1
    have h3 : n / 256 ^ 31 % 256 % 128 = n / 256 ^ 31 % 256 - 128 := by rw [e]; omega
    rw [h3]
    exact h1

set_option maxHeartbeats 1000000 in
theorem made_ok (n : Int) (hn : 0 ≤ n ∧ n < 115792089237316195423570985008687907853269984665640564039457584007913129639936) (w : World) :
    Calls Try.prog 11 #[.agg (kc (digs n 32))] w (fun r w' => r = .returned (.agg (kc (digs (n % 57896044618658097711785492504343953926634992332820282019728792003956564819968 % pp) 32))) ∧ Gr w w') := by
  have hd := hide (made_digs n hn)
  have hM := hide (mod_ok (n % 57896044618658097711785492504343953926634992332820282019728792003956564819968) (by omega))
  have hz : bits .and .u8 (n / 256 ^ 31 % 256) 127 = n / 256 ^ 31 % 256 % 128 := mask7 _ (by omega)
  clear hn
  generalize n % 57896044618658097711785492504343953926634992332820282019728792003956564819968 = N at *
  generalize hV : N % pp = V at *
  clear hV
  go_enter Try.func11, Try.ntmps11
  go_upto_region 1 with fail
  generalize hW : World.alloc _ _ = u
  have hS : Hid (Gr w u ∧ KB u w.heap.size (digs n 32) ∧ KB u (w.heap.size + 1) (digs 0 0)) := by
    rw [← hW]
    refine hide ⟨((Gr.refl w).alloc _).alloc _, (two2 w _ _).1, ?_⟩
    unfold KB; rw [kc_zero]; exact (two2 w _ _).2
  clear hW
  have c31 := key_cell (unhide hS).2.1 31 (by omega)
  have f31 := (unhide hS).2.1.froz 31
  generalize n / 256 ^ 31 % 256 = z at *
  go_upto_region 2 with fail
  have hL := (unhide hS).2.1.set 31 (z % 128)
  rw [unhide hd] at hL
  have hZ := (unhide hS).2.2.other (i := 31) (x := .int .u8 (z % 128)) (g' := w.heap.size) (by omega)
  have hG := (unhide hS).1.setCell (p := ⟨w.heap.size, 31, none⟩) (Nat.le_refl _) (.int .u8 (z % 128))
  clear hS c31 f31 hz hd
  generalize World.setCell _ _ _ = v at *
  replace hL := hide hL; replace hZ := hide hZ; replace hG := hide hG
  go_wp2_with (first | (refine wpList_load_row rfl 23 (.tmp 1) rfl w.heap.size rfl 23 (kc (digs N 32)) (0, 0) _ (by exact unhide hL) Try.underlying23 rfl (by rw [Try.infoKey, kc_size, digs_len]) ?_) | (go_at_call 32; refine (unhide hM _).mono ?_; rintro r w2 ⟨rfl, hg⟩; replace hZ := hide (hg.blk (unhide hZ)); replace hG := hide ((unhide hG).trans hg); clear hg) | (refine wpList_store_row rfl 23 (.tmp 2) (.tmp 8) rfl (w.heap.size + 1) (kc (digs V 32)) rfl rfl 23 (kc (digs 0 0)) (by exact unhide hZ) (by rw [Try.infoKey, kc_size, digs_len]) (by rw [kc_size, kc_size, digs_len, digs_len]) (kc_one _) ?_))
  refine bodyPost_ret (v := .agg (kc (digs V 32))) (results_cell_row Try.results11 _ _ (w.heap.size + 1) 23 (kc (digs V 32)) (0, 0) _ rfl (setRow_heap w2 (w.heap.size + 1) _ _ 23 _ (unhide hZ)) Try.underlying23 rfl (by rw [Try.infoKey, kc_size, digs_len])) rfl ⟨rfl, ?_⟩
  exact below_setRow (unhide hG) (by omega) _
end Go.Proofs.Ytjncnmhigikdoaa
