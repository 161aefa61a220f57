/-
  The reference's small functions: P, Less, minus.
-/
import Derived.Test.YtjncnmhigikdoaaPower
import Derived.Test.YtjncnmhigikdoaaRegs
import Derived.BigQuiet
import Derived.Deep.QuietTactic
namespace Go.Proofs.Ytjncnmhigikdoaa
open Go.RowKit
set_option maxRecDepth 100000
set_option linter.unusedSimpArgs false
attribute [local go_sem ↓] Go.wp_at_zero Go.wp_at_succ

/-- all bits -/
def ff : Int := 115792089237316195423570985008687907853269984665640564039457584007913129639935
theorem ff_byte (k : Nat) (h : k < 32) : (255 : Int) = ff / 256 ^ k % 256 := by
  have : ∀ k : Fin 32, (255 : Int) = ff / 256 ^ k.val % 256 := by decide +kernel
  exact this ⟨k, h⟩
theorem ff_zero (n : Int) : digs n 0 = List.replicate 32 0 := by
  unfold digs
  simp
  rfl
theorem ff_pp : ((digs ff 32).set 0 237).set 31 127 = digs pp 32 := by decide +kernel
theorem kc_zero (n : Int) : kc (digs n 0) = (List.replicate 32 (Value.int .u8 0)).toArray := by rw [ff_zero]; rfl

/-- two blocks of keys of the call's own -/
def K2 (w v : World) (l : List Int) (z : List Int) : Prop := Gr w v ∧ KB v w.heap.size z ∧ KB v (w.heap.size + 1) l

theorem two2 (w : World) (o0 o1 : Obj) : ((w.alloc o0).alloc o1).heap[w.heap.size]? = some o0 ∧ ((w.alloc o0).alloc o1).heap[w.heap.size + 1]? = some o1 := by
  refine ⟨?_, ?_⟩ <;> (simp only [blk_alloc, size_alloc]; repeat (first | rw [if_pos trivial] | rw [if_pos (by omega)] | rw [if_neg (by omega)]))

set_option maxHeartbeats 1000000 in
theorem rp_ok (w : World) : Calls Try.prog 36 #[] w (fun r w' => r = .returned (.agg (kc (digs pp 32))) ∧ Gr w w') := by
  go_enter Try.func36, Try.ntmps36
  go_wp2_with fail
  generalize hW : World.alloc _ _ = u
  have hS : Hid (K2 w u (digs ff 0) (digs ff 0)) := by
    rw [← hW]
    have e := kc_zero ff
    refine hide ⟨((Gr.refl w).alloc _).alloc _, ?_, ?_⟩
    · unfold KB; rw [e]; exact (two2 w _ _).1
    · unfold KB; rw [e]; exact (two2 w _ _).2
  clear hW
  go_loopw [3] (fun i wr => ∃ k : Nat, k ≤ 32 ∧ i = .int .i64 k ∧ Hid (K2 w wr (digs ff k) (digs ff 0))) (fun i _ => 32 - (intOf i).toNat)
  case atStart => exact ⟨0, by omega, rfl, hS⟩
  case round =>
    clear hS
    obtain ⟨k, hk, rfl, hS⟩ := hrel
    by_cases h32 : k = 32
    · subst h32
      have c0 := (unhide hS).2.2.cell 0 (by rw [digs_len]; omega)
      have f0 := (unhide hS).2.2.froz 0
      have c1 := ((unhide hS).2.2.set 0 237).cell 31 (by simp [digs_len])
      have f1 := ((unhide hS).2.2.set 0 237).froz 31
      generalize (digs ff 32).getD 0 0 = o0 at c0
      generalize ((digs ff 32).set 0 237).getD 31 0 = o1 at c1
      go_upto_region 8 with fail
      have hL := ((unhide hS).2.2.set 0 237).set 31 127
      rw [ff_pp] at hL
      have hZ := ((unhide hS).2.1.other (i := 0) (x := .int .u8 237) (g' := w.heap.size + 1) (by omega)).other (i := 31) (x := .int .u8 127) (g' := w.heap.size + 1) (by omega)
      have hG := ((unhide hS).1.setCell (p := ⟨w.heap.size + 1, 0, none⟩) (by show w.heap.size ≤ w.heap.size + 1; omega) (.int .u8 237)).setCell (p := ⟨w.heap.size + 1, 31, none⟩) (by show w.heap.size ≤ w.heap.size + 1; omega) (.int .u8 127)
      clear c0 f0 c1 f1 hS
      generalize World.setCell _ _ _ = v at *
      replace hL := hide hL; replace hZ := hide hZ; replace hG := hide hG
      go_wp2_with (first | (refine wpList_load_row rfl 23 (.tmp 1) rfl (w.heap.size + 1) rfl 23 (kc (digs pp 32)) (0, 0) _ (by exact unhide hL) Try.underlying23 rfl (by rw [Try.infoKey, kc_size, digs_len]) ?_) | (refine wpList_store_row rfl 23 (.tmp 0) (.tmp 11) rfl w.heap.size (kc (digs pp 32)) rfl rfl 23 (kc (digs ff 0)) (by exact unhide hZ) (by rw [Try.infoKey, kc_size, digs_len]) (by rw [kc_size, kc_size, digs_len, digs_len]) (kc_one _) ?_))
      refine bodyPost_ret (v := .agg (kc (digs pp 32))) (results_cell_row Try.results36 _ _ w.heap.size 23 (kc (digs pp 32)) (0, 0) _ rfl (setRow_heap v w.heap.size _ _ 23 _ (unhide hZ)) Try.underlying23 rfl (by rw [Try.infoKey, kc_size, digs_len])) rfl ⟨rfl, ?_⟩
      exact below_setRow (unhide hG) (by omega) _
    · have hlt : k < 32 := by omega
      have ck := (unhide hS).2.2.cell k (by rw [digs_len]; exact hlt)
      have fk := (unhide hS).2.2.froz k
      generalize (digs ff k).getD k 0 = old at ck
      go_wp2_with fail
      go_roundw
      case rel =>
        refine ⟨k + 1, by omega, by go_num, hide ⟨(unhide hS).1.setCell (by show w.heap.size ≤ w.heap.size + 1; omega) _, (unhide hS).2.1.other (by omega), ?_⟩⟩
        rw [← digs_set ff 255 k (ff_byte k hlt)]
        exact (unhide hS).2.2.set k 255
      case measure => simp [intOf]; omega

/-! Less -/
theorem less_ne (A B q x y : Int) (hq : 0 < q) (h : A / q / 256 = B / q / 256) (hx : x = A / q % 256) (hy : y = B / q % 256) (hne : x ≠ y) : (x < y ↔ A < B) := by
  have h1 : A / q < B / q ↔ x < y := by omega
  rw [← h1]
  constructor
  · intro h2
    rcases Int.lt_or_le A B with h3 | h3
    · exact h3
    · have := Int.ediv_le_ediv hq h3
      omega
  · intro h2
    have := Int.ediv_le_ediv hq (Int.le_of_lt h2)
    omega

theorem less_at {w : World} {v : World} {A B : Int} (h1 : KB v w.heap.size (digs A 32)) (h2 : KB v (w.heap.size + 1) (digs B 32)) (t : Nat) (ht : t < 32) :
    v.cell? ⟨w.heap.size, t, none⟩ = some (.int .u8 (A / 256 ^ t % 256)) ∧ v.cell? ⟨w.heap.size + 1, t, none⟩ = some (.int .u8 (B / 256 ^ t % 256)) := ⟨key_cell h1 t ht, key_cell h2 t ht⟩

set_option maxHeartbeats 1000000 in
theorem less_ok (A B : Int) (w : World) (hA : 0 ≤ A ∧ A < 115792089237316195423570985008687907853269984665640564039457584007913129639936) (hB : 0 ≤ B ∧ B < 115792089237316195423570985008687907853269984665640564039457584007913129639936) :
    Calls Try.prog 39 #[.agg (kc (digs A 32)), .agg (kc (digs B 32))] w (fun r w' => r = .returned (.bool (decide (A < B))) ∧ Gr w w') := by
  have h256 : (256 : Int) ^ 32 = 115792089237316195423570985008687907853269984665640564039457584007913129639936 := by decide
  have h0 : A / 256 ^ 32 = B / 256 ^ 32 := by rw [h256]; omega
  replace h0 := hide h0
  clear h256 hA hB
  go_enter Try.func39, Try.ntmps39
  go_wp2_with fail
  generalize hW : World.alloc _ _ = u
  have hS : Hid (Gr w u ∧ KB u w.heap.size (digs A 32) ∧ KB u (w.heap.size + 1) (digs B 32)) := by
    rw [← hW]
    exact hide ⟨((Gr.refl w).alloc _).alloc _, (two2 w _ _).1, (two2 w _ _).2⟩
  clear hW
  go_loopw [5] (fun i wr => ∃ j : Nat, j ≤ 32 ∧ i = .int .i64 ((j : Int) - 1) ∧ Hid (A / 256 ^ j = B / 256 ^ j) ∧ Hid (Gr w wr ∧ KB wr w.heap.size (digs A 32) ∧ KB wr (w.heap.size + 1) (digs B 32))) (fun i _ => (intOf i + 1).toNat)
  case atStart => exact ⟨32, by omega, rfl, h0, hS⟩
  case round =>
    clear hS h0
    obtain ⟨j, hj, rfl, hq, hS⟩ := hrel
    by_cases hz : j = 0
    · subst hz
      have e0 : ((0 : Nat) : Int) - 1 = -1 := by omega
      rw [e0]
      have e1 : A = B := by have := unhide hq; simpa using this
      have e2 : decide (A < B) = false := by rw [e1]; simp
      replace e2 := hide e2
      clear e1
      go_wp2_with fail
      go_ret
      exact ⟨by rw [unhide e2]; rfl, (unhide hS).1⟩
    · obtain ⟨t, rfl⟩ : ∃ t, j = t + 1 := ⟨j - 1, by omega⟩
      have ej : ((t + 1 : Nat) : Int) - 1 = (t : Int) := by omega
      rw [ej]
      obtain ⟨cA, cB⟩ := less_at (unhide hS).2.1 (unhide hS).2.2 t (by omega)
      have hq2 : A / 256 ^ t / 256 = B / 256 ^ t / 256 := by
        have h1 := unhide hq
        rw [Int.pow_succ, ← Int.ediv_ediv_of_nonneg (Int.le_of_lt (Int.pow_pos (by decide))), ← Int.ediv_ediv_of_nonneg (Int.le_of_lt (Int.pow_pos (by decide)))] at h1
        exact h1
      have hne := less_ne A B (256 ^ t) (A / 256 ^ t % 256) (B / 256 ^ t % 256) (Int.pow_pos (by decide)) hq2 rfl rfl
      have heq : A / 256 ^ t % 256 = B / 256 ^ t % 256 → A / 256 ^ t = B / 256 ^ t := by intro h; omega
      replace heq := hide heq
      replace hne := hide hne
      clear hq hq2
      have htl : t < 32 := by omega
      generalize A / 256 ^ t % 256 = x at *
      generalize B / 256 ^ t % 256 = y at *
      by_cases hxy : x = y
      · have hb : (x != y) = false := by simp [hxy]
        have hr := unhide heq hxy
        replace hr := hide hr
        replace hxy := hide hxy
        clear heq hne
        go_wp2_with fail
        go_quiet (fail)
        go_wp2_with fail
        go_roundw
        case rel => exact ⟨t, by omega, rfl, hr, hide ⟨(unhide hS).1.drewN _, (unhide hS).2.1, (unhide hS).2.2⟩⟩
        case measure => simp [intOf]
      · have hb : (x != y) = true := by simp [hxy]
        have hd : decide (A < B) = decide (x < y) := by simp [unhide hne hxy]
        replace hd := hide hd
        clear heq hne
        replace hxy := hide hxy
        go_wp2_with fail
        go_quiet (fail)
        go_wp2_with fail
        go_quiet (fail)
        go_wp2_with fail
        go_ret
        exact ⟨by rw [unhide hd]; rfl, ((unhide hS).1.drewN _).drewN _⟩

/-! minus -/
/-- the first k bytes of D, then those of A -/
def mx (A D : Int) (k : Nat) : List Int := (List.range 32).map (fun j => if j < k then D / 256 ^ j % 256 else A / 256 ^ j % 256)
theorem mx_len (A D : Int) (k : Nat) : (mx A D k).length = 32 := by simp [mx]
theorem mx_zero (A D : Int) : mx A D 0 = digs A 32 := by
  unfold mx digs
  apply List.map_congr_left
  intro j hj
  have : j < 32 := by simpa using hj
  simp [this]
theorem mx_full (A D : Int) : mx A D 32 = digs D 32 := by
  unfold mx digs
  apply List.map_congr_left
  intro j hj
  have : j < 32 := by simpa using hj
  simp [this]
theorem mx_set (A D x : Int) (k : Nat) (h : x = D / 256 ^ k % 256) : (mx A D k).set k x = mx A D (k + 1) := by
  subst h
  apply List.ext_getElem
  · simp [mx]
  · intro i h1 h2
    simp only [mx, List.getElem_set, List.getElem_map, List.getElem_range]
    by_cases e : k = i
    · subst e; simp
    · rw [if_neg e]
      by_cases e2 : i < k
      · rw [if_pos e2, if_pos (by omega)]
      · rw [if_neg e2, if_neg (by omega)]
theorem mx_getD (A D : Int) (k : Nat) (h : k < 32) : (mx A D k).getD k 0 = A / 256 ^ k % 256 := by
  simp [mx, List.getD, h]

theorem minus_step (a b d bw x y : Int) (hb : bw = a - b - d) (h0 : 0 ≤ bw ∧ bw ≤ 1) (hx : x = a % 256) (hy : y = b % 256) :
    (x - y - bw < 0 → x - y - bw + 256 = d % 256 ∧ a / 256 - b / 256 - d / 256 = 1) ∧ (¬ x - y - bw < 0 → x - y - bw = d % 256 ∧ a / 256 - b / 256 - d / 256 = 0) := by omega
theorem div_next (A : Int) (k : Nat) : A / 256 ^ (k + 1) = A / 256 ^ k / 256 := by
  rw [Int.pow_succ, ← Int.ediv_ediv_of_nonneg (Int.le_of_lt (Int.pow_pos (by decide)))]

/-- the loop of minus -/
def MS (w v : World) (A B D : Int) (k : Nat) : Prop := Gr w v ∧ KB v w.heap.size (mx A D k) ∧ KB v (w.heap.size + 1) (digs B 32) ∧ KB v (w.heap.size + 1 + 1) (digs 0 0)
/-- what is borrowed -/
def bw (A B D : Int) (k : Nat) : Int := A / 256 ^ k - B / 256 ^ k - D / 256 ^ k
theorem bw_step (A B D : Int) (k : Nat) (x y : Int) (hx : x = A / 256 ^ k % 256) (hy : y = B / 256 ^ k % 256) (h0 : 0 ≤ bw A B D k ∧ bw A B D k ≤ 1) :
    (x - y - bw A B D k < 0 → x - y - bw A B D k + 256 = D / 256 ^ k % 256 ∧ bw A B D (k + 1) = 1) ∧ (¬ x - y - bw A B D k < 0 → x - y - bw A B D k = D / 256 ^ k % 256 ∧ bw A B D (k + 1) = 0) := by
  have st := minus_step (A / 256 ^ k) (B / 256 ^ k) (D / 256 ^ k) (bw A B D k) x y rfl h0 hx hy
  rw [← div_next, ← div_next, ← div_next] at st
  exact st

set_option maxHeartbeats 1000000 in
theorem minus_core (A B D : Int) (hD : D = A - B) (w : World) :
    Calls Try.prog 35 #[.agg (kc (digs A 32)), .agg (kc (digs B 32))] w (fun r w' => r = .returned (.agg (kc (digs D 32))) ∧ Gr w w') := by
  have hb0 : bw A B D 0 = 0 := by simp [bw, hD]
  replace hb0 := hide hb0
  clear hD
  go_enter Try.func35, Try.ntmps35
  go_wp2_with fail
  generalize hW : World.alloc _ _ = u
  have hS : Hid (MS w u A B D 0) := by
    rw [← hW]
    have e := kc_zero 0
    refine hide ⟨(((Gr.refl w).alloc _).alloc _).alloc _, ?_, (three3 w _ _ _).2.1, ?_⟩
    · rw [mx_zero]; exact (three3 w _ _ _).1
    · unfold KB; rw [e]; exact (three3 w _ _ _).2.2
  clear hW
  go_loopw [5, 8] (fun bo i wr => ∃ k : Nat, k ≤ 32 ∧ i = .int .i64 k ∧ bo = .int .i64 (bw A B D k) ∧ Hid (0 ≤ bw A B D k ∧ bw A B D k ≤ 1) ∧ Hid (MS w wr A B D k)) (fun _ i _ => 32 - (intOf i).toNat)
  case atStart => exact ⟨0, by omega, rfl, by rw [unhide hb0], hide (by rw [unhide hb0]; omega), hS⟩
  case round =>
    clear hS hb0
    obtain ⟨k, hk, rfl, rfl, hbw, hS⟩ := hrel
    by_cases h32 : k = 32
    · subst h32
      obtain ⟨h1, h2, h3, h4⟩ := unhide hS
      rw [mx_full] at h2
      replace h1 := hide h1; replace h2 := hide h2; replace h3 := hide h3; replace h4 := hide h4
      clear hS hbw
      go_wp2_with (first | (refine wpList_load_row rfl 23 (.tmp 2) rfl w.heap.size rfl 23 (kc (digs D 32)) (0, 0) _ (by exact unhide h2) Try.underlying23 rfl (by rw [Try.infoKey, kc_size, digs_len]) ?_) | (refine wpList_store_row rfl 23 (.tmp 4) (.tmp 31) rfl (w.heap.size + 1 + 1) (kc (digs D 32)) rfl rfl 23 (kc (digs 0 0)) (by exact unhide h4) (by rw [Try.infoKey, kc_size, digs_len]) (by rw [kc_size, kc_size, digs_len, digs_len]) (kc_one _) ?_))
      refine bodyPost_ret (v := .agg (kc (digs D 32))) (results_cell_row Try.results35 _ _ (w.heap.size + 1 + 1) 23 (kc (digs D 32)) (0, 0) _ rfl (setRow_heap wr (w.heap.size + 1 + 1) _ _ 23 _ (unhide h4)) Try.underlying23 rfl (by rw [Try.infoKey, kc_size, digs_len])) rfl ⟨rfl, ?_⟩
      exact below_setRow (unhide h1) (by omega) _
    · have hlt : k < 32 := by omega
      have cA := (unhide hS).2.1.cell k (by rw [mx_len]; exact hlt)
      rw [mx_getD A D k hlt] at cA
      have fA := (unhide hS).2.1.froz k
      have cB := key_cell (unhide hS).2.2.1 k hlt
      have st := hide (bw_step A B D k _ _ rfl rfl (unhide hbw))
      have b1 := unhide hbw
      have hx1 : 0 ≤ A / 256 ^ k % 256 ∧ A / 256 ^ k % 256 < 256 := by omega
      have hy1 : 0 ≤ B / 256 ^ k % 256 ∧ B / 256 ^ k % 256 < 256 := by omega
      clear hbw
      generalize A / 256 ^ k % 256 = x at *
      generalize B / 256 ^ k % 256 = y at *
      obtain ⟨bo, hbo⟩ : ∃ b, b = bw A B D k := ⟨_, rfl⟩
      rw [← hbo] at st b1 ⊢
      clear hbo
      by_cases hneg : x - y - bo < 0
      · obtain ⟨s1, s2⟩ := (unhide st).1 hneg
        have hwr : (x - y - bo + 256) % 256 = x - y - bo + 256 := by omega
        have st3 := hide (mx_set A D (x - y - bo + 256) k s1)
        replace s2 := hide s2
        clear st s1
        go_wp2_with fail
        go_quiet (fail)
        go_wp2_with fail
        go_roundw
        case rel =>
          refine ⟨k + 1, by omega, by go_num, by rw [unhide s2], hide (by rw [unhide s2]; omega), hide ⟨((unhide hS).1.drewN _).setCell (Nat.le_refl _) _, ?_, KB.other (w := wr.drewN _) (unhide hS).2.2.1 (by omega), KB.other (w := wr.drewN _) (unhide hS).2.2.2 (by omega)⟩⟩
          rw [← unhide st3]
          exact KB.set (w := wr.drewN _) (unhide hS).2.1 k _
        case measure => simp [intOf]; omega
      · obtain ⟨s1, s2⟩ := (unhide st).2 hneg
        have hwr : (x - y - bo) % 256 = x - y - bo := by omega
        have st3 := hide (mx_set A D (x - y - bo) k s1)
        replace s2 := hide s2
        clear st s1
        go_wp2_with fail
        go_quiet (fail)
        go_wp2_with fail
        go_roundw
        case rel =>
          refine ⟨k + 1, by omega, by go_num, by rw [unhide s2], hide (by rw [unhide s2]; omega), hide ⟨((unhide hS).1.drewN _).setCell (Nat.le_refl _) _, ?_, KB.other (w := wr.drewN _) (unhide hS).2.2.1 (by omega), KB.other (w := wr.drewN _) (unhide hS).2.2.2 (by omega)⟩⟩
          rw [← unhide st3]
          exact KB.set (w := wr.drewN _) (unhide hS).2.1 k _
        case measure => simp [intOf]; omega
end Go.Proofs.Ytjncnmhigikdoaa
