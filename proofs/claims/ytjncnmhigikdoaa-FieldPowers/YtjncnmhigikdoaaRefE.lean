/-
  The reference: Power, Inv.
-/
import Derived.Test.YtjncnmhigikdoaaRefD
import Derived.Test.YtjncnmhigikdoaaInv
namespace Go.Proofs.Ytjncnmhigikdoaa
open Go.RowKit
set_option maxRecDepth 100000
set_option linter.unusedSimpArgs false
attribute [local go_sem ↓] Go.wp_at_zero Go.wp_at_succ

/-- what stays in a round of Power -/
def PK (w wr : World) (bo : Nat) (A : Int) (M : Nat) : Prop := KB wr w.heap.size (digs A 32) ∧ KB wr (w.heap.size + 1) (digs (M : Int) 32) ∧ KB wr (w.heap.size + 1 + 1) (digs 0 0) ∧ Gr w wr ∧ w.heap.size + 1 + 1 < bo
theorem PK.gr {w u v : World} {bo M : Nat} {A : Int} (h : PK w u bo A M) (g : Gr u v) : PK w v bo A M := ⟨h.1.gr g, h.2.1.gr g, h.2.2.1.gr g, h.2.2.2.1.trans g, h.2.2.2.2⟩
theorem PK.row {w u : World} {bo M : Nat} {A : Int} (h : PK w u bo A M) (cs : Array Value) : PK w (u.setRow bo cs) bo A M := by
  obtain ⟨h1, h2, h3, h4, h5⟩ := h
  exact ⟨(setRow_other _ _ _ _ (by omega)).trans h1, (setRow_other _ _ _ _ (by omega)).trans h2, (setRow_other _ _ _ _ (by omega)).trans h3, below_setRow h4 (by omega) cs, h5⟩
theorem pow_mod_half (A : Int) (M t : Nat) : A ^ (M / 2 ^ t) % pp = (if M / 2 ^ t % 2 = 1 then (A ^ (M / 2 ^ (t + 1)) % pp * (A ^ (M / 2 ^ (t + 1)) % pp) % pp) * A % pp else A ^ (M / 2 ^ (t + 1)) % pp * (A ^ (M / 2 ^ (t + 1)) % pp) % pp) := by
  rw [pow_half]
  split
  · rw [← Int.mul_emod, Int.mul_emod (_ % pp) A, Int.emod_emod, ← Int.mul_emod]
  · rw [Int.mul_one, ← Int.mul_emod]

set_option maxHeartbeats 2000000 in
theorem rpower_ok (A : Int) (M : Nat) (hA0 : 0 ≤ A ∧ A < 115792089237316195423570985008687907853269984665640564039457584007913129639936) (hM : M < 2 ^ 256) (w : World) :
    Calls Try.prog 27 #[.agg (kc (digs A 32)), .agg (kc (digs (M : Int) 32))] w (fun r w' => r = .returned (.agg (kc (digs (A ^ M % pp) 32))) ∧ Gr w w') := by
  have hA := hide hA0
  have HM := hide hM
  have ppT : Hid (pp < 115792089237316195423570985008687907853269984665640564039457584007913129639936) := hide (by decide)
  clear hA0 hM
  go_enter Try.func27, Try.ntmps27
  go_upto_region 1 with fail
  generalize hW : World.alloc _ _ = u
  have h1 : KB u w.heap.size (digs A 32) ∧ KB u (w.heap.size + 1) (digs (M : Int) 32) ∧ KB u (w.heap.size + 1 + 1) (digs 0 0) ∧ Gr w u := by
    rw [← hW]
    refine ⟨(three3 w _ _ _).1, (three3 w _ _ _).2.1, ?_, (((Gr.refl w).alloc _).alloc _).alloc _⟩
    unfold KB; rw [kc_zero]; exact (three3 w _ _ _).2.2
  clear hW
  replace h1 := hide h1
  go_upto_region 2 with (first
    | (go_at_call 14; refine (rof_ok 1 (by omega) _).mono ?_; rintro r w1 ⟨rfl, hg⟩)
    | (refine wpList_store_row rfl 23 (.tmp 5) (.tmp 7) rfl w1.heap.size (kc (digs 1 32)) rfl rfl 23 _ (by exact blk_new _ _) (by rw [Try.infoKey, kc_size, digs_len]) (by rw [kc_size, digs_len]; rfl) (kc_one _) ?_; obtain ⟨hgR, hbR⟩ := alloc_row w1 _ (kc (digs 1 32)) 23; generalize World.setRow _ _ _ = u3 at *))
  have hlt : w.heap.size + 1 + 1 < w1.heap.size := lt_of_block (hg.blk (unhide h1).2.2.1)
  have gx := hg.trans hgR
  have hN : Hid (PK w u3 w1.heap.size A M) := hide ⟨(unhide h1).1.gr gx, (unhide h1).2.1.gr gx, (unhide h1).2.2.1.gr gx, (unhide h1).2.2.2.trans gx, hlt⟩
  have e1 : A ^ (M / 2 ^ 256) % pp = 1 := by rw [Nat.div_eq_of_lt (unhide HM), Int.pow_zero]; decide +kernel
  have hB : Hid (KB u3 w1.heap.size (digs (A ^ (M / 2 ^ 256) % pp) 32)) := by rw [e1]; exact hide hbR
  clear e1 hbR hgR hg gx h1 hlt
  generalize w1.heap.size = bo at *
  go_wp2_with fail
  go_loopw [6] (fun i wr => ∃ j : Nat, j ≤ 256 ∧ i = .int .i64 ((j : Int) - 1) ∧ Hid (PK w wr bo A M) ∧ Hid (KB wr bo (digs (A ^ (M / 2 ^ j) % pp) 32))) (fun i _ => (intOf i + 1).toNat)
  case atStart => exact ⟨256, by omega, rfl, hN, hB⟩
  case round =>
  clear hN hB
  obtain ⟨j, hj, rfl, hN, hB⟩ := hrel
  by_cases h0 : j = 0
  · subst h0
    have e0 : ((0 : Nat) : Int) - 1 = -1 := by omega
    rw [e0]
    rw [Nat.pow_zero, Nat.div_one] at hB
    obtain ⟨V, hV⟩ : ∃ V, V = A ^ M % pp := ⟨_, rfl⟩
    rw [← hV] at hB
    replace hV := hide hV
    have hZ := hide (unhide hN).2.2.1
    have hG := hide (unhide hN).2.2.2.1
    clear hN
    go_wp2_with (first | (refine wpList_load_row rfl 23 (.tmp 5) rfl bo rfl 23 (kc (digs V 32)) (0, 0) _ (by exact unhide hB) Try.underlying23 rfl (by rw [Try.infoKey, kc_size, digs_len]) ?_) | (refine wpList_store_row rfl 23 (.tmp 4) (.tmp 27) rfl (w.heap.size + 1 + 1) (kc (digs V 32)) rfl rfl 23 (kc (digs 0 0)) (by exact unhide hZ) (by rw [Try.infoKey, kc_size, digs_len]) (by rw [kc_size, kc_size, digs_len, digs_len]) (kc_one _) ?_))
    refine bodyPost_ret (v := .agg (kc (digs V 32))) (results_cell_row Try.results27 _ _ (w.heap.size + 1 + 1) 23 (kc (digs V 32)) (0, 0) _ rfl (setRow_heap wr (w.heap.size + 1 + 1) _ _ 23 _ (unhide hZ)) Try.underlying23 rfl (by rw [Try.infoKey, kc_size, digs_len])) rfl ⟨by rw [unhide hV], ?_⟩
    exact below_setRow (unhide hG) (by omega) _
  · obtain ⟨t, rfl⟩ : ∃ t, j = t + 1 := ⟨j - 1, by omega⟩
    have ej : ((t + 1 : Nat) : Int) - 1 = (t : Int) := by omega
    rw [ej]
    have hPb : 0 ≤ A ^ (M / 2 ^ (t + 1)) % pp ∧ A ^ (M / 2 ^ (t + 1)) % pp < pp := ⟨Int.emod_nonneg _ (by decide), Int.emod_lt_of_pos _ (by decide)⟩
    have hst := pow_mod_half A M t
    generalize A ^ (M / 2 ^ (t + 1)) % pp = P at *
    have hPT : Hid (0 ≤ P ∧ P < 115792089237316195423570985008687907853269984665640564039457584007913129639936) := hide (by have := unhide ppT; omega)
    have hQb : 0 ≤ P * P % pp ∧ P * P % pp < pp := ⟨Int.emod_nonneg _ (by decide), Int.emod_lt_of_pos _ (by decide)⟩
    have hmm := hide (fun w => rmul_ok P P w (unhide hPT) (unhide hPT))
    generalize P * P % pp = Q at *
    have hQT : Hid (0 ≤ Q ∧ Q < 115792089237316195423570985008687907853269984665640564039457584007913129639936) := hide (by have := unhide ppT; omega)
    have hmq := hide (fun w => rmul_ok Q A w (unhide hQT) (unhide hA))
    generalize Q * A % pp = R at *
    replace hst := hide hst
    clear hPb hQb
    go_upto_region 6 with (first | (refine wpList_load_row rfl 23 (.tmp 5) rfl bo rfl 23 (kc (digs P 32)) (0, 0) _ (by exact unhide hB) Try.underlying23 rfl (by rw [Try.infoKey, kc_size, digs_len]) ?_) | (go_at_call 23; refine (unhide hmm _).mono ?_; rintro r w2 ⟨rfl, hg⟩; replace hN := hide ((unhide hN).gr hg); replace hB := hide (hg.blk (unhide hB)); clear hg) | (refine wpList_store_row rfl 23 (.tmp 5) (.tmp 14) rfl bo (kc (digs Q 32)) rfl rfl 23 (kc (digs P 32)) (by exact unhide hB) (by rw [Try.infoKey, kc_size, digs_len]) (by rw [kc_size, kc_size, digs_len, digs_len]) (kc_one _) ?_; have hB2 : Hid (KB (w2.setRow bo (kc (digs Q 32))) bo (digs Q 32)) := hide (setRow_heap w2 bo _ _ 23 _ (unhide hB)); replace hN := hide ((unhide hN).row (kc (digs Q 32))); generalize World.setRow _ _ _ = v at *; clear hB))
    obtain ⟨b, hb⟩ : ∃ b, b = t / 8 := ⟨_, rfl⟩
    obtain ⟨s, hs⟩ : ∃ s, s = t % 8 := ⟨_, rfl⟩
    have e1 : (t : Int) / 8 = (b : Int) := by omega
    have e2 : (t : Int) % 8 = (s : Int) := by omega
    have e3 : (t : Int).tdiv 8 = (b : Int) := by rw [Int.tdiv_eq_ediv_of_nonneg (by omega)]; exact e1
    have e4 : (t : Int).tmod 8 = (s : Int) := by rw [Int.tmod_eq_emod_of_nonneg (by omega)]; exact e2
    have hb2 : b < 32 := by omega
    have hs2 : s < 8 := by omega
    have hbit := hide (key_bit M t b s hb hs)
    replace hb := hide hb; replace hs := hide hs
    have hk := key_cell (unhide hN).2.1 b hb2
    have hkb : 0 ≤ (M : Int) / 256 ^ b % 256 ∧ (M : Int) / 256 ^ b % 256 < 256 := by omega
    generalize (M : Int) / 256 ^ b % 256 = kb at hk hbit hkb
    go_upto_if 23 with fail
    have hz := low_bit kb s hkb
    rw [unhide hbit] at hz
    clear hbit hkb
    rcases (show M / 2 ^ t % 2 = 0 ∨ M / 2 ^ t % 2 = 1 by omega) with hbt | hbt
    · rw [hbt] at hz
      have hR := unhide hst
      rw [if_neg (by omega)] at hR
      have hF : Hid (KB v bo (digs (A ^ (M / 2 ^ t) % pp) 32)) := by rw [hR]; exact hB2
      have hq : (bits BinOp.and IntKind.u8 (kb / 2 ^ s) 1 == 1) = false := by rw [hz]; rfl
      rw [hq]
      clear hz hR hst hbt hk hB2 hmm hmq
      go_wp2_with fail
      go_roundw
      case rel => exact ⟨t, by omega, rfl, hN, hF⟩
      case measure => simp [intOf]
    · rw [hbt] at hz
      have hR := unhide hst
      rw [if_pos hbt] at hR
      have hq : (bits BinOp.and IntKind.u8 (kb / 2 ^ s) 1 == 1) = true := by rw [hz]; rfl
      rw [hq]
      replace hR := hide hR
      clear hz hst hbt hk hmm
      have hX := hide (unhide hN).1
      go_upto_region 4 with (first | (refine wpList_load_row rfl 23 (.tmp 5) rfl bo rfl 23 (kc (digs Q 32)) (0, 0) _ (by exact unhide hB2) Try.underlying23 rfl (by rw [Try.infoKey, kc_size, digs_len]) ?_) | (refine wpList_load_row rfl 23 (.tmp 2) rfl w.heap.size rfl 23 (kc (digs A 32)) (0, 0) _ (by exact unhide hX) Try.underlying23 rfl (by rw [Try.infoKey, kc_size, digs_len]) ?_) | (go_at_call 23; refine (unhide hmq _).mono ?_; rintro r w3 ⟨rfl, hg⟩; replace hN := hide ((unhide hN).gr hg); replace hB2 := hide (hg.blk (unhide hB2)); clear hg hX) | (refine wpList_store_row rfl 23 (.tmp 5) (.tmp 26) rfl bo (kc (digs R 32)) rfl rfl 23 (kc (digs Q 32)) (by exact unhide hB2) (by rw [Try.infoKey, kc_size, digs_len]) (by rw [kc_size, kc_size, digs_len, digs_len]) (kc_one _) ?_; have hB3 : Hid (KB (w3.setRow bo (kc (digs R 32))) bo (digs R 32)) := hide (setRow_heap w3 bo _ _ 23 _ (unhide hB2)); replace hN := hide ((unhide hN).row (kc (digs R 32))); generalize World.setRow _ _ _ = v2 at *; clear hB2))
      have hF : Hid (KB v2 bo (digs (A ^ (M / 2 ^ t) % pp) 32)) := by rw [unhide hR]; exact hB3
      clear hR hB3
      go_wp2_with fail
      go_roundw
      case rel => exact ⟨t, by omega, rfl, hN, hF⟩
      case measure => simp [intOf]

theorem p2_digs : (digs pp 32).set 0 235 = digs (p2 : Int) 32 := by decide +kernel
theorem p2_lt' : p2 < 2 ^ 256 := by decide +kernel

set_option maxHeartbeats 1000000 in
theorem rinv_ok (A : Int) (hA0 : 0 ≤ A ∧ A < 115792089237316195423570985008687907853269984665640564039457584007913129639936) (w : World) :
    Calls Try.prog 29 #[.agg (kc (digs A 32))] w (fun r w' => r = .returned (.agg (kc (digs (A ^ p2 % pp) 32))) ∧ Gr w w') := by
  have hP := hide (fun w => rpower_ok A p2 hA0 p2_lt' w)
  clear hA0
  generalize A ^ p2 % pp = V at *
  go_enter Try.func29, Try.ntmps29
  go_upto_region 1 with fail
  generalize hW : World.alloc _ _ = u
  have h1 : KB u w.heap.size (digs A 32) ∧ KB u (w.heap.size + 1) (digs 0 0) ∧ Gr w u := by
    rw [← hW]
    refine ⟨(two2 w _ _).1, ?_, ((Gr.refl w).alloc _).alloc _⟩
    unfold KB; rw [kc_zero]; exact (two2 w _ _).2
  clear hW
  replace h1 := hide h1
  go_upto_region 2 with (first
    | (go_at_call 36; refine (rp_ok _).mono ?_; rintro r w1 ⟨rfl, hg⟩)
    | (refine wpList_store_row rfl 23 (.tmp 3) (.tmp 4) rfl w1.heap.size (kc (digs pp 32)) rfl rfl 23 _ (by exact blk_new _ _) (by rw [Try.infoKey, kc_size, digs_len]) (by rw [kc_size, digs_len]; rfl) (kc_one _) ?_; obtain ⟨hgR, hbR⟩ := alloc_row w1 _ (kc (digs pp 32)) 23; generalize World.setRow _ _ _ = u3 at *))
  have hlt : w.heap.size + 1 < w1.heap.size := lt_of_block (hg.blk (unhide h1).2.1)
  have gx := hg.trans hgR
  have hX := hide ((unhide h1).1.gr gx)
  have hZ := hide ((unhide h1).2.1.gr gx)
  have hG := hide ((unhide h1).2.2.trans gx)
  have hE : KB u3 w1.heap.size (digs pp 32) := hbR
  clear h1 hbR hgR hg gx
  generalize w1.heap.size = g at *
  have c0 := hE.cell 0 (by rw [digs_len]; omega)
  have e0 : (digs pp 32).getD 0 0 = 237 := by decide +kernel
  rw [e0] at c0
  have f0 := hE.froz 0
  have hE2 := hE.set 0 235
  rw [p2_digs] at hE2
  replace hE2 := hide hE2
  have hX2 := hide ((unhide hX).other (g' := g) (i := 0) (x := .int .u8 235) (by omega))
  have hZ2 := hide ((unhide hZ).other (g' := g) (i := 0) (x := .int .u8 235) (by omega))
  have hG2 := hide ((unhide hG).setCell (p := ⟨g, 0, none⟩) (by show w.heap.size ≤ g; omega) (.int .u8 235))
  clear hE e0 hX hZ hG
  go_upto_region 3 with fail
  generalize World.setCell _ _ _ = v at *
  clear c0 f0
  generalize hpn : (p2 : Int) = pn at *
  clear hpn
  go_wp2_with (first | (refine wpList_load_row rfl 23 (.tmp 1) rfl w.heap.size rfl 23 (kc (digs A 32)) (0, 0) _ (by exact unhide hX2) Try.underlying23 rfl (by rw [Try.infoKey, kc_size, digs_len]) ?_) | (refine wpList_load_row rfl 23 (.tmp 3) rfl g rfl 23 (kc (digs pn 32)) (0, 0) _ (by exact unhide hE2) Try.underlying23 rfl (by rw [Try.infoKey, kc_size, digs_len]) ?_) | (go_at_call 27; refine (unhide hP _).mono ?_; rintro r w3 ⟨rfl, hg⟩; replace hZ2 := hide (hg.blk (unhide hZ2)); replace hG2 := hide ((unhide hG2).trans hg); clear hg) | (refine wpList_store_row rfl 23 (.tmp 2) (.tmp 11) rfl (w.heap.size + 1) (kc (digs V 32)) rfl rfl 23 (kc (digs 0 0)) (by exact unhide hZ2) (by rw [Try.infoKey, kc_size, digs_len]) (by rw [kc_size, kc_size, digs_len, digs_len]) (kc_one _) ?_))
  refine bodyPost_ret (v := .agg (kc (digs V 32))) (results_cell_row Try.results29 _ _ (w.heap.size + 1) 23 (kc (digs V 32)) (0, 0) _ rfl (setRow_heap w3 (w.heap.size + 1) _ _ 23 _ (unhide hZ2)) Try.underlying23 rfl (by rw [Try.infoKey, kc_size, digs_len])) rfl ⟨rfl, ?_⟩
  exact below_setRow (unhide hG2) (by omega) _
end Go.Proofs.Ytjncnmhigikdoaa
