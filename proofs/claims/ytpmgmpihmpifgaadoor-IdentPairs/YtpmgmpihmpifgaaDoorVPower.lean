/-
  What Power answers.
-/
import Derived.Test.YtpmgmpihmpifgaaDoorVSquare
import Derived.WalkMore
import Derived.Deep.Cut
namespace Go.Proofs.YtpmgmpihmpifgaaDoor.Cv
open Go.RowKit
set_option maxRecDepth 100000

/-- the loop of Power: where it is, j bits being left -/
def PL (w wr : World) (bo : Nat) (n : Int) (M : Nat) (a0 a1 a2 a3 a4 : Int) (j : Nat) : Prop :=
  wr.heap[w.heap.size]? = some (.cells #[.int .u64 a0, .int .u64 a1, .int .u64 a2, .int .u64 a3, .int .u64 a4] 91 (0, 0)) ∧ KB wr (w.heap.size + 1) (digs (M : Int) 32) ∧ Res w (w.heap.size + 1 + 1) 5 91 wr ∧ w.heap.size + 1 + 1 < bo ∧
    ∃ y0 y1 y2 y3 y4, wr.heap[bo]? = some (.cells #[.int .u64 y0, .int .u64 y1, .int .u64 y2, .int .u64 y3, .int .u64 y4] 91 (0, 0)) ∧ Rep (n ^ (M / 2 ^ j)) y0 y1 y2 y3 y4

theorem three3 (w : World) (o0 o1 o2 : Obj) : (((w.alloc o0).alloc o1).alloc o2).heap[w.heap.size]? = some o0 ∧ (((w.alloc o0).alloc o1).alloc o2).heap[w.heap.size + 1]? = some o1 ∧ (((w.alloc o0).alloc o1).alloc o2).heap[w.heap.size + 1 + 1]? = some o2 := by
  refine ⟨?_, ?_, ?_⟩ <;> (simp only [blk_alloc, size_alloc]; repeat (first | rw [if_pos trivial] | rw [if_pos (by omega)] | rw [if_neg (by omega)]))

theorem blk5 {v : World} {b : Nat} {t : TypeId} {x0 x1 x2 x3 x4 : Value} (h : v.heap[b]? = some (.cells #[x0, x1, x2, x3, x4] t (0, 0))) : ∃ q0 q1 q2 q3 q4, v.cell? ⟨b, 0, none⟩ = some q0 ∧ v.cell? ⟨b, 1, none⟩ = some q1 ∧ v.cell? ⟨b, 2, none⟩ = some q2 ∧ v.cell? ⟨b, 3, none⟩ = some q3 ∧ v.cell? ⟨b, 4, none⟩ = some q4 ∧
    v.frozen? ⟨b, 0, none⟩ = false ∧ v.frozen? ⟨b, 1, none⟩ = false ∧ v.frozen? ⟨b, 2, none⟩ = false ∧ v.frozen? ⟨b, 3, none⟩ = false ∧ v.frozen? ⟨b, 4, none⟩ = false :=
  ⟨x0, x1, x2, x3, x4, cell_of h rfl, cell_of h rfl, cell_of h rfl, cell_of h rfl, cell_of h rfl, froz_of h, froz_of h, froz_of h, froz_of h, froz_of h⟩
theorem key_cell {v : World} {b : Nat} {n : Int} (h : KB v b (digs n 32)) (k : Nat) (hk : k < 32) : v.cell? ⟨b, k, none⟩ = some (.int .u8 (n / 256 ^ k % 256)) := by
  have := h.cell k (by rw [digs_len]; omega)
  rwa [digs_getD n k hk] at this

/-- behind a store of five cells -/
theorem put5 {v : World} {b : Nat} {t : TypeId} {c0 c1 c2 c3 c4 : Value} (h : v.heap[b]? = some (.cells #[c0, c1, c2, c3, c4] t (0, 0))) (x0 x1 x2 x3 x4 : Value) :
    (((((v.setCell ⟨b, 0, none⟩ x0).setCell ⟨b, 1, none⟩ x1).setCell ⟨b, 2, none⟩ x2).setCell ⟨b, 3, none⟩ x3).setCell ⟨b, 4, none⟩ x4).heap[b]? = some (.cells #[x0, x1, x2, x3, x4] t (0, 0)) := by
  have e0 := heap_setCell_same v b 0 _ _ x0 h
  have e1 := heap_setCell_same _ b 1 _ _ x1 e0
  have e2 := heap_setCell_same _ b 2 _ _ x2 e1
  have e3 := heap_setCell_same _ b 3 _ _ x3 e2
  have e4 := heap_setCell_same _ b 4 _ _ x4 e3
  refine e4.trans ?_
  simp only [List.setIfInBounds_toArray, List.set_cons_zero, List.set_cons_succ]
theorem far5 (v : World) (b i : Nat) (hi : i ≠ b) (x0 x1 x2 x3 x4 : Value) : (((((v.setCell ⟨b, 0, none⟩ x0).setCell ⟨b, 1, none⟩ x1).setCell ⟨b, 2, none⟩ x2).setCell ⟨b, 3, none⟩ x3).setCell ⟨b, 4, none⟩ x4).heap[i]? = v.heap[i]? := by
  refine (Below.heap_setCell _ ⟨b, 4, none⟩ x4 i hi).trans ?_
  refine (Below.heap_setCell _ ⟨b, 3, none⟩ x3 i hi).trans ?_
  refine (Below.heap_setCell _ ⟨b, 2, none⟩ x2 i hi).trans ?_
  refine (Below.heap_setCell _ ⟨b, 1, none⟩ x1 i hi).trans ?_
  exact Below.heap_setCell _ ⟨b, 0, none⟩ x0 i hi
theorem _root_.Go.Proofs.YtpmgmpihmpifgaaDoor.Gr.set5 {a v : World} {b : Nat} (h : Gr a v) (hb : a.heap.size ≤ b) (x0 x1 x2 x3 x4 : Value) : Gr a (((((v.setCell ⟨b, 0, none⟩ x0).setCell ⟨b, 1, none⟩ x1).setCell ⟨b, 2, none⟩ x2).setCell ⟨b, 3, none⟩ x3).setCell ⟨b, 4, none⟩ x4) :=
  ((((h.setCell hb _).setCell hb _).setCell hb _).setCell hb _).setCell hb _

/-- the bit t of a number, out of its bytes -/
theorem key_bit (M t b s : Nat) (hb : b = t / 8) (hs : s = t % 8) : (M : Int) / 256 ^ b % 256 / 2 ^ s % 2 = ((M / 2 ^ t % 2 : Nat) : Int) := by
  have e : t = 8 * b + s := by omega
  have h8 : s < 8 := by omega
  have e1 : ((M / 2 ^ t % 2 : Nat) : Int) = ((M / 256 ^ b % 256 / 2 ^ s % 2 : Nat) : Int) := by
    congr 1
    rw [e, Nat.pow_add, Nat.pow_mul, ← Nat.div_div_eq_div_mul]
    have : (2 : Nat) ^ 8 = 256 := rfl
    rw [this]
    generalize M / 256 ^ b = x
    match s, h8 with
    | 0, _ => omega
    | 1, _ => omega
    | 2, _ => omega
    | 3, _ => omega
    | 4, _ => omega
    | 5, _ => omega
    | 6, _ => omega
    | 7, _ => omega
  rw [e1]
  simp
theorem pow_half (n : Int) (M t : Nat) : n ^ (M / 2 ^ t) = n ^ (M / 2 ^ (t + 1)) * n ^ (M / 2 ^ (t + 1)) * (if M / 2 ^ t % 2 = 1 then n else 1) := by
  have e : M / 2 ^ t = M / 2 ^ (t + 1) + M / 2 ^ (t + 1) + M / 2 ^ t % 2 := by
    rw [Nat.pow_succ, ← Nat.div_div_eq_div_mul]; omega
  have h : M / 2 ^ t % 2 = 0 ∨ M / 2 ^ t % 2 = 1 := by omega
  rcases h with h | h
  · rw [h] at e ⊢
    rw [if_neg (by omega), Int.mul_one, ← Int.pow_add]
    exact congrArg _ e
  · rw [h] at e ⊢
    rw [if_pos rfl, ← Int.pow_add, ← Int.pow_succ]
    exact congrArg _ e

theorem low_bit (kb : Int) (s : Nat) (h : 0 ≤ kb ∧ kb < 256) : bits .and .u8 (kb / 2 ^ s) 1 = kb / 2 ^ s % 2 := by
  obtain ⟨k, rfl⟩ := Int.eq_ofNat_of_zero_le h.1
  have e : ((k : Int) / 2 ^ s) = ((k / 2 ^ s : Nat) : Int) := by simp
  rw [e]
  have h2 : k / 2 ^ s < 256 := Nat.lt_of_le_of_lt (Nat.div_le_self _ _) (by omega)
  generalize k / 2 ^ s = x at h2
  have : ∀ n : Fin 256, bits .and .u8 (n.val : Int) 1 = (n.val : Int) % 2 := by decide +kernel
  exact this ⟨x, h2⟩

/-- what stays in a round -/
def PN (w wr : World) (bo : Nat) (M : Nat) (a0 a1 a2 a3 a4 : Int) : Prop :=
  wr.heap[w.heap.size]? = some (.cells #[.int .u64 a0, .int .u64 a1, .int .u64 a2, .int .u64 a3, .int .u64 a4] 91 (0, 0)) ∧ KB wr (w.heap.size + 1) (digs (M : Int) 32) ∧ Res w (w.heap.size + 1 + 1) 5 91 wr ∧ w.heap.size + 1 + 1 < bo
theorem PN.gr {w u v : World} {bo M : Nat} {a0 a1 a2 a3 a4 : Int} (h : PN w u bo M a0 a1 a2 a3 a4) (g : Gr u v) : PN w v bo M a0 a1 a2 a3 a4 := ⟨g.blk h.1, h.2.1.gr g, h.2.2.1.gr g, h.2.2.2⟩
theorem PN.set5 {w v : World} {bo M : Nat} {a0 a1 a2 a3 a4 : Int} (h : PN w v bo M a0 a1 a2 a3 a4) (x0 x1 x2 x3 x4 : Value) :
    PN w (((((v.setCell ⟨bo, 0, none⟩ x0).setCell ⟨bo, 1, none⟩ x1).setCell ⟨bo, 2, none⟩ x2).setCell ⟨bo, 3, none⟩ x3).setCell ⟨bo, 4, none⟩ x4) bo M a0 a1 a2 a3 a4 := by
  obtain ⟨h1, h2, ⟨h3, h4, cs, h5, h6⟩, h7⟩ := h
  refine ⟨(far5 v bo _ (by omega) _ _ _ _ _).trans h1, (far5 v bo _ (by omega) _ _ _ _ _).trans h2, ⟨h3.set5 (by omega) _ _ _ _ _, h4, cs, h5, (far5 v bo _ (by omega) _ _ _ _ _).trans h6⟩, h7⟩

set_option maxHeartbeats 1000000 in
theorem power_ok (n a0 a1 a2 a3 a4 : Int) (M : Nat) (hM : M < 2 ^ 256) (hf : Rep n a0 a1 a2 a3 a4) (w : World) :
    Calls Tryd.prog 83 #[five a0 a1 a2 a3 a4, .agg (kc (digs (M : Int) 32))] w (Reck (n ^ M) w) := by
  have hA := hide hf
  have HM := hide hM
  clear hf hM
  have hA2 : (kc (digs (M : Int) 32)).size = 32 := by rw [kc_size, digs_len]
  unfold five
  go_enter Tryd.func83, Tryd.ntmps83
  go_wp2_with fail
  go_step3
  go_wp2_with (go_at_call 77; refine (of_at _ (by omega) _).mono ?_; rintro r w1 ⟨o0, o1, o2, o3, o4, rfl, hO, hg⟩; have T0 := hide (hg.blk (three3 w _ _ _).1); have T1 := hide (hg.blk (three3 w _ _ _).2.1); have T2 := hide (hg.blk (three3 w _ _ _).2.2); have hG := Gr.trans ((((Gr.refl w).alloc _).alloc _).alloc _) hg)
  go_step3
  go_wp2_with fail
  have hlt := lt_of_block (unhide T2)
  have hS : Hid (PL w (w1.alloc (.cells #[.int .u64 o0, .int .u64 o1, .int .u64 o2, .int .u64 o3, .int .u64 o4] 91 (0, 0))) w1.heap.size n M a0 a1 a2 a3 a4 256) := by
    have g := (Gr.refl w1).alloc (.cells #[.int .u64 o0, .int .u64 o1, .int .u64 o2, .int .u64 o3, .int .u64 o4] 91 (0, 0))
    refine hide ⟨g.blk (unhide T0), g.blk (unhide T1), ⟨hG.trans g, by omega, _, rfl, g.blk (unhide T2)⟩, hlt, o0, o1, o2, o3, o4, blk_new _ _, ?_⟩
    have e : M / 2 ^ 256 = 0 := Nat.div_eq_of_lt (unhide HM)
    rw [e, Int.pow_zero]
    exact unhide hO
  clear T0 T1 T2 hG hg hlt hO
  generalize World.alloc _ _ = u at *
  generalize w1.heap.size = bo at *
  go_loopw [6] (fun i wr => ∃ j : Nat, j ≤ 256 ∧ i = .int .i64 ((j : Int) - 1) ∧ Hid (PL w wr bo n M a0 a1 a2 a3 a4 j)) (fun i _ => (intOf i + 1).toNat)
  case atStart => exact ⟨256, by omega, rfl, hS⟩
  case round =>
    clear hS
    obtain ⟨j, hj, rfl, hS⟩ := hrel
    by_cases h0 : j = 0
    · subst h0
      have e0 : ((0 : Nat) : Int) - 1 = -1 := by omega
      rw [e0]
      obtain ⟨h1, h2, h3, h4, y0, y1, y2, y3, y4, h5, h6⟩ := unhide hS
      rw [Nat.pow_zero, Nat.div_one] at h6
      have c0 := cell_of (i := 0) h5 rfl
      have c1 := cell_of (i := 1) h5 rfl
      have c2 := cell_of (i := 2) h5 rfl
      have c3 := cell_of (i := 3) h5 rfl
      have c4 := cell_of (i := 4) h5 rfl
      obtain ⟨q0, q1, q2, q3, q4, hq0, hq1, hq2, hq3, hq4, z0, z1, z2, z3, z4⟩ := h3.five
      replace h3 := hide h3; replace h6 := hide h6
      clear h1 h2 h4 h5 hS HM hA hA2 hj
      go_wp2_with fail
      refine bodyPost_ret (v := five y0 y1 y2 y3 y4) ?_ rfl ?_
      · simp [results, Tryd.results83, go_sem, five, hq0, hq1, hq2, hq3, hq4]
      · exact ⟨_, _, _, _, _, rfl, unhide h6, ((unhide h3).set5 _ _ _ _ _).1⟩
    · obtain ⟨t, rfl⟩ : ∃ t, j = t + 1 := ⟨j - 1, by omega⟩
      have ej : ((t + 1 : Nat) : Int) - 1 = (t : Int) := by omega
      rw [ej]
      obtain ⟨h1, h2, h3, h4, y0, y1, y2, y3, y4, h5, h6⟩ := unhide hS
      have c0 := cell_of (i := 0) h5 rfl
      have c1 := cell_of (i := 1) h5 rfl
      have c2 := cell_of (i := 2) h5 rfl
      have c3 := cell_of (i := 3) h5 rfl
      have c4 := cell_of (i := 4) h5 rfl
      obtain ⟨P, hP⟩ : ∃ P, P = n ^ (M / 2 ^ (t + 1)) := ⟨_, rfl⟩
      rw [← hP] at h6
      replace hP := hide hP
      clear HM hA2 hS
      replace h6 := hide h6; replace h5 := hide h5; replace h1 := hide h1; replace h2 := hide h2; replace h3 := hide h3; replace h4 := hide h4
      go_upto_region 6 with (go_at_call 98; refine (square_at _ _ _ _ _ _ (by assumption) _).mono ?_; rintro r w2 ⟨v0, v1, v2, v3, v4, rfl, hV, hg⟩; have hB := hide (hg.blk (unhide h5)); obtain ⟨q0, q1, q2, q3, q4, hq0, hq1, hq2, hq3, hq4, z0, z1, z2, z3, z4⟩ := blk5 (unhide hB))
      have hN : Hid (PN w w2 bo M a0 a1 a2 a3 a4) := hide ⟨hg.blk (unhide h1), (unhide h2).gr hg, (unhide h3).gr hg, unhide h4⟩
      have hU := put5 (unhide hB) (.int .u64 v0) (.int .u64 v1) (.int .u64 v2) (.int .u64 v3) (.int .u64 v4)
      have hN2 := hide ((unhide hN).set5 (.int .u64 v0) (.int .u64 v1) (.int .u64 v2) (.int .u64 v3) (.int .u64 v4))
      clear hN hB hq0 hq1 hq2 hq3 hq4 z0 z1 z2 z3 z4 h1 h2 h3 h5 hg h6
      generalize World.setCell _ _ _ = v at *
      obtain ⟨b, hb⟩ : ∃ b, b = t / 8 := ⟨_, rfl⟩
      obtain ⟨s, hs⟩ : ∃ s, s = t % 8 := ⟨_, rfl⟩
      have e1 : (t : Int) / 8 = (b : Int) := by omega
      have e2 : (t : Int) % 8 = (s : Int) := by omega
      have e3 : (t : Int).tdiv 8 = (b : Int) := by rw [Int.tdiv_eq_ediv_of_nonneg (by omega)]; exact e1
      have e4 : (t : Int).tmod 8 = (s : Int) := by rw [Int.tmod_eq_emod_of_nonneg (by omega)]; exact e2
      have hb2 : b < 32 := by omega
      have hs2 : s < 8 := by omega
      have hbit := hide (key_bit M t b s hb hs)
      replace hb := hide hb; replace hs := hide hs
      have hk := key_cell (unhide hN2).2.1 b hb2
      have hkb : 0 ≤ (M : Int) / 256 ^ b % 256 ∧ (M : Int) / 256 ^ b % 256 < 256 := by omega
      generalize (M : Int) / 256 ^ b % 256 = kb at hk hbit hkb
      have c0 := cell_of (i := 0) hU rfl
      have c1 := cell_of (i := 1) hU rfl
      have c2 := cell_of (i := 2) hU rfl
      have c3 := cell_of (i := 3) hU rfl
      have c4 := cell_of (i := 4) hU rfl
      go_upto_if 22 with fail
      have hz := low_bit kb s hkb
      rw [unhide hbit] at hz
      have hP2 := pow_half n M t
      rw [← unhide hP] at hP2
      clear hbit hkb hP
      rcases (show M / 2 ^ t % 2 = 0 ∨ M / 2 ^ t % 2 = 1 by omega) with hbt | hbt
      · rw [hbt] at hz hP2
        rw [if_neg (by omega), Int.mul_one] at hP2
        have hR : Hid (PL w v bo n M a0 a1 a2 a3 a4 t) := hide ⟨(unhide hN2).1, (unhide hN2).2.1, (unhide hN2).2.2.1, (unhide hN2).2.2.2, v0, v1, v2, v3, v4, hU, by rw [hP2]; exact unhide hV⟩
        have hq : (bits BinOp.and IntKind.u8 (kb / 2 ^ s) 1 == 0) = true := by rw [hz]; rfl
        rw [hq]
        clear hz hU hN2 hV hP2 hbt c0 c1 c2 c3 c4 hk
        go_wp2_with fail
        go_roundw
        case rel => exact ⟨t, by omega, rfl, hR⟩
        case measure => simp [intOf]
      · rw [hbt] at hz hP2
        rw [if_pos rfl] at hP2
        have hq : (bits BinOp.and IntKind.u8 (kb / 2 ^ s) 1 == 0) = false := by rw [hz]; rfl
        rw [hq]
        clear hz hk
        have hP3 := hide hP2
        clear hP2
        have d0 := cell_of (i := 0) (unhide hN2).1 rfl
        have d1 := cell_of (i := 1) (unhide hN2).1 rfl
        have d2 := cell_of (i := 2) (unhide hN2).1 rfl
        have d3 := cell_of (i := 3) (unhide hN2).1 rfl
        have d4 := cell_of (i := 4) (unhide hN2).1 rfl
        replace hU := hide hU
        go_upto_region 4 with (go_at_call 64; refine (mul_at _ _ _ _ _ _ _ _ _ _ _ _ (by assumption) (by assumption) _).mono ?_; rintro r w3 ⟨x0, x1, x2, x3, x4, rfl, hX, hg⟩; have hB := hide (hg.blk (unhide hU)); obtain ⟨q0, q1, q2, q3, q4, hq0, hq1, hq2, hq3, hq4, z0, z1, z2, z3, z4⟩ := blk5 (unhide hB))
        have hU2 := put5 (unhide hB) (.int .u64 x0) (.int .u64 x1) (.int .u64 x2) (.int .u64 x3) (.int .u64 x4)
        have hN3 := ((unhide hN2).gr hg).set5 (.int .u64 x0) (.int .u64 x1) (.int .u64 x2) (.int .u64 x3) (.int .u64 x4)
        have hR : Hid (PL w _ bo n M a0 a1 a2 a3 a4 t) := hide ⟨hN3.1, hN3.2.1, hN3.2.2.1, hN3.2.2.2, x0, x1, x2, x3, x4, hU2, by rw [unhide hP3]; exact unhide hX⟩
        clear hU hU2 hN2 hN3 hV hX hP3 hbt c0 c1 c2 c3 c4 d0 d1 d2 d3 d4 hq0 hq1 hq2 hq3 hq4 z0 z1 z2 z3 z4 hB hg
        generalize World.setCell _ _ _ = v' at *
        go_wp2_with fail
        go_roundw
        case rel => exact ⟨t, by omega, rfl, hR⟩
        case measure => simp [intOf]

theorem power_at (n a0 a1 a2 a3 a4 : Int) (M : Nat) (hM : Hid (M < 2 ^ 256)) (h : Hid (Rep n a0 a1 a2 a3 a4)) (w : World) :
    Calls Tryd.prog 83 #[.agg #[.int .u64 a0, .int .u64 a1, .int .u64 a2, .int .u64 a3, .int .u64 a4], .agg (kc (digs (M : Int) 32))] w (fun r w' => ∃ a b c d e, r = .returned (.agg #[.int .u64 a, .int .u64 b, .int .u64 c, .int .u64 d, .int .u64 e]) ∧ Hid (Rep (n ^ M) a b c d e) ∧ Gr w w') := power_ok n a0 a1 a2 a3 a4 M hM h w
end Go.Proofs.YtpmgmpihmpifgaaDoor.Cv
