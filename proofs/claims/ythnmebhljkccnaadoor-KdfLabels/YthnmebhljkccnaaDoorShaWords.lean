/-
  The words of a block.
-/
import Derived.Test.YthnmebhljkccnaaDoorShaSteps
namespace Go.Proofs.YthnmebhljkccnaaDoor
open Go.RowKit
set_option maxRecDepth 100000
set_option linter.unusedSimpArgs false

/-- a word of four bytes -/
def be (b0 b1 b2 b3 : Int) : Int := bits .or .u32 (bits .or .u32 (bits .or .u32 (b0 * 16777216) (b1 * 65536)) (b2 * 256)) b3
def Z64 : List Int := List.replicate 64 0
/-- the words as far as n are read -/
def W1 (B : List Int) : Nat → List Int
  | 0 => Z64
  | n + 1 => (W1 B n).set n (be (B.getD (4 * n) 0) (B.getD (4 * n + 1) 0) (B.getD (4 * n + 2) 0) (B.getD (4 * n + 3) 0))
def sg0 (x : Int) : Int := xr (xr (tn x 7) (tn x 18)) (x / 2 ^ 3)
def sg1 (y : Int) : Int := xr (xr (tn y 17) (tn y 19)) (y / 2 ^ 10)
def nx (l : List Int) (i : Nat) : Int := ad (ad (ad (sg1 (l.getD (i - 2) 0)) (l.getD (i - 7) 0)) (sg0 (l.getD (i - 15) 0))) (l.getD (i - 16) 0)
/-- .. and k more are reckoned -/
def W2 (B : List Int) : Nat → List Int
  | 0 => W1 B 16
  | k + 1 => (W2 B k).set (k + 16) (nx (W2 B k) (k + 16))
def wds (B : List Int) : List Int := W2 B 48
theorem W1_len (B : List Int) : ∀ n, (W1 B n).length = 64
  | 0 => rfl
  | n + 1 => by rw [W1, List.length_set, W1_len B n]
theorem W2_len (B : List Int) : ∀ n, (W2 B n).length = 64
  | 0 => W1_len B 16
  | n + 1 => by rw [W2, List.length_set, W2_len B n]
theorem wds_len (B : List Int) : (wds B).length = 64 := W2_len B 48

/-- bytes -/
def IsB (B : List Int) : Prop := ∀ x ∈ B, 0 ≤ x ∧ x < 256
theorem IsB.at_ {B : List Int} (h : IsB B) (j : Nat) : 0 ≤ B.getD j 0 ∧ B.getD j 0 < 256 := by
  rcases Nat.lt_or_ge j B.length with hj | hj
  · have : B.getD j 0 = B[j] := by simp [hj]
    rw [this]
    exact h _ (List.getElem_mem hj)
  · simp [List.getElem?_eq_none hj]
/-- bytes that lie somewhere -/
def At (w : World) (p o : Nat) (B : List Int) : Prop := ∀ j, j < B.length → w.cell? ⟨p, o + j, none⟩ = some (.int .u8 (B.getD j 0))
theorem At.gr {w v : World} {p o : Nat} {B : List Int} (h : At w p o B) (g : Gr w v) : At v p o B := fun j hj => g.cell (h j hj)

set_option maxHeartbeats 2000000 in
theorem words_ok (B : List Int) (hb : IsB B) (hl : B.length = 64) (p o cap : Nat) (w : World) (hA : At w p o B) :
    Calls Tryd.prog 50 #[.slice (some ⟨p, o, none⟩) 64 cap] w (fun r w' => r = .returned (.agg (uc (wds B))) ∧ Gr w w') := by
  replace hA := hide hA
  replace hb := hide hb
  go_enter Tryd.func50, Tryd.ntmps50
  go_wp2_with fail
  have hB := ((Bl.nil w).new #[.int .u32 0, .int .u32 0, .int .u32 0, .int .u32 0, .int .u32 0, .int .u32 0, .int .u32 0, .int .u32 0, .int .u32 0, .int .u32 0, .int .u32 0, .int .u32 0, .int .u32 0, .int .u32 0, .int .u32 0, .int .u32 0, .int .u32 0, .int .u32 0, .int .u32 0, .int .u32 0, .int .u32 0, .int .u32 0, .int .u32 0, .int .u32 0, .int .u32 0, .int .u32 0, .int .u32 0, .int .u32 0, .int .u32 0, .int .u32 0, .int .u32 0, .int .u32 0, .int .u32 0, .int .u32 0, .int .u32 0, .int .u32 0, .int .u32 0, .int .u32 0, .int .u32 0, .int .u32 0, .int .u32 0, .int .u32 0, .int .u32 0, .int .u32 0, .int .u32 0, .int .u32 0, .int .u32 0, .int .u32 0, .int .u32 0, .int .u32 0, .int .u32 0, .int .u32 0, .int .u32 0, .int .u32 0, .int .u32 0, .int .u32 0, .int .u32 0, .int .u32 0, .int .u32 0, .int .u32 0, .int .u32 0, .int .u32 0, .int .u32 0, .int .u32 0] 64).new #[.int .u32 0, .int .u32 0, .int .u32 0, .int .u32 0, .int .u32 0, .int .u32 0, .int .u32 0, .int .u32 0, .int .u32 0, .int .u32 0, .int .u32 0, .int .u32 0, .int .u32 0, .int .u32 0, .int .u32 0, .int .u32 0, .int .u32 0, .int .u32 0, .int .u32 0, .int .u32 0, .int .u32 0, .int .u32 0, .int .u32 0, .int .u32 0, .int .u32 0, .int .u32 0, .int .u32 0, .int .u32 0, .int .u32 0, .int .u32 0, .int .u32 0, .int .u32 0, .int .u32 0, .int .u32 0, .int .u32 0, .int .u32 0, .int .u32 0, .int .u32 0, .int .u32 0, .int .u32 0, .int .u32 0, .int .u32 0, .int .u32 0, .int .u32 0, .int .u32 0, .int .u32 0, .int .u32 0, .int .u32 0, .int .u32 0, .int .u32 0, .int .u32 0, .int .u32 0, .int .u32 0, .int .u32 0, .int .u32 0, .int .u32 0, .int .u32 0, .int .u32 0, .int .u32 0, .int .u32 0, .int .u32 0, .int .u32 0, .int .u32 0, .int .u32 0] 64
  simp only [size_alloc, List.nil_append, List.cons_append] at hB
  generalize World.alloc _ _ = u at *
  replace hB : Hid (Bl w [⟨w.heap.size, uc Z64, 64⟩, ⟨w.heap.size + 1, uc (W1 B 0), 64⟩] u) := hide hB
  go_loopw [10] (fun i wr => ∃ n : Nat, ∃ m : List Int, n ≤ 16 ∧ i = .int .i64 n ∧ Hid (m = W1 B n) ∧ Hid (Bl w [⟨w.heap.size, uc Z64, 64⟩, ⟨w.heap.size + 1, uc m, 64⟩] wr)) (fun i _ => 16 - (intOf i).toNat)
  case atStart => exact ⟨0, W1 B 0, by omega, rfl, rfl, hB⟩
  case round =>
  clear hB
  obtain ⟨n, m, hn, rfl, hm, hB⟩ := hrel
  have hml : m.length = 64 := by rw [unhide hm]; exact W1_len B n
  by_cases hil : n < 16
  · obtain ⟨q0, hq0⟩ : ∃ q, q = 4 * n := ⟨_, rfl⟩
    obtain ⟨q1, hq1⟩ : ∃ q, q = 4 * n + 1 := ⟨_, rfl⟩
    obtain ⟨q2, hq2⟩ : ∃ q, q = 4 * n + 2 := ⟨_, rfl⟩
    obtain ⟨q3, hq3⟩ : ∃ q, q = 4 * n + 3 := ⟨_, rfl⟩
    have hAt : At wr p o B := (unhide hA).gr (unhide hB).gr
    have c0 := hAt q0 (by omega)
    have c1 := hAt q1 (by omega)
    have c2 := hAt q2 (by omega)
    have c3 := hAt q3 (by omega)
    have b0 := (unhide hb).at_ q0
    have b1 := (unhide hb).at_ q1
    have b2 := (unhide hb).at_ q2
    have b3 := (unhide hb).at_ q3
    have f3 := froz_of (i := n) ((unhide hB).get 1 (x := ⟨w.heap.size + 1, uc m, 64⟩) rfl)
    have c4 := uc_cell ((unhide hB).get 1 (x := ⟨w.heap.size + 1, uc m, 64⟩) rfl) n (by omega)
    have hm2 : Hid (m.set n (be (B.getD q0 0) (B.getD q1 0) (B.getD q2 0) (B.getD q3 0)) = W1 B (n + 1)) := by
      rw [unhide hm, hq0, hq1, hq2, hq3]
      rfl
    have hB2 := (unhide hB).drew.cell 1 (x := ⟨w.heap.size + 1, uc m, 64⟩) rfl n (.int .u32 (be (B.getD q0 0) (B.getD q1 0) (B.getD q2 0) (B.getD q3 0)))
    simp only [List.set_cons_zero, List.set_cons_succ, uc_set] at hB2
    replace hB2 := hide hB2
    generalize B.getD q0 0 = x0 at *
    generalize B.getD q1 0 = x1 at *
    generalize B.getD q2 0 = x2 at *
    generalize B.getD q3 0 = x3 at *
    generalize m.getD n 0 = z at c4
    have e0 : 4 * (n : Int) = (q0 : Int) := by omega
    have e1 : (q0 : Int) + 1 = (q1 : Int) := by omega
    have e2 : (q0 : Int) + 2 = (q2 : Int) := by omega
    have e3 : (q0 : Int) + 3 = (q3 : Int) := by omega
    have g0 : IntKind.i64.wrap (q0 : Int) = (q0 : Int) := by rw [IntKind.wrap_i64]; omega
    have g1 : IntKind.i64.wrap (q1 : Int) = (q1 : Int) := by rw [IntKind.wrap_i64]; omega
    have g2 : IntKind.i64.wrap (q2 : Int) = (q2 : Int) := by rw [IntKind.wrap_i64]; omega
    have g3 : IntKind.i64.wrap (q3 : Int) = (q3 : Int) := by rw [IntKind.wrap_i64]; omega
    have l0 : 0 ≤ (q0 : Int) ∧ (q0 : Int) < 64 := by omega
    have l1 : 0 ≤ (q1 : Int) ∧ (q1 : Int) < 64 := by omega
    have l2 : 0 ≤ (q2 : Int) ∧ (q2 : Int) < 64 := by omega
    have l3 : 0 ≤ (q3 : Int) ∧ (q3 : Int) < 64 := by omega
    have m0 : q0 < 64 := by omega
    have m1 : q1 < 64 := by omega
    have m2 : q2 < 64 := by omega
    have m3 : q3 < 64 := by omega
    have nI : (n : Int) < 16 := by omega
    have nJ : (n : Int) < 64 := by omega
    have nK : n < 64 := by omega
    replace hq0 := hide hq0
    replace hq1 := hide hq1
    replace hq2 := hide hq2
    replace hq3 := hide hq3
    go_wp2_with fail
    go_still_tail 35, (by kernel_rfl)
    go_wp2_with fail
    go_roundw
    case rel =>
      exact ⟨n + 1, _, by omega, by go_num, hm2, hB2⟩
    case measure => simp [intOf]; omega
  · have e : n = 16 := by omega
    subst e
    replace hB : Hid (Bl w [⟨w.heap.size, uc Z64, 64⟩, ⟨w.heap.size + 1, uc (W2 B 0), 64⟩] wr) := by
      have := unhide hB
      rw [unhide hm] at this
      exact this
    clear hm hml
    go_wp2_with fail
    go_loopw [5] (fun i wr => ∃ n : Nat, ∃ m : List Int, n ≤ 48 ∧ i = .int .i64 (n + 16 : Nat) ∧ Hid (m = W2 B n) ∧ Hid (Bl w [⟨w.heap.size, uc Z64, 64⟩, ⟨w.heap.size + 1, uc m, 64⟩] wr)) (fun i _ => 64 - (intOf i).toNat)
    case atStart => exact ⟨0, W2 B 0, by omega, rfl, rfl, hB⟩
    case round =>
    clear hB
    obtain ⟨n, m, hn, rfl, hm, hB⟩ := hrel
    have hml : m.length = 64 := by rw [unhide hm]; exact W2_len B n
    by_cases hil : n < 48
    · obtain ⟨k, hk⟩ : ∃ k, k = n + 16 := ⟨_, rfl⟩
      rw [← hk]
      obtain ⟨q0, hq0⟩ : ∃ q, q = k - 2 := ⟨_, rfl⟩
      obtain ⟨q1, hq1⟩ : ∃ q, q = k - 7 := ⟨_, rfl⟩
      obtain ⟨q2, hq2⟩ : ∃ q, q = k - 15 := ⟨_, rfl⟩
      obtain ⟨q3, hq3⟩ : ∃ q, q = k - 16 := ⟨_, rfl⟩
      have hg := (unhide hB).get 1 (x := ⟨w.heap.size + 1, uc m, 64⟩) rfl
      have c0 := uc_cell hg q0 (by omega)
      have c1 := uc_cell hg q1 (by omega)
      have c2 := uc_cell hg q2 (by omega)
      have c3 := uc_cell hg q3 (by omega)
      have c4 := uc_cell hg k (by omega)
      have f4 := froz_of (i := k) hg
      have hm2 : Hid (m.set k (ad (ad (ad (sg1 (m.getD q0 0)) (m.getD q1 0)) (sg0 (m.getD q2 0))) (m.getD q3 0)) = W2 B (n + 1)) := by
        rw [hq0, hq1, hq2, hq3, hk, unhide hm]
        rfl
      clear hg
      generalize m.getD q0 0 = x0 at *
      generalize m.getD q1 0 = x1 at *
      generalize m.getD q2 0 = x2 at *
      generalize m.getD q3 0 = x3 at *
      generalize m.getD k 0 = z at c4
      have e0 : (k : Int) - 2 = (q0 : Int) := by omega
      have e1 : (k : Int) - 7 = (q1 : Int) := by omega
      have e2 : (k : Int) - 15 = (q2 : Int) := by omega
      have e3 : (k : Int) - 16 = (q3 : Int) := by omega
      have g0 : IntKind.i64.wrap (q0 : Int) = (q0 : Int) := by rw [IntKind.wrap_i64]; omega
      have g1 : IntKind.i64.wrap (q1 : Int) = (q1 : Int) := by rw [IntKind.wrap_i64]; omega
      have g2 : IntKind.i64.wrap (q2 : Int) = (q2 : Int) := by rw [IntKind.wrap_i64]; omega
      have g3 : IntKind.i64.wrap (q3 : Int) = (q3 : Int) := by rw [IntKind.wrap_i64]; omega
      have l0 : 0 ≤ (q0 : Int) ∧ (q0 : Int) < 64 := by omega
      have l1 : 0 ≤ (q1 : Int) ∧ (q1 : Int) < 64 := by omega
      have l2 : 0 ≤ (q2 : Int) ∧ (q2 : Int) < 64 := by omega
      have l3 : 0 ≤ (q3 : Int) ∧ (q3 : Int) < 64 := by omega
      have m0 : q0 < 64 := by omega
      have m1 : q1 < 64 := by omega
      have m2 : q2 < 64 := by omega
      have m3 : q3 < 64 := by omega
      have nJ : 0 ≤ (k : Int) ∧ (k : Int) < 64 := by omega
      have nK : k < 64 := by omega
      replace hk := hide hk
      replace hq0 := hide hq0
      replace hq1 := hide hq1
      replace hq2 := hide hq2
      replace hq3 := hide hq3
      go_wp2_with fail
      go_quiet (fail)
      replace hB : Hid (Bl w [⟨w.heap.size, uc Z64, 64⟩, ⟨w.heap.size + 1, uc m, 64⟩] (wr.drewN nq)) := (unhide hB).drewN nq
      replace c1 : (wr.drewN nq).cell? ⟨w.heap.size + 1, q1, none⟩ = some (.int .u32 x1) := c1
      replace c3 : (wr.drewN nq).cell? ⟨w.heap.size + 1, q3, none⟩ = some (.int .u32 x3) := c3
      replace c4 : (wr.drewN nq).cell? ⟨w.heap.size + 1, k, none⟩ = some (.int .u32 z) := c4
      replace f4 : (wr.drewN nq).frozen? ⟨w.heap.size + 1, k, none⟩ = false := f4
      clear c0 c2
      generalize World.drewN _ _ = v at *
      go_upto_region 13 with (go_at_call 52; refine (turn_int _ _ (by omega) _).mono ?_; rintro e w1 ⟨rfl, rfl⟩)
      replace hB : Hid (Bl w [⟨w.heap.size, uc Z64, 64⟩, ⟨w.heap.size + 1, uc m, 64⟩] v.drew.drew.drew.drew) := (unhide hB).drew.drew.drew.drew
      replace c1 : v.drew.drew.drew.drew.cell? ⟨w.heap.size + 1, q1, none⟩ = some (.int .u32 x1) := c1
      replace c3 : v.drew.drew.drew.drew.cell? ⟨w.heap.size + 1, q3, none⟩ = some (.int .u32 x3) := c3
      replace c4 : v.drew.drew.drew.drew.cell? ⟨w.heap.size + 1, k, none⟩ = some (.int .u32 z) := c4
      replace f4 : v.drew.drew.drew.drew.frozen? ⟨w.heap.size + 1, k, none⟩ = false := f4
      generalize v.drew.drew.drew.drew = v2 at *
      go_still_tail 15, (by kernel_rfl)
      go_wp2_with fail
      go_roundw
      case rel =>
        have hB2 := (unhide hB).drew.cell 1 (x := ⟨w.heap.size + 1, uc m, 64⟩) rfl k (.int .u32 (ad (ad (ad (sg1 x0) x1) (sg0 x2)) x3))
        simp only [List.set_cons_zero, List.set_cons_succ, uc_set] at hB2
        have hz : ad (ad (ad (sg1 x0) x1) (sg0 x2)) x3 = (sg1 x0 + x1 + sg0 x2 + x3) % 4294967296 := by
          simp only [ad_eq]
          omega
        rw [hz] at hB2 hm2
        exact ⟨.int .i64 ((k : Int) + 1), _, _, _, _, _, _, _, _, _, _, _, _, _, _, _, _, _, _, _, _, _, _, _, _, _, _, _, _, _, _, _, _, _, _, _, _, _, _, _, _, _, _, _, _, _, _, _, ⟨n + 1, _, by omega, by have := unhide hk; congr 1; omega, hm2, hide hB2⟩, rfl⟩
      case measure => simp [intOf]; omega
    · have e : n = 48 := by omega
      subst e
      clear hil
      go_upto_region 14 with fail
      replace hB := unhide hB
      have hr0 : m = wds B := unhide hm
      clear hm
      refine wp_region_lit ?_
      refine list_val (.agg (uc m)) (by kernel_rfl) (exec_arr _ 64 (.tmp 3) rfl (w.heap.size + 1) (by kernel_rfl) (uc m) 64 _ (hB.get 1 (x := ⟨w.heap.size + 1, uc m, 64⟩) rfl) Tryd.underlying64 rfl (by rw [Tryd.infoW, uc_size, hml])) ?_
      simp only [Act.put, List.setIfInBounds_toArray, List.set_cons_zero, List.set_cons_succ, List.getElem_toArray, List.getElem_cons_zero, List.getElem_cons_succ]
      refine list_store 64 (.tmp 2) (.tmp 92) w.heap.size (uc m) 64 (uc Z64) (by kernel_rfl) rfl (by kernel_rfl) (by kernel_rfl) (hB.get 0 (x := ⟨w.heap.size, uc Z64, 64⟩) rfl) (by rw [Tryd.infoW, uc_size, hml]) ((show (uc Z64).size = 64 from rfl).trans ((uc_size _).trans hml).symm) (uc_one _) ?_
      replace hB := hB.set 0 (x := ⟨w.heap.size, uc Z64, 64⟩) rfl (uc m)
      simp only [List.set_cons_zero, List.set_cons_succ] at hB
      generalize World.setRow _ _ _ = v1_ at *
      simp only [Act.put, List.setIfInBounds_toArray, List.set_cons_zero, List.set_cons_succ, List.getElem_toArray, List.getElem_cons_zero, List.getElem_cons_succ]
      refine wpList_nil ?_
      go_wp2_with fail
      exact bodyPost_ret (v := .agg (uc m)) (results_cell_row Tryd.results50 _ _ w.heap.size 64 (uc m) (0, 0) _ rfl (hB.get 0 (x := ⟨w.heap.size, uc m, 64⟩) rfl) Tryd.underlying64 rfl (by rw [Tryd.infoW, uc_size, hml])) rfl ⟨by rw [hr0], hB.gr⟩
end Go.Proofs.YthnmebhljkccnaaDoor
