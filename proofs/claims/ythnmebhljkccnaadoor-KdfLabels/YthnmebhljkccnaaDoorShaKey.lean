/-
  The state as bytes.
-/
import Derived.Test.YthnmebhljkccnaaDoorShaConst2
namespace Go.Proofs.YthnmebhljkccnaaDoor
open Go.RowKit
set_option maxRecDepth 100000
set_option linter.unusedSimpArgs false

def Z32 : List Int := List.replicate 32 0
def y0 (x : Int) : Int := x / 16777216 % 256
def y1 (x : Int) : Int := x / 65536 % 256
def y2 (x : Int) : Int := x / 256 % 256
def y3 (x : Int) : Int := x % 256
/-- the bytes of the first n words -/
def KY (s : List Int) : Nat → List Int
  | 0 => Z32
  | n + 1 => ((((KY s n).set (4 * n) (y0 (s.getD n 0))).set (4 * n + 1) (y1 (s.getD n 0))).set (4 * n + 2) (y2 (s.getD n 0))).set (4 * n + 3) (y3 (s.getD n 0))
theorem KY_len (s : List Int) : ∀ n, (KY s n).length = 32
  | 0 => rfl
  | n + 1 => by rw [KY, List.length_set, List.length_set, List.length_set, List.length_set, KY_len s n]
def keyL (s : List Int) : List Int := KY s 8
theorem keyL_len (s : List Int) : (keyL s).length = 32 := KY_len s 8
theorem set_isB {l : List Int} (h : IsB l) (i : Nat) (x : Int) (hx : 0 ≤ x ∧ x < 256) : IsB (l.set i x) := by
  intro y hy
  rcases List.mem_or_eq_of_mem_set hy with h1 | h1
  · exact h y h1
  · subst h1; exact hx
theorem KY_isB (s : List Int) : ∀ n, IsB (KY s n)
  | 0 => by intro x hx; have := List.eq_of_mem_replicate hx; omega
  | n + 1 => by
    rw [KY]
    exact set_isB (set_isB (set_isB (set_isB (KY_isB s n) _ _ (by unfold y0; omega)) _ _ (by unfold y1; omega)) _ _ (by unfold y2; omega)) _ _ (by unfold y3; omega)
theorem keyL_isB (s : List Int) : IsB (keyL s) := KY_isB s 8
theorem Tryd.infoKey : (Tryd.prog.info? 28).map (·.size) = some 32 := by kernel_rfl

theorem index_u32 (cs : Array Value) (n : Nat) (x : Int) (hn : n < 8) (hx : cs[n]? = some (.int .u32 x)) (w : World) : (Instr.index 67 (.agg cs) (.int .i64 n)).run Tryd.prog w = .ok (.int .u32 x) w := by
  have h1 : (0 : Int) ≤ n ∧ (n : Int) < 8 := by omega
  have h2 : (n : Int) < 8 := by omega
  simp [Instr.index, run_underlying Tryd.underlying67, asIntOf, go_sem, h2, hx]
  omega
set_option maxHeartbeats 2000000 in
theorem key_ok (s : List Int) (hs : s.length = 8) (w : World) : Calls Tryd.prog 45 #[.agg (uc s)] w (fun r w' => r = .returned (.agg (kc (keyL s))) ∧ Gr w w') := by
  obtain ⟨S, hS⟩ : ∃ S, S = uc s := ⟨_, rfl⟩
  rw [← hS]
  have hSs : S.size = 8 := by rw [hS, uc_size, hs]
  replace hS := hide hS
  go_enter Tryd.func45, Tryd.ntmps45
  go_upto_region 2 with fail
  have hB := (((Bl.nil w).new S 67).new #[.int .u8 0, .int .u8 0, .int .u8 0, .int .u8 0, .int .u8 0, .int .u8 0, .int .u8 0, .int .u8 0, .int .u8 0, .int .u8 0, .int .u8 0, .int .u8 0, .int .u8 0, .int .u8 0, .int .u8 0, .int .u8 0, .int .u8 0, .int .u8 0, .int .u8 0, .int .u8 0, .int .u8 0, .int .u8 0, .int .u8 0, .int .u8 0, .int .u8 0, .int .u8 0, .int .u8 0, .int .u8 0, .int .u8 0, .int .u8 0, .int .u8 0, .int .u8 0] 28).new #[.int .u8 0, .int .u8 0, .int .u8 0, .int .u8 0, .int .u8 0, .int .u8 0, .int .u8 0, .int .u8 0, .int .u8 0, .int .u8 0, .int .u8 0, .int .u8 0, .int .u8 0, .int .u8 0, .int .u8 0, .int .u8 0, .int .u8 0, .int .u8 0, .int .u8 0, .int .u8 0, .int .u8 0, .int .u8 0, .int .u8 0, .int .u8 0, .int .u8 0, .int .u8 0, .int .u8 0, .int .u8 0, .int .u8 0, .int .u8 0, .int .u8 0, .int .u8 0] 28
  simp only [size_alloc, List.nil_append, List.cons_append] at hB
  generalize World.alloc _ _ = u at *
  replace hB : Bl w [⟨w.heap.size, S, 67⟩, ⟨w.heap.size + 1, kc Z32, 28⟩, ⟨w.heap.size + 1 + 1, kc (KY s 0), 28⟩] u := hB
  refine wp_region_lit ?_
  refine list_val (.agg S) (by kernel_rfl) (exec_arr _ 67 (.tmp 1) rfl w.heap.size (by kernel_rfl) S 67 _ (hB.get 0 (x := ⟨w.heap.size, S, 67⟩) rfl) Tryd.underlying67 rfl (by rw [Tryd.infoS, hSs])) ?_
  simp only [Act.put, List.setIfInBounds_toArray, List.set_cons_zero, List.set_cons_succ, List.getElem_toArray, List.getElem_cons_zero, List.getElem_cons_succ]
  refine list_val (.int .i64 0) (by kernel_rfl) (by kernel_rfl) ?_
  simp only [Act.put, List.setIfInBounds_toArray, List.set_cons_zero, List.set_cons_succ, List.getElem_toArray, List.getElem_cons_zero, List.getElem_cons_succ]
  refine wpList_nil ?_
  replace hB := hide hB
  go_wp2_with fail
  go_loopw [7] (fun i wr => ∃ n : Nat, ∃ m : List Int, n ≤ 8 ∧ i = .int .i64 n ∧ Hid (m = KY s n) ∧ Hid (Bl w [⟨w.heap.size, S, 67⟩, ⟨w.heap.size + 1, kc Z32, 28⟩, ⟨w.heap.size + 1 + 1, kc m, 28⟩] wr)) (fun i _ => 8 - (intOf i).toNat)
  case atStart => exact ⟨0, KY s 0, by omega, rfl, rfl, hB⟩
  case round =>
  clear hB
  obtain ⟨n, m, hn, rfl, hm, hB⟩ := hrel
  have hml : m.length = 32 := by rw [unhide hm]; exact KY_len s n
  by_cases hil : n < 8
  · have hx : (Instr.index 67 (.agg S) (.int .i64 n)).run Tryd.prog wr = .ok (.int .u32 (s.getD n 0)) wr := index_u32 S n _ hil (by rw [unhide hS]; exact uc_get s n (by omega)) wr
    obtain ⟨q0, hq0⟩ : ∃ q, q = 4 * n := ⟨_, rfl⟩
    obtain ⟨q1, hq1⟩ : ∃ q, q = 4 * n + 1 := ⟨_, rfl⟩
    obtain ⟨q2, hq2⟩ : ∃ q, q = 4 * n + 2 := ⟨_, rfl⟩
    obtain ⟨q3, hq3⟩ : ∃ q, q = 4 * n + 3 := ⟨_, rfl⟩
    have hm2 : Hid ((((m.set q0 (y0 (s.getD n 0))).set q1 (y1 (s.getD n 0))).set q2 (y2 (s.getD n 0))).set q3 (y3 (s.getD n 0)) = KY s (n + 1)) := by
      rw [hq0, hq1, hq2, hq3, unhide hm]
      rfl
    generalize s.getD n 0 = x at *
    have hB0 := unhide hB
    have c0 := kc_cell (hB0.get 2 (x := ⟨w.heap.size + 1 + 1, kc m, 28⟩) rfl) q0 (by omega)
    have f0 := froz_of (i := q0) (hB0.get 2 (x := ⟨w.heap.size + 1 + 1, kc m, 28⟩) rfl)
    have hB1 := hB0.cell 2 (x := ⟨w.heap.size + 1 + 1, kc m, 28⟩) rfl q0 (.int .u8 (x / 16777216 % 256))
    simp only [List.set_cons_zero, List.set_cons_succ, kc_set] at hB1
    have c1 := kc_cell (hB1.get 2 (x := ⟨w.heap.size + 1 + 1, kc (m.set q0 (x / 16777216 % 256)), 28⟩) rfl) q1 (by simp; omega)
    have f1 := froz_of (i := q1) (hB1.get 2 (x := ⟨w.heap.size + 1 + 1, kc (m.set q0 (x / 16777216 % 256)), 28⟩) rfl)
    have hB2 := hB1.cell 2 (x := ⟨w.heap.size + 1 + 1, kc (m.set q0 (x / 16777216 % 256)), 28⟩) rfl q1 (.int .u8 (x / 65536 % 256))
    simp only [List.set_cons_zero, List.set_cons_succ, kc_set] at hB2
    have c2 := kc_cell (hB2.get 2 (x := ⟨w.heap.size + 1 + 1, kc ((m.set q0 (x / 16777216 % 256)).set q1 (x / 65536 % 256)), 28⟩) rfl) q2 (by simp; omega)
    have f2 := froz_of (i := q2) (hB2.get 2 (x := ⟨w.heap.size + 1 + 1, kc ((m.set q0 (x / 16777216 % 256)).set q1 (x / 65536 % 256)), 28⟩) rfl)
    have hB3 := hB2.cell 2 (x := ⟨w.heap.size + 1 + 1, kc ((m.set q0 (x / 16777216 % 256)).set q1 (x / 65536 % 256)), 28⟩) rfl q2 (.int .u8 (x / 256 % 256))
    simp only [List.set_cons_zero, List.set_cons_succ, kc_set] at hB3
    have c3 := kc_cell (hB3.get 2 (x := ⟨w.heap.size + 1 + 1, kc (((m.set q0 (x / 16777216 % 256)).set q1 (x / 65536 % 256)).set q2 (x / 256 % 256)), 28⟩) rfl) q3 (by simp; omega)
    have f3 := froz_of (i := q3) (hB3.get 2 (x := ⟨w.heap.size + 1 + 1, kc (((m.set q0 (x / 16777216 % 256)).set q1 (x / 65536 % 256)).set q2 (x / 256 % 256)), 28⟩) rfl)
    have hB4 := hB3.cell 2 (x := ⟨w.heap.size + 1 + 1, kc (((m.set q0 (x / 16777216 % 256)).set q1 (x / 65536 % 256)).set q2 (x / 256 % 256)), 28⟩) rfl q3 (.int .u8 (x % 256))
    simp only [List.set_cons_zero, List.set_cons_succ, kc_set] at hB4
    generalize m.getD q0 0 = z0 at c0
    generalize List.getD _ _ _ = z1 at c1
    generalize List.getD _ _ _ = z2 at c2
    generalize List.getD _ _ _ = z3 at c3
    clear hB0 hB1 hB2 hB3 hB
    replace hB4 := hide hB4
    have e0 : 4 * (n : Int) = (q0 : Int) := by omega
    have e1 : (q0 : Int) + 1 = (q1 : Int) := by omega
    have e2 : (q0 : Int) + 2 = (q2 : Int) := by omega
    have e3 : (q0 : Int) + 3 = (q3 : Int) := by omega
    have g0 : IntKind.i64.wrap (q0 : Int) = (q0 : Int) := by rw [IntKind.wrap_i64]; omega
    have g1 : IntKind.i64.wrap (q1 : Int) = (q1 : Int) := by rw [IntKind.wrap_i64]; omega
    have g2 : IntKind.i64.wrap (q2 : Int) = (q2 : Int) := by rw [IntKind.wrap_i64]; omega
    have g3 : IntKind.i64.wrap (q3 : Int) = (q3 : Int) := by rw [IntKind.wrap_i64]; omega
    have l0 : 0 ≤ (q0 : Int) ∧ (q0 : Int) < 32 := by omega
    have l1 : 0 ≤ (q1 : Int) ∧ (q1 : Int) < 32 := by omega
    have l2 : 0 ≤ (q2 : Int) ∧ (q2 : Int) < 32 := by omega
    have l3 : 0 ≤ (q3 : Int) ∧ (q3 : Int) < 32 := by omega
    have m0 : q0 < 32 := by omega
    have m1 : q1 < 32 := by omega
    have m2 : q2 < 32 := by omega
    have m3 : q3 < 32 := by omega
    have nI : (n : Int) < 8 := by omega
    have w0 : IntKind.u8.wrap (x / 16777216) = x / 16777216 % 256 := by rw [IntKind.wrap_u8']
    have w1 : IntKind.u8.wrap (x / 65536) = x / 65536 % 256 := by rw [IntKind.wrap_u8']
    have w2 : IntKind.u8.wrap (x / 256) = x / 256 % 256 := by rw [IntKind.wrap_u8']
    have w3 : IntKind.u8.wrap x = x % 256 := by rw [IntKind.wrap_u8']
    replace hq0 := hide hq0
    replace hq1 := hide hq1
    replace hq2 := hide hq2
    replace hq3 := hide hq3
    go_wp2_with fail
    go_roundw
    case rel => exact ⟨n + 1, _, by omega, by go_num, hm2, hB4⟩
    case measure => simp [intOf]; omega
  · have e : n = 8 := by omega
    subst e
    clear hil
    have hr0 : m = keyL s := unhide hm
    clear hm
    go_upto_region 7 with fail
    replace hB := unhide hB
    refine wp_region_lit ?_
    refine list_val (.agg (kc m)) (by kernel_rfl) (exec_arr _ 28 (.tmp 3) rfl (w.heap.size + 1 + 1) (by kernel_rfl) (kc m) 28 _ (hB.get 2 (x := ⟨w.heap.size + 1 + 1, kc m, 28⟩) rfl) Tryd.underlying28 rfl (by rw [Tryd.infoKey, kc_size, hml])) ?_
    simp only [Act.put, List.setIfInBounds_toArray, List.set_cons_zero, List.set_cons_succ, List.getElem_toArray, List.getElem_cons_zero, List.getElem_cons_succ]
    refine list_store 28 (.tmp 2) (.tmp 38) (w.heap.size + 1) (kc m) 28 (kc Z32) (by kernel_rfl) rfl (by kernel_rfl) (by kernel_rfl) (hB.get 1 (x := ⟨w.heap.size + 1, kc Z32, 28⟩) rfl) (by rw [Tryd.infoKey, kc_size, hml]) ((show (kc Z32).size = 32 from rfl).trans ((kc_size _).trans hml).symm) (kc_one _) ?_
    replace hB := hB.set 1 (x := ⟨w.heap.size + 1, kc Z32, 28⟩) rfl (kc m)
    simp only [List.set_cons_zero, List.set_cons_succ] at hB
    generalize World.setRow _ _ _ = v1_ at *
    simp only [Act.put, List.setIfInBounds_toArray, List.set_cons_zero, List.set_cons_succ, List.getElem_toArray, List.getElem_cons_zero, List.getElem_cons_succ]
    refine wpList_nil ?_
    go_wp2_with fail
    exact bodyPost_ret (v := .agg (kc m)) (results_cell_row Tryd.results45 _ _ (w.heap.size + 1) 28 (kc m) (0, 0) _ rfl (hB.get 1 (x := ⟨w.heap.size + 1, kc m, 28⟩) rfl) Tryd.underlying28 rfl (by rw [Tryd.infoKey, kc_size, hml])) rfl ⟨by rw [hr0], hB.gr⟩
end Go.Proofs.YthnmebhljkccnaaDoor
