/-
  The reference's From.
-/
import Derived.Test.YtpmgmpihmpifgaaDoorXK1
import Derived.Test.YtpmgmpihmpifgaaDoorURefMul
namespace Go.Proofs.YtpmgmpihmpifgaaDoor.Cv
open Go.RowKit
set_option maxRecDepth 100000
set_option linter.unusedSimpArgs false

theorem sv_nat : ∀ (l : List Int) (K : Nat), (∀ j, j < l.length → l.getD j 0 = ((K / 65536 ^ j % 65536 : Nat) : Int)) → sv l = ((K % 65536 ^ l.length : Nat) : Int)
  | [], K, _ => by simp [sv, Nat.mod_one]
  | x :: t, K, h => by
    have h0 := h 0 (by simp)
    simp only [List.getD_cons_zero, Nat.pow_zero, Nat.div_one] at h0
    have ih := sv_nat t (K / 65536) (fun j hj => by
      have := h (j + 1) (by simpa using hj)
      rw [List.getD_cons_succ, Nat.pow_succ, Nat.mul_comm, ← Nat.div_div_eq_div_mul] at this
      exact this)
    simp only [sv, List.length_cons]
    rw [ih, h0, Nat.pow_succ, Nat.mul_comm (65536 ^ t.length), Nat.mod_mul]
    omega
theorem two_bytes (K j : Nat) : (K : Int) / 256 ^ (2 * j) % 256 + 256 * ((K : Int) / 256 ^ (2 * j + 1) % 256) = ((K / 65536 ^ j % 65536 : Nat) : Int) := by
  have e1 : (256 : Int) ^ (2 * j) = ((65536 ^ j : Nat) : Int) := by
    rw [Int.pow_mul]
    simp
  rw [Int.pow_succ, ← Int.ediv_ediv_of_nonneg (Int.pow_nonneg (by decide)), e1]
  have e2 : (K : Int) / ((65536 ^ j : Nat) : Int) = ((K / 65536 ^ j : Nat) : Int) := rfl
  rw [e2]
  omega
/-- what From has read behind k digits -/
def GI (K : Nat) (m : List Int) (k : Nat) : Prop := m.length = 16 ∧ ∀ j, j < 16 → m.getD j 0 = if j < k then ((K / 65536 ^ j % 65536 : Nat) : Int) else 0
theorem GI.start (K : Nat) : GI K Zl 0 := by
  refine ⟨rfl, fun j hj => ?_⟩
  rw [if_neg (by omega)]
  have : ∀ j : Fin 16, Zl.getD j.val 0 = 0 := by decide
  exact this ⟨j, hj⟩
theorem GI.step {K : Nat} {m : List Int} {k : Nat} (h : GI K m k) (hk : k < 16) : GI K (m.set k ((K : Int) / 256 ^ (2 * k) % 256 + 256 * ((K : Int) / 256 ^ (2 * k + 1) % 256))) (k + 1) := by
  refine ⟨by simpa using h.1, fun j hj => ?_⟩
  rw [getD_set m k j _ (by rw [h.1]; exact hk), two_bytes, h.2 j hj]
  by_cases e : j = k
  · subst e
    rw [if_pos rfl, if_pos (by omega)]
  · rw [if_neg e]
    by_cases e2 : j < k
    · rw [if_pos e2, if_pos (by omega)]
    · rw [if_neg e2, if_neg (by omega)]
theorem GI.fin {K : Nat} {m : List Int} (h : GI K m 16) (hK : K < 115792089237316195423570985008687907853269984665640564039457584007913129639936) : D16 (m.set 15 (m.getD 15 0 % 32768)) ∧ sv (m.set 15 (m.getD 15 0 % 32768)) = (K : Int) % 57896044618658097711785492504343953926634992332820282019728792003956564819968 ∧ (0 ≤ m.getD 15 0 ∧ m.getD 15 0 < 65536) := by
  have h15 := h.2 15 (by omega)
  rw [if_pos (by omega)] at h15
  have hb : ∀ j, j < 16 → 0 ≤ m.getD j 0 ∧ m.getD j 0 < 65536 := by
    intro j hj
    have := h.2 j hj
    rw [if_pos hj] at this
    omega
  have h0 := hb 15 (by omega)
  refine ⟨d16_of (by simpa using h.1) ?_, ?_, h0⟩
  · intro j hj
    rw [getD_set m 15 j _ (by rw [h.1]; omega)]
    split
    · omega
    · exact hb j hj
  · have hs := sv_nat m K (fun j hj => by
      have := h.2 j (by rw [h.1] at hj; exact hj)
      rw [if_pos (by rw [h.1] at hj; exact hj)] at this
      exact this)
    rw [h.1] at hs
    rw [sv_set m 15 _ (by rw [h.1]; omega), hs, h15, show (65536 : Int) ^ 15 = 1766847064778384329583297500742918515827483896875618958121606201292619776 from by decide, show (65536 : Nat) ^ 15 = 1766847064778384329583297500742918515827483896875618958121606201292619776 from by decide, show (65536 : Nat) ^ 16 = 115792089237316195423570985008687907853269984665640564039457584007913129639936 from by decide]
    omega

set_option maxHeartbeats 2000000 in
theorem rFrom_ok (K : Nat) (hK : K < 115792089237316195423570985008687907853269984665640564039457584007913129639936) (w : World) : Calls Tryd.prog 52 #[.agg (kc (digs (K : Int) 32))] w (RetN ((K : Int) % 57896044618658097711785492504343953926634992332820282019728792003956564819968) w) := by
  replace hK := hide hK
  go_enter Tryd.func52, Tryd.ntmps52
  go_wp2_with fail
  have hB := (((Bl.nil w).new (kc (digs (K : Int) 32)) 25).new #[.int .i64 0, .int .i64 0, .int .i64 0, .int .i64 0, .int .i64 0, .int .i64 0, .int .i64 0, .int .i64 0, .int .i64 0, .int .i64 0, .int .i64 0, .int .i64 0, .int .i64 0, .int .i64 0, .int .i64 0, .int .i64 0] 80).new #[.int .i64 0, .int .i64 0, .int .i64 0, .int .i64 0, .int .i64 0, .int .i64 0, .int .i64 0, .int .i64 0, .int .i64 0, .int .i64 0, .int .i64 0, .int .i64 0, .int .i64 0, .int .i64 0, .int .i64 0, .int .i64 0] 80
  simp only [size_alloc, List.nil_append, List.cons_append] at hB
  generalize World.alloc _ _ = u at *
  replace hB : Hid (Bl w [⟨w.heap.size, kc (digs (K : Int) 32), 25⟩, ⟨w.heap.size + 1, nc Zl, 80⟩, ⟨w.heap.size + 1 + 1, nc Zl, 80⟩] u) := hide hB
  have hf := hide (GI.start K)
  go_loopw [4] (fun i wr => ∃ k : Nat, ∃ m : List Int, k ≤ 16 ∧ i = .int .i64 k ∧ Hid (GI K m k) ∧ Hid (Bl w [⟨w.heap.size, kc (digs (K : Int) 32), 25⟩, ⟨w.heap.size + 1, nc Zl, 80⟩, ⟨w.heap.size + 1 + 1, nc m, 80⟩] wr)) (fun i _ => 16 - (intOf i).toNat)
  case atStart => exact ⟨0, Zl, by omega, rfl, hf, hB⟩
  case round =>
  clear hB hf
  obtain ⟨i, m, hi, rfl, hm, hB⟩ := hrel
  by_cases hil : i < 16
  · obtain ⟨q, hq⟩ : ∃ q, q = 2 * i := ⟨_, rfl⟩
    obtain ⟨s, hs⟩ : ∃ s, s = 2 * i + 1 := ⟨_, rfl⟩
    have c1 := key_cell (KB.of (Bl.get (unhide hB) 0 (x := ⟨w.heap.size, kc (digs (K : Int) 32), 25⟩) rfl)) q (by omega)
    have c2 := key_cell (KB.of (Bl.get (unhide hB) 0 (x := ⟨w.heap.size, kc (digs (K : Int) 32), 25⟩) rfl)) s (by omega)
    have f3 := froz_of (i := i) (Bl.get (unhide hB) 2 (x := ⟨w.heap.size + 1 + 1, nc m, 80⟩) rfl)
    have c3 := nc_cell (Bl.get (unhide hB) 2 (x := ⟨w.heap.size + 1 + 1, nc m, 80⟩) rfl) i (by rw [(unhide hm).1]; exact hil)
    have hm2 := (unhide hm).step hil
    rw [← hs, ← hq] at hm2
    have hB2 := Bl.cell (unhide hB).drew 2 (x := ⟨w.heap.size + 1 + 1, nc m, 80⟩) rfl i (.int .i64 ((K : Int) / 256 ^ q % 256 + 256 * ((K : Int) / 256 ^ s % 256)))
    simp only [List.set_cons_zero, List.set_cons_succ, nc_set] at hB2
    replace hB2 := hide hB2
    replace hm2 := hide hm2
    have b1 : 0 ≤ (K : Int) / 256 ^ q % 256 ∧ (K : Int) / 256 ^ q % 256 < 256 := by omega
    have b2 : 0 ≤ (K : Int) / 256 ^ s % 256 ∧ (K : Int) / 256 ^ s % 256 < 256 := by omega
    generalize (K : Int) / 256 ^ q % 256 = x at *
    generalize (K : Int) / 256 ^ s % 256 = y at *
    generalize m.getD i 0 = z at c3
    have e1 : 2 * (i : Int) = (q : Int) := by omega
    have e2 : (q : Int) + 1 = (s : Int) := by omega
    have e3 : IntKind.i64.wrap (q : Int) = (q : Int) := by rw [IntKind.wrap_i64]; omega
    have e4 : IntKind.i64.wrap (s : Int) = (s : Int) := by rw [IntKind.wrap_i64]; omega
    have qI : (q : Int) < 32 := by omega
    have sI : (s : Int) < 32 := by omega
    have q3 : q < 32 := by omega
    have s3 : s < 32 := by omega
    have q0 : 0 ≤ (q : Int) := by omega
    have s0 : 0 ≤ (s : Int) := by omega
    have iI : (i : Int) < 16 := by omega
    replace hq := hide hq
    replace hs := hide hs
    go_wp2_with fail
    go_still_tail 15, (by kernel_rfl)
    go_wp2_with fail
    go_roundw
    case rel => exact ⟨i + 1, _, by omega, by go_num, hm2, hB2⟩
    case measure => simp [intOf]; omega
  · have e : i = 16 := by omega
    subst e
    obtain ⟨hD, hv, b1⟩ := (unhide hm).fin (unhide hK)
    have c3 := nc_cell (Bl.get (unhide hB) 2 (x := ⟨w.heap.size + 1 + 1, nc m, 80⟩) rfl) 15 (by rw [(unhide hm).1]; omega)
    have f3 := froz_of (i := 15) (Bl.get (unhide hB) 2 (x := ⟨w.heap.size + 1 + 1, nc m, 80⟩) rfl)
    have hz := (unhide hm).1
    have hz2 : (m.set 15 (m.getD 15 0 % 32768)).length = 16 := by simpa using hz
    have hB2 := Bl.cell (unhide hB) 2 (x := ⟨w.heap.size + 1 + 1, nc m, 80⟩) rfl 15 (.int .i64 (m.getD 15 0 % 32768))
    simp only [List.set_cons_zero, List.set_cons_succ, nc_set] at hB2
    replace hD := hide hD
    replace hv := hide hv
    clear hm hB
    replace hB2 := hide hB2
    generalize m.getD 15 0 = x at *
    go_upto_region 7 with fail
    generalize World.setCell _ _ _ = ub at *
    have hB := unhide hB2
    clear hB2
    generalize m.set 15 (x % 32768) = l at *
    refine wp_region_lit ?_
    refine list_val (.agg (nc l)) (by kernel_rfl) (exec_arr _ 80 (.tmp 3) rfl (w.heap.size + 1 + 1) (by kernel_rfl) (nc l) 80 _ (hB.get 2 (x := ⟨w.heap.size + 1 + 1, (nc l), 80⟩) rfl) Tryd.underlying80 rfl (by rw [Tryd.infoNum, nc_size, hz2])) ?_
    simp only [nrm]
    refine list_store 80 (.tmp 2) (.tmp 28) (w.heap.size + 1) (nc l) 80 (nc Zl) (by kernel_rfl) rfl (by kernel_rfl) (by kernel_rfl) (hB.get 1 (x := ⟨w.heap.size + 1, (nc Zl), 80⟩) rfl) (by rw [Tryd.infoNum, nc_size, hz2]) ((show (nc Zl).size = 16 from rfl).trans ((nc_size _).trans hz2).symm) (nc_one _) ?_
    replace hB := hB.set 1 (x := ⟨w.heap.size + 1, (nc Zl), 80⟩) rfl (nc l)
    simp only [List.set_cons_zero, List.set_cons_succ] at hB
    generalize World.setRow _ _ _ = v1_ at *
    simp only [nrm]
    refine wpList_nil ?_
    go_wp2_with fail
    exact bodyPost_ret (v := .agg (nc l)) (results_cell_row Tryd.results52 _ _ (w.heap.size + 1) 80 (nc l) (0, 0) _ rfl (hB.get 1 (x := ⟨w.heap.size + 1, (nc l), 80⟩) rfl) Tryd.underlying80 rfl (by rw [Tryd.infoNum, nc_size, hz2])) rfl ⟨_, rfl, ⟨l, rfl, hz2, unhide hD, by rw [unhide hv]⟩, hB.gr⟩
end Go.Proofs.YtpmgmpihmpifgaaDoor.Cv
