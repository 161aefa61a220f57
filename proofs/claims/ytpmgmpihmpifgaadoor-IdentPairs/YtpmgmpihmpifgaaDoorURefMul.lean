/-
  The reference's fold and Mul.
-/
import Derived.Test.YtpmgmpihmpifgaaDoorXK1
import Derived.Test.YtpmgmpihmpifgaaDoorURefSums
namespace Go.Proofs.YtpmgmpihmpifgaaDoor.Cv
open Go.RowKit
set_option maxRecDepth 100000
set_option linter.unusedSimpArgs false

theorem sv_take : ∀ (l : List Int) (k : Nat), k < l.length → sv (l.take (k + 1)) = sv (l.take k) + l.getD k 0 * 65536 ^ k
  | [], k, h => by simp at h
  | x :: t, 0, _ => by simp [sv]
  | x :: t, k + 1, h => by
    have ih := sv_take t k (by simpa using h)
    simp only [List.take_succ_cons, sv, List.getD_cons_succ, Int.pow_succ] at ih ⊢
    rw [ih]
    grind
theorem sv_cut : ∀ (k : Nat) (l : List Int), k ≤ l.length → sv l = sv (l.take k) + 65536 ^ k * sv (l.drop k)
  | 0, l, _ => by simp [sv]
  | k + 1, [], h => by simp at h
  | k + 1, x :: t, h => by
    have ih := sv_cut k t (by simpa using h)
    simp only [List.take_succ_cons, List.drop_succ_cons, sv, Int.pow_succ]
    rw [ih]
    grind
theorem getD_take (l : List Int) (k j : Nat) (h : j < k) : (l.take k).getD j 0 = l.getD j 0 := by
  rw [List.getD_eq_getElem?_getD, List.getElem?_take, if_pos h, ← List.getD_eq_getElem?_getD]
theorem getD_drop (l : List Int) (k j : Nat) : (l.drop k).getD j 0 = l.getD (k + j) 0 := by
  rw [List.getD_eq_getElem?_getD, List.getElem?_drop, ← List.getD_eq_getElem?_getD]

/-- what fold has reckoned behind k digits -/
def FI (l m : List Int) (k : Nat) : Prop := m.length = 16 ∧ ∀ j, j < 16 → m.getD j 0 = (if j < k then l.getD j 0 else 0) + (if 16 + j < k then 38 * l.getD (16 + j) 0 else 0)
theorem FI.start (l : List Int) : FI l Zl 0 := by
  refine ⟨rfl, fun j hj => ?_⟩
  rw [if_neg (by omega), if_neg (by omega)]
  have : ∀ j : Fin 16, Zl.getD j.val 0 = 0 + 0 := by decide
  exact this ⟨j, hj⟩
theorem FI.low {l m : List Int} {k : Nat} (h : FI l m k) (hk : k < 16) : FI l (m.set k (m.getD k 0 + l.getD k 0)) (k + 1) ∧ m.getD k 0 = 0 := by
  have e := h.2 k hk
  rw [if_neg (by omega), if_neg (by omega)] at e
  refine ⟨⟨by simpa using h.1, fun j hj => ?_⟩, by omega⟩
  rw [getD_set m k j _ (by rw [h.1]; exact hk)]
  have hj2 := h.2 j hj
  rw [if_neg (show ¬ 16 + j < k by omega)] at hj2
  rw [if_neg (show ¬ 16 + j < k + 1 by omega)]
  by_cases q : j = k
  · subst q
    rw [if_pos rfl, if_pos (by omega)]
    omega
  · rw [if_neg q]
    by_cases q2 : j < k
    · rw [if_pos q2] at hj2
      rw [if_pos (by omega)]
      exact hj2
    · rw [if_neg q2] at hj2
      rw [if_neg (by omega)]
      exact hj2
theorem FI.high {l m : List Int} {k : Nat} (h : FI l m k) (hk : 16 ≤ k) (hk2 : k < 32) : FI l (m.set (k - 16) (m.getD (k - 16) 0 + 38 * l.getD k 0)) (k + 1) ∧ m.getD (k - 16) 0 = l.getD (k - 16) 0 := by
  have e := h.2 (k - 16) (by omega)
  rw [if_pos (by omega), if_neg (by omega)] at e
  refine ⟨⟨by simpa using h.1, fun j hj => ?_⟩, by omega⟩
  rw [getD_set m (k - 16) j _ (by rw [h.1]; omega)]
  have hj2 := h.2 j hj
  rw [if_pos (show j < k by omega)] at hj2
  rw [if_pos (show j < k + 1 by omega)]
  by_cases q : j = k - 16
  · have q2 : 16 + j = k := by omega
    rw [if_pos q, q2, if_pos (by omega), ← q]
    rw [← q] at e
    omega
  · rw [if_neg q]
    by_cases q2 : 16 + j < k
    · rw [if_pos q2] at hj2
      rw [if_pos (by omega)]
      exact hj2
    · rw [if_neg q2] at hj2
      rw [if_neg (by omega)]
      exact hj2

set_option maxHeartbeats 2000000 in
theorem nfold_ok (l : List Int) (g : Nat) (hl : l.length = 32) (hb : ∀ j, j < 32 → 0 ≤ l.getD j 0 ∧ l.getD j 0 ≤ 2199023255552) (w : World) (hg : w.heap[g]? = some (.cells (nc l) 3 (0, 0))) :
    Calls Tryd.prog 73 #[.slice (some ⟨g, 0, none⟩) 32 32] w (RetN (sv l) w) := by
  go_enter Tryd.func73, Tryd.ntmps73
  go_wp2_with fail
  have hB := ((Bl.nil w).new #[.int .i64 0, .int .i64 0, .int .i64 0, .int .i64 0, .int .i64 0, .int .i64 0, .int .i64 0, .int .i64 0, .int .i64 0, .int .i64 0, .int .i64 0, .int .i64 0, .int .i64 0, .int .i64 0, .int .i64 0, .int .i64 0] 80).new #[.int .i64 0, .int .i64 0, .int .i64 0, .int .i64 0, .int .i64 0, .int .i64 0, .int .i64 0, .int .i64 0, .int .i64 0, .int .i64 0, .int .i64 0, .int .i64 0, .int .i64 0, .int .i64 0, .int .i64 0, .int .i64 0] 80
  simp only [size_alloc, List.nil_append, List.cons_append] at hB
  generalize World.alloc _ _ = u at *
  replace hB : Hid (Bl w [⟨w.heap.size, nc Zl, 80⟩, ⟨w.heap.size + 1, nc Zl, 80⟩] u) := hide hB
  have hf := hide (FI.start l)
  go_loopw [4] (fun i wr => ∃ k : Nat, ∃ m : List Int, k ≤ 32 ∧ i = .int .i64 k ∧ Hid (FI l m k) ∧ Hid (Bl w [⟨w.heap.size, nc Zl, 80⟩, ⟨w.heap.size + 1, nc m, 80⟩] wr)) (fun i _ => 32 - (intOf i).toNat)
  case atStart => exact ⟨0, Zl, by omega, rfl, hf, hB⟩
  case round =>
  clear hB hf
  obtain ⟨i, m, hi, rfl, hm, hB⟩ := hrel
  by_cases hil : i < 32
  · have c0 := nc_cell ((unhide hB).gr.blk hg) i (by rw [hl]; exact hil)
    have b0 := hb i hil
    by_cases hlo : i < 16
    · have c1 := nc_cell (Bl.get (unhide hB) 1 (x := ⟨w.heap.size + 1, nc m, 80⟩) rfl) i (by rw [(unhide hm).1]; exact hlo)
      have f1 := froz_of (i := i) (Bl.get (unhide hB) 1 (x := ⟨w.heap.size + 1, nc m, 80⟩) rfl)
      obtain ⟨hm2, e1⟩ := (unhide hm).low hlo
      rw [e1] at c1 hm2
      have hB2 := Bl.cell (unhide hB).drew 1 (x := ⟨w.heap.size + 1, nc m, 80⟩) rfl i (.int .i64 (0 + l.getD i 0))
      simp only [List.set_cons_zero, List.set_cons_succ, nc_set] at hB2
      replace hB2 := hide hB2
      replace hm2 := hide hm2
      replace hg := hide hg
      clear e1
      generalize l.getD i 0 = x at *
      simp only [Int.zero_add] at hB2 hm2
      go_wp2_with fail
      go_still_tail 10, (by kernel_rfl)
      go_wp2_with fail
      go_roundw
      case rel => exact ⟨i + 1, _, by omega, by go_num, hm2, hB2⟩
      case measure => simp [intOf]; omega
    · obtain ⟨n, hne⟩ : ∃ n, n = i - 16 := ⟨_, rfl⟩
      have hn : n < 16 := by omega
      obtain ⟨hm2, e1⟩ := (unhide hm).high (by omega) hil
      rw [← hne] at hm2 e1
      have c1 := nc_cell (Bl.get (unhide hB) 1 (x := ⟨w.heap.size + 1, nc m, 80⟩) rfl) n (by rw [(unhide hm).1]; exact hn)
      have f1 := froz_of (i := n) (Bl.get (unhide hB) 1 (x := ⟨w.heap.size + 1, nc m, 80⟩) rfl)
      rw [e1] at c1 hm2
      have b1 := hb n (by omega)
      have hB2 := Bl.cell (unhide hB).drew 1 (x := ⟨w.heap.size + 1, nc m, 80⟩) rfl n (.int .i64 (l.getD n 0 + 38 * l.getD i 0))
      simp only [List.set_cons_zero, List.set_cons_succ, nc_set] at hB2
      replace hB2 := hide hB2
      replace hm2 := hide hm2
      replace hg := hide hg
      clear e1
      generalize l.getD i 0 = x at *
      generalize l.getD n 0 = y at *
      have e16 : IntKind.i64.wrap (n : Int) = (n : Int) := by rw [IntKind.wrap_i64]; omega
      have e17 : (i : Int) - 16 = (n : Int) := by omega
      have hhi : ¬ (i : Int) < 16 := by omega
      have hnI : (n : Int) < 16 := by omega
      have hn0 : 0 ≤ (n : Int) := by omega
      replace hne := hide hne
      go_wp2_with fail
      go_still_tail 13, (by kernel_rfl)
      go_wp2_with fail
      go_roundw
      case rel => exact ⟨i + 1, _, by omega, by go_num, hm2, hB2⟩
      case measure => simp [intOf]; omega
  · have e : i = 32 := by omega
    subst e
    have hz := (unhide hm).1
    have hme : ∀ j, j < 16 → m.getD j 0 = l.getD j 0 + 38 * l.getD (16 + j) 0 := by
      intro j hj
      have h1 := (unhide hm).2 j hj
      rw [if_pos (by omega), if_pos (by omega)] at h1
      exact h1
    have hv : sv m % pp = sv l % pp := by
      have h := sv_comb 1 38 m (l.take 16) (l.drop 16) (by simp [hl, hz]) (by simp [hl, hz]) (fun j hj => by
        rw [hz] at hj
        rw [getD_take l 16 j hj, getD_drop, hme j hj]
        omega)
      have h2 := sv_cut 16 l (by omega)
      rw [p16] at h2
      rw [h, h2]
      generalize sv (l.take 16) = A
      generalize sv (l.drop 16) = B
      have : A + 115792089237316195423570985008687907853269984665640564039457584007913129639936 * B = (1 * A + 38 * B) + (2 * B) * pp := by unfold pp; omega
      rw [this, Int.add_mul_emod_self_right]
    have hbd : ∀ j, j < 16 → -36028797018963968 ≤ m.getD j 0 ∧ m.getD j 0 ≤ 36028797018963968 := by
      intro j hj
      have h1 := hme j hj
      have b1 := hb j (by omega)
      have b2 := hb (16 + j) (by omega)
      omega
    go_upto_region 8 with fail
    replace hB := unhide hB
    refine wp_region_lit ?_
    refine list_val (.agg (nc m)) (by kernel_rfl) (exec_arr _ 80 (.tmp 3) rfl (w.heap.size + 1) (by kernel_rfl) (nc m) 80 _ (hB.get 1 (x := ⟨w.heap.size + 1, (nc m), 80⟩) rfl) Tryd.underlying80 rfl (by rw [Tryd.infoNum, nc_size, hz])) ?_
    simp only [nrm]
    refine list_call 72 #[.agg (nc m)] (by kernel_rfl) (by kernel_rfl) ((carry_ok m hz hbd _).mono ?_)
    rintro r v1_ ⟨c1, rfl, hc1, hg⟩
    refine ⟨_, rfl, ?_⟩
    replace hc1 := hc1.same hv
    replace hB := hB.more hg
    clear hg
    simp only [nrm]
    refine list_store 80 (.tmp 2) (.tmp 37) w.heap.size c1 80 (nc Zl) (by kernel_rfl) rfl (by kernel_rfl) (by kernel_rfl) (hB.get 0 (x := ⟨w.heap.size, (nc Zl), 80⟩) rfl) (by rw [Tryd.infoNum, NC.size _ hc1]) ((show (nc Zl).size = 16 from rfl).trans (NC.size _ hc1).symm) (NC.one _ hc1) ?_
    replace hB := hB.set 0 (x := ⟨w.heap.size, (nc Zl), 80⟩) rfl c1
    simp only [List.set_cons_zero, List.set_cons_succ] at hB
    generalize World.setRow _ _ _ = v2_ at *
    simp only [nrm]
    refine wpList_nil ?_
    go_wp2_with fail
    exact bodyPost_ret (v := .agg c1) (results_cell_row Tryd.results73 _ _ w.heap.size 80 c1 (0, 0) _ rfl (hB.get 0 (x := ⟨w.heap.size, c1, 80⟩) rfl) Tryd.underlying80 rfl (by rw [Tryd.infoNum, NC.size _ hc1])) rfl ⟨_, rfl, hc1, hB.gr⟩

/-- what Mul has reckoned behind i rows and k products -/
def MI (a b s : List Int) (i k : Nat) : Prop := s.length = 32 ∧ (∀ j, j < 32 → 0 ≤ s.getD j 0 ∧ s.getD j 0 ≤ ((16 * i + k : Nat) : Int) * 4294967296) ∧ sv s = sv (a.take i) * sv b + a.getD i 0 * 65536 ^ i * sv (b.take k)
theorem mul_bd2 {x y : Int} (hx : 0 ≤ x ∧ x < 65536) (hy : 0 ≤ y ∧ y < 65536) : 0 ≤ x * y ∧ x * y < 4294967296 := by
  have h1 := Int.mul_nonneg hx.1 hy.1
  have h2 := Int.mul_le_mul_of_nonneg_right (show x ≤ 65535 by omega) hy.1
  omega
theorem MI.step {a b s : List Int} {i k : Nat} (h : MI a b s i k) (hi : i < 16) (hk : k < 16) (hb : b.length = 16) (bx : 0 ≤ a.getD i 0 ∧ a.getD i 0 < 65536) (by_ : 0 ≤ b.getD k 0 ∧ b.getD k 0 < 65536) :
    MI a b (s.set (i + k) (s.getD (i + k) 0 + a.getD i 0 * b.getD k 0)) i (k + 1) := by
  obtain ⟨h1, h2, h3⟩ := h
  have hp := mul_bd2 bx by_
  refine ⟨by simpa using h1, ?_, ?_⟩
  · intro j hj
    have hj2 := h2 j hj
    have hj3 := h2 (i + k) (by omega)
    rw [getD_set s (i + k) j _ (by omega)]
    generalize a.getD i 0 * b.getD k 0 = z at *
    split <;> omega
  · rw [sv_set s (i + k) _ (by omega), h3, sv_take b k (by omega), Int.pow_add]
    generalize sv (a.take i) * sv b = A
    generalize sv (b.take k) = B
    generalize s.getD (i + k) 0 = x
    generalize a.getD i 0 = y
    generalize b.getD k 0 = z
    generalize (65536 : Int) ^ i = P
    generalize (65536 : Int) ^ k = Q
    grind
theorem MI.row {a b s : List Int} {i : Nat} (h : MI a b s i 16) (hi : i < 16) (ha : a.length = 16) (hb : b.length = 16) : MI a b s (i + 1) 0 := by
  obtain ⟨h1, h2, h3⟩ := h
  refine ⟨h1, ?_, ?_⟩
  · intro j hj
    have := h2 j hj
    omega
  · rw [h3, sv_take a i (by omega), List.take_of_length_le (show b.length ≤ 16 by omega), List.take_zero]
    simp only [sv]
    grind
def Zs : List Int := [0, 0, 0, 0, 0, 0, 0, 0, 0, 0, 0, 0, 0, 0, 0, 0, 0, 0, 0, 0, 0, 0, 0, 0, 0, 0, 0, 0, 0, 0, 0, 0]
theorem MI.start (a b : List Int) : MI a b Zs 0 0 := by
  refine ⟨rfl, fun j hj => ?_, ?_⟩
  · have : ∀ j : Fin 32, 0 ≤ Zs.getD j.val 0 ∧ Zs.getD j.val 0 ≤ 0 := by decide
    have := this ⟨j, hj⟩
    simp only at this
    omega
  · have : sv Zs = 0 := by decide
    rw [this]
    simp [sv]

theorem make32 (w : World) : (Instr.makeSlice 103 (.int .i64 32) (.int .i64 32)).run Tryd.prog w = .ok (.slice (some ⟨w.heap.size, 0, none⟩) 32 32) (w.alloc (.cells #[.int .i64 0, .int .i64 0, .int .i64 0, .int .i64 0, .int .i64 0, .int .i64 0, .int .i64 0, .int .i64 0, .int .i64 0, .int .i64 0, .int .i64 0, .int .i64 0, .int .i64 0, .int .i64 0, .int .i64 0, .int .i64 0, .int .i64 0, .int .i64 0, .int .i64 0, .int .i64 0, .int .i64 0, .int .i64 0, .int .i64 0, .int .i64 0, .int .i64 0, .int .i64 0, .int .i64 0, .int .i64 0, .int .i64 0, .int .i64 0, .int .i64 0, .int .i64 0] 3)) := by kernel_rfl
def MB (w : World) (a b s : List Int) (v : World) : Prop := Bl w [⟨w.heap.size, nc a, 80⟩, ⟨w.heap.size + 1, nc b, 80⟩, ⟨w.heap.size + 1 + 1, nc Zl, 80⟩, ⟨w.heap.size + 1 + 1 + 1, nc s, 3⟩] v
theorem MB.a {w v : World} {a b s : List Int} (h : MB w a b s v) : v.heap[w.heap.size]? = some (.cells (nc a) 80 (0, 0)) := Bl.get h 0 (x := ⟨w.heap.size, nc a, 80⟩) rfl
theorem MB.b {w v : World} {a b s : List Int} (h : MB w a b s v) : v.heap[w.heap.size + 1]? = some (.cells (nc b) 80 (0, 0)) := Bl.get h 1 (x := ⟨w.heap.size + 1, nc b, 80⟩) rfl
theorem MB.s {w v : World} {a b s : List Int} (h : MB w a b s v) : v.heap[w.heap.size + 1 + 1 + 1]? = some (.cells (nc s) 3 (0, 0)) := Bl.get h 3 (x := ⟨w.heap.size + 1 + 1 + 1, nc s, 3⟩) rfl
theorem MB.set {w v : World} {a b s : List Int} (h : MB w a b s v) (i : Nat) (x : Int) : MB w a b (s.set i x) (v.drew.setCell ⟨w.heap.size + 1 + 1 + 1, i, none⟩ (.int .i64 x)) := by
  have := Bl.cell (Bl.drew h) 3 (x := ⟨w.heap.size + 1 + 1 + 1, nc s, 3⟩) rfl i (.int .i64 x)
  unfold MB
  rw [← nc_set]
  exact this

set_option maxHeartbeats 4000000 in
theorem nMul_ok (a b : List Int) (ha : a.length = 16) (da : D16 a) (hb : b.length = 16) (db : D16 b) (w : World) :
    Calls Tryd.prog 55 #[.agg (nc a), .agg (nc b)] w (RetN (sv a * sv b) w) := by
  have hn : (nc a).size = 16 := by rw [nc_size]; exact ha
  have hn2 : (nc b).size = 16 := by rw [nc_size]; exact hb
  have hmk := make32
  go_enter Tryd.func55, Tryd.ntmps55
  go_wp2_with fail
  have hB := ((((Bl.nil w).new (nc a) 80).new (nc b) 80).new #[.int .i64 0, .int .i64 0, .int .i64 0, .int .i64 0, .int .i64 0, .int .i64 0, .int .i64 0, .int .i64 0, .int .i64 0, .int .i64 0, .int .i64 0, .int .i64 0, .int .i64 0, .int .i64 0, .int .i64 0, .int .i64 0] 80).new #[.int .i64 0, .int .i64 0, .int .i64 0, .int .i64 0, .int .i64 0, .int .i64 0, .int .i64 0, .int .i64 0, .int .i64 0, .int .i64 0, .int .i64 0, .int .i64 0, .int .i64 0, .int .i64 0, .int .i64 0, .int .i64 0, .int .i64 0, .int .i64 0, .int .i64 0, .int .i64 0, .int .i64 0, .int .i64 0, .int .i64 0, .int .i64 0, .int .i64 0, .int .i64 0, .int .i64 0, .int .i64 0, .int .i64 0, .int .i64 0, .int .i64 0, .int .i64 0] 3
  simp only [size_alloc, List.nil_append, List.cons_append] at hB
  generalize World.alloc _ _ = u at *
  replace hB : Hid (MB w a b Zs u) := hide hB
  have hM := hide (MI.start a b)
  clear hmk
  go_loopw [6] (fun i wr => ∃ k : Nat, ∃ s : List Int, k ≤ 16 ∧ i = .int .i64 k ∧ Hid (MI a b s k 0) ∧ Hid (MB w a b s wr)) (fun i _ => 16 - (intOf i).toNat)
  case atStart => exact ⟨0, Zs, by omega, rfl, hM, hB⟩
  case round =>
  clear hB hM
  obtain ⟨i, s, hi, rfl, hM, hB⟩ := hrel
  by_cases hil : i < 16
  · have iI : (i : Int) < 16 := by omega
    go_wp2_with fail
    go_loopw [7] (fun q wr => ∃ k : Nat, ∃ s : List Int, k ≤ 16 ∧ q = .int .i64 k ∧ Hid (MI a b s i k) ∧ Hid (MB w a b s wr)) (fun q _ => 16 - (intOf q).toNat)
    case atStart => exact ⟨0, s, by omega, rfl, hM, hB⟩
    case round =>
    clear hB hM
    obtain ⟨k, s, hk, rfl, hM, hB⟩ := hrel
    by_cases hkl : k < 16
    · obtain ⟨q, hq⟩ : ∃ q, q = i + k := ⟨_, rfl⟩
      have c1 := nc_cell (unhide hB).a i (by rw [ha]; exact hil)
      have c2 := nc_cell (unhide hB).b k (by rw [hb]; exact hkl)
      have c3 := nc_cell (unhide hB).s q (by rw [(unhide hM).1]; omega)
      have f3 := froz_of (i := q) (unhide hB).s
      have b1 := da _ (getD_mem (l := a) (i := i) (by omega))
      have b2 := db _ (getD_mem (l := b) (i := k) (by omega))
      have b3 := (unhide hM).2.1 q (by omega)
      have b4 := mul_bd2 b1 b2
      have hM2 := (unhide hM).step hil hkl hb b1 b2
      rw [← hq] at hM2
      replace hM2 := hide hM2
      have hB2 := hide ((unhide hB).set q (s.getD q 0 + a.getD i 0 * b.getD k 0))
      have b5 : 0 ≤ s.getD q 0 ∧ s.getD q 0 ≤ 1099511627776 := by omega
      clear b3
      generalize a.getD i 0 = x at *
      generalize b.getD k 0 = y at *
      generalize s.getD q 0 = z at *
      have eik : IntKind.i64.wrap (q : Int) = (q : Int) := by rw [IntKind.wrap_i64]; omega
      have eik2 : (i : Int) + (k : Int) = (q : Int) := by omega
      have q32 : q < 32 := by omega
      have qI : (q : Int) < 32 := by omega
      have q0 : 0 ≤ (q : Int) := by omega
      have w1 : IntKind.i64.wrap (x * y) = x * y := by rw [IntKind.wrap_i64]; omega
      have w2 : IntKind.i64.wrap (z + x * y) = z + x * y := by rw [IntKind.wrap_i64]; omega
      have kI : (k : Int) < 16 := by omega
      replace hq := hide hq
      go_wp2_with fail
      go_still_tail 19, (by kernel_rfl)
      go_wp2_with fail
      go_roundw
      case rel => exact ⟨k + 1, _, by omega, by go_num, hM2, hB2⟩
      case measure => simp [intOf]; omega
    · have e : k = 16 := by omega
      subst e
      have hM2 := hide ((unhide hM).row hil ha hb)
      go_wp2_with fail
      go_roundw
      case rel => exact ⟨i + 1, s, by omega, by go_num, hM2, hB⟩
      case measure => simp [intOf]; omega
  · have e : i = 16 := by omega
    subst e
    have hz := (unhide hM).1
    have hbd : ∀ j, j < 32 → 0 ≤ s.getD j 0 ∧ s.getD j 0 ≤ 2199023255552 := by
      intro j hj
      have := (unhide hM).2.1 j hj
      omega
    have hv : sv s = sv a * sv b := by
      have h := (unhide hM).2.2
      rw [List.take_of_length_le (show a.length ≤ 16 by omega), List.take_zero] at h
      simpa [sv] using h
    go_upto_region 9 with fail
    replace hB := unhide hB
    have hsb := hB.s
    unfold MB at hB
    refine wp_region_lit ?_
    refine list_val (.slice (some ⟨w.heap.size + 1 + 1 + 1, 0, none⟩) 32 32) (by kernel_rfl) (by kernel_rfl) ?_
    simp only [nrm]
    refine list_call 73 #[.slice (some ⟨w.heap.size + 1 + 1 + 1, 0, none⟩) 32 32] (by kernel_rfl) (by kernel_rfl) ((nfold_ok s _ hz hbd _ hsb).mono ?_)
    rintro r v1_ ⟨c1, rfl, hc1, hg⟩
    refine ⟨_, rfl, ?_⟩
    rw [hv] at hc1
    replace hB := hB.more hg
    clear hg
    simp only [nrm]
    refine list_store 80 (.tmp 4) (.tmp 37) (w.heap.size + 1 + 1) c1 80 (nc Zl) (by kernel_rfl) rfl (by kernel_rfl) (by kernel_rfl) (hB.get 2 (x := ⟨w.heap.size + 1 + 1, (nc Zl), 80⟩) rfl) (by rw [Tryd.infoNum, NC.size _ hc1]) ((show (nc Zl).size = 16 from rfl).trans (NC.size _ hc1).symm) (NC.one _ hc1) ?_
    replace hB := hB.set 2 (x := ⟨w.heap.size + 1 + 1, (nc Zl), 80⟩) rfl c1
    simp only [List.set_cons_zero, List.set_cons_succ] at hB
    generalize World.setRow _ _ _ = v2_ at *
    simp only [nrm]
    refine wpList_nil ?_
    go_wp2_with fail
    exact bodyPost_ret (v := .agg c1) (results_cell_row Tryd.results55 _ _ (w.heap.size + 1 + 1) 80 c1 (0, 0) _ rfl (hB.get 2 (x := ⟨w.heap.size + 1 + 1, c1, 80⟩) rfl) Tryd.underlying80 rfl (by rw [Tryd.infoNum, NC.size _ hc1])) rfl ⟨_, rfl, hc1, hB.gr⟩
end Go.Proofs.YtpmgmpihmpifgaaDoor.Cv
