/-
  The words added; their bytes.
-/
import Derived.Test.YtdekjbdkpchbjaaChaS
namespace Go.Proofs.Ytdekjbdkpchbjaa
open Go.RowKit
set_option maxRecDepth 100000
set_option linter.unusedSimpArgs false
set_option linter.unusedVariables false
/-- an entry of an array that goes by value -/
theorem index_W (SB : Array Value) (n : Nat) (x : Int) (hn : n < 16) (h : SB[n]? = some (.int .u32 x)) (w : World) : (Instr.index 61 (.agg SB) (.int .i64 n)).run Try.prog w = .ok (.int .u32 x) w := by
  simp [Instr.index, run_underlying Try.underlying61, asIntOf, go_sem]
  rw [if_pos hn, h]
  rfl
theorem index_K (SB : Array Value) (n : Nat) (x : Int) (hn : n < 32) (h : SB[n]? = some (.int .u8 x)) (w : World) : (Instr.index 23 (.agg SB) (.int .i64 n)).run Try.prog w = .ok (.int .u8 x) w := by
  simp [Instr.index, run_underlying Try.underlying23, asIntOf, go_sem]
  rw [if_pos hn, h]
  rfl
theorem index_N (SB : Array Value) (n : Nat) (x : Int) (hn : n < 12) (h : SB[n]? = some (.int .u8 x)) (w : World) : (Instr.index 25 (.agg SB) (.int .i64 n)).run Try.prog w = .ok (.int .u8 x) w := by
  simp [Instr.index, run_underlying Try.underlying25, asIntOf, go_sem]
  rw [if_pos hn, h]
  rfl
/-- the words added -/
def smf (A B : List Int) (i : Nat) : Int := ad (A.getD i 0) (B.getD i 0)
def sm (A B : List Int) : List Int := (List.range 16).map (smf A B)
theorem sm_len (A B : List Int) : (sm A B).length = 16 := by simp [sm]
set_option maxHeartbeats 2000000 in
theorem and_ok (A B : List Int) (hA : A.length = 16) (hB0 : B.length = 16) (w : World) : Calls Try.prog 56 #[.agg (uc A), .agg (uc B)] w (Rnd (sm A B) w) := by
  obtain ⟨T, hT⟩ : ∃ T, T = Rnd (sm A B) w := ⟨_, rfl⟩
  rw [← hT]
  replace hT := hide hT
  obtain ⟨SA, hSA⟩ : ∃ S, S = uc A := ⟨_, rfl⟩
  obtain ⟨SB, hSB⟩ : ∃ S, S = uc B := ⟨_, rfl⟩
  rw [← hSA, ← hSB]
  have hgB : ∀ n, n < 16 → SB[n]? = some (.int .u32 (B.getD n 0)) := fun n hn => by rw [hSB]; exact uc_get B n (by omega)
  have hSs : SB.size = 16 := by rw [hSB, uc_size, hB0]
  replace hSA := hide hSA
  replace hgB := hide hgB
  clear hSB
  go_enter Try.func56, Try.ntmps56
  go_upto_region 1 with fail
  have hB := (((Bl.nil w).new SA 61).new SB 61).new #[.int .u32 0, .int .u32 0, .int .u32 0, .int .u32 0, .int .u32 0, .int .u32 0, .int .u32 0, .int .u32 0, .int .u32 0, .int .u32 0, .int .u32 0, .int .u32 0, .int .u32 0, .int .u32 0, .int .u32 0, .int .u32 0] 61
  simp only [size_alloc, List.nil_append, List.cons_append] at hB
  generalize World.alloc _ _ = u at *
  rw [unhide hSA] at hB
  replace hB : Bl w [⟨w.heap.size, uc A, 61⟩, ⟨w.heap.size + 1, SB, 61⟩, ⟨w.heap.size + 1 + 1, uc Z16, 61⟩] u := hB
  refine wp_region_lit ?_
  refine list_val (.agg SB) (by kernel_rfl) (exec_arr _ 61 (.tmp 3) rfl (w.heap.size + 1) (by kernel_rfl) SB 61 _ (hB.get 1 (x := ⟨w.heap.size + 1, SB, 61⟩) rfl) Try.underlying61 rfl (by rw [Try.info16, hSs])) ?_
  simp only [Act.put, List.setIfInBounds_toArray, List.set_cons_zero, List.set_cons_succ, List.getElem_toArray, List.getElem_cons_zero, List.getElem_cons_succ]
  refine list_val (.int .i64 0) (by kernel_rfl) (by kernel_rfl) ?_
  simp only [Act.put, List.setIfInBounds_toArray, List.set_cons_zero, List.set_cons_succ, List.getElem_toArray, List.getElem_cons_zero, List.getElem_cons_succ]
  refine wpList_nil ?_
  replace hB := hide hB
  go_wp2_with fail
  go_loopw [8] (fun i wr => ∃ n : Nat, ∃ m : List Int, n ≤ 16 ∧ i = .int .i64 n ∧ Hid (m = fil (smf A B) n A) ∧ Hid (Bl w [⟨w.heap.size, uc m, 61⟩, ⟨w.heap.size + 1, SB, 61⟩, ⟨w.heap.size + 1 + 1, uc Z16, 61⟩] wr)) (fun i _ => 16 - (intOf i).toNat)
  case atStart => exact ⟨0, A, by omega, rfl, (fil_zero _ _).symm, hB⟩
  case round =>
  clear hB
  obtain ⟨n, m, hn, rfl, hm, hB⟩ := hrel
  have hml : m.length = 16 := by rw [unhide hm, fil_len _ _ _ (by omega)]; exact hA
  by_cases hl : n < 16
  · have cx := index_W SB n _ hl ((unhide hgB) n hl)
    have c0 := uc_cell ((unhide hB).get 0 (x := ⟨w.heap.size, uc m, 61⟩) rfl) n (by omega)
    have fz := froz_of (i := n) ((unhide hB).get 0 (x := ⟨w.heap.size, uc m, 61⟩) rfl)
    have e0 : m.getD n 0 = A.getD n 0 := by rw [unhide hm, fil_hi _ _ _ _ (Nat.le_refl n) (by omega)]
    rw [e0] at c0
    have hm2 : Hid (m.set n (smf A B n) = fil (smf A B) (n + 1) A) := by
      rw [unhide hm]
      exact fil_set _ _ _ (by omega)
    have hB2 := (unhide hB).cell 0 (x := ⟨w.heap.size, uc m, 61⟩) rfl n (.int .u32 (smf A B n))
    simp only [List.set_cons_zero, uc_set] at hB2
    have hs : smf A B n = ad (A.getD n 0) (B.getD n 0) := rfl
    rw [hs] at hB2 hm2
    clear hs e0
    generalize A.getD n 0 = x at *
    generalize B.getD n 0 = y at *
    replace hB2 := hide hB2
    have nI : (n : Int) < 16 := by omega
    clear hn
    go_wp2_with fail
    go_roundw
    case rel => exact ⟨n + 1, _, by omega, by go_num, hm2, hB2⟩
    case measure => simp [intOf]; omega
  · have e : n = 16 := by omega
    subst e
    have hM : m = sm A B := by
      rw [unhide hm]
      unfold sm
      rw [← hA]
      exact fil_all _ _
    clear hm
    go_upto_region 6 with fail
    replace hB := unhide hB
    refine wp_region_lit ?_
    refine list_val (.agg (uc m)) (by kernel_rfl) (exec_arr _ 61 (.tmp 2) rfl (w.heap.size) (by kernel_rfl) (uc m) 61 _ (hB.get 0 (x := ⟨w.heap.size, uc m, 61⟩) rfl) Try.underlying61 rfl (by rw [Try.info16, uc_size, hml])) ?_
    simp only [Act.put, List.setIfInBounds_toArray, List.set_cons_zero, List.set_cons_succ, List.getElem_toArray, List.getElem_cons_zero, List.getElem_cons_succ]
    refine list_store 61 (.tmp 4) (.tmp 19) (w.heap.size + 1 + 1) (uc m) 61 (uc Z16) (by kernel_rfl) rfl (by kernel_rfl) (by kernel_rfl) (hB.get 2 (x := ⟨w.heap.size + 1 + 1, uc Z16, 61⟩) rfl) (by rw [Try.info16, uc_size, hml]) ((show (uc Z16).size = 16 from rfl).trans ((uc_size _).trans hml).symm) (uc_one _) ?_
    replace hB := hB.set 2 (x := ⟨w.heap.size + 1 + 1, uc Z16, 61⟩) rfl (uc m)
    simp only [List.set_cons_zero, List.set_cons_succ] at hB
    generalize World.setRow _ _ _ = u3 at *
    simp only [Act.put, List.setIfInBounds_toArray, List.set_cons_zero, List.set_cons_succ, List.getElem_toArray, List.getElem_cons_zero, List.getElem_cons_succ]
    refine wpList_nil ?_
    go_wp2_with fail
    rw [unhide hT, ← hM]
    exact bodyPost_ret (v := .agg (uc m)) (results_cell_row Try.results56 _ _ (w.heap.size + 1 + 1) 61 (uc m) (0, 0) _ rfl (hB.get 2 (x := ⟨w.heap.size + 1 + 1, uc m, 61⟩) rfl) Try.underlying61 rfl (by rw [Try.info16, uc_size, hml])) rfl (⟨rfl, hB.gr⟩)
/-- the words' bytes -/
def btf (W : List Int) (i : Nat) : Int := W.getD (i / 4) 0 / 2 ^ (i % 4 * 8) % 256
def bts (W : List Int) : List Int := (List.range 64).map (btf W)
theorem bts_len (W : List Int) : (bts W).length = 64 := by simp [bts]
def Z64 : List Int := List.replicate 64 0
def Bts (W : List Int) (w : World) (r : Ending) (w' : World) : Prop := r = .returned (.agg (kc W)) ∧ Gr w w'
set_option maxHeartbeats 2000000 in
theorem bytes_ok (A : List Int) (hA : A.length = 16) (w : World) : Calls Try.prog 57 #[.agg (uc A)] w (Bts (bts A) w) := by
  obtain ⟨T, hT⟩ : ∃ T, T = Bts (bts A) w := ⟨_, rfl⟩
  rw [← hT]
  replace hT := hide hT
  obtain ⟨SA, hSA⟩ : ∃ S, S = uc A := ⟨_, rfl⟩
  rw [← hSA]
  replace hSA := hide hSA
  go_enter Try.func57, Try.ntmps57
  go_wp2_with fail
  have hB := (((Bl.nil w).new SA 61).new #[.int .u8 0, .int .u8 0, .int .u8 0, .int .u8 0, .int .u8 0, .int .u8 0, .int .u8 0, .int .u8 0, .int .u8 0, .int .u8 0, .int .u8 0, .int .u8 0, .int .u8 0, .int .u8 0, .int .u8 0, .int .u8 0, .int .u8 0, .int .u8 0, .int .u8 0, .int .u8 0, .int .u8 0, .int .u8 0, .int .u8 0, .int .u8 0, .int .u8 0, .int .u8 0, .int .u8 0, .int .u8 0, .int .u8 0, .int .u8 0, .int .u8 0, .int .u8 0, .int .u8 0, .int .u8 0, .int .u8 0, .int .u8 0, .int .u8 0, .int .u8 0, .int .u8 0, .int .u8 0, .int .u8 0, .int .u8 0, .int .u8 0, .int .u8 0, .int .u8 0, .int .u8 0, .int .u8 0, .int .u8 0, .int .u8 0, .int .u8 0, .int .u8 0, .int .u8 0, .int .u8 0, .int .u8 0, .int .u8 0, .int .u8 0, .int .u8 0, .int .u8 0, .int .u8 0, .int .u8 0, .int .u8 0, .int .u8 0, .int .u8 0, .int .u8 0] 56).new #[.int .u8 0, .int .u8 0, .int .u8 0, .int .u8 0, .int .u8 0, .int .u8 0, .int .u8 0, .int .u8 0, .int .u8 0, .int .u8 0, .int .u8 0, .int .u8 0, .int .u8 0, .int .u8 0, .int .u8 0, .int .u8 0, .int .u8 0, .int .u8 0, .int .u8 0, .int .u8 0, .int .u8 0, .int .u8 0, .int .u8 0, .int .u8 0, .int .u8 0, .int .u8 0, .int .u8 0, .int .u8 0, .int .u8 0, .int .u8 0, .int .u8 0, .int .u8 0, .int .u8 0, .int .u8 0, .int .u8 0, .int .u8 0, .int .u8 0, .int .u8 0, .int .u8 0, .int .u8 0, .int .u8 0, .int .u8 0, .int .u8 0, .int .u8 0, .int .u8 0, .int .u8 0, .int .u8 0, .int .u8 0, .int .u8 0, .int .u8 0, .int .u8 0, .int .u8 0, .int .u8 0, .int .u8 0, .int .u8 0, .int .u8 0, .int .u8 0, .int .u8 0, .int .u8 0, .int .u8 0, .int .u8 0, .int .u8 0, .int .u8 0, .int .u8 0] 56
  simp only [size_alloc, List.nil_append, List.cons_append] at hB
  generalize World.alloc _ _ = u at *
  rw [unhide hSA] at hB
  replace hB : Hid (Bl w [⟨w.heap.size, uc A, 61⟩, ⟨w.heap.size + 1, kc Z64, 56⟩, ⟨w.heap.size + 1 + 1, kc Z64, 56⟩] u) := hide hB
  go_loopw [5] (fun i wr => ∃ n : Nat, ∃ m : List Int, n ≤ 64 ∧ i = .int .i64 n ∧ Hid (m = fil (btf A) n Z64) ∧ Hid (Bl w [⟨w.heap.size, uc A, 61⟩, ⟨w.heap.size + 1, kc Z64, 56⟩, ⟨w.heap.size + 1 + 1, kc m, 56⟩] wr)) (fun i _ => 64 - (intOf i).toNat)
  case atStart => exact ⟨0, Z64, by omega, rfl, (fil_zero _ _).symm, hB⟩
  case round =>
  clear hB
  obtain ⟨n, m, hn, rfl, hm, hB⟩ := hrel
  have hzl : Z64.length = 64 := rfl
  have hml : m.length = 64 := by rw [unhide hm, fil_len _ _ _ (by omega)]; rfl
  by_cases hl : n < 64
  · obtain ⟨q, hq⟩ : ∃ q, q = n / 4 := ⟨_, rfl⟩
    obtain ⟨s, hs⟩ : ∃ s, s = n % 4 := ⟨_, rfl⟩
    obtain ⟨s8, hs8⟩ : ∃ s8, s8 = n % 4 * 8 := ⟨_, rfl⟩
    have c0 := uc_cell ((unhide hB).get 0 (x := ⟨w.heap.size, uc A, 61⟩) rfl) q (by omega)
    have c1 := kc_cell ((unhide hB).get 2 (x := ⟨w.heap.size + 1 + 1, kc m, 56⟩) rfl) n (by omega)
    have fz := froz_of (i := n) ((unhide hB).get 2 (x := ⟨w.heap.size + 1 + 1, kc m, 56⟩) rfl)
    generalize m.getD n 0 = z at c1
    have hm2 : Hid (m.set n (btf A n) = fil (btf A) (n + 1) Z64) := by
      rw [unhide hm]
      exact fil_set _ _ _ (by omega)
    have hB2 := (unhide hB).cell 2 (x := ⟨w.heap.size + 1 + 1, kc m, 56⟩) rfl n (.int .u8 (btf A n))
    simp only [List.set_cons_zero, List.set_cons_succ, kc_set] at hB2
    have hf : btf A n = A.getD q 0 / 2 ^ s8 % 256 := by rw [hq, hs8]; rfl
    rw [hf] at hB2 hm2
    clear hf
    generalize A.getD q 0 = x at *
    replace hB2 := hide hB2
    have nI : (n : Int) < 64 := by omega
    have nT : 0 ≤ (n : Int) := by omega
    have qI : (q : Int) < 16 := by omega
    have q2 : q < 16 := by omega
    have e1 : (n : Int).tdiv 4 = (q : Int) := by rw [Int.tdiv_eq_ediv_of_nonneg nT]; omega
    have e2 : (n : Int).tmod 4 = (s : Int) := by rw [Int.tmod_eq_emod_of_nonneg nT]; omega
    have e3 : (s : Int) * 8 = (s8 : Int) := by omega
    have g1 : IntKind.i64.wrap (q : Int) = (q : Int) := by rw [IntKind.wrap_i64]; omega
    have g2 : IntKind.i64.wrap (s8 : Int) = (s8 : Int) := by rw [IntKind.wrap_i64]; omega
    have g3 : 0 ≤ (s8 : Int) := by omega
    have g4 : s8 ≤ 32 := by omega
    have g5 : min s8 32 = s8 := by omega
    replace hq := hide hq
    replace hs := hide hs
    replace hs8 := hide hs8
    clear hn
    go_wp2_with fail
    go_roundw
    case rel => exact ⟨n + 1, _, by omega, by go_num, hm2, hB2⟩
    case measure => simp [intOf]; omega
  · have e : n = 64 := by omega
    subst e
    have hM : m = bts A := by
      rw [unhide hm]
      have h := fil_all (btf A) Z64
      rw [hzl] at h
      exact h
    clear hm
    go_upto_region 7 with fail
    replace hB := unhide hB
    refine wp_region_lit ?_
    refine list_val (.agg (kc m)) (by kernel_rfl) (exec_arr _ 56 (.tmp 3) rfl (w.heap.size + 1 + 1) (by kernel_rfl) (kc m) 56 _ (hB.get 2 (x := ⟨w.heap.size + 1 + 1, kc m, 56⟩) rfl) Try.underlying56 rfl (by rw [Try.info64, kc_size, hml])) ?_
    simp only [Act.put, List.setIfInBounds_toArray, List.set_cons_zero, List.set_cons_succ, List.getElem_toArray, List.getElem_cons_zero, List.getElem_cons_succ]
    refine list_store 56 (.tmp 2) (.tmp 20) (w.heap.size + 1) (kc m) 56 (kc Z64) (by kernel_rfl) rfl (by kernel_rfl) (by kernel_rfl) (hB.get 1 (x := ⟨w.heap.size + 1, kc Z64, 56⟩) rfl) (by rw [Try.info64, kc_size, hml]) ((show (kc Z64).size = 64 from rfl).trans ((kc_size _).trans hml).symm) (kc_one _) ?_
    replace hB := hB.set 1 (x := ⟨w.heap.size + 1, kc Z64, 56⟩) rfl (kc m)
    simp only [List.set_cons_zero, List.set_cons_succ] at hB
    generalize World.setRow _ _ _ = u3 at *
    simp only [Act.put, List.setIfInBounds_toArray, List.set_cons_zero, List.set_cons_succ, List.getElem_toArray, List.getElem_cons_zero, List.getElem_cons_succ]
    refine wpList_nil ?_
    go_wp2_with fail
    rw [unhide hT, ← hM]
    exact bodyPost_ret (v := .agg (kc m)) (results_cell_row Try.results57 _ _ (w.heap.size + 1) 56 (kc m) (0, 0) _ rfl (hB.get 1 (x := ⟨w.heap.size + 1, kc m, 56⟩) rfl) Try.underlying56 rfl (by rw [Try.info64, kc_size, hml])) rfl (⟨rfl, hB.gr⟩)
end Go.Proofs.Ytdekjbdkpchbjaa
