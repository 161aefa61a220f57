/-
  The words added; their bytes. The first words of a block; the block. Bytes in memory: lists that lie somewhere, lists of one's own, append, make. Bytes xored with the stream, by the program. Rows of four words.
-/
import Derived.Test.YtdfcdklnngfhkaaDoorCaA
import Derived.OwnWalk
import Derived.Deep.DeepAppendWide
namespace Go.Proofs.YtdfcdklnngfhkaaDoor
open Go.RowKit
set_option maxRecDepth 100000
set_option linter.unusedSimpArgs false
set_option linter.unusedVariables false
/-- an entry of an array that goes by value -/
theorem index_W (SB : Array Value) (n : Nat) (x : Int) (hn : n < 16) (h : SB[n]? = some (.int .u32 x)) (w : World) : (Instr.index 99 (.agg SB) (.int .i64 n)).run Tryd.prog w = .ok (.int .u32 x) w := by
  simp [Instr.index, run_underlying Tryd.underlying99, asIntOf, go_sem]
  rw [if_pos hn, h]
  rfl
theorem index_K (SB : Array Value) (n : Nat) (x : Int) (hn : n < 32) (h : SB[n]? = some (.int .u8 x)) (w : World) : (Instr.index 28 (.agg SB) (.int .i64 n)).run Tryd.prog w = .ok (.int .u8 x) w := by
  simp [Instr.index, run_underlying Tryd.underlying28, asIntOf, go_sem]
  rw [if_pos hn, h]
  rfl
theorem index_N (SB : Array Value) (n : Nat) (x : Int) (hn : n < 12) (h : SB[n]? = some (.int .u8 x)) (w : World) : (Instr.index 73 (.agg SB) (.int .i64 n)).run Tryd.prog w = .ok (.int .u8 x) w := by
  simp [Instr.index, run_underlying Tryd.underlying73, asIntOf, go_sem]
  rw [if_pos hn, h]
  rfl
/-- the words added -/
def smf (A B : List Int) (i : Nat) : Int := ad (A.getD i 0) (B.getD i 0)
def sm (A B : List Int) : List Int := (List.range 16).map (smf A B)
theorem sm_len (A B : List Int) : (sm A B).length = 16 := by simp [sm]
set_option maxHeartbeats 2000000 in
theorem and_ok (A B : List Int) (hA : A.length = 16) (hB0 : B.length = 16) (w : World) : Calls Tryd.prog 55 #[.agg (uc A), .agg (uc B)] w (Rnd (sm A B) w) := by
  obtain ⟨T, hT⟩ : ∃ T, T = Rnd (sm A B) w := ⟨_, rfl⟩
  rw [← hT]
  replace hT := hide hT
  obtain ⟨SA, hSA⟩ : ∃ S, S = uc A := ⟨_, rfl⟩
  obtain ⟨SB, hSB⟩ : ∃ S, S = uc B := ⟨_, rfl⟩
  rw [← hSA, ← hSB]
  have hgB : ∀ n, n < 16 → SB[n]? = some (.int .u32 (B.getD n 0)) := fun n hn => by rw [hSB]; exact uc_get B n (by omega)
  have hSs : SB.size = 16 := by rw [hSB, uc_size, hB0]
  replace hSA := hide hSA
  replace hgB := hide hgB
  clear hSB
  go_enter Tryd.func55, Tryd.ntmps55
  go_upto_region 1 with fail
  have hB := (((Bl.nil w).new SA 99).new SB 99).new #[.int .u32 0, .int .u32 0, .int .u32 0, .int .u32 0, .int .u32 0, .int .u32 0, .int .u32 0, .int .u32 0, .int .u32 0, .int .u32 0, .int .u32 0, .int .u32 0, .int .u32 0, .int .u32 0, .int .u32 0, .int .u32 0] 99
  simp only [size_alloc, List.nil_append, List.cons_append] at hB
  generalize World.alloc _ _ = u at *
  rw [unhide hSA] at hB
  replace hB : Bl w [⟨w.heap.size, uc A, 99⟩, ⟨w.heap.size + 1, SB, 99⟩, ⟨w.heap.size + 1 + 1, uc Z16, 99⟩] u := hB
  refine wp_region_lit ?_
  refine list_val (.agg SB) (by kernel_rfl) (exec_arr _ 99 (.tmp 3) rfl (w.heap.size + 1) (by kernel_rfl) SB 99 _ (hB.get 1 (x := ⟨w.heap.size + 1, SB, 99⟩) rfl) Tryd.underlying99 rfl (by rw [Tryd.info16, hSs])) ?_
  simp only [Act.put, List.setIfInBounds_toArray, List.set_cons_zero, List.set_cons_succ, List.getElem_toArray, List.getElem_cons_zero, List.getElem_cons_succ]
  refine list_val (.int .i64 0) (by kernel_rfl) (by kernel_rfl) ?_
  simp only [Act.put, List.setIfInBounds_toArray, List.set_cons_zero, List.set_cons_succ, List.getElem_toArray, List.getElem_cons_zero, List.getElem_cons_succ]
  refine wpList_nil ?_
  replace hB := hide hB
  go_wp2_with fail
  go_loopw [8] (fun i wr => ∃ n : Nat, ∃ m : List Int, n ≤ 16 ∧ i = .int .i64 n ∧ Hid (m = fil (smf A B) n A) ∧ Hid (Bl w [⟨w.heap.size, uc m, 99⟩, ⟨w.heap.size + 1, SB, 99⟩, ⟨w.heap.size + 1 + 1, uc Z16, 99⟩] wr)) (fun i _ => 16 - (intOf i).toNat)
  case atStart => exact ⟨0, A, by omega, rfl, (fil_zero _ _).symm, hB⟩
  case round =>
  clear hB
  obtain ⟨n, m, hn, rfl, hm, hB⟩ := hrel
  have hml : m.length = 16 := by rw [unhide hm, fil_len _ _ _ (by omega)]; exact hA
  by_cases hl : n < 16
  · have cx := index_W SB n _ hl ((unhide hgB) n hl)
    have c0 := uc_cell ((unhide hB).get 0 (x := ⟨w.heap.size, uc m, 99⟩) rfl) n (by omega)
    have fz := froz_of (i := n) ((unhide hB).get 0 (x := ⟨w.heap.size, uc m, 99⟩) rfl)
    have e0 : m.getD n 0 = A.getD n 0 := by rw [unhide hm, fil_hi _ _ _ _ (Nat.le_refl n) (by omega)]
    rw [e0] at c0
    have hm2 : Hid (m.set n (smf A B n) = fil (smf A B) (n + 1) A) := by
      rw [unhide hm]
      exact fil_set _ _ _ (by omega)
    have hB2 := (unhide hB).cell 0 (x := ⟨w.heap.size, uc m, 99⟩) rfl n (.int .u32 (smf A B n))
    simp only [List.set_cons_zero, uc_set] at hB2
    have hs : smf A B n = ad (A.getD n 0) (B.getD n 0) := rfl
    rw [hs] at hB2 hm2
    clear hs e0
    generalize A.getD n 0 = x at *
    generalize B.getD n 0 = y at *
    replace hB2 := hide hB2
    have nI : (n : Int) < 16 := by omega
    clear hn
    go_wp2_with fail
    go_roundw
    case rel => exact ⟨n + 1, _, by omega, by go_num, hm2, hB2⟩
    case measure => simp [intOf]; omega
  · have e : n = 16 := by omega
    subst e
    have hM : m = sm A B := by
      rw [unhide hm]
      unfold sm
      rw [← hA]
      exact fil_all _ _
    clear hm
    go_upto_region 6 with fail
    replace hB := unhide hB
    refine wp_region_lit ?_
    refine list_val (.agg (uc m)) (by kernel_rfl) (exec_arr _ 99 (.tmp 2) rfl (w.heap.size) (by kernel_rfl) (uc m) 99 _ (hB.get 0 (x := ⟨w.heap.size, uc m, 99⟩) rfl) Tryd.underlying99 rfl (by rw [Tryd.info16, uc_size, hml])) ?_
    simp only [Act.put, List.setIfInBounds_toArray, List.set_cons_zero, List.set_cons_succ, List.getElem_toArray, List.getElem_cons_zero, List.getElem_cons_succ]
    refine list_store 99 (.tmp 4) (.tmp 19) (w.heap.size + 1 + 1) (uc m) 99 (uc Z16) (by kernel_rfl) rfl (by kernel_rfl) (by kernel_rfl) (hB.get 2 (x := ⟨w.heap.size + 1 + 1, uc Z16, 99⟩) rfl) (by rw [Tryd.info16, uc_size, hml]) ((show (uc Z16).size = 16 from rfl).trans ((uc_size _).trans hml).symm) (uc_one _) ?_
    replace hB := hB.set 2 (x := ⟨w.heap.size + 1 + 1, uc Z16, 99⟩) rfl (uc m)
    simp only [List.set_cons_zero, List.set_cons_succ] at hB
    generalize World.setRow _ _ _ = u3 at *
    simp only [Act.put, List.setIfInBounds_toArray, List.set_cons_zero, List.set_cons_succ, List.getElem_toArray, List.getElem_cons_zero, List.getElem_cons_succ]
    refine wpList_nil ?_
    go_wp2_with fail
    rw [unhide hT, ← hM]
    exact bodyPost_ret (v := .agg (uc m)) (results_cell_row Tryd.results55 _ _ (w.heap.size + 1 + 1) 99 (uc m) (0, 0) _ rfl (hB.get 2 (x := ⟨w.heap.size + 1 + 1, uc m, 99⟩) rfl) Tryd.underlying99 rfl (by rw [Tryd.info16, uc_size, hml])) rfl (⟨rfl, hB.gr⟩)
/-- the words' bytes -/
def btf (W : List Int) (i : Nat) : Int := W.getD (i / 4) 0 / 2 ^ (i % 4 * 8) % 256
def bts (W : List Int) : List Int := (List.range 64).map (btf W)
theorem bts_len (W : List Int) : (bts W).length = 64 := by simp [bts]
def Bts (W : List Int) (w : World) (r : Ending) (w' : World) : Prop := r = .returned (.agg (kc W)) ∧ Gr w w'
set_option maxHeartbeats 2000000 in
theorem bytes_ok (A : List Int) (hA : A.length = 16) (w : World) : Calls Tryd.prog 56 #[.agg (uc A)] w (Bts (bts A) w) := by
  obtain ⟨T, hT⟩ : ∃ T, T = Bts (bts A) w := ⟨_, rfl⟩
  rw [← hT]
  replace hT := hide hT
  obtain ⟨SA, hSA⟩ : ∃ S, S = uc A := ⟨_, rfl⟩
  rw [← hSA]
  replace hSA := hide hSA
  go_enter Tryd.func56, Tryd.ntmps56
  go_wp2_with fail
  have hB := (((Bl.nil w).new SA 99).new #[.int .u8 0, .int .u8 0, .int .u8 0, .int .u8 0, .int .u8 0, .int .u8 0, .int .u8 0, .int .u8 0, .int .u8 0, .int .u8 0, .int .u8 0, .int .u8 0, .int .u8 0, .int .u8 0, .int .u8 0, .int .u8 0, .int .u8 0, .int .u8 0, .int .u8 0, .int .u8 0, .int .u8 0, .int .u8 0, .int .u8 0, .int .u8 0, .int .u8 0, .int .u8 0, .int .u8 0, .int .u8 0, .int .u8 0, .int .u8 0, .int .u8 0, .int .u8 0, .int .u8 0, .int .u8 0, .int .u8 0, .int .u8 0, .int .u8 0, .int .u8 0, .int .u8 0, .int .u8 0, .int .u8 0, .int .u8 0, .int .u8 0, .int .u8 0, .int .u8 0, .int .u8 0, .int .u8 0, .int .u8 0, .int .u8 0, .int .u8 0, .int .u8 0, .int .u8 0, .int .u8 0, .int .u8 0, .int .u8 0, .int .u8 0, .int .u8 0, .int .u8 0, .int .u8 0, .int .u8 0, .int .u8 0, .int .u8 0, .int .u8 0, .int .u8 0] 69).new #[.int .u8 0, .int .u8 0, .int .u8 0, .int .u8 0, .int .u8 0, .int .u8 0, .int .u8 0, .int .u8 0, .int .u8 0, .int .u8 0, .int .u8 0, .int .u8 0, .int .u8 0, .int .u8 0, .int .u8 0, .int .u8 0, .int .u8 0, .int .u8 0, .int .u8 0, .int .u8 0, .int .u8 0, .int .u8 0, .int .u8 0, .int .u8 0, .int .u8 0, .int .u8 0, .int .u8 0, .int .u8 0, .int .u8 0, .int .u8 0, .int .u8 0, .int .u8 0, .int .u8 0, .int .u8 0, .int .u8 0, .int .u8 0, .int .u8 0, .int .u8 0, .int .u8 0, .int .u8 0, .int .u8 0, .int .u8 0, .int .u8 0, .int .u8 0, .int .u8 0, .int .u8 0, .int .u8 0, .int .u8 0, .int .u8 0, .int .u8 0, .int .u8 0, .int .u8 0, .int .u8 0, .int .u8 0, .int .u8 0, .int .u8 0, .int .u8 0, .int .u8 0, .int .u8 0, .int .u8 0, .int .u8 0, .int .u8 0, .int .u8 0, .int .u8 0] 69
  simp only [size_alloc, List.nil_append, List.cons_append] at hB
  generalize World.alloc _ _ = u at *
  rw [unhide hSA] at hB
  replace hB : Hid (Bl w [⟨w.heap.size, uc A, 99⟩, ⟨w.heap.size + 1, kc Z64, 69⟩, ⟨w.heap.size + 1 + 1, kc Z64, 69⟩] u) := hide hB
  go_loopw [5] (fun i wr => ∃ n : Nat, ∃ m : List Int, n ≤ 64 ∧ i = .int .i64 n ∧ Hid (m = fil (btf A) n Z64) ∧ Hid (Bl w [⟨w.heap.size, uc A, 99⟩, ⟨w.heap.size + 1, kc Z64, 69⟩, ⟨w.heap.size + 1 + 1, kc m, 69⟩] wr)) (fun i _ => 64 - (intOf i).toNat)
  case atStart => exact ⟨0, Z64, by omega, rfl, (fil_zero _ _).symm, hB⟩
  case round =>
  clear hB
  obtain ⟨n, m, hn, rfl, hm, hB⟩ := hrel
  have hzl : Z64.length = 64 := rfl
  have hml : m.length = 64 := by rw [unhide hm, fil_len _ _ _ (by omega)]; rfl
  by_cases hl : n < 64
  · obtain ⟨q, hq⟩ : ∃ q, q = n / 4 := ⟨_, rfl⟩
    obtain ⟨s, hs⟩ : ∃ s, s = n % 4 := ⟨_, rfl⟩
    obtain ⟨s8, hs8⟩ : ∃ s8, s8 = n % 4 * 8 := ⟨_, rfl⟩
    have c0 := uc_cell ((unhide hB).get 0 (x := ⟨w.heap.size, uc A, 99⟩) rfl) q (by omega)
    have c1 := kc_cell ((unhide hB).get 2 (x := ⟨w.heap.size + 1 + 1, kc m, 69⟩) rfl) n (by omega)
    have fz := froz_of (i := n) ((unhide hB).get 2 (x := ⟨w.heap.size + 1 + 1, kc m, 69⟩) rfl)
    generalize m.getD n 0 = z at c1
    have hm2 : Hid (m.set n (btf A n) = fil (btf A) (n + 1) Z64) := by
      rw [unhide hm]
      exact fil_set _ _ _ (by omega)
    have hB2 := (unhide hB).cell 2 (x := ⟨w.heap.size + 1 + 1, kc m, 69⟩) rfl n (.int .u8 (btf A n))
    simp only [List.set_cons_zero, List.set_cons_succ, kc_set] at hB2
    have hf : btf A n = A.getD q 0 / 2 ^ s8 % 256 := by rw [hq, hs8]; rfl
    rw [hf] at hB2 hm2
    clear hf
    generalize A.getD q 0 = x at *
    replace hB2 := hide hB2
    have nI : (n : Int) < 64 := by omega
    have nT : 0 ≤ (n : Int) := by omega
    have qI : (q : Int) < 16 := by omega
    have q2 : q < 16 := by omega
    have e1 : (n : Int).tdiv 4 = (q : Int) := by rw [Int.tdiv_eq_ediv_of_nonneg nT]; omega
    have e2 : (n : Int).tmod 4 = (s : Int) := by rw [Int.tmod_eq_emod_of_nonneg nT]; omega
    have e3 : (s : Int) * 8 = (s8 : Int) := by omega
    have g1 : IntKind.i64.wrap (q : Int) = (q : Int) := by rw [IntKind.wrap_i64]; omega
    have g2 : IntKind.i64.wrap (s8 : Int) = (s8 : Int) := by rw [IntKind.wrap_i64]; omega
    have g3 : 0 ≤ (s8 : Int) := by omega
    have g4 : s8 ≤ 32 := by omega
    have g5 : min s8 32 = s8 := by omega
    replace hq := hide hq
    replace hs := hide hs
    replace hs8 := hide hs8
    clear hn
    go_wp2_with fail
    go_roundw
    case rel => exact ⟨n + 1, _, by omega, by go_num, hm2, hB2⟩
    case measure => simp [intOf]; omega
  · have e : n = 64 := by omega
    subst e
    have hM : m = bts A := by
      rw [unhide hm]
      have h := fil_all (btf A) Z64
      rw [hzl] at h
      exact h
    clear hm
    go_upto_region 7 with fail
    replace hB := unhide hB
    refine wp_region_lit ?_
    refine list_val (.agg (kc m)) (by kernel_rfl) (exec_arr _ 69 (.tmp 3) rfl (w.heap.size + 1 + 1) (by kernel_rfl) (kc m) 69 _ (hB.get 2 (x := ⟨w.heap.size + 1 + 1, kc m, 69⟩) rfl) Tryd.underlying69 rfl (by rw [Tryd.info64, kc_size, hml])) ?_
    simp only [Act.put, List.setIfInBounds_toArray, List.set_cons_zero, List.set_cons_succ, List.getElem_toArray, List.getElem_cons_zero, List.getElem_cons_succ]
    refine list_store 69 (.tmp 2) (.tmp 20) (w.heap.size + 1) (kc m) 69 (kc Z64) (by kernel_rfl) rfl (by kernel_rfl) (by kernel_rfl) (hB.get 1 (x := ⟨w.heap.size + 1, kc Z64, 69⟩) rfl) (by rw [Tryd.info64, kc_size, hml]) ((show (kc Z64).size = 64 from rfl).trans ((kc_size _).trans hml).symm) (kc_one _) ?_
    replace hB := hB.set 1 (x := ⟨w.heap.size + 1, kc Z64, 69⟩) rfl (kc m)
    simp only [List.set_cons_zero, List.set_cons_succ] at hB
    generalize World.setRow _ _ _ = u3 at *
    simp only [Act.put, List.setIfInBounds_toArray, List.set_cons_zero, List.set_cons_succ, List.getElem_toArray, List.getElem_cons_zero, List.getElem_cons_succ]
    refine wpList_nil ?_
    go_wp2_with fail
    rw [unhide hT, ← hM]
    exact bodyPost_ret (v := .agg (kc m)) (results_cell_row Tryd.results56 _ _ (w.heap.size + 1) 69 (kc m) (0, 0) _ rfl (hB.get 1 (x := ⟨w.heap.size + 1, kc m, 69⟩) rfl) Tryd.underlying69 rfl (by rw [Tryd.info64, kc_size, hml])) rfl (⟨rfl, hB.gr⟩)

/-- the words at first, a byte put to its word -/
def W0 : List Int := [1634760805, 857760878, 2036477234, 1797285236, 0, 0, 0, 0, 0, 0, 0, 0, 0, 0, 0, 0]
def kst (p n : Nat) (c : Int) (W : List Int) : List Int := W.set (p + n / 4) (bits .or .u32 (W.getD (p + n / 4) 0) (c * 2 ^ (n % 4 * 8) % 4294967296))
def kw (p : Nat) (K W : List Int) : Nat → List Int
  | 0 => W
  | n + 1 => kst p n (K.getD n 0) (kw p K W n)
theorem kw_len (p : Nat) (K W : List Int) : ∀ n, (kw p K W n).length = W.length
  | 0 => rfl
  | n + 1 => by rw [kw, kst, List.length_set, kw_len p K W n]
def bg (K N : List Int) : List Int := kw 13 N (kw 4 K W0 32) 12
theorem bg_len (K N : List Int) : (bg K N).length = 16 := by unfold bg; rw [kw_len, kw_len]; rfl
theorem Tryd.infoN : (Tryd.prog.info? 73).map (·.size) = some 12 := by kernel_rfl
set_option maxHeartbeats 4000000 in
theorem begin_ok (K N : List Int) (hK : K.length = 32) (hN : N.length = 12) (hKb : IsB K) (hNb : IsB N) (w : World) : Calls Tryd.prog 47 #[.agg (kc K), .agg (kc N)] w (Rnd (bg K N) w) := by
  obtain ⟨T, hT⟩ : ∃ T, T = Rnd (bg K N) w := ⟨_, rfl⟩
  rw [← hT]
  replace hT := hide hT
  obtain ⟨SK, hSK⟩ : ∃ S, S = kc K := ⟨_, rfl⟩
  obtain ⟨SN, hSN⟩ : ∃ S, S = kc N := ⟨_, rfl⟩
  rw [← hSK, ← hSN]
  have hKs : SK.size = 32 := by rw [hSK, kc_size, hK]
  have hNs : SN.size = 12 := by rw [hSN, kc_size, hN]
  replace hSK : Hid (∀ n, n < 32 → SK[n]? = some (.int .u8 (K.getD n 0))) := fun n hn => by rw [hSK]; exact kc_get K n (by omega)
  replace hSN : Hid (∀ n, n < 12 → SN[n]? = some (.int .u8 (N.getD n 0))) := fun n hn => by rw [hSN]; exact kc_get N n (by omega)
  replace hKb := hide hKb
  replace hNb := hide hNb
  go_enter Tryd.func47, Tryd.ntmps47
  go_upto_region 1 with fail
  have hB := (((Bl.nil w).new SK 28).new SN 73).new #[.int .u32 0, .int .u32 0, .int .u32 0, .int .u32 0, .int .u32 0, .int .u32 0, .int .u32 0, .int .u32 0, .int .u32 0, .int .u32 0, .int .u32 0, .int .u32 0, .int .u32 0, .int .u32 0, .int .u32 0, .int .u32 0] 99
  simp only [size_alloc, List.nil_append, List.cons_append] at hB
  generalize World.alloc _ _ = u at *
  refine wp_region_lit ?_
  refine list_val (.agg (uc W0)) (by kernel_rfl) (by kernel_rfl) ?_
  simp only [Act.put, List.setIfInBounds_toArray, List.set_cons_zero, List.set_cons_succ, List.getElem_toArray, List.getElem_cons_zero, List.getElem_cons_succ]
  replace hB := hide hB
  iterate 1 (refine wpList_step fun K hK => ?_; replace hK := hide hK; go_simp; refine unhide hK _ _ ?_; clear hK K)
  replace hB := (unhide hB).new #[.int .u32 0, .int .u32 0, .int .u32 0, .int .u32 0, .int .u32 0, .int .u32 0, .int .u32 0, .int .u32 0, .int .u32 0, .int .u32 0, .int .u32 0, .int .u32 0, .int .u32 0, .int .u32 0, .int .u32 0, .int .u32 0] 99
  simp only [List.nil_append, List.cons_append] at hB
  generalize World.alloc _ _ = u1 at *
  generalize u.heap.size = h3 at *
  replace hB : Bl w [⟨w.heap.size, SK, 28⟩, ⟨w.heap.size + 1, SN, 73⟩, ⟨w.heap.size + 1 + 1, uc Z16, 99⟩, ⟨h3, uc Z16, 99⟩] u1 := hB
  refine list_store 99 (.tmp 5) (.tmp 10) (h3) (uc W0) 99 (uc Z16) (by kernel_rfl) rfl (by kernel_rfl) (by kernel_rfl) (hB.get 3 (x := ⟨h3, uc Z16, 99⟩) rfl) (by rw [Tryd.info16, uc_size, (show W0.length = 16 from rfl)]) ((show (uc Z16).size = 16 from rfl).trans ((uc_size _).trans (show W0.length = 16 from rfl)).symm) (uc_one _) ?_
  replace hB := hB.set 3 (x := ⟨h3, uc Z16, 99⟩) rfl (uc W0)
  simp only [List.set_cons_zero, List.set_cons_succ] at hB
  generalize World.setRow _ _ _ = u2 at *
  simp only [Act.put, List.setIfInBounds_toArray, List.set_cons_zero, List.set_cons_succ, List.getElem_toArray, List.getElem_cons_zero, List.getElem_cons_succ]
  refine wpList_nil ?_
  replace hB := hide hB
  go_upto_region 2 with fail
  replace hB := unhide hB
  refine wp_region_lit ?_
  refine list_val (.agg SK) (by kernel_rfl) (exec_arr _ 28 (.tmp 2) rfl (w.heap.size) (by kernel_rfl) SK 28 _ (hB.get 0 (x := ⟨w.heap.size, SK, 28⟩) rfl) Tryd.underlying28 rfl (by rw [Tryd.infoKey, hKs])) ?_
  simp only [Act.put, List.setIfInBounds_toArray, List.set_cons_zero, List.set_cons_succ, List.getElem_toArray, List.getElem_cons_zero, List.getElem_cons_succ]
  refine list_val (.int .i64 0) (by kernel_rfl) (by kernel_rfl) ?_
  simp only [Act.put, List.setIfInBounds_toArray, List.set_cons_zero, List.set_cons_succ, List.getElem_toArray, List.getElem_cons_zero, List.getElem_cons_succ]
  refine wpList_nil ?_
  replace hB := hide hB
  go_wp2_with fail
  go_loopw [12] (fun i wr => ∃ n : Nat, ∃ m : List Int, n ≤ 32 ∧ i = .int .i64 n ∧ Hid (m = kw 4 K W0 n) ∧ Hid (Bl w [⟨w.heap.size, SK, 28⟩, ⟨w.heap.size + 1, SN, 73⟩, ⟨w.heap.size + 1 + 1, uc Z16, 99⟩, ⟨h3, uc m, 99⟩] wr)) (fun i _ => 32 - (intOf i).toNat)
  case atStart => exact ⟨0, W0, by omega, rfl, rfl, hB⟩
  case round =>
  clear hB
  obtain ⟨n, m, hn, rfl, hm, hB⟩ := hrel
  have hml : m.length = 16 := by rw [unhide hm, kw_len]; rfl
  by_cases hl : n < 32
  · have cx := index_K SK n _ hl ((unhide hSK) n hl)
    obtain ⟨q, hq⟩ : ∃ q, q = n / 4 := ⟨_, rfl⟩
    obtain ⟨q4, hq4⟩ : ∃ q4, q4 = 4 + n / 4 := ⟨_, rfl⟩
    obtain ⟨s, hs⟩ : ∃ s, s = n % 4 := ⟨_, rfl⟩
    obtain ⟨s8, hs8⟩ : ∃ s8, s8 = n % 4 * 8 := ⟨_, rfl⟩
    have c0 := uc_cell ((unhide hB).get 3 (x := ⟨h3, uc m, 99⟩) rfl) q4 (by omega)
    have fz := froz_of (i := q4) ((unhide hB).get 3 (x := ⟨h3, uc m, 99⟩) rfl)
    have hm2 : Hid (m.set q4 (bits .or .u32 (m.getD q4 0) (K.getD n 0 * 2 ^ s8 % 4294967296)) = kw 4 K W0 (n + 1)) := by
      rw [kw, ← unhide hm, kst, ← hq4, ← hs8]
      exact rfl
    have hB2 := (unhide hB).drew.cell 3 (x := ⟨h3, uc m, 99⟩) rfl q4 (.int .u32 (bits .or .u32 (m.getD q4 0) (K.getD n 0 * 2 ^ s8 % 4294967296)))
    simp only [List.set_cons_zero, List.set_cons_succ, uc_set] at hB2
    have hbr := (unhide hKb).at_ n
    generalize K.getD n 0 = x at *
    generalize m.getD q4 0 = z at *
    replace hB2 := hide hB2
    have nI : (n : Int) < 32 := by omega
    have nT : 0 ≤ (n : Int) := by omega
    have qI : (q4 : Int) < 16 := by omega
    have q2 : q4 < 16 := by omega
    have e1 : (n : Int).tdiv 4 = (q : Int) := by rw [Int.tdiv_eq_ediv_of_nonneg nT]; omega
    have e2 : (n : Int).tmod 4 = (s : Int) := by rw [Int.tmod_eq_emod_of_nonneg nT]; omega
    have e3 : (s : Int) * 8 = (s8 : Int) := by omega
    have e4 : 4 + (q : Int) = (q4 : Int) := by omega
    have g1 : IntKind.i64.wrap (q : Int) = (q : Int) := by rw [IntKind.wrap_i64]; omega
    have g6 : IntKind.i64.wrap (q4 : Int) = (q4 : Int) := by rw [IntKind.wrap_i64]; omega
    have g2 : IntKind.i64.wrap (s8 : Int) = (s8 : Int) := by rw [IntKind.wrap_i64]; omega
    have g3 : 0 ≤ (s8 : Int) := by omega
    have g4 : s8 ≤ 32 := by omega
    have g5 : min s8 32 = s8 := by omega
    replace hq := hide hq
    replace hq4 := hide hq4
    replace hs := hide hs
    replace hs8 := hide hs8
    clear hn
    go_wp2_with fail
    go_still_tail 13, (by kernel_rfl)
    go_wp2_with fail
    go_roundw
    case rel => exact ⟨n + 1, _, by omega, by go_num, hm2, hB2⟩
    case measure => simp [intOf]; omega
  · have e : n = 32 := by omega
    subst e
    clear hl
    have hpl : Hid (m.length = 16) := hml
    clear hml
    obtain ⟨P, hp⟩ : ∃ P, P = m := ⟨_, rfl⟩
    rw [← hp] at hm hpl hB
    clear hp m
    have hp : Hid (P = kw 4 K W0 32) := hm
    clear hm
    go_upto_region 7 with fail
    replace hB := unhide hB
    refine wp_region_lit ?_
    refine list_val (.agg SN) (by kernel_rfl) (exec_arr _ 73 (.tmp 3) rfl (w.heap.size + 1) (by kernel_rfl) SN 73 _ (hB.get 1 (x := ⟨w.heap.size + 1, SN, 73⟩) rfl) Tryd.underlying73 rfl (by rw [Tryd.infoN, hNs])) ?_
    simp only [Act.put, List.setIfInBounds_toArray, List.set_cons_zero, List.set_cons_succ, List.getElem_toArray, List.getElem_cons_zero, List.getElem_cons_succ]
    refine list_val (.int .i64 0) (by kernel_rfl) (by kernel_rfl) ?_
    simp only [Act.put, List.setIfInBounds_toArray, List.set_cons_zero, List.set_cons_succ, List.getElem_toArray, List.getElem_cons_zero, List.getElem_cons_succ]
    refine wpList_nil ?_
    replace hB := hide hB
    go_wp2_with fail
    go_loopw [31] (fun i wr => ∃ n : Nat, ∃ m : List Int, n ≤ 12 ∧ i = .int .i64 n ∧ Hid (m = kw 13 N P n) ∧ Hid (Bl w [⟨w.heap.size, SK, 28⟩, ⟨w.heap.size + 1, SN, 73⟩, ⟨w.heap.size + 1 + 1, uc Z16, 99⟩, ⟨h3, uc m, 99⟩] wr)) (fun i _ => 12 - (intOf i).toNat)
    case atStart => exact ⟨0, P, by omega, rfl, rfl, hB⟩
    case round =>
    clear hB
    obtain ⟨n, m, hn, rfl, hm, hB⟩ := hrel
    have hml : m.length = 16 := by rw [unhide hm, kw_len]; exact unhide hpl
    by_cases hl : n < 12
    · have cx := index_N SN n _ hl ((unhide hSN) n hl)
      obtain ⟨q, hq⟩ : ∃ q, q = n / 4 := ⟨_, rfl⟩
      obtain ⟨q4, hq4⟩ : ∃ q4, q4 = 13 + n / 4 := ⟨_, rfl⟩
      obtain ⟨s, hs⟩ : ∃ s, s = n % 4 := ⟨_, rfl⟩
      obtain ⟨s8, hs8⟩ : ∃ s8, s8 = n % 4 * 8 := ⟨_, rfl⟩
      have c0 := uc_cell ((unhide hB).get 3 (x := ⟨h3, uc m, 99⟩) rfl) q4 (by omega)
      have fz := froz_of (i := q4) ((unhide hB).get 3 (x := ⟨h3, uc m, 99⟩) rfl)
      have hm2 : Hid (m.set q4 (bits .or .u32 (m.getD q4 0) (N.getD n 0 * 2 ^ s8 % 4294967296)) = kw 13 N P (n + 1)) := by
        rw [kw, ← unhide hm, kst, ← hq4, ← hs8]
        exact rfl
      have hB2 := (unhide hB).drew.cell 3 (x := ⟨h3, uc m, 99⟩) rfl q4 (.int .u32 (bits .or .u32 (m.getD q4 0) (N.getD n 0 * 2 ^ s8 % 4294967296)))
      simp only [List.set_cons_zero, List.set_cons_succ, uc_set] at hB2
      have hbr := (unhide hNb).at_ n
      generalize N.getD n 0 = x at *
      generalize m.getD q4 0 = z at *
      replace hB2 := hide hB2
      have nI : (n : Int) < 12 := by omega
      have nT : 0 ≤ (n : Int) := by omega
      have qI : (q4 : Int) < 16 := by omega
      have q2 : q4 < 16 := by omega
      have e1 : (n : Int).tdiv 4 = (q : Int) := by rw [Int.tdiv_eq_ediv_of_nonneg nT]; omega
      have e2 : (n : Int).tmod 4 = (s : Int) := by rw [Int.tmod_eq_emod_of_nonneg nT]; omega
      have e3 : (s : Int) * 8 = (s8 : Int) := by omega
      have e4 : 13 + (q : Int) = (q4 : Int) := by omega
      have g1 : IntKind.i64.wrap (q : Int) = (q : Int) := by rw [IntKind.wrap_i64]; omega
      have g6 : IntKind.i64.wrap (q4 : Int) = (q4 : Int) := by rw [IntKind.wrap_i64]; omega
      have g2 : IntKind.i64.wrap (s8 : Int) = (s8 : Int) := by rw [IntKind.wrap_i64]; omega
      have g3 : 0 ≤ (s8 : Int) := by omega
      have g4 : s8 ≤ 32 := by omega
      have g5 : min s8 32 = s8 := by omega
      replace hq := hide hq
      replace hq4 := hide hq4
      replace hs := hide hs
      replace hs8 := hide hs8
      clear hn
      go_wp2_with fail
      go_still_tail 13, (by kernel_rfl)
      go_wp2_with fail
      go_roundw
      case rel => exact ⟨_, _, _, _, _, _, _, _, _, _, _, _, _, _, _, _, _, _, _, _, ⟨n + 1, _, by omega, by go_num, hm2, hB2⟩, rfl⟩
      case measure => simp [intOf]; omega
    · have e : n = 12 := by omega
      subst e
      go_upto_region 12 with fail
      replace hB := unhide hB
      refine wp_region_lit ?_
      refine list_val (.agg (uc m)) (by kernel_rfl) (exec_arr _ 99 (.tmp 5) rfl (h3) (by kernel_rfl) (uc m) 99 _ (hB.get 3 (x := ⟨h3, uc m, 99⟩) rfl) Tryd.underlying99 rfl (by rw [Tryd.info16, uc_size, hml])) ?_
      simp only [Act.put, List.setIfInBounds_toArray, List.set_cons_zero, List.set_cons_succ, List.getElem_toArray, List.getElem_cons_zero, List.getElem_cons_succ]
      refine list_store 99 (.tmp 4) (.tmp 49) (w.heap.size + 1 + 1) (uc m) 99 (uc Z16) (by kernel_rfl) rfl (by kernel_rfl) (by kernel_rfl) (hB.get 2 (x := ⟨w.heap.size + 1 + 1, uc Z16, 99⟩) rfl) (by rw [Tryd.info16, uc_size, hml]) ((show (uc Z16).size = 16 from rfl).trans ((uc_size _).trans hml).symm) (uc_one _) ?_
      replace hB := hB.set 2 (x := ⟨w.heap.size + 1 + 1, uc Z16, 99⟩) rfl (uc m)
      simp only [List.set_cons_zero, List.set_cons_succ] at hB
      generalize World.setRow _ _ _ = u3 at *
      simp only [Act.put, List.setIfInBounds_toArray, List.set_cons_zero, List.set_cons_succ, List.getElem_toArray, List.getElem_cons_zero, List.getElem_cons_succ]
      refine wpList_nil ?_
      go_wp2_with fail
      rw [unhide hT, bg, ← unhide hp, ← unhide hm]
      exact bodyPost_ret (v := .agg (uc m)) (results_cell_row Tryd.results47 _ _ (w.heap.size + 1 + 1) 99 (uc m) (0, 0) _ rfl (hB.get 2 (x := ⟨w.heap.size + 1 + 1, uc m, 99⟩) rfl) Tryd.underlying99 rfl (by rw [Tryd.info16, uc_size, hml])) rfl (⟨rfl, hB.gr⟩)
/-- the block of first words -/
def wb (A : List Int) (c : Int) : List Int := bts (sm (rn (A.set 12 c) 10) (A.set 12 c))
theorem wb_len (A : List Int) (c : Int) : (wb A c).length = 64 := bts_len _
set_option maxHeartbeats 4000000 in
theorem wblock_ok (A : List Int) (hA : A.length = 16) (c : Int) (w : World) : Calls Tryd.prog 48 #[.agg (uc A), .int .u32 c] w (Bts (wb A c) w) := by
  obtain ⟨T, hT⟩ : ∃ T, T = Bts (wb A c) w := ⟨_, rfl⟩
  rw [← hT]
  unfold wb at hT
  replace hT := hide hT
  obtain ⟨SA, hSA⟩ : ∃ S, S = uc A := ⟨_, rfl⟩
  rw [← hSA]
  replace hSA := hide hSA
  go_enter Tryd.func48, Tryd.ntmps48
  go_upto_region 1 with fail
  have hB := ((Bl.nil w).new SA 99).new #[.int .u8 0, .int .u8 0, .int .u8 0, .int .u8 0, .int .u8 0, .int .u8 0, .int .u8 0, .int .u8 0, .int .u8 0, .int .u8 0, .int .u8 0, .int .u8 0, .int .u8 0, .int .u8 0, .int .u8 0, .int .u8 0, .int .u8 0, .int .u8 0, .int .u8 0, .int .u8 0, .int .u8 0, .int .u8 0, .int .u8 0, .int .u8 0, .int .u8 0, .int .u8 0, .int .u8 0, .int .u8 0, .int .u8 0, .int .u8 0, .int .u8 0, .int .u8 0, .int .u8 0, .int .u8 0, .int .u8 0, .int .u8 0, .int .u8 0, .int .u8 0, .int .u8 0, .int .u8 0, .int .u8 0, .int .u8 0, .int .u8 0, .int .u8 0, .int .u8 0, .int .u8 0, .int .u8 0, .int .u8 0, .int .u8 0, .int .u8 0, .int .u8 0, .int .u8 0, .int .u8 0, .int .u8 0, .int .u8 0, .int .u8 0, .int .u8 0, .int .u8 0, .int .u8 0, .int .u8 0, .int .u8 0, .int .u8 0, .int .u8 0, .int .u8 0] 69
  simp only [size_alloc, List.nil_append, List.cons_append] at hB
  generalize World.alloc _ _ = u at *
  rw [unhide hSA] at hB
  replace hB : Bl w [⟨w.heap.size, uc A, 99⟩, ⟨w.heap.size + 1, kc Z64, 69⟩] u := hB
  have c0 := uc_cell (hB.get 0 (x := ⟨w.heap.size, uc A, 99⟩) rfl) 12 (by omega)
  have fz := froz_of (i := 12) (hB.get 0 (x := ⟨w.heap.size, uc A, 99⟩) rfl)
  generalize A.getD 12 0 = z at c0
  replace hB := hB.cell 0 (x := ⟨w.heap.size, uc A, 99⟩) rfl 12 (.int .u32 c)
  simp only [List.set_cons_zero, List.set_cons_succ, uc_set] at hB
  have hVl : (A.set 12 c).length = 16 := by simp [hA]
  generalize A.set 12 c = V at *
  replace hB := hide hB
  go_upto_region 2 with fail
  replace hB := unhide hB
  generalize World.setCell _ _ _ = u1 at *
  clear c0 fz
  refine any_start (S := fun v => ∃ c, Bl w [⟨w.heap.size, uc V, 99⟩, ⟨w.heap.size + 1, c, 69⟩] v) (by kernel_rfl) ?_
  replace hB := hB.drew
  generalize World.drew _ = u2 at *
  simp only [List.size_toArray, List.length_cons, List.length_nil, Array.replicate, List.replicate]
  refine any_take (i := 0) (v := .agg (uc V)) #[false, false, false, false, false, false] rfl (by kernel_rfl) (by kernel_rfl) (by kernel_rfl) (by kernel_rfl) (fun _ _ _ h => h) (.inl ⟨by kernel_rfl, fun x_ hu => by obtain ⟨c', hu⟩ := hu; exact exec_arr _ 99 (.tmp 2) rfl (w.heap.size) (by kernel_rfl) (uc V) 99 _ (hu.get 0 (x := ⟨w.heap.size, uc V, 99⟩) rfl) Tryd.underlying99 rfl (by rw [Tryd.info16, uc_size, hVl])⟩) ⟨_, hB⟩ ?_
  simp only [Act.put, List.setIfInBounds_toArray, List.set_cons_zero, List.set_cons_succ, List.getElem_toArray, List.getElem_cons_zero, List.getElem_cons_succ]
  refine any_take (i := 2) (v := .agg (uc V)) #[true, false, false, false, false, false] rfl (by kernel_rfl) (by kernel_rfl) (by kernel_rfl) (by kernel_rfl) (fun _ _ _ h => h) (.inl ⟨by kernel_rfl, fun x_ hu => by obtain ⟨c', hu⟩ := hu; exact exec_arr _ 99 (.tmp 2) rfl (w.heap.size) (by kernel_rfl) (uc V) 99 _ (hu.get 0 (x := ⟨w.heap.size, uc V, 99⟩) rfl) Tryd.underlying99 rfl (by rw [Tryd.info16, uc_size, hVl])⟩) ⟨_, hB⟩ ?_
  simp only [Act.put, List.setIfInBounds_toArray, List.set_cons_zero, List.set_cons_succ, List.getElem_toArray, List.getElem_cons_zero, List.getElem_cons_succ]
  refine any_one (i := 1) (by kernel_rfl) rfl (fun K hK => ?_)
  refine step_callw (by kernel_rfl) 54 #[.agg (uc V)] (by kernel_rfl) ((rounds_ok V hVl _).mono ?_)
  rintro r u3 ⟨rfl, hg⟩
  refine ⟨_, rfl, ?_⟩
  replace hB := hB.more hg
  clear hg
  refine hK.out _ _ ⟨_, hB⟩ (fun _ => ?_)
  clear hK K
  simp only [Act.put, List.setIfInBounds_toArray, List.set_cons_zero, List.set_cons_succ, List.getElem_toArray, List.getElem_cons_zero, List.getElem_cons_succ]
  have hRl := (rn_len V 10).trans hVl
  generalize rn V 10 = R at *
  refine any_one (i := 3) (by kernel_rfl) rfl (fun K hK => ?_)
  refine step_callw (by kernel_rfl) 55 #[.agg (uc R), .agg (uc V)] (by kernel_rfl) ((and_ok R V hRl hVl _).mono ?_)
  rintro r u4 ⟨rfl, hg⟩
  refine ⟨_, rfl, ?_⟩
  replace hB := hB.more hg
  clear hg
  refine hK.out _ _ ⟨_, hB⟩ (fun _ => ?_)
  clear hK K
  simp only [Act.put, List.setIfInBounds_toArray, List.set_cons_zero, List.set_cons_succ, List.getElem_toArray, List.getElem_cons_zero, List.getElem_cons_succ]
  have hSl := sm_len R V
  generalize sm R V = M at *
  refine any_one (i := 4) (by kernel_rfl) rfl (fun K hK => ?_)
  refine step_callw (by kernel_rfl) 56 #[.agg (uc M)] (by kernel_rfl) ((bytes_ok M hSl _).mono ?_)
  rintro r u5 ⟨rfl, hg⟩
  refine ⟨_, rfl, ?_⟩
  replace hB := hB.more hg
  clear hg
  refine hK.out _ _ ⟨_, hB⟩ (fun _ => ?_)
  clear hK K
  simp only [Act.put, List.setIfInBounds_toArray, List.set_cons_zero, List.set_cons_succ, List.getElem_toArray, List.getElem_cons_zero, List.getElem_cons_succ]
  have hDl := bts_len M
  generalize bts M = D at *
  refine any_one (i := 5) (by kernel_rfl) rfl (fun K hK => ?_)
  rw [if_pos (by kernel_rfl)]
  refine wp_store_row 69 (.tmp 4) (.tmp 11) rfl (w.heap.size + 1) (kc D) (by kernel_rfl) (by kernel_rfl) 69 (kc Z64) (hB.get 1 (x := ⟨w.heap.size + 1, kc Z64, 69⟩) rfl) (by rw [Tryd.info64, kc_size, hDl]) ((show (kc Z64).size = 64 from rfl).trans ((kc_size _).trans hDl).symm) (kc_one _) ?_
  replace hB := hB.set 1 (x := ⟨w.heap.size + 1, kc Z64, 69⟩) rfl (kc D)
  simp only [List.set_cons_zero, List.set_cons_succ] at hB
  generalize World.setRow _ _ _ = u6 at *
  refine hK.out _ _ ⟨_, hB⟩ (fun _ => ?_)
  clear hK K
  simp only [Act.put, List.setIfInBounds_toArray, List.set_cons_zero, List.set_cons_succ, List.getElem_toArray, List.getElem_cons_zero, List.getElem_cons_succ]
  refine any_done (by kernel_rfl) ?_
  go_wp2_with fail
  rw [unhide hT]
  exact bodyPost_ret (v := .agg (kc D)) (results_cell_row Tryd.results48 _ _ (w.heap.size + 1) 69 (kc D) (0, 0) _ rfl (hB.get 1 (x := ⟨w.heap.size + 1, kc D, 69⟩) rfl) Tryd.underlying69 rfl (by rw [Tryd.info64, kc_size, hDl])) rfl (⟨rfl, hB.gr⟩)

/-- the block -/
def bk (K N : List Int) (c : Int) : List Int := wb (bg K N) c
theorem bk_len (K N : List Int) (c : Int) : (bk K N c).length = 64 := wb_len _ _
theorem kc_at {w : World} {g : Nat} {l : List Int} {t : TypeId} (h : w.heap[g]? = some (.cells (kc l) t (0, 0))) : At w g 0 l := fun j hj => by rw [Nat.zero_add]; exact kc_cell h j hj
/-- a list of bytes somewhere -/
structure Lb (w : World) (a : Option Addr) (n c : Nat) (P : List Int) : Prop where
  len : P.length = n
  isB : IsB P
  sl : Sl w a P
  cap : n ≤ c
  max : c < 9223372036854775808
theorem Lb.gr {w v : World} {a : Option Addr} {n c : Nat} {P : List Int} (h : Lb w a n c P) (k : Gr w v) : Lb v a n c P := ⟨h.len, h.isB, h.sl.gr k, h.cap, h.max⟩
/-- the stream's byte at a place, the counter's word so far on -/
def cn (c : Int) (n : Nat) : Int := (c + n) % 4294967296
theorem cn_zero (c : Int) (hc : W32 c) : cn c 0 = c := by
  have := hc.1
  have := hc.2
  unfold cn
  omega
theorem cn_succ (c : Int) (n : Nat) : (cn c n + 1) % 4294967296 = cn c (n + 1) := by unfold cn; omega
def sf (K N : List Int) (c : Int) (i : Nat) : Int := (bk K N (cn c (i / 64))).getD (i % 64) 0
def xf (K N : List Int) (c : Int) (B : List Int) (i : Nat) : Int := xb (B.getD i 0) (sf K N c i)
/-- bytes xored with the stream -/
def xl (K N : List Int) (c : Int) (B : List Int) : List Int := (List.range B.length).map (xf K N c B)
theorem xl_len (K N : List Int) (c : Int) (B : List Int) : (xl K N c B).length = B.length := by simp [xl]
theorem xl_isB (K N : List Int) (c : Int) (B : List Int) : IsB (xl K N c B) := by
  intro x hx
  unfold xl at hx
  obtain ⟨i, _, rfl⟩ := List.mem_map.1 hx
  exact xb_rng _ _

/-- what Xor answers: new memory -/
def Xd (K N : List Int) (c : Int) (B : List Int) (w : World) (r : Ending) (w' : World) : Prop := ∃ g, r = .returned (.slice (some ⟨g, 0, none⟩) B.length B.length) ∧ w.heap.size ≤ g ∧ w'.heap[g]? = some (.cells (kc (xl K N c B)) 5 (0, 0)) ∧ Gr w w'
set_option maxHeartbeats 4000000 in
theorem xor_ok (K N : List Int) (hK : K.length = 32) (hN : N.length = 12) (hKb : IsB K) (hNb : IsB N) (c : Int) (hc : W32 c) (B : List Int) (a : Option Addr) (n cap : Nat) (hbig : n ≤ 281474976710656) (w : World) (hA : Lb w a n cap B) :
    Calls Tryd.prog 39 #[.agg (kc K), .int .u32 c, .agg (kc N), .slice a n cap] w (Xd K N c B w) := by
  have hn := hA.len
  obtain ⟨T, hT⟩ : ∃ T, T = Xd K N c B w := ⟨_, rfl⟩
  rw [← hT]
  unfold Xd at hT
  rw [hn] at hT
  replace hT := hide hT
  replace hA := hide hA
  obtain ⟨SK, hSK⟩ : ∃ S, S = kc K := ⟨_, rfl⟩
  obtain ⟨SN, hSN⟩ : ∃ S, S = kc N := ⟨_, rfl⟩
  rw [← hSK, ← hSN]
  replace hSK := hide hSK
  replace hSN := hide hSN
  replace hKb := hide hKb
  replace hNb := hide hNb
  replace hc := hide hc
  replace hn := hide hn
  go_enter Tryd.func39, Tryd.ntmps39
  go_upto_region 1 with fail
  have hB := ((Bl.nil w).new SK 28).new SN 73
  simp only [size_alloc, List.nil_append, List.cons_append] at hB
  generalize World.alloc _ _ = u at *
  rw [unhide hSK, unhide hSN] at hB
  refine wp_region_lit ?_
  refine list_val (.slice a n cap) (by kernel_rfl) (by kernel_rfl) ?_
  simp only [Act.put, List.setIfInBounds_toArray, List.set_cons_zero, List.set_cons_succ, List.getElem_toArray, List.getElem_cons_zero, List.getElem_cons_succ]
  refine list_val (.int .i64 n) (by kernel_rfl) (by kernel_rfl) ?_
  simp only [Act.put, List.setIfInBounds_toArray, List.set_cons_zero, List.set_cons_succ, List.getElem_toArray, List.getElem_cons_zero, List.getElem_cons_succ]
  refine wpList_make_room u rfl (.tmp 17) (.tmp 17) rfl n n n n rfl rfl rfl rfl (Nat.le_refl _) hbig ?_
  simp only [Act.put, List.setIfInBounds_toArray, List.set_cons_zero, List.set_cons_succ, List.getElem_toArray, List.getElem_cons_zero, List.getElem_cons_succ]
  replace hB := hB.new (kc (List.replicate n 0)) 5
  simp only [List.nil_append, List.cons_append] at hB
  generalize World.alloc _ _ = u1 at *
  generalize u.heap.size = g2 at *
  replace hB := hide hB
  iterate 1 (refine wpList_step fun K hK => ?_; replace hK := hide hK; go_simp; refine unhide hK _ _ ?_; clear hK K)
  refine wpList_nil ?_
  go_upto_region 2 with fail
  replace hB := unhide hB
  refine wp_region_lit ?_
  refine list_val (.agg (kc K)) (by kernel_rfl) (exec_arr _ 28 (.tmp 4) rfl (w.heap.size) (by kernel_rfl) (kc K) 28 _ (hB.get 0 (x := ⟨w.heap.size, kc K, 28⟩) rfl) Tryd.underlying28 rfl (by rw [Tryd.infoKey, kc_size, hK])) ?_
  simp only [Act.put, List.setIfInBounds_toArray, List.set_cons_zero, List.set_cons_succ, List.getElem_toArray, List.getElem_cons_zero, List.getElem_cons_succ]
  refine list_val (.agg (kc N)) (by kernel_rfl) (exec_arr _ 73 (.tmp 6) rfl (w.heap.size + 1) (by kernel_rfl) (kc N) 73 _ (hB.get 1 (x := ⟨w.heap.size + 1, kc N, 73⟩) rfl) Tryd.underlying73 rfl (by rw [Tryd.infoN, kc_size, hN])) ?_
  simp only [Act.put, List.setIfInBounds_toArray, List.set_cons_zero, List.set_cons_succ, List.getElem_toArray, List.getElem_cons_zero, List.getElem_cons_succ]
  refine list_call 47 #[.agg (kc K), .agg (kc N)] (by kernel_rfl) (by kernel_rfl) ((begin_ok K N hK hN (unhide hKb) (unhide hNb) _).mono ?_)
  rintro r u2 ⟨rfl, hg⟩
  refine ⟨_, rfl, ?_⟩
  replace hB := hB.more hg
  clear hg
  simp only [Act.put, List.setIfInBounds_toArray, List.set_cons_zero, List.set_cons_succ, List.getElem_toArray, List.getElem_cons_zero, List.getElem_cons_succ]
  have hGl := bg_len K N
  obtain ⟨A, hAe⟩ : ∃ A, A = bg K N := ⟨_, rfl⟩
  rw [← hAe] at hGl ⊢
  replace hAe := hide hAe
  replace hB := hide hB
  iterate 1 (refine wpList_step fun K hK => ?_; replace hK := hide hK; go_simp; refine unhide hK _ _ ?_; clear hK K)
  replace hB := (unhide hB).new #[.int .u32 0, .int .u32 0, .int .u32 0, .int .u32 0, .int .u32 0, .int .u32 0, .int .u32 0, .int .u32 0, .int .u32 0, .int .u32 0, .int .u32 0, .int .u32 0, .int .u32 0, .int .u32 0, .int .u32 0, .int .u32 0] 99
  simp only [List.nil_append, List.cons_append] at hB
  generalize World.alloc _ _ = u3 at *
  generalize u2.heap.size = h3 at *
  replace hB : Bl w [⟨w.heap.size, kc K, 28⟩, ⟨w.heap.size + 1, kc N, 73⟩, ⟨g2, kc (List.replicate n 0), 5⟩, ⟨h3, uc Z16, 99⟩] u3 := hB
  refine list_store 99 (.tmp 10) (.tmp 21) (h3) (uc A) 99 (uc Z16) (by kernel_rfl) rfl (by kernel_rfl) (by kernel_rfl) (hB.get 3 (x := ⟨h3, uc Z16, 99⟩) rfl) (by rw [Tryd.info16, uc_size, hGl]) ((show (uc Z16).size = 16 from rfl).trans ((uc_size _).trans hGl).symm) (uc_one _) ?_
  replace hB := hB.set 3 (x := ⟨h3, uc Z16, 99⟩) rfl (uc A)
  simp only [List.set_cons_zero, List.set_cons_succ] at hB
  generalize World.setRow _ _ _ = u4 at *
  simp only [Act.put, List.setIfInBounds_toArray, List.set_cons_zero, List.set_cons_succ, List.getElem_toArray, List.getElem_cons_zero, List.getElem_cons_succ]
  refine wpList_nil ?_
  replace hB := hide hB
  go_wp2_with fail
  obtain ⟨Z, hZ⟩ : ∃ Z, Z = List.replicate n (0 : Int) := ⟨_, rfl⟩
  have hZl : Z.length = n := by rw [hZ]; simp
  rw [← hZ] at hB
  replace hZ := hide hZ
  go_loopw [11, 12] (fun i e wr => ∃ k q : Nat, ∃ m : List Int, Hid (q = 64 * k) ∧ q ≤ n + 63 ∧ i = .int .i64 q ∧ e = .int .u32 (cn c k) ∧ Hid (m = fil (xf K N c B) (min q n) Z) ∧ Hid (Bl w [⟨w.heap.size, kc K, 28⟩, ⟨w.heap.size + 1, kc N, 73⟩, ⟨g2, kc m, 5⟩, ⟨h3, uc A, 99⟩] wr)) (fun i _ _ => n + 64 - (intOf i).toNat)
  case atStart => exact ⟨0, 0, Z, rfl, by omega, rfl, by rw [cn_zero c (unhide hc)], by rw [Nat.min_eq_left (Nat.zero_le _), fil_zero]; exact rfl, hB⟩
  case round =>
  clear hB
  obtain ⟨k, q, m, hq, hqn, rfl, rfl, hm, hB⟩ := hrel
  have hml : m.length = n := by rw [unhide hm, fil_len _ _ _ (by omega)]; exact hZl
  by_cases hl : q < n
  · have qI : (q : Int) < (n : Int) := by omega
    obtain ⟨bp, bo, rfl, hat⟩ : ∃ bp bo, a = some ⟨bp, bo, none⟩ ∧ At w bp bo B := by
      rcases (unhide hA).sl with h | h
      · have := unhide hn
        rw [h] at this
        simp at this
        omega
      · exact h
    generalize hck : cn c k = ck
    replace hck := hide hck
    go_upto_region 6 with fail
    replace hB := unhide hB
    refine wp_region_lit ?_
    refine list_val (.agg (uc A)) (by kernel_rfl) (exec_arr _ 99 (.tmp 10) rfl (h3) (by kernel_rfl) (uc A) 99 _ (hB.get 3 (x := ⟨h3, uc A, 99⟩) rfl) Tryd.underlying99 rfl (by rw [Tryd.info16, uc_size, hGl])) ?_
    simp only [Act.put, List.setIfInBounds_toArray, List.set_cons_zero, List.set_cons_succ, List.getElem_toArray, List.getElem_cons_zero, List.getElem_cons_succ]
    refine list_val (.int .u32 ck) (by kernel_rfl) (by kernel_rfl) ?_
    simp only [Act.put, List.setIfInBounds_toArray, List.set_cons_zero, List.set_cons_succ, List.getElem_toArray, List.getElem_cons_zero, List.getElem_cons_succ]
    refine list_call 48 #[.agg (uc A), .int .u32 ck] (by kernel_rfl) (by kernel_rfl) ((wblock_ok A hGl ck _).mono ?_)
    rintro r u2 ⟨rfl, hg⟩
    refine ⟨_, rfl, ?_⟩
    replace hB := hB.more hg
    clear hg
    simp only [Act.put, List.setIfInBounds_toArray, List.set_cons_zero, List.set_cons_succ, List.getElem_toArray, List.getElem_cons_zero, List.getElem_cons_succ]
    have hDl := wb_len A ck
    obtain ⟨D, hD⟩ : ∃ D, D = wb A ck := ⟨_, rfl⟩
    rw [← hD] at hDl ⊢
    replace hD : Hid (D = bk K N (cn c k)) := by rw [hD, unhide hAe, unhide hck]; exact rfl
    replace hB := hide hB
    iterate 1 (refine wpList_step fun K hK => ?_; replace hK := hide hK; go_simp; refine unhide hK _ _ ?_; clear hK K)
    replace hB := (unhide hB).new #[.int .u8 0, .int .u8 0, .int .u8 0, .int .u8 0, .int .u8 0, .int .u8 0, .int .u8 0, .int .u8 0, .int .u8 0, .int .u8 0, .int .u8 0, .int .u8 0, .int .u8 0, .int .u8 0, .int .u8 0, .int .u8 0, .int .u8 0, .int .u8 0, .int .u8 0, .int .u8 0, .int .u8 0, .int .u8 0, .int .u8 0, .int .u8 0, .int .u8 0, .int .u8 0, .int .u8 0, .int .u8 0, .int .u8 0, .int .u8 0, .int .u8 0, .int .u8 0, .int .u8 0, .int .u8 0, .int .u8 0, .int .u8 0, .int .u8 0, .int .u8 0, .int .u8 0, .int .u8 0, .int .u8 0, .int .u8 0, .int .u8 0, .int .u8 0, .int .u8 0, .int .u8 0, .int .u8 0, .int .u8 0, .int .u8 0, .int .u8 0, .int .u8 0, .int .u8 0, .int .u8 0, .int .u8 0, .int .u8 0, .int .u8 0, .int .u8 0, .int .u8 0, .int .u8 0, .int .u8 0, .int .u8 0, .int .u8 0, .int .u8 0, .int .u8 0] 69
    simp only [List.nil_append, List.cons_append] at hB
    generalize World.alloc _ _ = u3 at *
    generalize u2.heap.size = h4 at *
    replace hB : Bl w [⟨w.heap.size, kc K, 28⟩, ⟨w.heap.size + 1, kc N, 73⟩, ⟨g2, kc m, 5⟩, ⟨h3, uc A, 99⟩, ⟨h4, kc Z64, 69⟩] u3 := hB
    refine list_store 69 (.tmp 13) (.tmp 33) (h4) (kc D) 69 (kc Z64) (by kernel_rfl) rfl (by kernel_rfl) (by kernel_rfl) (hB.get 4 (x := ⟨h4, kc Z64, 69⟩) rfl) (by rw [Tryd.info64, kc_size, hDl]) ((show (kc Z64).size = 64 from rfl).trans ((kc_size _).trans hDl).symm) (kc_one _) ?_
    replace hB := hB.set 4 (x := ⟨h4, kc Z64, 69⟩) rfl (kc D)
    simp only [List.set_cons_zero, List.set_cons_succ] at hB
    generalize World.setRow _ _ _ = u4 at *
    simp only [Act.put, List.setIfInBounds_toArray, List.set_cons_zero, List.set_cons_succ, List.getElem_toArray, List.getElem_cons_zero, List.getElem_cons_succ]
    refine wpList_nil ?_
    replace hB := hide hB
    clear u3 u2
    obtain ⟨q64, hq64⟩ : ∃ x, x = q + 64 := ⟨_, rfl⟩
    obtain ⟨e, he⟩ : ∃ x, x = min q64 n := ⟨_, rfl⟩
    obtain ⟨p, hp⟩ : ∃ x, x = e - q := ⟨_, rfl⟩
    have i1 : (q : Int) + 64 = (q64 : Int) := by omega
    have i2 : IntKind.i64.wrap (q64 : Int) = (q64 : Int) := by rw [IntKind.wrap_i64]; omega
    have i3 : (if (n : Int) < (q64 : Int) then (n : Int) else (q64 : Int)) = (e : Int) := by split <;> omega
    have i4 : (if n < q64 then (n : Int) else (q64 : Int)) = (e : Int) := by split <;> omega
    have i5 : q ≤ e := by omega
    have i6 : e ≤ n := by omega
    have i7 : (e : Int) ≤ (n : Int) := by omega
    have i8 : (q : Int) ≤ (e : Int) := by omega
    have i9 : e - q = p := hp.symm
    replace hp := hide hp
    replace he := hide he
    replace hq64 := hide hq64
    go_upto_region 7 with fail
    go_wp2_with fail
    have j1 : e ≤ q64 := by have := unhide he; omega
    go_loopw [44] (fun i wr => ∃ j : Nat, ∃ m : List Int, j ≤ p ∧ i = .int .i64 j ∧ Hid (m = fil (xf K N c B) (q + j) Z) ∧ Hid (Bl w [⟨w.heap.size, kc K, 28⟩, ⟨w.heap.size + 1, kc N, 73⟩, ⟨g2, kc m, 5⟩, ⟨h3, uc A, 99⟩, ⟨h4, kc D, 69⟩] wr)) (fun i _ => p - (intOf i).toNat)
    case atStart => exact ⟨0, m, by omega, rfl, by rw [unhide hm, Nat.min_eq_left (by omega)]; exact rfl, hB⟩
    case round =>
    clear hB hm hml m
    obtain ⟨j, m, hj, rfl, hm, hB⟩ := hrel
    have hml : m.length = n := by rw [unhide hm, fil_len _ _ _ (by omega)]; exact hZl
    by_cases hjl : j < p
    · obtain ⟨t, ht⟩ : ∃ t, t = q + j := ⟨_, rfl⟩
      have c1 := (hat.gr (unhide hB).gr) t (by rw [unhide hn]; omega)
      have c2 := kc_cell ((unhide hB).get 4 (x := ⟨h4, kc D, 69⟩) rfl) j (by have := unhide hq64; omega)
      have c3 := kc_cell ((unhide hB).get 2 (x := ⟨g2, kc m, 5⟩) rfl) (q + j) (by omega)
      have fz := froz_of (i := q + j) ((unhide hB).get 2 (x := ⟨g2, kc m, 5⟩) rfl)
      generalize m.getD (q + j) 0 = z at c3
      have hx : xf K N c B (q + j) = xb (B.getD t 0) (D.getD j 0) := by
        have h64 := unhide hq64
        have hqk := unhide hq
        unfold xf sf
        rw [unhide hD, ← ht, show t / 64 = k from by omega, show t % 64 = j from by omega]
      have hm2 : Hid (m.set (q + j) (xb (B.getD t 0) (D.getD j 0)) = fil (xf K N c B) (q + (j + 1)) Z) := by
        rw [unhide hm, ← hx]
        exact fil_set _ _ _ (by omega)
      have hB2 := (unhide hB).drew.cell 2 (x := ⟨g2, kc m, 5⟩) rfl (q + j) (.int .u8 (xb (B.getD t 0) (D.getD j 0)))
      simp only [List.set_cons_zero, List.set_cons_succ, kc_set] at hB2
      clear hx
      generalize B.getD t 0 = x at *
      generalize D.getD j 0 = y at *
      replace hB2 := hide hB2
      have k1 : (j : Int) < (p : Int) := by omega
      have k2 : (j : Int) < 64 := by have := unhide hq64; omega
      have k3 : j < 64 := by omega
      have k4 : (t : Int) < (n : Int) := by omega
      have k5 : t < n := by omega
      have k6 : (q : Int) + (j : Int) = (t : Int) := by omega
      have k7 : IntKind.i64.wrap (t : Int) = (t : Int) := by rw [IntKind.wrap_i64]; omega
      have k8 : 0 ≤ (t : Int) := by omega
      replace ht := hide ht
      go_wp2_with fail
      go_still_tail 13, (by kernel_rfl)
      go_wp2_with fail
      go_roundw
      case rel => exact ⟨j + 1, _, by omega, by go_num, hm2, hB2⟩
      case measure => simp [intOf]; omega
    · have ej : j = p := by omega
      subst ej
      have hcs : (ck + 1) % 4294967296 = cn c (k + 1) := by rw [← unhide hck]; exact cn_succ c k
      have hB2 : Hid (Bl w [⟨w.heap.size, kc K, 28⟩, ⟨w.heap.size + 1, kc N, 73⟩, ⟨g2, kc m, 5⟩, ⟨h3, uc A, 99⟩] wr) := Bl.left (L := [⟨w.heap.size, kc K, 28⟩, ⟨w.heap.size + 1, kc N, 73⟩, ⟨g2, kc m, 5⟩, ⟨h3, uc A, 99⟩]) (M := [⟨h4, kc D, 69⟩]) (unhide hB)
      have hm2 : Hid (m = fil (xf K N c B) (min q64 n) Z) := by rw [unhide hm, ← unhide he, show q + j = e from by omega]; exact rfl
      have hq2 : Hid (q64 = 64 * (k + 1)) := by have h1 := unhide hq; have h2 := unhide hq64; exact (show q64 = 64 * (k + 1) by omega)
      have hq3 : q64 ≤ n + 63 := by have := unhide hq64; omega
      have hq5 := unhide hq64
      replace hq5 : q < q64 := by omega
      clear hB hm hjl
      go_wp2_with fail

      go_roundw
      case rel => exact ⟨k + 1, q64, m, hq2, hq3, rfl, by rw [hcs], hm2, hB2⟩
      case measure => simp [intOf]; omega
  · have hM : m = xl K N c B := by
      rw [unhide hm, Nat.min_eq_right (by omega), ← hZl, fil_all, hZl, ← unhide hn]
      exact rfl
    have hP : Hid (∃ g, Ending.returned (.slice (some ⟨g2, 0, none⟩) n n) = .returned (.slice (some ⟨g, 0, none⟩) n n) ∧ w.heap.size ≤ g ∧ wr.heap[g]? = some (.cells (kc (xl K N c B)) 5 (0, 0)) ∧ Gr w wr) := ⟨g2, rfl, (unhide hB).own 2 (x := ⟨g2, kc m, 5⟩) rfl, (by rw [← hM]; exact (unhide hB).get 2 (x := ⟨g2, kc m, 5⟩) rfl), (unhide hB).gr⟩
    clear hM hB hm
    have qI : ¬ (q : Int) < (n : Int) := by omega
    go_wp2_with fail
    rw [unhide hT]
    exact unhide hP

theorem Tryd.info4 : (Tryd.prog.info? 93).map (·.size) = some 4 := by kernel_rfl
/-- four words in a row -/
def ql (q : Q4) : List Int := [q.a, q.b, q.c, q.d]
end Go.Proofs.YtdfcdklnngfhkaaDoor
