/-
  The first words of a block; the block.
-/
import Derived.Test.YtdekjbdkpchbjaaChaT
namespace Go.Proofs.Ytdekjbdkpchbjaa
open Go.RowKit
set_option maxRecDepth 100000
set_option linter.unusedSimpArgs false
set_option linter.unusedVariables false
/-- the words at first, a byte put to its word -/
def W0 : List Int := [1634760805, 857760878, 2036477234, 1797285236, 0, 0, 0, 0, 0, 0, 0, 0, 0, 0, 0, 0]
def kst (p n : Nat) (c : Int) (W : List Int) : List Int := W.set (p + n / 4) (bits .or .u32 (W.getD (p + n / 4) 0) (c * 2 ^ (n % 4 * 8) % 4294967296))
def kw (p : Nat) (K W : List Int) : Nat → List Int
  | 0 => W
  | n + 1 => kst p n (K.getD n 0) (kw p K W n)
theorem kw_len (p : Nat) (K W : List Int) : ∀ n, (kw p K W n).length = W.length
  | 0 => rfl
  | n + 1 => by rw [kw, kst, List.length_set, kw_len p K W n]
def bg (K N : List Int) : List Int := kw 13 N (kw 4 K W0 32) 12
theorem bg_len (K N : List Int) : (bg K N).length = 16 := by unfold bg; rw [kw_len, kw_len]; rfl
theorem Try.infoKey : (Try.prog.info? 23).map (·.size) = some 32 := by kernel_rfl
theorem Try.infoN : (Try.prog.info? 25).map (·.size) = some 12 := by kernel_rfl
set_option maxHeartbeats 4000000 in
theorem begin_ok (K N : List Int) (hK : K.length = 32) (hN : N.length = 12) (hKb : IsB K) (hNb : IsB N) (w : World) : Calls Try.prog 35 #[.agg (kc K), .agg (kc N)] w (Rnd (bg K N) w) := by
  obtain ⟨T, hT⟩ : ∃ T, T = Rnd (bg K N) w := ⟨_, rfl⟩
  rw [← hT]
  replace hT := hide hT
  obtain ⟨SK, hSK⟩ : ∃ S, S = kc K := ⟨_, rfl⟩
  obtain ⟨SN, hSN⟩ : ∃ S, S = kc N := ⟨_, rfl⟩
  rw [← hSK, ← hSN]
  have hKs : SK.size = 32 := by rw [hSK, kc_size, hK]
  have hNs : SN.size = 12 := by rw [hSN, kc_size, hN]
  replace hSK : Hid (∀ n, n < 32 → SK[n]? = some (.int .u8 (K.getD n 0))) := fun n hn => by rw [hSK]; exact kc_get K n (by omega)
  replace hSN : Hid (∀ n, n < 12 → SN[n]? = some (.int .u8 (N.getD n 0))) := fun n hn => by rw [hSN]; exact kc_get N n (by omega)
  replace hKb := hide hKb
  replace hNb := hide hNb
  go_enter Try.func35, Try.ntmps35
  go_upto_region 1 with fail
  have hB := (((Bl.nil w).new SK 23).new SN 25).new #[.int .u32 0, .int .u32 0, .int .u32 0, .int .u32 0, .int .u32 0, .int .u32 0, .int .u32 0, .int .u32 0, .int .u32 0, .int .u32 0, .int .u32 0, .int .u32 0, .int .u32 0, .int .u32 0, .int .u32 0, .int .u32 0] 61
  simp only [size_alloc, List.nil_append, List.cons_append] at hB
  generalize World.alloc _ _ = u at *
  refine wp_region_lit ?_
  refine list_val (.agg (uc W0)) (by kernel_rfl) (by kernel_rfl) ?_
  simp only [Act.put, List.setIfInBounds_toArray, List.set_cons_zero, List.set_cons_succ, List.getElem_toArray, List.getElem_cons_zero, List.getElem_cons_succ]
  replace hB := hide hB
  iterate 1 (refine wpList_step fun K hK => ?_; replace hK := hide hK; go_simp; refine unhide hK _ _ ?_; clear hK K)
  replace hB := (unhide hB).new #[.int .u32 0, .int .u32 0, .int .u32 0, .int .u32 0, .int .u32 0, .int .u32 0, .int .u32 0, .int .u32 0, .int .u32 0, .int .u32 0, .int .u32 0, .int .u32 0, .int .u32 0, .int .u32 0, .int .u32 0, .int .u32 0] 61
  simp only [List.nil_append, List.cons_append] at hB
  generalize World.alloc _ _ = u1 at *
  generalize u.heap.size = h3 at *
  replace hB : Bl w [⟨w.heap.size, SK, 23⟩, ⟨w.heap.size + 1, SN, 25⟩, ⟨w.heap.size + 1 + 1, uc Z16, 61⟩, ⟨h3, uc Z16, 61⟩] u1 := hB
  refine list_store 61 (.tmp 5) (.tmp 10) (h3) (uc W0) 61 (uc Z16) (by kernel_rfl) rfl (by kernel_rfl) (by kernel_rfl) (hB.get 3 (x := ⟨h3, uc Z16, 61⟩) rfl) (by rw [Try.info16, uc_size, (show W0.length = 16 from rfl)]) ((show (uc Z16).size = 16 from rfl).trans ((uc_size _).trans (show W0.length = 16 from rfl)).symm) (uc_one _) ?_
  replace hB := hB.set 3 (x := ⟨h3, uc Z16, 61⟩) rfl (uc W0)
  simp only [List.set_cons_zero, List.set_cons_succ] at hB
  generalize World.setRow _ _ _ = u2 at *
  simp only [Act.put, List.setIfInBounds_toArray, List.set_cons_zero, List.set_cons_succ, List.getElem_toArray, List.getElem_cons_zero, List.getElem_cons_succ]
  refine wpList_nil ?_
  replace hB := hide hB
  go_upto_region 2 with fail
  replace hB := unhide hB
  refine wp_region_lit ?_
  refine list_val (.agg SK) (by kernel_rfl) (exec_arr _ 23 (.tmp 2) rfl (w.heap.size) (by kernel_rfl) SK 23 _ (hB.get 0 (x := ⟨w.heap.size, SK, 23⟩) rfl) Try.underlying23 rfl (by rw [Try.infoKey, hKs])) ?_
  simp only [Act.put, List.setIfInBounds_toArray, List.set_cons_zero, List.set_cons_succ, List.getElem_toArray, List.getElem_cons_zero, List.getElem_cons_succ]
  refine list_val (.int .i64 0) (by kernel_rfl) (by kernel_rfl) ?_
  simp only [Act.put, List.setIfInBounds_toArray, List.set_cons_zero, List.set_cons_succ, List.getElem_toArray, List.getElem_cons_zero, List.getElem_cons_succ]
  refine wpList_nil ?_
  replace hB := hide hB
  go_wp2_with fail
  go_loopw [12] (fun i wr => ∃ n : Nat, ∃ m : List Int, n ≤ 32 ∧ i = .int .i64 n ∧ Hid (m = kw 4 K W0 n) ∧ Hid (Bl w [⟨w.heap.size, SK, 23⟩, ⟨w.heap.size + 1, SN, 25⟩, ⟨w.heap.size + 1 + 1, uc Z16, 61⟩, ⟨h3, uc m, 61⟩] wr)) (fun i _ => 32 - (intOf i).toNat)
  case atStart => exact ⟨0, W0, by omega, rfl, rfl, hB⟩
  case round =>
  clear hB
  obtain ⟨n, m, hn, rfl, hm, hB⟩ := hrel
  have hml : m.length = 16 := by rw [unhide hm, kw_len]; rfl
  by_cases hl : n < 32
  · have cx := index_K SK n _ hl ((unhide hSK) n hl)
    obtain ⟨q, hq⟩ : ∃ q, q = n / 4 := ⟨_, rfl⟩
    obtain ⟨q4, hq4⟩ : ∃ q4, q4 = 4 + n / 4 := ⟨_, rfl⟩
    obtain ⟨s, hs⟩ : ∃ s, s = n % 4 := ⟨_, rfl⟩
    obtain ⟨s8, hs8⟩ : ∃ s8, s8 = n % 4 * 8 := ⟨_, rfl⟩
    have c0 := uc_cell ((unhide hB).get 3 (x := ⟨h3, uc m, 61⟩) rfl) q4 (by omega)
    have fz := froz_of (i := q4) ((unhide hB).get 3 (x := ⟨h3, uc m, 61⟩) rfl)
    have hm2 : Hid (m.set q4 (bits .or .u32 (m.getD q4 0) (K.getD n 0 * 2 ^ s8 % 4294967296)) = kw 4 K W0 (n + 1)) := by
      rw [kw, ← unhide hm, kst, ← hq4, ← hs8]
      exact rfl
    have hB2 := (unhide hB).drew.cell 3 (x := ⟨h3, uc m, 61⟩) rfl q4 (.int .u32 (bits .or .u32 (m.getD q4 0) (K.getD n 0 * 2 ^ s8 % 4294967296)))
    simp only [List.set_cons_zero, List.set_cons_succ, uc_set] at hB2
    have hbr := (unhide hKb).at_ n
    generalize K.getD n 0 = x at *
    generalize m.getD q4 0 = z at *
    replace hB2 := hide hB2
    have nI : (n : Int) < 32 := by omega
    have nT : 0 ≤ (n : Int) := by omega
    have qI : (q4 : Int) < 16 := by omega
    have q2 : q4 < 16 := by omega
    have e1 : (n : Int).tdiv 4 = (q : Int) := by rw [Int.tdiv_eq_ediv_of_nonneg nT]; omega
    have e2 : (n : Int).tmod 4 = (s : Int) := by rw [Int.tmod_eq_emod_of_nonneg nT]; omega
    have e3 : (s : Int) * 8 = (s8 : Int) := by omega
    have e4 : 4 + (q : Int) = (q4 : Int) := by omega
    have g1 : IntKind.i64.wrap (q : Int) = (q : Int) := by rw [IntKind.wrap_i64]; omega
    have g6 : IntKind.i64.wrap (q4 : Int) = (q4 : Int) := by rw [IntKind.wrap_i64]; omega
    have g2 : IntKind.i64.wrap (s8 : Int) = (s8 : Int) := by rw [IntKind.wrap_i64]; omega
    have g3 : 0 ≤ (s8 : Int) := by omega
    have g4 : s8 ≤ 32 := by omega
    have g5 : min s8 32 = s8 := by omega
    replace hq := hide hq
    replace hq4 := hide hq4
    replace hs := hide hs
    replace hs8 := hide hs8
    clear hn
    go_wp2_with fail
    go_still_tail 13, (by kernel_rfl)
    go_wp2_with fail
    go_roundw
    case rel => exact ⟨n + 1, _, by omega, by go_num, hm2, hB2⟩
    case measure => simp [intOf]; omega
  · have e : n = 32 := by omega
    subst e
    clear hl
    have hpl : Hid (m.length = 16) := hml
    clear hml
    obtain ⟨P, hp⟩ : ∃ P, P = m := ⟨_, rfl⟩
    rw [← hp] at hm hpl hB
    clear hp m
    have hp : Hid (P = kw 4 K W0 32) := hm
    clear hm
    go_upto_region 7 with fail
    replace hB := unhide hB
    refine wp_region_lit ?_
    refine list_val (.agg SN) (by kernel_rfl) (exec_arr _ 25 (.tmp 3) rfl (w.heap.size + 1) (by kernel_rfl) SN 25 _ (hB.get 1 (x := ⟨w.heap.size + 1, SN, 25⟩) rfl) Try.underlying25 rfl (by rw [Try.infoN, hNs])) ?_
    simp only [Act.put, List.setIfInBounds_toArray, List.set_cons_zero, List.set_cons_succ, List.getElem_toArray, List.getElem_cons_zero, List.getElem_cons_succ]
    refine list_val (.int .i64 0) (by kernel_rfl) (by kernel_rfl) ?_
    simp only [Act.put, List.setIfInBounds_toArray, List.set_cons_zero, List.set_cons_succ, List.getElem_toArray, List.getElem_cons_zero, List.getElem_cons_succ]
    refine wpList_nil ?_
    replace hB := hide hB
    go_wp2_with fail
    go_loopw [31] (fun i wr => ∃ n : Nat, ∃ m : List Int, n ≤ 12 ∧ i = .int .i64 n ∧ Hid (m = kw 13 N P n) ∧ Hid (Bl w [⟨w.heap.size, SK, 23⟩, ⟨w.heap.size + 1, SN, 25⟩, ⟨w.heap.size + 1 + 1, uc Z16, 61⟩, ⟨h3, uc m, 61⟩] wr)) (fun i _ => 12 - (intOf i).toNat)
    case atStart => exact ⟨0, P, by omega, rfl, rfl, hB⟩
    case round =>
    clear hB
    obtain ⟨n, m, hn, rfl, hm, hB⟩ := hrel
    have hml : m.length = 16 := by rw [unhide hm, kw_len]; exact unhide hpl
    by_cases hl : n < 12
    · have cx := index_N SN n _ hl ((unhide hSN) n hl)
      obtain ⟨q, hq⟩ : ∃ q, q = n / 4 := ⟨_, rfl⟩
      obtain ⟨q4, hq4⟩ : ∃ q4, q4 = 13 + n / 4 := ⟨_, rfl⟩
      obtain ⟨s, hs⟩ : ∃ s, s = n % 4 := ⟨_, rfl⟩
      obtain ⟨s8, hs8⟩ : ∃ s8, s8 = n % 4 * 8 := ⟨_, rfl⟩
      have c0 := uc_cell ((unhide hB).get 3 (x := ⟨h3, uc m, 61⟩) rfl) q4 (by omega)
      have fz := froz_of (i := q4) ((unhide hB).get 3 (x := ⟨h3, uc m, 61⟩) rfl)
      have hm2 : Hid (m.set q4 (bits .or .u32 (m.getD q4 0) (N.getD n 0 * 2 ^ s8 % 4294967296)) = kw 13 N P (n + 1)) := by
        rw [kw, ← unhide hm, kst, ← hq4, ← hs8]
        exact rfl
      have hB2 := (unhide hB).drew.cell 3 (x := ⟨h3, uc m, 61⟩) rfl q4 (.int .u32 (bits .or .u32 (m.getD q4 0) (N.getD n 0 * 2 ^ s8 % 4294967296)))
      simp only [List.set_cons_zero, List.set_cons_succ, uc_set] at hB2
      have hbr := (unhide hNb).at_ n
      generalize N.getD n 0 = x at *
      generalize m.getD q4 0 = z at *
      replace hB2 := hide hB2
      have nI : (n : Int) < 12 := by omega
      have nT : 0 ≤ (n : Int) := by omega
      have qI : (q4 : Int) < 16 := by omega
      have q2 : q4 < 16 := by omega
      have e1 : (n : Int).tdiv 4 = (q : Int) := by rw [Int.tdiv_eq_ediv_of_nonneg nT]; omega
      have e2 : (n : Int).tmod 4 = (s : Int) := by rw [Int.tmod_eq_emod_of_nonneg nT]; omega
      have e3 : (s : Int) * 8 = (s8 : Int) := by omega
      have e4 : 13 + (q : Int) = (q4 : Int) := by omega
      have g1 : IntKind.i64.wrap (q : Int) = (q : Int) := by rw [IntKind.wrap_i64]; omega
      have g6 : IntKind.i64.wrap (q4 : Int) = (q4 : Int) := by rw [IntKind.wrap_i64]; omega
      have g2 : IntKind.i64.wrap (s8 : Int) = (s8 : Int) := by rw [IntKind.wrap_i64]; omega
      have g3 : 0 ≤ (s8 : Int) := by omega
      have g4 : s8 ≤ 32 := by omega
      have g5 : min s8 32 = s8 := by omega
      replace hq := hide hq
      replace hq4 := hide hq4
      replace hs := hide hs
      replace hs8 := hide hs8
      clear hn
      go_wp2_with fail
      go_still_tail 13, (by kernel_rfl)
      go_wp2_with fail
      go_roundw
      case rel => exact ⟨_, _, _, _, _, _, _, _, _, _, _, _, _, _, _, _, _, _, _, _, ⟨n + 1, _, by omega, by go_num, hm2, hB2⟩, rfl⟩
      case measure => simp [intOf]; omega
    · have e : n = 12 := by omega
      subst e
      go_upto_region 12 with fail
      replace hB := unhide hB
      refine wp_region_lit ?_
      refine list_val (.agg (uc m)) (by kernel_rfl) (exec_arr _ 61 (.tmp 5) rfl (h3) (by kernel_rfl) (uc m) 61 _ (hB.get 3 (x := ⟨h3, uc m, 61⟩) rfl) Try.underlying61 rfl (by rw [Try.info16, uc_size, hml])) ?_
      simp only [Act.put, List.setIfInBounds_toArray, List.set_cons_zero, List.set_cons_succ, List.getElem_toArray, List.getElem_cons_zero, List.getElem_cons_succ]
      refine list_store 61 (.tmp 4) (.tmp 49) (w.heap.size + 1 + 1) (uc m) 61 (uc Z16) (by kernel_rfl) rfl (by kernel_rfl) (by kernel_rfl) (hB.get 2 (x := ⟨w.heap.size + 1 + 1, uc Z16, 61⟩) rfl) (by rw [Try.info16, uc_size, hml]) ((show (uc Z16).size = 16 from rfl).trans ((uc_size _).trans hml).symm) (uc_one _) ?_
      replace hB := hB.set 2 (x := ⟨w.heap.size + 1 + 1, uc Z16, 61⟩) rfl (uc m)
      simp only [List.set_cons_zero, List.set_cons_succ] at hB
      generalize World.setRow _ _ _ = u3 at *
      simp only [Act.put, List.setIfInBounds_toArray, List.set_cons_zero, List.set_cons_succ, List.getElem_toArray, List.getElem_cons_zero, List.getElem_cons_succ]
      refine wpList_nil ?_
      go_wp2_with fail
      rw [unhide hT, bg, ← unhide hp, ← unhide hm]
      exact bodyPost_ret (v := .agg (uc m)) (results_cell_row Try.results35 _ _ (w.heap.size + 1 + 1) 61 (uc m) (0, 0) _ rfl (hB.get 2 (x := ⟨w.heap.size + 1 + 1, uc m, 61⟩) rfl) Try.underlying61 rfl (by rw [Try.info16, uc_size, hml])) rfl (⟨rfl, hB.gr⟩)
/-- the block of first words -/
def wb (A : List Int) (c : Int) : List Int := bts (sm (rn (A.set 12 c) 10) (A.set 12 c))
theorem wb_len (A : List Int) (c : Int) : (wb A c).length = 64 := bts_len _
set_option maxHeartbeats 4000000 in
theorem wblock_ok (A : List Int) (hA : A.length = 16) (c : Int) (w : World) : Calls Try.prog 36 #[.agg (uc A), .int .u32 c] w (Bts (wb A c) w) := by
  obtain ⟨T, hT⟩ : ∃ T, T = Bts (wb A c) w := ⟨_, rfl⟩
  rw [← hT]
  unfold wb at hT
  replace hT := hide hT
  obtain ⟨SA, hSA⟩ : ∃ S, S = uc A := ⟨_, rfl⟩
  rw [← hSA]
  replace hSA := hide hSA
  go_enter Try.func36, Try.ntmps36
  go_upto_region 1 with fail
  have hB := ((Bl.nil w).new SA 61).new #[.int .u8 0, .int .u8 0, .int .u8 0, .int .u8 0, .int .u8 0, .int .u8 0, .int .u8 0, .int .u8 0, .int .u8 0, .int .u8 0, .int .u8 0, .int .u8 0, .int .u8 0, .int .u8 0, .int .u8 0, .int .u8 0, .int .u8 0, .int .u8 0, .int .u8 0, .int .u8 0, .int .u8 0, .int .u8 0, .int .u8 0, .int .u8 0, .int .u8 0, .int .u8 0, .int .u8 0, .int .u8 0, .int .u8 0, .int .u8 0, .int .u8 0, .int .u8 0, .int .u8 0, .int .u8 0, .int .u8 0, .int .u8 0, .int .u8 0, .int .u8 0, .int .u8 0, .int .u8 0, .int .u8 0, .int .u8 0, .int .u8 0, .int .u8 0, .int .u8 0, .int .u8 0, .int .u8 0, .int .u8 0, .int .u8 0, .int .u8 0, .int .u8 0, .int .u8 0, .int .u8 0, .int .u8 0, .int .u8 0, .int .u8 0, .int .u8 0, .int .u8 0, .int .u8 0, .int .u8 0, .int .u8 0, .int .u8 0, .int .u8 0, .int .u8 0] 56
  simp only [size_alloc, List.nil_append, List.cons_append] at hB
  generalize World.alloc _ _ = u at *
  rw [unhide hSA] at hB
  replace hB : Bl w [⟨w.heap.size, uc A, 61⟩, ⟨w.heap.size + 1, kc Z64, 56⟩] u := hB
  have c0 := uc_cell (hB.get 0 (x := ⟨w.heap.size, uc A, 61⟩) rfl) 12 (by omega)
  have fz := froz_of (i := 12) (hB.get 0 (x := ⟨w.heap.size, uc A, 61⟩) rfl)
  generalize A.getD 12 0 = z at c0
  replace hB := hB.cell 0 (x := ⟨w.heap.size, uc A, 61⟩) rfl 12 (.int .u32 c)
  simp only [List.set_cons_zero, List.set_cons_succ, uc_set] at hB
  have hVl : (A.set 12 c).length = 16 := by simp [hA]
  generalize A.set 12 c = V at *
  replace hB := hide hB
  go_upto_region 2 with fail
  replace hB := unhide hB
  generalize World.setCell _ _ _ = u1 at *
  clear c0 fz
  refine any_start (S := fun v => ∃ c, Bl w [⟨w.heap.size, uc V, 61⟩, ⟨w.heap.size + 1, c, 56⟩] v) (by kernel_rfl) ?_
  replace hB := hB.drew
  generalize World.drew _ = u2 at *
  simp only [List.size_toArray, List.length_cons, List.length_nil, Array.replicate, List.replicate]
  refine any_take (i := 0) (v := .agg (uc V)) #[false, false, false, false, false, false] rfl (by kernel_rfl) (by kernel_rfl) (by kernel_rfl) (by kernel_rfl) (fun _ _ _ h => h) (.inl ⟨by kernel_rfl, fun x_ hu => by obtain ⟨c', hu⟩ := hu; exact exec_arr _ 61 (.tmp 2) rfl (w.heap.size) (by kernel_rfl) (uc V) 61 _ (hu.get 0 (x := ⟨w.heap.size, uc V, 61⟩) rfl) Try.underlying61 rfl (by rw [Try.info16, uc_size, hVl])⟩) ⟨_, hB⟩ ?_
  simp only [Act.put, List.setIfInBounds_toArray, List.set_cons_zero, List.set_cons_succ, List.getElem_toArray, List.getElem_cons_zero, List.getElem_cons_succ]
  refine any_take (i := 2) (v := .agg (uc V)) #[true, false, false, false, false, false] rfl (by kernel_rfl) (by kernel_rfl) (by kernel_rfl) (by kernel_rfl) (fun _ _ _ h => h) (.inl ⟨by kernel_rfl, fun x_ hu => by obtain ⟨c', hu⟩ := hu; exact exec_arr _ 61 (.tmp 2) rfl (w.heap.size) (by kernel_rfl) (uc V) 61 _ (hu.get 0 (x := ⟨w.heap.size, uc V, 61⟩) rfl) Try.underlying61 rfl (by rw [Try.info16, uc_size, hVl])⟩) ⟨_, hB⟩ ?_
  simp only [Act.put, List.setIfInBounds_toArray, List.set_cons_zero, List.set_cons_succ, List.getElem_toArray, List.getElem_cons_zero, List.getElem_cons_succ]
  refine any_one (i := 1) (by kernel_rfl) rfl (fun K hK => ?_)
  refine step_callw (by kernel_rfl) 55 #[.agg (uc V)] (by kernel_rfl) ((rounds_ok V hVl _).mono ?_)
  rintro r u3 ⟨rfl, hg⟩
  refine ⟨_, rfl, ?_⟩
  replace hB := hB.more hg
  clear hg
  refine hK.out _ _ ⟨_, hB⟩ (fun _ => ?_)
  clear hK K
  simp only [Act.put, List.setIfInBounds_toArray, List.set_cons_zero, List.set_cons_succ, List.getElem_toArray, List.getElem_cons_zero, List.getElem_cons_succ]
  have hRl := (rn_len V 10).trans hVl
  generalize rn V 10 = R at *
  refine any_one (i := 3) (by kernel_rfl) rfl (fun K hK => ?_)
  refine step_callw (by kernel_rfl) 56 #[.agg (uc R), .agg (uc V)] (by kernel_rfl) ((and_ok R V hRl hVl _).mono ?_)
  rintro r u4 ⟨rfl, hg⟩
  refine ⟨_, rfl, ?_⟩
  replace hB := hB.more hg
  clear hg
  refine hK.out _ _ ⟨_, hB⟩ (fun _ => ?_)
  clear hK K
  simp only [Act.put, List.setIfInBounds_toArray, List.set_cons_zero, List.set_cons_succ, List.getElem_toArray, List.getElem_cons_zero, List.getElem_cons_succ]
  have hSl := sm_len R V
  generalize sm R V = M at *
  refine any_one (i := 4) (by kernel_rfl) rfl (fun K hK => ?_)
  refine step_callw (by kernel_rfl) 57 #[.agg (uc M)] (by kernel_rfl) ((bytes_ok M hSl _).mono ?_)
  rintro r u5 ⟨rfl, hg⟩
  refine ⟨_, rfl, ?_⟩
  replace hB := hB.more hg
  clear hg
  refine hK.out _ _ ⟨_, hB⟩ (fun _ => ?_)
  clear hK K
  simp only [Act.put, List.setIfInBounds_toArray, List.set_cons_zero, List.set_cons_succ, List.getElem_toArray, List.getElem_cons_zero, List.getElem_cons_succ]
  have hDl := bts_len M
  generalize bts M = D at *
  refine any_one (i := 5) (by kernel_rfl) rfl (fun K hK => ?_)
  rw [if_pos (by kernel_rfl)]
  refine wp_store_row 56 (.tmp 4) (.tmp 11) rfl (w.heap.size + 1) (kc D) (by kernel_rfl) (by kernel_rfl) 56 (kc Z64) (hB.get 1 (x := ⟨w.heap.size + 1, kc Z64, 56⟩) rfl) (by rw [Try.info64, kc_size, hDl]) ((show (kc Z64).size = 64 from rfl).trans ((kc_size _).trans hDl).symm) (kc_one _) ?_
  replace hB := hB.set 1 (x := ⟨w.heap.size + 1, kc Z64, 56⟩) rfl (kc D)
  simp only [List.set_cons_zero, List.set_cons_succ] at hB
  generalize World.setRow _ _ _ = u6 at *
  refine hK.out _ _ ⟨_, hB⟩ (fun _ => ?_)
  clear hK K
  simp only [Act.put, List.setIfInBounds_toArray, List.set_cons_zero, List.set_cons_succ, List.getElem_toArray, List.getElem_cons_zero, List.getElem_cons_succ]
  refine any_done (by kernel_rfl) ?_
  go_wp2_with fail
  rw [unhide hT]
  exact bodyPost_ret (v := .agg (kc D)) (results_cell_row Try.results36 _ _ (w.heap.size + 1) 56 (kc D) (0, 0) _ rfl (hB.get 1 (x := ⟨w.heap.size + 1, kc D, 56⟩) rfl) Try.underlying56 rfl (by rw [Try.info64, kc_size, hDl])) rfl (⟨rfl, hB.gr⟩)

/-- the block -/
def bk (K N : List Int) (c : Int) : List Int := wb (bg K N) c
theorem bk_len (K N : List Int) (c : Int) : (bk K N c).length = 64 := wb_len _ _
set_option maxHeartbeats 4000000 in
theorem block_ok (K N : List Int) (hK : K.length = 32) (hN : N.length = 12) (hKb : IsB K) (hNb : IsB N) (c : Int) (w : World) : Calls Try.prog 39 #[.agg (kc K), .int .u32 c, .agg (kc N)] w (Bts (bk K N c) w) := by
  obtain ⟨T, hT⟩ : ∃ T, T = Bts (bk K N c) w := ⟨_, rfl⟩
  rw [← hT]
  unfold bk at hT
  replace hT := hide hT
  obtain ⟨SK, hSK⟩ : ∃ S, S = kc K := ⟨_, rfl⟩
  obtain ⟨SN, hSN⟩ : ∃ S, S = kc N := ⟨_, rfl⟩
  rw [← hSK, ← hSN]
  replace hSK := hide hSK
  replace hSN := hide hSN
  replace hKb := hide hKb
  replace hNb := hide hNb
  go_enter Try.func39, Try.ntmps39
  go_upto_region 1 with fail
  have hB := (((Bl.nil w).new SK 23).new SN 25).new #[.int .u8 0, .int .u8 0, .int .u8 0, .int .u8 0, .int .u8 0, .int .u8 0, .int .u8 0, .int .u8 0, .int .u8 0, .int .u8 0, .int .u8 0, .int .u8 0, .int .u8 0, .int .u8 0, .int .u8 0, .int .u8 0, .int .u8 0, .int .u8 0, .int .u8 0, .int .u8 0, .int .u8 0, .int .u8 0, .int .u8 0, .int .u8 0, .int .u8 0, .int .u8 0, .int .u8 0, .int .u8 0, .int .u8 0, .int .u8 0, .int .u8 0, .int .u8 0, .int .u8 0, .int .u8 0, .int .u8 0, .int .u8 0, .int .u8 0, .int .u8 0, .int .u8 0, .int .u8 0, .int .u8 0, .int .u8 0, .int .u8 0, .int .u8 0, .int .u8 0, .int .u8 0, .int .u8 0, .int .u8 0, .int .u8 0, .int .u8 0, .int .u8 0, .int .u8 0, .int .u8 0, .int .u8 0, .int .u8 0, .int .u8 0, .int .u8 0, .int .u8 0, .int .u8 0, .int .u8 0, .int .u8 0, .int .u8 0, .int .u8 0, .int .u8 0] 56
  simp only [size_alloc, List.nil_append, List.cons_append] at hB
  generalize World.alloc _ _ = u at *
  rw [unhide hSK, unhide hSN] at hB
  replace hB : Bl w [⟨w.heap.size, kc K, 23⟩, ⟨w.heap.size + 1, kc N, 25⟩, ⟨w.heap.size + 1 + 1, kc Z64, 56⟩] u := hB
  refine wp_region_lit ?_
  refine list_val (.agg (kc K)) (by kernel_rfl) (exec_arr _ 23 (.tmp 3) rfl (w.heap.size) (by kernel_rfl) (kc K) 23 _ (hB.get 0 (x := ⟨w.heap.size, kc K, 23⟩) rfl) Try.underlying23 rfl (by rw [Try.infoKey, kc_size, hK])) ?_
  simp only [Act.put, List.setIfInBounds_toArray, List.set_cons_zero, List.set_cons_succ, List.getElem_toArray, List.getElem_cons_zero, List.getElem_cons_succ]
  refine list_val (.agg (kc N)) (by kernel_rfl) (exec_arr _ 25 (.tmp 5) rfl (w.heap.size + 1) (by kernel_rfl) (kc N) 25 _ (hB.get 1 (x := ⟨w.heap.size + 1, kc N, 25⟩) rfl) Try.underlying25 rfl (by rw [Try.infoN, kc_size, hN])) ?_
  simp only [Act.put, List.setIfInBounds_toArray, List.set_cons_zero, List.set_cons_succ, List.getElem_toArray, List.getElem_cons_zero, List.getElem_cons_succ]
  refine list_call 35 #[.agg (kc K), .agg (kc N)] (by kernel_rfl) (by kernel_rfl) ((begin_ok K N hK hN (unhide hKb) (unhide hNb) _).mono ?_)
  rintro r u1 ⟨rfl, hg⟩
  refine ⟨_, rfl, ?_⟩
  replace hB := hB.more hg
  clear hg
  simp only [Act.put, List.setIfInBounds_toArray, List.set_cons_zero, List.set_cons_succ, List.getElem_toArray, List.getElem_cons_zero, List.getElem_cons_succ]
  have hGl := bg_len K N
  generalize bg K N = A at *
  refine list_val (.int .u32 c) (by kernel_rfl) (by kernel_rfl) ?_
  simp only [Act.put, List.setIfInBounds_toArray, List.set_cons_zero, List.set_cons_succ, List.getElem_toArray, List.getElem_cons_zero, List.getElem_cons_succ]
  refine list_call 36 #[.agg (uc A), .int .u32 c] (by kernel_rfl) (by kernel_rfl) ((wblock_ok A hGl c _).mono ?_)
  rintro r u2 ⟨rfl, hg⟩
  refine ⟨_, rfl, ?_⟩
  replace hB := hB.more hg
  clear hg
  simp only [Act.put, List.setIfInBounds_toArray, List.set_cons_zero, List.set_cons_succ, List.getElem_toArray, List.getElem_cons_zero, List.getElem_cons_succ]
  have hDl := wb_len A c
  generalize wb A c = D at *
  refine list_store 56 (.tmp 6) (.tmp 11) (w.heap.size + 1 + 1) (kc D) 56 (kc Z64) (by kernel_rfl) rfl (by kernel_rfl) (by kernel_rfl) (hB.get 2 (x := ⟨w.heap.size + 1 + 1, kc Z64, 56⟩) rfl) (by rw [Try.info64, kc_size, hDl]) ((show (kc Z64).size = 64 from rfl).trans ((kc_size _).trans hDl).symm) (kc_one _) ?_
  replace hB := hB.set 2 (x := ⟨w.heap.size + 1 + 1, kc Z64, 56⟩) rfl (kc D)
  simp only [List.set_cons_zero, List.set_cons_succ] at hB
  generalize World.setRow _ _ _ = u3 at *
  simp only [Act.put, List.setIfInBounds_toArray, List.set_cons_zero, List.set_cons_succ, List.getElem_toArray, List.getElem_cons_zero, List.getElem_cons_succ]
  refine wpList_nil ?_
  go_wp2_with fail
  rw [unhide hT]
  exact bodyPost_ret (v := .agg (kc D)) (results_cell_row Try.results39 _ _ (w.heap.size + 1 + 1) 56 (kc D) (0, 0) _ rfl (hB.get 2 (x := ⟨w.heap.size + 1 + 1, kc D, 56⟩) rfl) Try.underlying56 rfl (by rw [Try.info64, kc_size, hDl])) rfl (⟨rfl, hB.gr⟩)
end Go.Proofs.Ytdekjbdkpchbjaa
