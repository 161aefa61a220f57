/-
  The reference: the bytes of the multiplier.
-/
import Derived.Test.YtdekjbdkpchbjaaPolyG
namespace Go.Proofs.Ytdekjbdkpchbjaa
open Go.RowKit
set_option maxRecDepth 100000
set_option linter.unusedSimpArgs false
set_option linter.unusedVariables false
theorem Try.infoT : (Try.prog.info? 41).map (·.size) = some 16 := by kernel_rfl
/-- a byte of the multiplier -/
def cl (i : Nat) (x : Int) : Int := if i = 3 ∨ i = 7 ∨ i = 11 ∨ i = 15 then x % 16 else if i = 4 ∨ i = 8 ∨ i = 12 then x / 4 * 4 else x
def clf (K : List Int) (i : Nat) : Int := cl i (K.getD i 0)
def clL (K : List Int) : List Int := (List.range 16).map (clf K)
def ZT : List Int := List.replicate 16 0
theorem clL_len (K : List Int) : (clL K).length = 16 := by simp [clL]
theorem cl_rng (i : Nat) (x : Int) (h : 0 ≤ x ∧ x < 256) : 0 ≤ cl i x ∧ cl i x < 256 := by
  unfold cl
  split
  · omega
  · split <;> omega
theorem clL_isB (K : List Int) (h : IsB K) : IsB (clL K) := fun x hx => by
  unfold clL at hx
  obtain ⟨i, _, rfl⟩ := List.mem_map.1 hx
  exact cl_rng _ _ (h.at_ i)
def Tg (L : List Int) (w : World) (r : Ending) (w' : World) : Prop := r = .returned (.agg (kc L)) ∧ Gr w w'
set_option maxHeartbeats 8000000 in
theorem rclamp_ok (K : List Int) (hK : K.length = 32) (hKb : IsB K) (w : World) : Calls Try.prog 49 #[.agg (kc K)] w (Tg (clL K) w) := by
  obtain ⟨T, hT⟩ : ∃ T, T = Tg (clL K) w := ⟨_, rfl⟩
  rw [← hT]
  replace hT := hide hT
  obtain ⟨SK, hSK⟩ : ∃ S, S = kc K := ⟨_, rfl⟩
  rw [← hSK]
  replace hSK := hide hSK
  replace hKb := hide hKb
  go_enter Try.func49, Try.ntmps49
  go_wp2_with fail
  have hB := (((Bl.nil w).new SK 23).new #[.int .u8 0, .int .u8 0, .int .u8 0, .int .u8 0, .int .u8 0, .int .u8 0, .int .u8 0, .int .u8 0, .int .u8 0, .int .u8 0, .int .u8 0, .int .u8 0, .int .u8 0, .int .u8 0, .int .u8 0, .int .u8 0] 41).new #[.int .u8 0, .int .u8 0, .int .u8 0, .int .u8 0, .int .u8 0, .int .u8 0, .int .u8 0, .int .u8 0, .int .u8 0, .int .u8 0, .int .u8 0, .int .u8 0, .int .u8 0, .int .u8 0, .int .u8 0, .int .u8 0] 41
  simp only [size_alloc, List.nil_append, List.cons_append] at hB
  generalize World.alloc _ _ = u at *
  rw [unhide hSK] at hB
  replace hB : Hid (Bl w [⟨w.heap.size, kc K, 23⟩, ⟨w.heap.size + 1, kc ZT, 41⟩, ⟨w.heap.size + 1 + 1, kc ZT, 41⟩] u) := hB
  go_loopw [4] (fun i wr => ∃ i' : Nat, ∃ m : List Int, i' ≤ 16 ∧ i = .int .i64 i' ∧ Hid (m = fil (clf K) i' ZT) ∧ Hid (Bl w [⟨w.heap.size, kc K, 23⟩, ⟨w.heap.size + 1, kc ZT, 41⟩, ⟨w.heap.size + 1 + 1, kc m, 41⟩] wr)) (fun i _ => 16 - (intOf i).toNat)
  case atStart => exact ⟨0, ZT, by omega, rfl, (fil_zero _ _).symm, hB⟩
  case round =>
  clear hB
  obtain ⟨i, m, hi, rfl, hm, hB⟩ := hrel
  have hzl : ZT.length = 16 := rfl
  have hml : m.length = 16 := by rw [unhide hm, fil_len _ _ _ (by omega)]; rfl
  by_cases hil : i < 16
  · obtain ⟨x, hx⟩ : ∃ x, x = K.getD i 0 := ⟨_, rfl⟩
    have hxr : 0 ≤ x ∧ x < 256 := by rw [hx]; exact (unhide hKb).at_ i
    have c0 := kc_cell ((unhide hB).get 0 (x := ⟨w.heap.size, kc K, 23⟩) rfl) i (by omega)
    rw [← hx] at c0
    have c1 := kc_cell ((unhide hB).get 2 (x := ⟨w.heap.size + 1 + 1, kc m, 41⟩) rfl) i (by omega)
    have f1 := froz_of (i := i) ((unhide hB).get 2 (x := ⟨w.heap.size + 1 + 1, kc m, 41⟩) rfl)
    generalize m.getD i 0 = z at c1
    have hB1 := (unhide hB).cell 2 (x := ⟨w.heap.size + 1 + 1, kc m, 41⟩) rfl i (.int .u8 x)
    simp only [List.set_cons_zero, List.set_cons_succ, kc_set] at hB1
    have hm2 : Hid (m.set i (cl i x) = fil (clf K) (i + 1) ZT) := by
      rw [hx, unhide hm]
      exact fil_set (clf K) _ _ (by omega)
    have iI : (i : Int) < 16 := by omega
    replace hx := hide hx
    have c2 := kc_cell (hB1.get 2 (x := ⟨w.heap.size + 1 + 1, kc (m.set i x), 41⟩) rfl) i (by rw [List.length_set]; omega)
    have f2 := froz_of (i := i) (hB1.get 2 (x := ⟨w.heap.size + 1 + 1, kc (m.set i x), 41⟩) rfl)
    rw [getD_set m i i x (by omega), if_pos rfl] at c2
    have hB3 := hB1.cell 2 (x := ⟨w.heap.size + 1 + 1, kc (m.set i x), 41⟩) rfl i (.int .u8 (cl i x))
    simp only [List.set_cons_zero, List.set_cons_succ, kc_set, List.set_set] at hB3
    replace hB1 := hide hB1
    replace hB3 := hide hB3
    clear hB
    have hd : i = 0 ∨ i = 1 ∨ i = 2 ∨ i = 3 ∨ i = 4 ∨ i = 5 ∨ i = 6 ∨ i = 7 ∨ i = 8 ∨ i = 9 ∨ i = 10 ∨ i = 11 ∨ i = 12 ∨ i = 13 ∨ i = 14 ∨ i = 15 := by omega
    clear hil hi
    rcases hd with rfl | rfl | rfl | rfl | rfl | rfl | rfl | rfl | rfl | rfl | rfl | rfl | rfl | rfl | rfl | rfl
    · have hc : cl 0 x = x := rfl
      rw [hc] at hm2
      clear hB3
      go_wp2_with fail
      go_roundw
      case rel => exact ⟨1, _, by omega, by go_num, hm2, hB1⟩
      case measure => simp [intOf]
    · have hc : cl 1 x = x := rfl
      rw [hc] at hm2
      clear hB3
      go_wp2_with fail
      go_roundw
      case rel => exact ⟨2, _, by omega, by go_num, hm2, hB1⟩
      case measure => simp [intOf]
    · have hc : cl 2 x = x := rfl
      rw [hc] at hm2
      clear hB3
      go_wp2_with fail
      go_roundw
      case rel => exact ⟨3, _, by omega, by go_num, hm2, hB1⟩
      case measure => simp [intOf]
    · have hc : cl 3 x = x % 16 := rfl
      have e1 : x.tmod 16 = x % 16 := Int.tmod_eq_emod_of_nonneg hxr.1
      rw [hc] at hB3 hm2
      generalize hy : x % 16 = y at *
      replace hy := hide hy
      go_wp2_with fail
      go_roundw
      case rel => exact ⟨4, _, by omega, by go_num, hm2, hB3⟩
      case measure => simp [intOf]
    · have hc : cl 4 x = x / 4 * 4 := rfl
      have e1 : x.tdiv 4 = x / 4 := Int.tdiv_eq_ediv_of_nonneg hxr.1
      have e2 : IntKind.u8.wrap (x / 4) = x / 4 := by rw [IntKind.wrap_u8]; omega
      have e3 : IntKind.u8.wrap (x / 4 * 4) = x / 4 * 4 := by rw [IntKind.wrap_u8]; omega
      rw [hc] at hB3 hm2
      go_wp2_with fail
      go_roundw
      case rel => exact ⟨5, _, by omega, by go_num, hm2, hB3⟩
      case measure => simp [intOf]
    · have hc : cl 5 x = x := rfl
      rw [hc] at hm2
      clear hB3
      go_wp2_with fail
      go_roundw
      case rel => exact ⟨6, _, by omega, by go_num, hm2, hB1⟩
      case measure => simp [intOf]
    · have hc : cl 6 x = x := rfl
      rw [hc] at hm2
      clear hB3
      go_wp2_with fail
      go_roundw
      case rel => exact ⟨7, _, by omega, by go_num, hm2, hB1⟩
      case measure => simp [intOf]
    · have hc : cl 7 x = x % 16 := rfl
      have e1 : x.tmod 16 = x % 16 := Int.tmod_eq_emod_of_nonneg hxr.1
      rw [hc] at hB3 hm2
      generalize hy : x % 16 = y at *
      replace hy := hide hy
      go_wp2_with fail
      go_roundw
      case rel => exact ⟨8, _, by omega, by go_num, hm2, hB3⟩
      case measure => simp [intOf]
    · have hc : cl 8 x = x / 4 * 4 := rfl
      have e1 : x.tdiv 4 = x / 4 := Int.tdiv_eq_ediv_of_nonneg hxr.1
      have e2 : IntKind.u8.wrap (x / 4) = x / 4 := by rw [IntKind.wrap_u8]; omega
      have e3 : IntKind.u8.wrap (x / 4 * 4) = x / 4 * 4 := by rw [IntKind.wrap_u8]; omega
      rw [hc] at hB3 hm2
      go_wp2_with fail
      go_roundw
      case rel => exact ⟨9, _, by omega, by go_num, hm2, hB3⟩
      case measure => simp [intOf]
    · have hc : cl 9 x = x := rfl
      rw [hc] at hm2
      clear hB3
      go_wp2_with fail
      go_roundw
      case rel => exact ⟨10, _, by omega, by go_num, hm2, hB1⟩
      case measure => simp [intOf]
    · have hc : cl 10 x = x := rfl
      rw [hc] at hm2
      clear hB3
      go_wp2_with fail
      go_roundw
      case rel => exact ⟨11, _, by omega, by go_num, hm2, hB1⟩
      case measure => simp [intOf]
    · have hc : cl 11 x = x % 16 := rfl
      have e1 : x.tmod 16 = x % 16 := Int.tmod_eq_emod_of_nonneg hxr.1
      rw [hc] at hB3 hm2
      generalize hy : x % 16 = y at *
      replace hy := hide hy
      go_wp2_with fail
      go_roundw
      case rel => exact ⟨12, _, by omega, by go_num, hm2, hB3⟩
      case measure => simp [intOf]
    · have hc : cl 12 x = x / 4 * 4 := rfl
      have e1 : x.tdiv 4 = x / 4 := Int.tdiv_eq_ediv_of_nonneg hxr.1
      have e2 : IntKind.u8.wrap (x / 4) = x / 4 := by rw [IntKind.wrap_u8]; omega
      have e3 : IntKind.u8.wrap (x / 4 * 4) = x / 4 * 4 := by rw [IntKind.wrap_u8]; omega
      rw [hc] at hB3 hm2
      go_wp2_with fail
      go_roundw
      case rel => exact ⟨13, _, by omega, by go_num, hm2, hB3⟩
      case measure => simp [intOf]
    · have hc : cl 13 x = x := rfl
      rw [hc] at hm2
      clear hB3
      go_wp2_with fail
      go_roundw
      case rel => exact ⟨14, _, by omega, by go_num, hm2, hB1⟩
      case measure => simp [intOf]
    · have hc : cl 14 x = x := rfl
      rw [hc] at hm2
      clear hB3
      go_wp2_with fail
      go_roundw
      case rel => exact ⟨15, _, by omega, by go_num, hm2, hB1⟩
      case measure => simp [intOf]
    · have hc : cl 15 x = x % 16 := rfl
      have e1 : x.tmod 16 = x % 16 := Int.tmod_eq_emod_of_nonneg hxr.1
      rw [hc] at hB3 hm2
      generalize hy : x % 16 = y at *
      replace hy := hide hy
      go_wp2_with fail
      go_roundw
      case rel => exact ⟨16, _, by omega, by go_num, hm2, hB3⟩
      case measure => simp [intOf]
  · have e : i = 16 := by omega
    subst e
    have hM : m = clL K := by
      rw [unhide hm]
      have h := fil_all (clf K) ZT
      rw [hzl] at h
      exact h
    clear hm
    go_upto_region 10 with fail
    replace hB := unhide hB
    refine wp_region_lit ?_
    refine list_val (.agg (kc m)) (by kernel_rfl) (exec_arr _ 41 (.tmp 3) rfl (w.heap.size + 1 + 1) (by kernel_rfl) (kc m) 41 _ (hB.get 2 (x := ⟨w.heap.size + 1 + 1, kc m, 41⟩) rfl) Try.underlying41 rfl (by rw [Try.infoT, kc_size, hml])) ?_
    simp only [Act.put, List.setIfInBounds_toArray, List.set_cons_zero, List.set_cons_succ, List.getElem_toArray, List.getElem_cons_zero, List.getElem_cons_succ]
    refine list_store 41 (.tmp 2) (.tmp 51) (w.heap.size + 1) (kc m) 41 (kc ZT) (by kernel_rfl) rfl (by kernel_rfl) (by kernel_rfl) (hB.get 1 (x := ⟨w.heap.size + 1, kc ZT, 41⟩) rfl) (by rw [Try.infoT, kc_size, hml]) ((show (kc ZT).size = 16 from rfl).trans ((kc_size _).trans hml).symm) (kc_one _) ?_
    replace hB := hB.set 1 (x := ⟨w.heap.size + 1, kc ZT, 41⟩) rfl (kc m)
    simp only [List.set_cons_zero, List.set_cons_succ] at hB
    generalize World.setRow _ _ _ = u3 at *
    simp only [Act.put, List.setIfInBounds_toArray, List.set_cons_zero, List.set_cons_succ, List.getElem_toArray, List.getElem_cons_zero, List.getElem_cons_succ]
    refine wpList_nil ?_
    go_wp2_with fail
    rw [unhide hT, ← hM]
    exact bodyPost_ret (v := .agg (kc m)) (results_cell_row Try.results49 _ _ (w.heap.size + 1) 41 (kc m) (0, 0) _ rfl (hB.get 1 (x := ⟨w.heap.size + 1, kc m, 41⟩) rfl) Try.underlying41 rfl (by rw [Try.infoT, kc_size, hml])) rfl (⟨rfl, hB.gr⟩)
end Go.Proofs.Ytdekjbdkpchbjaa
