/-
  Twenty rounds; the words added; their bytes.
-/
import Derived.Test.YtdekjbdkpchbjabChaR
namespace Go.Proofs.Ytdekjbdkpchbjab
open Go.RowKit
set_option maxRecDepth 100000
set_option linter.unusedSimpArgs false
set_option linter.unusedVariables false
/-- two rounds -/
def dbl (W : List Int) : List Int := qp (qp (qp (qp (qp (qp (qp (qp W 0 4 8 12) 1 5 9 13) 2 6 10 14) 3 7 11 15) 0 5 10 15) 1 6 11 12) 2 7 8 13) 3 4 9 14
theorem dbl_len (W : List Int) : (dbl W).length = W.length := by
  unfold dbl
  simp only [qp_len]
/-- so many double rounds -/
def rn (W : List Int) : Nat → List Int
  | 0 => W
  | n + 1 => dbl (rn W n)
theorem rn_len (W : List Int) : ∀ n, (rn W n).length = W.length
  | 0 => rfl
  | n + 1 => by rw [rn, dbl_len, rn_len W n]
def Z16 : List Int := List.replicate 16 0
theorem Try.info16 : (Try.prog.info? 53).map (·.size) = some 16 := by kernel_rfl
theorem Try.info64 : (Try.prog.info? 55).map (·.size) = some 64 := by kernel_rfl
def Rnd (W : List Int) (w : World) (r : Ending) (w' : World) : Prop := r = .returned (.agg (uc W)) ∧ Gr w w'
set_option maxHeartbeats 2000000 in
theorem rounds_ok (W : List Int) (hW : W.length = 16) (w : World) : Calls Try.prog 32 #[.agg (uc W)] w (Rnd (rn W 10) w) := by
  obtain ⟨T, hT⟩ : ∃ T, T = Rnd (rn W 10) w := ⟨_, rfl⟩
  rw [← hT]
  replace hT := hide hT
  obtain ⟨S, hS⟩ : ∃ S, S = uc W := ⟨_, rfl⟩
  rw [← hS]
  replace hS := hide hS
  have hmf : ∀ (fn : Fn) (first cap : Array Value) (w : World), (Instr.makeFunc fn first cap).run Try.prog w = .ok (.func fn first cap) w := fun _ _ _ _ => rfl
  go_enter Try.func32, Try.ntmps32
  go_wp2_with fail
  have hB := ((Bl.nil w).new S 53).new #[.int .u32 0, .int .u32 0, .int .u32 0, .int .u32 0, .int .u32 0, .int .u32 0, .int .u32 0, .int .u32 0, .int .u32 0, .int .u32 0, .int .u32 0, .int .u32 0, .int .u32 0, .int .u32 0, .int .u32 0, .int .u32 0] 53
  simp only [size_alloc, List.nil_append, List.cons_append] at hB
  generalize World.alloc _ _ = u at *
  rw [unhide hS] at hB
  replace hB : Hid (Bl w [⟨w.heap.size, uc W, 53⟩, ⟨w.heap.size + 1, uc Z16, 53⟩] u) := hide hB
  go_loopw [5] (fun i wr => ∃ n : Nat, ∃ m : List Int, n ≤ 10 ∧ i = .int .i64 n ∧ Hid (m = rn W n) ∧ Hid (Bl w [⟨w.heap.size, uc m, 53⟩, ⟨w.heap.size + 1, uc Z16, 53⟩] wr)) (fun i _ => 10 - (intOf i).toNat)
  case atStart => exact ⟨0, W, by omega, rfl, rfl, hB⟩
  case round =>
  clear hB
  obtain ⟨n, m, hn, rfl, hm, hB⟩ := hrel
  have hml : m.length = 16 := by rw [unhide hm, rn_len]; exact hW
  by_cases hl : n < 10
  · have hm2 : Hid (dbl m = rn W (n + 1)) := by
      rw [unhide hm]
      rfl
    have nI : (n : Int) < 10 := by omega
    go_upto_region 4 with fail
    replace hB := unhide hB
    refine wp_region_lit ?_
    refine list_val (.func (.func 38) #[] #[.pointer (some ⟨w.heap.size, 0, none⟩)]) (by kernel_rfl) (by kernel_rfl) ?_
    simp only [Act.put, List.setIfInBounds_toArray, List.set_cons_zero, List.set_cons_succ, List.getElem_toArray, List.getElem_cons_zero, List.getElem_cons_succ]
    refine list_call 38 #[.int .i64 0, .int .i64 4, .int .i64 8, .int .i64 12, .pointer (some ⟨w.heap.size, 0, none⟩)] (by kernel_rfl) (by kernel_rfl) ((rounds1_ok w w.heap.size m hml [⟨w.heap.size + 1, uc Z16, 53⟩] 0 4 8 12 (by decide) (by decide) (by decide) (by decide) _ hB).mono ?_)
    rintro r v0 ⟨rfl, hB2⟩
    refine ⟨_, rfl, ?_⟩
    clear hB
    replace hml := (qp_len m 0 4 8 12).trans hml
    generalize e1 : qp m 0 4 8 12 = m1 at hB2 hml
    replace e1 := hide e1
    simp only [Act.put, List.setIfInBounds_toArray, List.set_cons_zero, List.set_cons_succ, List.getElem_toArray, List.getElem_cons_zero, List.getElem_cons_succ]
    refine wpList_nil ?_
    replace hB := hide hB2
    clear hB2
    go_upto_region 5 with fail
    replace hB := unhide hB
    refine wp_region_lit ?_
    refine list_val (.func (.func 38) #[] #[.pointer (some ⟨w.heap.size, 0, none⟩)]) (by kernel_rfl) (by kernel_rfl) ?_
    simp only [Act.put, List.setIfInBounds_toArray, List.set_cons_zero, List.set_cons_succ, List.getElem_toArray, List.getElem_cons_zero, List.getElem_cons_succ]
    refine list_call 38 #[.int .i64 1, .int .i64 5, .int .i64 9, .int .i64 13, .pointer (some ⟨w.heap.size, 0, none⟩)] (by kernel_rfl) (by kernel_rfl) ((rounds1_ok w w.heap.size m1 hml [⟨w.heap.size + 1, uc Z16, 53⟩] 1 5 9 13 (by decide) (by decide) (by decide) (by decide) _ hB).mono ?_)
    rintro r v1 ⟨rfl, hB2⟩
    refine ⟨_, rfl, ?_⟩
    clear hB
    replace hml := (qp_len m1 1 5 9 13).trans hml
    generalize e2 : qp m1 1 5 9 13 = m2 at hB2 hml
    replace e2 := hide e2
    simp only [Act.put, List.setIfInBounds_toArray, List.set_cons_zero, List.set_cons_succ, List.getElem_toArray, List.getElem_cons_zero, List.getElem_cons_succ]
    refine wpList_nil ?_
    replace hB := hide hB2
    clear hB2
    go_upto_region 6 with fail
    replace hB := unhide hB
    refine wp_region_lit ?_
    refine list_val (.func (.func 38) #[] #[.pointer (some ⟨w.heap.size, 0, none⟩)]) (by kernel_rfl) (by kernel_rfl) ?_
    simp only [Act.put, List.setIfInBounds_toArray, List.set_cons_zero, List.set_cons_succ, List.getElem_toArray, List.getElem_cons_zero, List.getElem_cons_succ]
    refine list_call 38 #[.int .i64 2, .int .i64 6, .int .i64 10, .int .i64 14, .pointer (some ⟨w.heap.size, 0, none⟩)] (by kernel_rfl) (by kernel_rfl) ((rounds1_ok w w.heap.size m2 hml [⟨w.heap.size + 1, uc Z16, 53⟩] 2 6 10 14 (by decide) (by decide) (by decide) (by decide) _ hB).mono ?_)
    rintro r v2 ⟨rfl, hB2⟩
    refine ⟨_, rfl, ?_⟩
    clear hB
    replace hml := (qp_len m2 2 6 10 14).trans hml
    generalize e3 : qp m2 2 6 10 14 = m3 at hB2 hml
    replace e3 := hide e3
    simp only [Act.put, List.setIfInBounds_toArray, List.set_cons_zero, List.set_cons_succ, List.getElem_toArray, List.getElem_cons_zero, List.getElem_cons_succ]
    refine wpList_nil ?_
    replace hB := hide hB2
    clear hB2
    go_upto_region 7 with fail
    replace hB := unhide hB
    refine wp_region_lit ?_
    refine list_val (.func (.func 38) #[] #[.pointer (some ⟨w.heap.size, 0, none⟩)]) (by kernel_rfl) (by kernel_rfl) ?_
    simp only [Act.put, List.setIfInBounds_toArray, List.set_cons_zero, List.set_cons_succ, List.getElem_toArray, List.getElem_cons_zero, List.getElem_cons_succ]
    refine list_call 38 #[.int .i64 3, .int .i64 7, .int .i64 11, .int .i64 15, .pointer (some ⟨w.heap.size, 0, none⟩)] (by kernel_rfl) (by kernel_rfl) ((rounds1_ok w w.heap.size m3 hml [⟨w.heap.size + 1, uc Z16, 53⟩] 3 7 11 15 (by decide) (by decide) (by decide) (by decide) _ hB).mono ?_)
    rintro r v3 ⟨rfl, hB2⟩
    refine ⟨_, rfl, ?_⟩
    clear hB
    replace hml := (qp_len m3 3 7 11 15).trans hml
    generalize e4 : qp m3 3 7 11 15 = m4 at hB2 hml
    replace e4 := hide e4
    simp only [Act.put, List.setIfInBounds_toArray, List.set_cons_zero, List.set_cons_succ, List.getElem_toArray, List.getElem_cons_zero, List.getElem_cons_succ]
    refine wpList_nil ?_
    replace hB := hide hB2
    clear hB2
    go_upto_region 8 with fail
    replace hB := unhide hB
    refine wp_region_lit ?_
    refine list_val (.func (.func 38) #[] #[.pointer (some ⟨w.heap.size, 0, none⟩)]) (by kernel_rfl) (by kernel_rfl) ?_
    simp only [Act.put, List.setIfInBounds_toArray, List.set_cons_zero, List.set_cons_succ, List.getElem_toArray, List.getElem_cons_zero, List.getElem_cons_succ]
    refine list_call 38 #[.int .i64 0, .int .i64 5, .int .i64 10, .int .i64 15, .pointer (some ⟨w.heap.size, 0, none⟩)] (by kernel_rfl) (by kernel_rfl) ((rounds1_ok w w.heap.size m4 hml [⟨w.heap.size + 1, uc Z16, 53⟩] 0 5 10 15 (by decide) (by decide) (by decide) (by decide) _ hB).mono ?_)
    rintro r v4 ⟨rfl, hB2⟩
    refine ⟨_, rfl, ?_⟩
    clear hB
    replace hml := (qp_len m4 0 5 10 15).trans hml
    generalize e5 : qp m4 0 5 10 15 = m5 at hB2 hml
    replace e5 := hide e5
    simp only [Act.put, List.setIfInBounds_toArray, List.set_cons_zero, List.set_cons_succ, List.getElem_toArray, List.getElem_cons_zero, List.getElem_cons_succ]
    refine wpList_nil ?_
    replace hB := hide hB2
    clear hB2
    go_upto_region 9 with fail
    replace hB := unhide hB
    refine wp_region_lit ?_
    refine list_val (.func (.func 38) #[] #[.pointer (some ⟨w.heap.size, 0, none⟩)]) (by kernel_rfl) (by kernel_rfl) ?_
    simp only [Act.put, List.setIfInBounds_toArray, List.set_cons_zero, List.set_cons_succ, List.getElem_toArray, List.getElem_cons_zero, List.getElem_cons_succ]
    refine list_call 38 #[.int .i64 1, .int .i64 6, .int .i64 11, .int .i64 12, .pointer (some ⟨w.heap.size, 0, none⟩)] (by kernel_rfl) (by kernel_rfl) ((rounds1_ok w w.heap.size m5 hml [⟨w.heap.size + 1, uc Z16, 53⟩] 1 6 11 12 (by decide) (by decide) (by decide) (by decide) _ hB).mono ?_)
    rintro r v5 ⟨rfl, hB2⟩
    refine ⟨_, rfl, ?_⟩
    clear hB
    replace hml := (qp_len m5 1 6 11 12).trans hml
    generalize e6 : qp m5 1 6 11 12 = m6 at hB2 hml
    replace e6 := hide e6
    simp only [Act.put, List.setIfInBounds_toArray, List.set_cons_zero, List.set_cons_succ, List.getElem_toArray, List.getElem_cons_zero, List.getElem_cons_succ]
    refine wpList_nil ?_
    replace hB := hide hB2
    clear hB2
    go_upto_region 10 with fail
    replace hB := unhide hB
    refine wp_region_lit ?_
    refine list_val (.func (.func 38) #[] #[.pointer (some ⟨w.heap.size, 0, none⟩)]) (by kernel_rfl) (by kernel_rfl) ?_
    simp only [Act.put, List.setIfInBounds_toArray, List.set_cons_zero, List.set_cons_succ, List.getElem_toArray, List.getElem_cons_zero, List.getElem_cons_succ]
    refine list_call 38 #[.int .i64 2, .int .i64 7, .int .i64 8, .int .i64 13, .pointer (some ⟨w.heap.size, 0, none⟩)] (by kernel_rfl) (by kernel_rfl) ((rounds1_ok w w.heap.size m6 hml [⟨w.heap.size + 1, uc Z16, 53⟩] 2 7 8 13 (by decide) (by decide) (by decide) (by decide) _ hB).mono ?_)
    rintro r v6 ⟨rfl, hB2⟩
    refine ⟨_, rfl, ?_⟩
    clear hB
    replace hml := (qp_len m6 2 7 8 13).trans hml
    generalize e7 : qp m6 2 7 8 13 = m7 at hB2 hml
    replace e7 := hide e7
    simp only [Act.put, List.setIfInBounds_toArray, List.set_cons_zero, List.set_cons_succ, List.getElem_toArray, List.getElem_cons_zero, List.getElem_cons_succ]
    refine wpList_nil ?_
    replace hB := hide hB2
    clear hB2
    go_upto_region 11 with fail
    replace hB := unhide hB
    refine wp_region_lit ?_
    refine list_val (.func (.func 38) #[] #[.pointer (some ⟨w.heap.size, 0, none⟩)]) (by kernel_rfl) (by kernel_rfl) ?_
    simp only [Act.put, List.setIfInBounds_toArray, List.set_cons_zero, List.set_cons_succ, List.getElem_toArray, List.getElem_cons_zero, List.getElem_cons_succ]
    refine list_call 38 #[.int .i64 3, .int .i64 4, .int .i64 9, .int .i64 14, .pointer (some ⟨w.heap.size, 0, none⟩)] (by kernel_rfl) (by kernel_rfl) ((rounds1_ok w w.heap.size m7 hml [⟨w.heap.size + 1, uc Z16, 53⟩] 3 4 9 14 (by decide) (by decide) (by decide) (by decide) _ hB).mono ?_)
    rintro r v7 ⟨rfl, hB2⟩
    refine ⟨_, rfl, ?_⟩
    clear hB
    replace hml := (qp_len m7 3 4 9 14).trans hml
    generalize e8 : qp m7 3 4 9 14 = m8 at hB2 hml
    replace e8 := hide e8
    simp only [Act.put, List.setIfInBounds_toArray, List.set_cons_zero, List.set_cons_succ, List.getElem_toArray, List.getElem_cons_zero, List.getElem_cons_succ]
    refine wpList_nil ?_
    replace hB := hide hB2
    clear hB2
    have hm3 : Hid (m8 = rn W (n + 1)) := by
      rw [← unhide hm2]
      unfold dbl
      rw [unhide e1, unhide e2, unhide e3, unhide e4, unhide e5, unhide e6, unhide e7, unhide e8]
      exact rfl
    clear e1 e2 e3 e4 e5 e6 e7 e8 hm2 hm
    go_wp2_with fail
    go_roundw
    case rel => exact ⟨n + 1, m8, by omega, by go_num, hm3, hB⟩
    case measure => simp [intOf]; omega
  · have e : n = 10 := by omega
    subst e
    go_upto_region 13 with fail
    replace hB := unhide hB
    have hl16 := (rn_len W 10).trans hW
    rw [unhide hm] at hB
    generalize rn W 10 = M at *
    refine wp_region_lit ?_
    refine list_val (.agg (uc M)) (by kernel_rfl) (exec_arr _ 53 (.tmp 1) rfl (w.heap.size) (by kernel_rfl) (uc M) 53 _ (hB.get 0 (x := ⟨w.heap.size, uc M, 53⟩) rfl) Try.underlying53 rfl (by rw [Try.info16, uc_size, hl16])) ?_
    simp only [Act.put, List.setIfInBounds_toArray, List.set_cons_zero, List.set_cons_succ, List.getElem_toArray, List.getElem_cons_zero, List.getElem_cons_succ]
    refine list_store 53 (.tmp 2) (.tmp 24) (w.heap.size + 1) (uc M) 53 (uc Z16) (by kernel_rfl) rfl (by kernel_rfl) (by kernel_rfl) (hB.get 1 (x := ⟨w.heap.size + 1, uc Z16, 53⟩) rfl) (by rw [Try.info16, uc_size, hl16]) ((show (uc Z16).size = 16 from rfl).trans ((uc_size _).trans hl16).symm) (uc_one _) ?_
    replace hB := hB.set 1 (x := ⟨w.heap.size + 1, uc Z16, 53⟩) rfl (uc M)
    simp only [List.set_cons_zero, List.set_cons_succ] at hB
    generalize World.setRow _ _ _ = u3 at *
    simp only [Act.put, List.setIfInBounds_toArray, List.set_cons_zero, List.set_cons_succ, List.getElem_toArray, List.getElem_cons_zero, List.getElem_cons_succ]
    refine wpList_nil ?_
    go_wp2_with fail
    rw [unhide hT]
    exact bodyPost_ret (v := .agg (uc M)) (results_cell_row Try.results32 _ _ (w.heap.size + 1) 53 (uc M) (0, 0) _ rfl (hB.get 1 (x := ⟨w.heap.size + 1, uc M, 53⟩) rfl) Try.underlying53 rfl (by rw [Try.info16, uc_size, hl16])) rfl (⟨rfl, hB.gr⟩)
end Go.Proofs.Ytdekjbdkpchbjab
