/-
  Layer 14: packets are put and got.
-/
import Derived.Test.YtfmocneoffkmpaaFH
namespace Go.Proofs.Ytfmocneoffkmpaa
open Go.RowKit
set_option maxRecDepth 100000
set_option linter.unusedSimpArgs false
set_option linter.unusedVariables false
theorem on_size {n : Nat} (h : onS (n : Int) = true) : n = 194 ∨ n = 242 ∨ n = 290 := by unfold onS at h; rw [decide_eq_true_iff] at h; omega
theorem rp_size {n : Nat} (h : rpS (n : Int) = true) : n = 146 ∨ n = 162 ∨ n = 178 := by unfold rpS at h; rw [decide_eq_true_iff] at h; omega
theorem ends_is {c s r : Int} (h : ends c s r = true) : (0 ≤ c ∧ c < 4) ∧ (0 ≤ s ∧ s < 3) ∧ 0 < r := by unfold ends at h; rwa [decide_eq_true_iff] at h
set_option maxHeartbeats 4000000 in
theorem pput_up_no (c s r : Int) (a : Option Addr) (n k : Nat) (h : ends c s r = false ∨ onS (n : Int) = false) (w : World) : Calls Try.prog 67 #[.agg #[.int .i64 c, .int .i64 s, .int .u64 r, .slice a n k], .int .u8 2, .func (.func 48) #[] #[]] w (Pno w) := by
  obtain ⟨T, hT⟩ : ∃ T, T = Pno w := ⟨_, rfl⟩
  rw [← hT]
  replace hT := hide hT
  go_enter Try.func67, Try.ntmps67
  go_upto_region 1 with fail
  have hB := ((Bl.nil w).new #[.int .i64 c, .int .i64 s, .int .u64 r, .slice a n k] 113)
  simp only [size_alloc, List.nil_append, List.cons_append] at hB
  generalize World.alloc _ _ = u at *
  replace hB : Bl w [⟨w.heap.size, #[.int .i64 c, .int .i64 s, .int .u64 r, .slice a n k], 113⟩] u := hB
  cases hE : ends c s r
  · skip
    refine wp_region_lit ?_
    refine list_val (.agg #[.int .i64 c, .int .i64 s, .int .u64 r, .slice a n k]) (by kernel_rfl) (exec_arr _ 113 (.tmp 3) rfl (w.heap.size) (by kernel_rfl) #[.int .i64 c, .int .i64 s, .int .u64 r, .slice a n k] 113 _ (hB.get 0 (x := ⟨w.heap.size, #[.int .i64 c, .int .i64 s, .int .u64 r, .slice a n k], 113⟩) rfl) Try.underlying113 rfl (by rw [Try.infoP]; rfl)) ?_
    simp only [Act.put, List.setIfInBounds_toArray, List.set_cons_zero, List.set_cons_succ, List.getElem_toArray, List.getElem_cons_zero, List.getElem_cons_succ]
    refine list_call 79 #[.agg #[.int .i64 c, .int .i64 s, .int .u64 r, .slice a n k]] (by kernel_rfl) (by kernel_rfl) ((fpm_ok c s r a n k u).mono ?_)
    rintro r_ u1 ⟨rfl, hg1⟩
    rw [hE]
    replace hB := hB.more hg1
    clear hg1
    refine ⟨_, rfl, ?_⟩
    simp only [Act.put, List.setIfInBounds_toArray, List.set_cons_zero, List.set_cons_succ, List.getElem_toArray, List.getElem_cons_zero, List.getElem_cons_succ]
    refine list_val (.bool true) (by kernel_rfl) (by kernel_rfl) ?_
    simp only [Act.put, List.setIfInBounds_toArray, List.set_cons_zero, List.set_cons_succ, List.getElem_toArray, List.getElem_cons_zero, List.getElem_cons_succ]
    refine list_val (.bool true) (by kernel_rfl) (by kernel_rfl) ?_
    simp only [Act.put, List.setIfInBounds_toArray, List.set_cons_zero, List.set_cons_succ, List.getElem_toArray, List.getElem_cons_zero, List.getElem_cons_succ]
    refine wpList_step fun K hK => ?_
    rw [if_neg (ne_true_of_eq_false (by kernel_rfl))]
    refine hK _ _ ?_
    clear hK K
    simp only [Act.put, List.setIfInBounds_toArray, List.set_cons_zero, List.set_cons_succ, List.getElem_toArray, List.getElem_cons_zero, List.getElem_cons_succ]
    refine wpList_step fun K hK => ?_
    rw [if_neg (ne_true_of_eq_false (by kernel_rfl))]
    refine hK _ _ ?_
    clear hK K
    simp only [Act.put, List.setIfInBounds_toArray, List.set_cons_zero, List.set_cons_succ, List.getElem_toArray, List.getElem_cons_zero, List.getElem_cons_succ]
    refine wpList_step fun K hK => ?_
    rw [if_neg (ne_true_of_eq_false (by kernel_rfl))]
    refine hK _ _ ?_
    clear hK K
    simp only [Act.put, List.setIfInBounds_toArray, List.set_cons_zero, List.set_cons_succ, List.getElem_toArray, List.getElem_cons_zero, List.getElem_cons_succ]
    refine wpList_step fun K hK => ?_
    rw [if_neg (ne_true_of_eq_false (by kernel_rfl))]
    refine hK _ _ ?_
    clear hK K
    simp only [Act.put, List.setIfInBounds_toArray, List.set_cons_zero, List.set_cons_succ, List.getElem_toArray, List.getElem_cons_zero, List.getElem_cons_succ]
    refine wpList_step fun K hK => ?_
    rw [if_neg (ne_true_of_eq_false (by kernel_rfl))]
    refine hK _ _ ?_
    clear hK K
    simp only [Act.put, List.setIfInBounds_toArray, List.set_cons_zero, List.set_cons_succ, List.getElem_toArray, List.getElem_cons_zero, List.getElem_cons_succ]
    refine wpList_step fun K hK => ?_
    rw [if_neg (ne_true_of_eq_false (by kernel_rfl))]
    refine hK _ _ ?_
    clear hK K
    simp only [Act.put, List.setIfInBounds_toArray, List.set_cons_zero, List.set_cons_succ, List.getElem_toArray, List.getElem_cons_zero, List.getElem_cons_succ]
    refine list_val (.bool true) (by kernel_rfl) (by kernel_rfl) ?_
    simp only [Act.put, List.setIfInBounds_toArray, List.set_cons_zero, List.set_cons_succ, List.getElem_toArray, List.getElem_cons_zero, List.getElem_cons_succ]
    refine wpList_nil ?_
    have hZ : Hid (Pno w (.returned (.tuple #[.slice none 0 0, .int .i64 241])) u1) := ⟨rfl, hB.gr⟩
    clear hB
    go_wp2_with fail
    rw [unhide hT]
    exact unhide hZ
  · skip
    have hS : onS (n : Int) = false := h.resolve_left (by rw [hE]; decide)
    refine wp_region_lit ?_
    refine list_val (.agg #[.int .i64 c, .int .i64 s, .int .u64 r, .slice a n k]) (by kernel_rfl) (exec_arr _ 113 (.tmp 3) rfl (w.heap.size) (by kernel_rfl) #[.int .i64 c, .int .i64 s, .int .u64 r, .slice a n k] 113 _ (hB.get 0 (x := ⟨w.heap.size, #[.int .i64 c, .int .i64 s, .int .u64 r, .slice a n k], 113⟩) rfl) Try.underlying113 rfl (by rw [Try.infoP]; rfl)) ?_
    simp only [Act.put, List.setIfInBounds_toArray, List.set_cons_zero, List.set_cons_succ, List.getElem_toArray, List.getElem_cons_zero, List.getElem_cons_succ]
    refine list_call 79 #[.agg #[.int .i64 c, .int .i64 s, .int .u64 r, .slice a n k]] (by kernel_rfl) (by kernel_rfl) ((fpm_ok c s r a n k u).mono ?_)
    rintro r_ u1 ⟨rfl, hg1⟩
    rw [hE]
    replace hB := hB.more hg1
    clear hg1
    refine ⟨_, rfl, ?_⟩
    simp only [Act.put, List.setIfInBounds_toArray, List.set_cons_zero, List.set_cons_succ, List.getElem_toArray, List.getElem_cons_zero, List.getElem_cons_succ]
    refine list_val (.bool false) (by kernel_rfl) (by kernel_rfl) ?_
    simp only [Act.put, List.setIfInBounds_toArray, List.set_cons_zero, List.set_cons_succ, List.getElem_toArray, List.getElem_cons_zero, List.getElem_cons_succ]
    refine list_val (.bool false) (by kernel_rfl) (by kernel_rfl) ?_
    simp only [Act.put, List.setIfInBounds_toArray, List.set_cons_zero, List.set_cons_succ, List.getElem_toArray, List.getElem_cons_zero, List.getElem_cons_succ]
    refine list_val (.func (.func 48) #[] #[]) (by kernel_rfl) (by kernel_rfl) ?_
    simp only [Act.put, List.setIfInBounds_toArray, List.set_cons_zero, List.set_cons_succ, List.getElem_toArray, List.getElem_cons_zero, List.getElem_cons_succ]
    refine list_val (.pointer (some ⟨w.heap.size, 3, none⟩)) (by kernel_rfl) (by kernel_rfl) ?_
    simp only [Act.put, List.setIfInBounds_toArray, List.set_cons_zero, List.set_cons_succ, List.getElem_toArray, List.getElem_cons_zero, List.getElem_cons_succ]
    refine list_val (.slice a n k) (by kernel_rfl) (exec_sby _ (.tmp 14) rfl (w.heap.size) 3 (by kernel_rfl) a n k (cell_of (hB.get 0 (x := ⟨w.heap.size, #[.int .i64 c, .int .i64 s, .int .u64 r, .slice a n k], 113⟩) rfl) (i := 3) rfl)) ?_
    simp only [Act.put, List.setIfInBounds_toArray, List.set_cons_zero, List.set_cons_succ, List.getElem_toArray, List.getElem_cons_zero, List.getElem_cons_succ]
    refine list_val (.int .i64 (n : Int)) (by kernel_rfl) (by kernel_rfl) ?_
    simp only [Act.put, List.setIfInBounds_toArray, List.set_cons_zero, List.set_cons_succ, List.getElem_toArray, List.getElem_cons_zero, List.getElem_cons_succ]
    refine list_call 80 #[.func (.func 48) #[] #[], .int .i64 (n : Int)] (by kernel_rfl) (by kernel_rfl) ((some_on (n : Int) u1).mono ?_)
    rintro r_ u2 ⟨rfl, hg1⟩
    rw [hS]
    replace hB := hB.more hg1
    clear hg1
    refine ⟨_, rfl, ?_⟩
    simp only [Act.put, List.setIfInBounds_toArray, List.set_cons_zero, List.set_cons_succ, List.getElem_toArray, List.getElem_cons_zero, List.getElem_cons_succ]
    refine list_val (.bool true) (by kernel_rfl) (by kernel_rfl) ?_
    simp only [Act.put, List.setIfInBounds_toArray, List.set_cons_zero, List.set_cons_succ, List.getElem_toArray, List.getElem_cons_zero, List.getElem_cons_succ]
    refine list_val (.bool true) (by kernel_rfl) (by kernel_rfl) ?_
    simp only [Act.put, List.setIfInBounds_toArray, List.set_cons_zero, List.set_cons_succ, List.getElem_toArray, List.getElem_cons_zero, List.getElem_cons_succ]
    refine wpList_nil ?_
    have hZ : Hid (Pno w (.returned (.tuple #[.slice none 0 0, .int .i64 241])) u2) := ⟨rfl, hB.gr⟩
    clear hB
    go_wp2_with fail
    rw [unhide hT]
    exact unhide hZ
set_option maxHeartbeats 4000000 in
theorem pput_up_ok (c s r : Int) (a : Option Addr) (n k : Nat) (B : List Int) (hE : ends c s r = true) (hS : onS (n : Int) = true) (hr : r < 18446744073709551616) (w : World) (lb : Lb w a n k B) : Calls Try.prog 67 #[.agg #[.int .i64 c, .int .i64 s, .int .u64 r, .slice a n k], .int .u8 2, .func (.func 48) #[] #[]] w (Pok (pkB 2 c s r B) w) := by
  obtain ⟨T, hT⟩ : ∃ T, T = Pok (pkB 2 c s r B) w := ⟨_, rfl⟩
  rw [← hT]
  replace hT := hide hT
  have hn := on_size hS
  have hE2 := ends_is hE
  have hc8 : IntKind.u8.wrap c = c := by rw [IntKind.wrap_u8]; omega
  have hs8 : IntKind.u8.wrap s = s := by rw [IntKind.wrap_u8]; omega
  have hr0 : 0 ≤ r := by omega
  have hkB : IsB [2, c, s] := fun y hy => by simp only [List.mem_cons, List.not_mem_nil, or_false] at hy; omega
  replace hn := hide hn; replace hE2 := hide hE2; replace lb := hide lb; replace hkB := hide hkB
  go_enter Try.func67, Try.ntmps67
  go_upto_region 1 with fail
  have hB := ((Bl.nil w).new #[.int .i64 c, .int .i64 s, .int .u64 r, .slice a n k] 113)
  simp only [size_alloc, List.nil_append, List.cons_append] at hB
  generalize World.alloc _ _ = u at *
  replace hB : Bl w [⟨w.heap.size, #[.int .i64 c, .int .i64 s, .int .u64 r, .slice a n k], 113⟩] u := hB
  refine wp_region_lit ?_
  refine list_val (.agg #[.int .i64 c, .int .i64 s, .int .u64 r, .slice a n k]) (by kernel_rfl) (exec_arr _ 113 (.tmp 3) rfl (w.heap.size) (by kernel_rfl) #[.int .i64 c, .int .i64 s, .int .u64 r, .slice a n k] 113 _ (hB.get 0 (x := ⟨w.heap.size, #[.int .i64 c, .int .i64 s, .int .u64 r, .slice a n k], 113⟩) rfl) Try.underlying113 rfl (by rw [Try.infoP]; rfl)) ?_
  simp only [Act.put, List.setIfInBounds_toArray, List.set_cons_zero, List.set_cons_succ, List.getElem_toArray, List.getElem_cons_zero, List.getElem_cons_succ]
  refine list_call 79 #[.agg #[.int .i64 c, .int .i64 s, .int .u64 r, .slice a n k]] (by kernel_rfl) (by kernel_rfl) ((fpm_ok c s r a n k u).mono ?_)
  rintro r_ u1 ⟨rfl, hg1⟩
  rw [hE]
  replace hB := hB.more hg1
  clear hg1
  refine ⟨_, rfl, ?_⟩
  simp only [Act.put, List.setIfInBounds_toArray, List.set_cons_zero, List.set_cons_succ, List.getElem_toArray, List.getElem_cons_zero, List.getElem_cons_succ]
  refine list_val (.bool false) (by kernel_rfl) (by kernel_rfl) ?_
  simp only [Act.put, List.setIfInBounds_toArray, List.set_cons_zero, List.set_cons_succ, List.getElem_toArray, List.getElem_cons_zero, List.getElem_cons_succ]
  refine list_val (.bool false) (by kernel_rfl) (by kernel_rfl) ?_
  simp only [Act.put, List.setIfInBounds_toArray, List.set_cons_zero, List.set_cons_succ, List.getElem_toArray, List.getElem_cons_zero, List.getElem_cons_succ]
  refine list_val (.func (.func 48) #[] #[]) (by kernel_rfl) (by kernel_rfl) ?_
  simp only [Act.put, List.setIfInBounds_toArray, List.set_cons_zero, List.set_cons_succ, List.getElem_toArray, List.getElem_cons_zero, List.getElem_cons_succ]
  refine list_val (.pointer (some ⟨w.heap.size, 3, none⟩)) (by kernel_rfl) (by kernel_rfl) ?_
  simp only [Act.put, List.setIfInBounds_toArray, List.set_cons_zero, List.set_cons_succ, List.getElem_toArray, List.getElem_cons_zero, List.getElem_cons_succ]
  refine list_val (.slice a n k) (by kernel_rfl) (exec_sby _ (.tmp 14) rfl (w.heap.size) 3 (by kernel_rfl) a n k (cell_of (hB.get 0 (x := ⟨w.heap.size, #[.int .i64 c, .int .i64 s, .int .u64 r, .slice a n k], 113⟩) rfl) (i := 3) rfl)) ?_
  simp only [Act.put, List.setIfInBounds_toArray, List.set_cons_zero, List.set_cons_succ, List.getElem_toArray, List.getElem_cons_zero, List.getElem_cons_succ]
  refine list_val (.int .i64 (n : Int)) (by kernel_rfl) (by kernel_rfl) ?_
  simp only [Act.put, List.setIfInBounds_toArray, List.set_cons_zero, List.set_cons_succ, List.getElem_toArray, List.getElem_cons_zero, List.getElem_cons_succ]
  refine list_call 80 #[.func (.func 48) #[] #[], .int .i64 (n : Int)] (by kernel_rfl) (by kernel_rfl) ((some_on (n : Int) u1).mono ?_)
  rintro r_ u2 ⟨rfl, hg1⟩
  rw [hS]
  replace hB := hB.more hg1
  clear hg1
  refine ⟨_, rfl, ?_⟩
  simp only [Act.put, List.setIfInBounds_toArray, List.set_cons_zero, List.set_cons_succ, List.getElem_toArray, List.getElem_cons_zero, List.getElem_cons_succ]
  refine list_val (.bool false) (by kernel_rfl) (by kernel_rfl) ?_
  simp only [Act.put, List.setIfInBounds_toArray, List.set_cons_zero, List.set_cons_succ, List.getElem_toArray, List.getElem_cons_zero, List.getElem_cons_succ]
  refine list_val (.bool false) (by kernel_rfl) (by kernel_rfl) ?_
  simp only [Act.put, List.setIfInBounds_toArray, List.set_cons_zero, List.set_cons_succ, List.getElem_toArray, List.getElem_cons_zero, List.getElem_cons_succ]
  refine wpList_nil ?_
  replace hB := hide hB
  go_upto_region 3 with fail
  replace hB := unhide hB
  refine wp_region_lit ?_
  refine list_val (.int .u8 2) (by kernel_rfl) (by kernel_rfl) ?_
  simp only [Act.put, List.setIfInBounds_toArray, List.set_cons_zero, List.set_cons_succ, List.getElem_toArray, List.getElem_cons_zero, List.getElem_cons_succ]
  refine list_val (.pointer (some ⟨w.heap.size, 0, none⟩)) (by kernel_rfl) (by kernel_rfl) ?_
  simp only [Act.put, List.setIfInBounds_toArray, List.set_cons_zero, List.set_cons_succ, List.getElem_toArray, List.getElem_cons_zero, List.getElem_cons_succ]
  refine list_val (.int .i64 c) (by kernel_rfl) (exec_i64 _ (.tmp 21) rfl (w.heap.size) 0 (by kernel_rfl) c (cell_of (hB.get 0 (x := ⟨w.heap.size, #[.int .i64 c, .int .i64 s, .int .u64 r, .slice a n k], 113⟩) rfl) (i := 0) rfl)) ?_
  simp only [Act.put, List.setIfInBounds_toArray, List.set_cons_zero, List.set_cons_succ, List.getElem_toArray, List.getElem_cons_zero, List.getElem_cons_succ]
  refine list_val (.int .u8 c) (by kernel_rfl) (by go_simp) ?_
  simp only [Act.put, List.setIfInBounds_toArray, List.set_cons_zero, List.set_cons_succ, List.getElem_toArray, List.getElem_cons_zero, List.getElem_cons_succ]
  refine list_val (.pointer (some ⟨w.heap.size, 1, none⟩)) (by kernel_rfl) (by kernel_rfl) ?_
  simp only [Act.put, List.setIfInBounds_toArray, List.set_cons_zero, List.set_cons_succ, List.getElem_toArray, List.getElem_cons_zero, List.getElem_cons_succ]
  refine list_val (.int .i64 s) (by kernel_rfl) (exec_i64 _ (.tmp 24) rfl (w.heap.size) 1 (by kernel_rfl) s (cell_of (hB.get 0 (x := ⟨w.heap.size, #[.int .i64 c, .int .i64 s, .int .u64 r, .slice a n k], 113⟩) rfl) (i := 1) rfl)) ?_
  simp only [Act.put, List.setIfInBounds_toArray, List.set_cons_zero, List.set_cons_succ, List.getElem_toArray, List.getElem_cons_zero, List.getElem_cons_succ]
  refine list_val (.int .u8 s) (by kernel_rfl) (by go_simp) ?_
  simp only [Act.put, List.setIfInBounds_toArray, List.set_cons_zero, List.set_cons_succ, List.getElem_toArray, List.getElem_cons_zero, List.getElem_cons_succ]
  refine list_valw (.slice (some ⟨u2.heap.size, 0, none⟩) 3 3) (u2.alloc (.cells (kc [2, c, s]) 5 (0, 0))) (by kernel_rfl) (by kernel_rfl) ?_
  have hg := (Gr.refl u2).alloc (.cells (kc [2, c, s]) 5 (0, 0))
  have hlb1 := hide (kc_lb (n := 3) (blk_new u2 (.cells (kc [2, c, s]) 5 (0, 0))) rfl (unhide hkB) (by decide))
  replace hB := hB.more hg
  clear hg
  generalize World.alloc _ _ = u3 at *
  generalize u2.heap.size = h1 at *
  simp only [Act.put, List.setIfInBounds_toArray, List.set_cons_zero, List.set_cons_succ, List.getElem_toArray, List.getElem_cons_zero, List.getElem_cons_succ]
  refine list_val (.pointer (some ⟨w.heap.size, 2, none⟩)) (by kernel_rfl) (by kernel_rfl) ?_
  simp only [Act.put, List.setIfInBounds_toArray, List.set_cons_zero, List.set_cons_succ, List.getElem_toArray, List.getElem_cons_zero, List.getElem_cons_succ]
  refine list_val (.int .u64 r) (by kernel_rfl) (exec_u64 _ (.tmp 28) rfl (w.heap.size) 2 (by kernel_rfl) r (cell_of (hB.get 0 (x := ⟨w.heap.size, #[.int .i64 c, .int .i64 s, .int .u64 r, .slice a n k], 113⟩) rfl) (i := 2) rfl)) ?_
  simp only [Act.put, List.setIfInBounds_toArray, List.set_cons_zero, List.set_cons_succ, List.getElem_toArray, List.getElem_cons_zero, List.getElem_cons_succ]
  refine list_call 62 #[.slice (some ⟨h1, 0, none⟩) 3 3, .int .u64 r] (by kernel_rfl) (by kernel_rfl) ((put64_ok [2, c, s] (some ⟨h1, 0, none⟩) 3 3 r hr0 (by omega) u3 (unhide hlb1)).mono ?_)
  rintro r_ u4 ⟨h2, rfl, hh1, hh2, hh3⟩
  have hl2 : ([2, c, s] ++ lowL r 8).length = 11 := by simp [lowL_len]
  rw [hl2]
  have hO2 := hide (ob_of hh2 hl2 (Nat.le_trans hB.gr.size hh1) (by omega))
  replace hB := hB.more hh3
  clear hh1 hh2 hh3 hl2
  refine ⟨_, rfl, ?_⟩
  simp only [Act.put, List.setIfInBounds_toArray, List.set_cons_zero, List.set_cons_succ, List.getElem_toArray, List.getElem_cons_zero, List.getElem_cons_succ]
  (refine wpList_step fun K hK => ?_; replace hK := hide hK; go_simp; refine unhide hK _ _ ?_; clear hK K)
  refine wpList_nil ?_
  replace hB := hide hB
  go_upto_region 4 with fail
  replace hB := unhide hB
  refine wp_region_lit ?_
  refine list_val (.slice (some ⟨h2, 0, none⟩) 11 11) (by kernel_rfl) (by kernel_rfl) ?_
  simp only [Act.put, List.setIfInBounds_toArray, List.set_cons_zero, List.set_cons_succ, List.getElem_toArray, List.getElem_cons_zero, List.getElem_cons_succ]
  refine list_val (.pointer (some ⟨w.heap.size, 3, none⟩)) (by kernel_rfl) (by kernel_rfl) ?_
  simp only [Act.put, List.setIfInBounds_toArray, List.set_cons_zero, List.set_cons_succ, List.getElem_toArray, List.getElem_cons_zero, List.getElem_cons_succ]
  refine list_val (.slice a n k) (by kernel_rfl) (exec_sby _ (.tmp 32) rfl (w.heap.size) 3 (by kernel_rfl) a n k (cell_of (hB.get 0 (x := ⟨w.heap.size, #[.int .i64 c, .int .i64 s, .int .u64 r, .slice a n k], 113⟩) rfl) (i := 3) rfl)) ?_
  simp only [Act.put, List.setIfInBounds_toArray, List.set_cons_zero, List.set_cons_succ, List.getElem_toArray, List.getElem_cons_zero, List.getElem_cons_succ]
  refine app_bs (by kernel_rfl) (.tmp 31) (.tmp 33) rfl w.heap.size _ ([2, c, s] ++ lowL r 8) rfl (unhide hO2) a n k B (by kernel_rfl) (unhide lb).len ((unhide lb).gr hB.gr).sl (by have := unhide hn; simp [lowL_len]; omega) hB.gr.size ?_
  intro v2 u5 hO3 hgr
  have hZ : Hid (Pok (pkB 2 c s r B) w (.returned (.tuple #[v2, .int .i64 0])) u5) := ⟨v2, rfl, hO3, (unhide hO2).grown (Nat.le_refl _) hB.gr hgr⟩
  clear hO3 hgr
  simp only [Act.put, List.setIfInBounds_toArray, List.set_cons_zero, List.set_cons_succ, List.getElem_toArray, List.getElem_cons_zero, List.getElem_cons_succ]
  (refine wpList_step fun K hK => ?_; replace hK := hide hK; go_simp; refine unhide hK _ _ ?_; clear hK K)
  (refine wpList_step fun K hK => ?_; replace hK := hide hK; go_simp; refine unhide hK _ _ ?_; clear hK K)
  refine wpList_nil ?_
  clear hB
  go_wp2_with fail
  rw [unhide hT]
  exact unhide hZ
set_option maxHeartbeats 4000000 in
theorem fputup_no (c s r : Int) (a : Option Addr) (n k : Nat) (h : ends c s r = false ∨ onS (n : Int) = false) (w : World) : Calls Try.prog 36 #[.agg #[.int .i64 c, .int .i64 s, .int .u64 r, .slice a n k]] w (Pno w) := by
  obtain ⟨T, hT⟩ : ∃ T, T = Pno w := ⟨_, rfl⟩
  rw [← hT]
  replace hT := hide hT
  go_enter Try.func36, Try.ntmps36
  go_upto_region 1 with fail
  have hB := ((Bl.nil w).new #[.int .i64 c, .int .i64 s, .int .u64 r, .slice a n k] 78)
  simp only [size_alloc, List.nil_append, List.cons_append] at hB
  generalize World.alloc _ _ = u at *
  replace hB : Bl w [⟨w.heap.size, #[.int .i64 c, .int .i64 s, .int .u64 r, .slice a n k], 78⟩] u := hB
  refine wp_region_lit ?_
  refine list_val (.pointer (some ⟨w.heap.size, 0, none⟩)) (by kernel_rfl) (by kernel_rfl) ?_
  simp only [Act.put, List.setIfInBounds_toArray, List.set_cons_zero, List.set_cons_succ, List.getElem_toArray, List.getElem_cons_zero, List.getElem_cons_succ]
  refine list_val (.int .i64 c) (by kernel_rfl) (exec_i64 _ (.tmp 4) rfl (w.heap.size) 0 (by kernel_rfl) c (cell_of (hB.get 0 (x := ⟨w.heap.size, #[.int .i64 c, .int .i64 s, .int .u64 r, .slice a n k], 78⟩) rfl) (i := 0) rfl)) ?_
  simp only [Act.put, List.setIfInBounds_toArray, List.set_cons_zero, List.set_cons_succ, List.getElem_toArray, List.getElem_cons_zero, List.getElem_cons_succ]
  refine list_val (.pointer (some ⟨w.heap.size, 1, none⟩)) (by kernel_rfl) (by kernel_rfl) ?_
  simp only [Act.put, List.setIfInBounds_toArray, List.set_cons_zero, List.set_cons_succ, List.getElem_toArray, List.getElem_cons_zero, List.getElem_cons_succ]
  refine list_val (.int .i64 s) (by kernel_rfl) (exec_i64 _ (.tmp 6) rfl (w.heap.size) 1 (by kernel_rfl) s (cell_of (hB.get 0 (x := ⟨w.heap.size, #[.int .i64 c, .int .i64 s, .int .u64 r, .slice a n k], 78⟩) rfl) (i := 1) rfl)) ?_
  simp only [Act.put, List.setIfInBounds_toArray, List.set_cons_zero, List.set_cons_succ, List.getElem_toArray, List.getElem_cons_zero, List.getElem_cons_succ]
  refine list_val (.pointer (some ⟨w.heap.size, 2, none⟩)) (by kernel_rfl) (by kernel_rfl) ?_
  simp only [Act.put, List.setIfInBounds_toArray, List.set_cons_zero, List.set_cons_succ, List.getElem_toArray, List.getElem_cons_zero, List.getElem_cons_succ]
  refine list_val (.int .u64 r) (by kernel_rfl) (exec_u64 _ (.tmp 8) rfl (w.heap.size) 2 (by kernel_rfl) r (cell_of (hB.get 0 (x := ⟨w.heap.size, #[.int .i64 c, .int .i64 s, .int .u64 r, .slice a n k], 78⟩) rfl) (i := 2) rfl)) ?_
  simp only [Act.put, List.setIfInBounds_toArray, List.set_cons_zero, List.set_cons_succ, List.getElem_toArray, List.getElem_cons_zero, List.getElem_cons_succ]
  refine list_val (.pointer (some ⟨w.heap.size, 3, none⟩)) (by kernel_rfl) (by kernel_rfl) ?_
  simp only [Act.put, List.setIfInBounds_toArray, List.set_cons_zero, List.set_cons_succ, List.getElem_toArray, List.getElem_cons_zero, List.getElem_cons_succ]
  refine list_val (.slice a n k) (by kernel_rfl) (exec_sby _ (.tmp 10) rfl (w.heap.size) 3 (by kernel_rfl) a n k (cell_of (hB.get 0 (x := ⟨w.heap.size, #[.int .i64 c, .int .i64 s, .int .u64 r, .slice a n k], 78⟩) rfl) (i := 3) rfl)) ?_
  simp only [Act.put, List.setIfInBounds_toArray, List.set_cons_zero, List.set_cons_succ, List.getElem_toArray, List.getElem_cons_zero, List.getElem_cons_succ]
  refine list_val (.agg #[.int .i64 c, .int .i64 s, .int .u64 r, .slice a n k]) (by kernel_rfl) (by kernel_rfl) ?_
  simp only [Act.put, List.setIfInBounds_toArray, List.set_cons_zero, List.set_cons_succ, List.getElem_toArray, List.getElem_cons_zero, List.getElem_cons_succ]
  refine list_call 67 #[.agg #[.int .i64 c, .int .i64 s, .int .u64 r, .slice a n k], .int .u8 2, .func (.func 48) #[] #[]] (by kernel_rfl) (by kernel_rfl) ((pput_up_no c s r a n k h u).mono ?_)
  rintro r_ u1 ⟨rfl, hg1⟩
  have hZ : Hid (Pno w (.returned (.tuple #[.slice none 0 0, .int .i64 241])) u1) := ⟨rfl, hB.gr.trans hg1⟩
  clear hB hg1
  refine ⟨_, rfl, ?_⟩
  simp only [Act.put, List.setIfInBounds_toArray, List.set_cons_zero, List.set_cons_succ, List.getElem_toArray, List.getElem_cons_zero, List.getElem_cons_succ]
  refine list_val (.slice none 0 0) (by kernel_rfl) (by kernel_rfl) ?_
  simp only [Act.put, List.setIfInBounds_toArray, List.set_cons_zero, List.set_cons_succ, List.getElem_toArray, List.getElem_cons_zero, List.getElem_cons_succ]
  refine list_val (.int .i64 241) (by kernel_rfl) (by kernel_rfl) ?_
  simp only [Act.put, List.setIfInBounds_toArray, List.set_cons_zero, List.set_cons_succ, List.getElem_toArray, List.getElem_cons_zero, List.getElem_cons_succ]
  (refine wpList_step fun K hK => ?_; replace hK := hide hK; go_simp; refine unhide hK _ _ ?_; clear hK K)
  (refine wpList_step fun K hK => ?_; replace hK := hide hK; go_simp; refine unhide hK _ _ ?_; clear hK K)
  refine wpList_nil ?_
  go_wp2_with fail
  rw [unhide hT]
  exact unhide hZ
set_option maxHeartbeats 4000000 in
theorem fputup_ok (c s r : Int) (a : Option Addr) (n k : Nat) (B : List Int) (hE : ends c s r = true) (hS : onS (n : Int) = true) (hr : r < 18446744073709551616) (w : World) (lb : Lb w a n k B) : Calls Try.prog 36 #[.agg #[.int .i64 c, .int .i64 s, .int .u64 r, .slice a n k]] w (Pok (pkB 2 c s r B) w) := by
  obtain ⟨T, hT⟩ : ∃ T, T = Pok (pkB 2 c s r B) w := ⟨_, rfl⟩
  rw [← hT]
  replace hT := hide hT
  replace lb := hide lb
  go_enter Try.func36, Try.ntmps36
  go_upto_region 1 with fail
  have hB := ((Bl.nil w).new #[.int .i64 c, .int .i64 s, .int .u64 r, .slice a n k] 78)
  simp only [size_alloc, List.nil_append, List.cons_append] at hB
  generalize World.alloc _ _ = u at *
  replace hB : Bl w [⟨w.heap.size, #[.int .i64 c, .int .i64 s, .int .u64 r, .slice a n k], 78⟩] u := hB
  refine wp_region_lit ?_
  refine list_val (.pointer (some ⟨w.heap.size, 0, none⟩)) (by kernel_rfl) (by kernel_rfl) ?_
  simp only [Act.put, List.setIfInBounds_toArray, List.set_cons_zero, List.set_cons_succ, List.getElem_toArray, List.getElem_cons_zero, List.getElem_cons_succ]
  refine list_val (.int .i64 c) (by kernel_rfl) (exec_i64 _ (.tmp 4) rfl (w.heap.size) 0 (by kernel_rfl) c (cell_of (hB.get 0 (x := ⟨w.heap.size, #[.int .i64 c, .int .i64 s, .int .u64 r, .slice a n k], 78⟩) rfl) (i := 0) rfl)) ?_
  simp only [Act.put, List.setIfInBounds_toArray, List.set_cons_zero, List.set_cons_succ, List.getElem_toArray, List.getElem_cons_zero, List.getElem_cons_succ]
  refine list_val (.pointer (some ⟨w.heap.size, 1, none⟩)) (by kernel_rfl) (by kernel_rfl) ?_
  simp only [Act.put, List.setIfInBounds_toArray, List.set_cons_zero, List.set_cons_succ, List.getElem_toArray, List.getElem_cons_zero, List.getElem_cons_succ]
  refine list_val (.int .i64 s) (by kernel_rfl) (exec_i64 _ (.tmp 6) rfl (w.heap.size) 1 (by kernel_rfl) s (cell_of (hB.get 0 (x := ⟨w.heap.size, #[.int .i64 c, .int .i64 s, .int .u64 r, .slice a n k], 78⟩) rfl) (i := 1) rfl)) ?_
  simp only [Act.put, List.setIfInBounds_toArray, List.set_cons_zero, List.set_cons_succ, List.getElem_toArray, List.getElem_cons_zero, List.getElem_cons_succ]
  refine list_val (.pointer (some ⟨w.heap.size, 2, none⟩)) (by kernel_rfl) (by kernel_rfl) ?_
  simp only [Act.put, List.setIfInBounds_toArray, List.set_cons_zero, List.set_cons_succ, List.getElem_toArray, List.getElem_cons_zero, List.getElem_cons_succ]
  refine list_val (.int .u64 r) (by kernel_rfl) (exec_u64 _ (.tmp 8) rfl (w.heap.size) 2 (by kernel_rfl) r (cell_of (hB.get 0 (x := ⟨w.heap.size, #[.int .i64 c, .int .i64 s, .int .u64 r, .slice a n k], 78⟩) rfl) (i := 2) rfl)) ?_
  simp only [Act.put, List.setIfInBounds_toArray, List.set_cons_zero, List.set_cons_succ, List.getElem_toArray, List.getElem_cons_zero, List.getElem_cons_succ]
  refine list_val (.pointer (some ⟨w.heap.size, 3, none⟩)) (by kernel_rfl) (by kernel_rfl) ?_
  simp only [Act.put, List.setIfInBounds_toArray, List.set_cons_zero, List.set_cons_succ, List.getElem_toArray, List.getElem_cons_zero, List.getElem_cons_succ]
  refine list_val (.slice a n k) (by kernel_rfl) (exec_sby _ (.tmp 10) rfl (w.heap.size) 3 (by kernel_rfl) a n k (cell_of (hB.get 0 (x := ⟨w.heap.size, #[.int .i64 c, .int .i64 s, .int .u64 r, .slice a n k], 78⟩) rfl) (i := 3) rfl)) ?_
  simp only [Act.put, List.setIfInBounds_toArray, List.set_cons_zero, List.set_cons_succ, List.getElem_toArray, List.getElem_cons_zero, List.getElem_cons_succ]
  refine list_val (.agg #[.int .i64 c, .int .i64 s, .int .u64 r, .slice a n k]) (by kernel_rfl) (by kernel_rfl) ?_
  simp only [Act.put, List.setIfInBounds_toArray, List.set_cons_zero, List.set_cons_succ, List.getElem_toArray, List.getElem_cons_zero, List.getElem_cons_succ]
  refine list_call 67 #[.agg #[.int .i64 c, .int .i64 s, .int .u64 r, .slice a n k], .int .u8 2, .func (.func 48) #[] #[]] (by kernel_rfl) (by kernel_rfl) ((pput_up_ok c s r a n k B hE hS hr u ((unhide lb).gr hB.gr)).mono ?_)
  rintro r_ u1 ⟨v, rfl, hO, hg1⟩
  have hZ : Hid (Pok (pkB 2 c s r B) w (.returned (.tuple #[v, .int .i64 0])) u1) := ⟨v, rfl, ob_base hO hB.gr.size, hB.gr.trans hg1⟩
  clear hB hO hg1
  refine ⟨_, rfl, ?_⟩
  simp only [Act.put, List.setIfInBounds_toArray, List.set_cons_zero, List.set_cons_succ, List.getElem_toArray, List.getElem_cons_zero, List.getElem_cons_succ]
  refine list_val v (by kernel_rfl) (by kernel_rfl) ?_
  simp only [Act.put, List.setIfInBounds_toArray, List.set_cons_zero, List.set_cons_succ, List.getElem_toArray, List.getElem_cons_zero, List.getElem_cons_succ]
  refine list_val (.int .i64 0) (by kernel_rfl) (by kernel_rfl) ?_
  simp only [Act.put, List.setIfInBounds_toArray, List.set_cons_zero, List.set_cons_succ, List.getElem_toArray, List.getElem_cons_zero, List.getElem_cons_succ]
  (refine wpList_step fun K hK => ?_; replace hK := hide hK; go_simp; refine unhide hK _ _ ?_; clear hK K)
  (refine wpList_step fun K hK => ?_; replace hK := hide hK; go_simp; refine unhide hK _ _ ?_; clear hK K)
  refine wpList_nil ?_
  go_wp2_with fail
  rw [unhide hT]
  exact unhide hZ
set_option maxHeartbeats 4000000 in
theorem pput_dn_no (c s r : Int) (a : Option Addr) (n k : Nat) (h : ends c s r = false ∨ rpS (n : Int) = false) (w : World) : Calls Try.prog 67 #[.agg #[.int .i64 c, .int .i64 s, .int .u64 r, .slice a n k], .int .u8 3, .func (.func 49) #[] #[]] w (Pno w) := by
  obtain ⟨T, hT⟩ : ∃ T, T = Pno w := ⟨_, rfl⟩
  rw [← hT]
  replace hT := hide hT
  go_enter Try.func67, Try.ntmps67
  go_upto_region 1 with fail
  have hB := ((Bl.nil w).new #[.int .i64 c, .int .i64 s, .int .u64 r, .slice a n k] 113)
  simp only [size_alloc, List.nil_append, List.cons_append] at hB
  generalize World.alloc _ _ = u at *
  replace hB : Bl w [⟨w.heap.size, #[.int .i64 c, .int .i64 s, .int .u64 r, .slice a n k], 113⟩] u := hB
  cases hE : ends c s r
  · skip
    refine wp_region_lit ?_
    refine list_val (.agg #[.int .i64 c, .int .i64 s, .int .u64 r, .slice a n k]) (by kernel_rfl) (exec_arr _ 113 (.tmp 3) rfl (w.heap.size) (by kernel_rfl) #[.int .i64 c, .int .i64 s, .int .u64 r, .slice a n k] 113 _ (hB.get 0 (x := ⟨w.heap.size, #[.int .i64 c, .int .i64 s, .int .u64 r, .slice a n k], 113⟩) rfl) Try.underlying113 rfl (by rw [Try.infoP]; rfl)) ?_
    simp only [Act.put, List.setIfInBounds_toArray, List.set_cons_zero, List.set_cons_succ, List.getElem_toArray, List.getElem_cons_zero, List.getElem_cons_succ]
    refine list_call 79 #[.agg #[.int .i64 c, .int .i64 s, .int .u64 r, .slice a n k]] (by kernel_rfl) (by kernel_rfl) ((fpm_ok c s r a n k u).mono ?_)
    rintro r_ u1 ⟨rfl, hg1⟩
    rw [hE]
    replace hB := hB.more hg1
    clear hg1
    refine ⟨_, rfl, ?_⟩
    simp only [Act.put, List.setIfInBounds_toArray, List.set_cons_zero, List.set_cons_succ, List.getElem_toArray, List.getElem_cons_zero, List.getElem_cons_succ]
    refine list_val (.bool true) (by kernel_rfl) (by kernel_rfl) ?_
    simp only [Act.put, List.setIfInBounds_toArray, List.set_cons_zero, List.set_cons_succ, List.getElem_toArray, List.getElem_cons_zero, List.getElem_cons_succ]
    refine list_val (.bool true) (by kernel_rfl) (by kernel_rfl) ?_
    simp only [Act.put, List.setIfInBounds_toArray, List.set_cons_zero, List.set_cons_succ, List.getElem_toArray, List.getElem_cons_zero, List.getElem_cons_succ]
    refine wpList_step fun K hK => ?_
    rw [if_neg (ne_true_of_eq_false (by kernel_rfl))]
    refine hK _ _ ?_
    clear hK K
    simp only [Act.put, List.setIfInBounds_toArray, List.set_cons_zero, List.set_cons_succ, List.getElem_toArray, List.getElem_cons_zero, List.getElem_cons_succ]
    refine wpList_step fun K hK => ?_
    rw [if_neg (ne_true_of_eq_false (by kernel_rfl))]
    refine hK _ _ ?_
    clear hK K
    simp only [Act.put, List.setIfInBounds_toArray, List.set_cons_zero, List.set_cons_succ, List.getElem_toArray, List.getElem_cons_zero, List.getElem_cons_succ]
    refine wpList_step fun K hK => ?_
    rw [if_neg (ne_true_of_eq_false (by kernel_rfl))]
    refine hK _ _ ?_
    clear hK K
    simp only [Act.put, List.setIfInBounds_toArray, List.set_cons_zero, List.set_cons_succ, List.getElem_toArray, List.getElem_cons_zero, List.getElem_cons_succ]
    refine wpList_step fun K hK => ?_
    rw [if_neg (ne_true_of_eq_false (by kernel_rfl))]
    refine hK _ _ ?_
    clear hK K
    simp only [Act.put, List.setIfInBounds_toArray, List.set_cons_zero, List.set_cons_succ, List.getElem_toArray, List.getElem_cons_zero, List.getElem_cons_succ]
    refine wpList_step fun K hK => ?_
    rw [if_neg (ne_true_of_eq_false (by kernel_rfl))]
    refine hK _ _ ?_
    clear hK K
    simp only [Act.put, List.setIfInBounds_toArray, List.set_cons_zero, List.set_cons_succ, List.getElem_toArray, List.getElem_cons_zero, List.getElem_cons_succ]
    refine wpList_step fun K hK => ?_
    rw [if_neg (ne_true_of_eq_false (by kernel_rfl))]
    refine hK _ _ ?_
    clear hK K
    simp only [Act.put, List.setIfInBounds_toArray, List.set_cons_zero, List.set_cons_succ, List.getElem_toArray, List.getElem_cons_zero, List.getElem_cons_succ]
    refine list_val (.bool true) (by kernel_rfl) (by kernel_rfl) ?_
    simp only [Act.put, List.setIfInBounds_toArray, List.set_cons_zero, List.set_cons_succ, List.getElem_toArray, List.getElem_cons_zero, List.getElem_cons_succ]
    refine wpList_nil ?_
    have hZ : Hid (Pno w (.returned (.tuple #[.slice none 0 0, .int .i64 241])) u1) := ⟨rfl, hB.gr⟩
    clear hB
    go_wp2_with fail
    rw [unhide hT]
    exact unhide hZ
  · skip
    have hS : rpS (n : Int) = false := h.resolve_left (by rw [hE]; decide)
    refine wp_region_lit ?_
    refine list_val (.agg #[.int .i64 c, .int .i64 s, .int .u64 r, .slice a n k]) (by kernel_rfl) (exec_arr _ 113 (.tmp 3) rfl (w.heap.size) (by kernel_rfl) #[.int .i64 c, .int .i64 s, .int .u64 r, .slice a n k] 113 _ (hB.get 0 (x := ⟨w.heap.size, #[.int .i64 c, .int .i64 s, .int .u64 r, .slice a n k], 113⟩) rfl) Try.underlying113 rfl (by rw [Try.infoP]; rfl)) ?_
    simp only [Act.put, List.setIfInBounds_toArray, List.set_cons_zero, List.set_cons_succ, List.getElem_toArray, List.getElem_cons_zero, List.getElem_cons_succ]
    refine list_call 79 #[.agg #[.int .i64 c, .int .i64 s, .int .u64 r, .slice a n k]] (by kernel_rfl) (by kernel_rfl) ((fpm_ok c s r a n k u).mono ?_)
    rintro r_ u1 ⟨rfl, hg1⟩
    rw [hE]
    replace hB := hB.more hg1
    clear hg1
    refine ⟨_, rfl, ?_⟩
    simp only [Act.put, List.setIfInBounds_toArray, List.set_cons_zero, List.set_cons_succ, List.getElem_toArray, List.getElem_cons_zero, List.getElem_cons_succ]
    refine list_val (.bool false) (by kernel_rfl) (by kernel_rfl) ?_
    simp only [Act.put, List.setIfInBounds_toArray, List.set_cons_zero, List.set_cons_succ, List.getElem_toArray, List.getElem_cons_zero, List.getElem_cons_succ]
    refine list_val (.bool false) (by kernel_rfl) (by kernel_rfl) ?_
    simp only [Act.put, List.setIfInBounds_toArray, List.set_cons_zero, List.set_cons_succ, List.getElem_toArray, List.getElem_cons_zero, List.getElem_cons_succ]
    refine list_val (.func (.func 49) #[] #[]) (by kernel_rfl) (by kernel_rfl) ?_
    simp only [Act.put, List.setIfInBounds_toArray, List.set_cons_zero, List.set_cons_succ, List.getElem_toArray, List.getElem_cons_zero, List.getElem_cons_succ]
    refine list_val (.pointer (some ⟨w.heap.size, 3, none⟩)) (by kernel_rfl) (by kernel_rfl) ?_
    simp only [Act.put, List.setIfInBounds_toArray, List.set_cons_zero, List.set_cons_succ, List.getElem_toArray, List.getElem_cons_zero, List.getElem_cons_succ]
    refine list_val (.slice a n k) (by kernel_rfl) (exec_sby _ (.tmp 14) rfl (w.heap.size) 3 (by kernel_rfl) a n k (cell_of (hB.get 0 (x := ⟨w.heap.size, #[.int .i64 c, .int .i64 s, .int .u64 r, .slice a n k], 113⟩) rfl) (i := 3) rfl)) ?_
    simp only [Act.put, List.setIfInBounds_toArray, List.set_cons_zero, List.set_cons_succ, List.getElem_toArray, List.getElem_cons_zero, List.getElem_cons_succ]
    refine list_val (.int .i64 (n : Int)) (by kernel_rfl) (by kernel_rfl) ?_
    simp only [Act.put, List.setIfInBounds_toArray, List.set_cons_zero, List.set_cons_succ, List.getElem_toArray, List.getElem_cons_zero, List.getElem_cons_succ]
    refine list_call 80 #[.func (.func 49) #[] #[], .int .i64 (n : Int)] (by kernel_rfl) (by kernel_rfl) ((some_rp (n : Int) u1).mono ?_)
    rintro r_ u2 ⟨rfl, hg1⟩
    rw [hS]
    replace hB := hB.more hg1
    clear hg1
    refine ⟨_, rfl, ?_⟩
    simp only [Act.put, List.setIfInBounds_toArray, List.set_cons_zero, List.set_cons_succ, List.getElem_toArray, List.getElem_cons_zero, List.getElem_cons_succ]
    refine list_val (.bool true) (by kernel_rfl) (by kernel_rfl) ?_
    simp only [Act.put, List.setIfInBounds_toArray, List.set_cons_zero, List.set_cons_succ, List.getElem_toArray, List.getElem_cons_zero, List.getElem_cons_succ]
    refine list_val (.bool true) (by kernel_rfl) (by kernel_rfl) ?_
    simp only [Act.put, List.setIfInBounds_toArray, List.set_cons_zero, List.set_cons_succ, List.getElem_toArray, List.getElem_cons_zero, List.getElem_cons_succ]
    refine wpList_nil ?_
    have hZ : Hid (Pno w (.returned (.tuple #[.slice none 0 0, .int .i64 241])) u2) := ⟨rfl, hB.gr⟩
    clear hB
    go_wp2_with fail
    rw [unhide hT]
    exact unhide hZ
set_option maxHeartbeats 4000000 in
theorem pput_dn_ok (c s r : Int) (a : Option Addr) (n k : Nat) (B : List Int) (hE : ends c s r = true) (hS : rpS (n : Int) = true) (hr : r < 18446744073709551616) (w : World) (lb : Lb w a n k B) : Calls Try.prog 67 #[.agg #[.int .i64 c, .int .i64 s, .int .u64 r, .slice a n k], .int .u8 3, .func (.func 49) #[] #[]] w (Pok (pkB 3 c s r B) w) := by
  obtain ⟨T, hT⟩ : ∃ T, T = Pok (pkB 3 c s r B) w := ⟨_, rfl⟩
  rw [← hT]
  replace hT := hide hT
  have hn := rp_size hS
  have hE2 := ends_is hE
  have hc8 : IntKind.u8.wrap c = c := by rw [IntKind.wrap_u8]; omega
  have hs8 : IntKind.u8.wrap s = s := by rw [IntKind.wrap_u8]; omega
  have hr0 : 0 ≤ r := by omega
  have hkB : IsB [3, c, s] := fun y hy => by simp only [List.mem_cons, List.not_mem_nil, or_false] at hy; omega
  replace hn := hide hn; replace hE2 := hide hE2; replace lb := hide lb; replace hkB := hide hkB
  go_enter Try.func67, Try.ntmps67
  go_upto_region 1 with fail
  have hB := ((Bl.nil w).new #[.int .i64 c, .int .i64 s, .int .u64 r, .slice a n k] 113)
  simp only [size_alloc, List.nil_append, List.cons_append] at hB
  generalize World.alloc _ _ = u at *
  replace hB : Bl w [⟨w.heap.size, #[.int .i64 c, .int .i64 s, .int .u64 r, .slice a n k], 113⟩] u := hB
  refine wp_region_lit ?_
  refine list_val (.agg #[.int .i64 c, .int .i64 s, .int .u64 r, .slice a n k]) (by kernel_rfl) (exec_arr _ 113 (.tmp 3) rfl (w.heap.size) (by kernel_rfl) #[.int .i64 c, .int .i64 s, .int .u64 r, .slice a n k] 113 _ (hB.get 0 (x := ⟨w.heap.size, #[.int .i64 c, .int .i64 s, .int .u64 r, .slice a n k], 113⟩) rfl) Try.underlying113 rfl (by rw [Try.infoP]; rfl)) ?_
  simp only [Act.put, List.setIfInBounds_toArray, List.set_cons_zero, List.set_cons_succ, List.getElem_toArray, List.getElem_cons_zero, List.getElem_cons_succ]
  refine list_call 79 #[.agg #[.int .i64 c, .int .i64 s, .int .u64 r, .slice a n k]] (by kernel_rfl) (by kernel_rfl) ((fpm_ok c s r a n k u).mono ?_)
  rintro r_ u1 ⟨rfl, hg1⟩
  rw [hE]
  replace hB := hB.more hg1
  clear hg1
  refine ⟨_, rfl, ?_⟩
  simp only [Act.put, List.setIfInBounds_toArray, List.set_cons_zero, List.set_cons_succ, List.getElem_toArray, List.getElem_cons_zero, List.getElem_cons_succ]
  refine list_val (.bool false) (by kernel_rfl) (by kernel_rfl) ?_
  simp only [Act.put, List.setIfInBounds_toArray, List.set_cons_zero, List.set_cons_succ, List.getElem_toArray, List.getElem_cons_zero, List.getElem_cons_succ]
  refine list_val (.bool false) (by kernel_rfl) (by kernel_rfl) ?_
  simp only [Act.put, List.setIfInBounds_toArray, List.set_cons_zero, List.set_cons_succ, List.getElem_toArray, List.getElem_cons_zero, List.getElem_cons_succ]
  refine list_val (.func (.func 49) #[] #[]) (by kernel_rfl) (by kernel_rfl) ?_
  simp only [Act.put, List.setIfInBounds_toArray, List.set_cons_zero, List.set_cons_succ, List.getElem_toArray, List.getElem_cons_zero, List.getElem_cons_succ]
  refine list_val (.pointer (some ⟨w.heap.size, 3, none⟩)) (by kernel_rfl) (by kernel_rfl) ?_
  simp only [Act.put, List.setIfInBounds_toArray, List.set_cons_zero, List.set_cons_succ, List.getElem_toArray, List.getElem_cons_zero, List.getElem_cons_succ]
  refine list_val (.slice a n k) (by kernel_rfl) (exec_sby _ (.tmp 14) rfl (w.heap.size) 3 (by kernel_rfl) a n k (cell_of (hB.get 0 (x := ⟨w.heap.size, #[.int .i64 c, .int .i64 s, .int .u64 r, .slice a n k], 113⟩) rfl) (i := 3) rfl)) ?_
  simp only [Act.put, List.setIfInBounds_toArray, List.set_cons_zero, List.set_cons_succ, List.getElem_toArray, List.getElem_cons_zero, List.getElem_cons_succ]
  refine list_val (.int .i64 (n : Int)) (by kernel_rfl) (by kernel_rfl) ?_
  simp only [Act.put, List.setIfInBounds_toArray, List.set_cons_zero, List.set_cons_succ, List.getElem_toArray, List.getElem_cons_zero, List.getElem_cons_succ]
  refine list_call 80 #[.func (.func 49) #[] #[], .int .i64 (n : Int)] (by kernel_rfl) (by kernel_rfl) ((some_rp (n : Int) u1).mono ?_)
  rintro r_ u2 ⟨rfl, hg1⟩
  rw [hS]
  replace hB := hB.more hg1
  clear hg1
  refine ⟨_, rfl, ?_⟩
  simp only [Act.put, List.setIfInBounds_toArray, List.set_cons_zero, List.set_cons_succ, List.getElem_toArray, List.getElem_cons_zero, List.getElem_cons_succ]
  refine list_val (.bool false) (by kernel_rfl) (by kernel_rfl) ?_
  simp only [Act.put, List.setIfInBounds_toArray, List.set_cons_zero, List.set_cons_succ, List.getElem_toArray, List.getElem_cons_zero, List.getElem_cons_succ]
  refine list_val (.bool false) (by kernel_rfl) (by kernel_rfl) ?_
  simp only [Act.put, List.setIfInBounds_toArray, List.set_cons_zero, List.set_cons_succ, List.getElem_toArray, List.getElem_cons_zero, List.getElem_cons_succ]
  refine wpList_nil ?_
  replace hB := hide hB
  go_upto_region 3 with fail
  replace hB := unhide hB
  refine wp_region_lit ?_
  refine list_val (.int .u8 3) (by kernel_rfl) (by kernel_rfl) ?_
  simp only [Act.put, List.setIfInBounds_toArray, List.set_cons_zero, List.set_cons_succ, List.getElem_toArray, List.getElem_cons_zero, List.getElem_cons_succ]
  refine list_val (.pointer (some ⟨w.heap.size, 0, none⟩)) (by kernel_rfl) (by kernel_rfl) ?_
  simp only [Act.put, List.setIfInBounds_toArray, List.set_cons_zero, List.set_cons_succ, List.getElem_toArray, List.getElem_cons_zero, List.getElem_cons_succ]
  refine list_val (.int .i64 c) (by kernel_rfl) (exec_i64 _ (.tmp 21) rfl (w.heap.size) 0 (by kernel_rfl) c (cell_of (hB.get 0 (x := ⟨w.heap.size, #[.int .i64 c, .int .i64 s, .int .u64 r, .slice a n k], 113⟩) rfl) (i := 0) rfl)) ?_
  simp only [Act.put, List.setIfInBounds_toArray, List.set_cons_zero, List.set_cons_succ, List.getElem_toArray, List.getElem_cons_zero, List.getElem_cons_succ]
  refine list_val (.int .u8 c) (by kernel_rfl) (by go_simp) ?_
  simp only [Act.put, List.setIfInBounds_toArray, List.set_cons_zero, List.set_cons_succ, List.getElem_toArray, List.getElem_cons_zero, List.getElem_cons_succ]
  refine list_val (.pointer (some ⟨w.heap.size, 1, none⟩)) (by kernel_rfl) (by kernel_rfl) ?_
  simp only [Act.put, List.setIfInBounds_toArray, List.set_cons_zero, List.set_cons_succ, List.getElem_toArray, List.getElem_cons_zero, List.getElem_cons_succ]
  refine list_val (.int .i64 s) (by kernel_rfl) (exec_i64 _ (.tmp 24) rfl (w.heap.size) 1 (by kernel_rfl) s (cell_of (hB.get 0 (x := ⟨w.heap.size, #[.int .i64 c, .int .i64 s, .int .u64 r, .slice a n k], 113⟩) rfl) (i := 1) rfl)) ?_
  simp only [Act.put, List.setIfInBounds_toArray, List.set_cons_zero, List.set_cons_succ, List.getElem_toArray, List.getElem_cons_zero, List.getElem_cons_succ]
  refine list_val (.int .u8 s) (by kernel_rfl) (by go_simp) ?_
  simp only [Act.put, List.setIfInBounds_toArray, List.set_cons_zero, List.set_cons_succ, List.getElem_toArray, List.getElem_cons_zero, List.getElem_cons_succ]
  refine list_valw (.slice (some ⟨u2.heap.size, 0, none⟩) 3 3) (u2.alloc (.cells (kc [3, c, s]) 5 (0, 0))) (by kernel_rfl) (by kernel_rfl) ?_
  have hg := (Gr.refl u2).alloc (.cells (kc [3, c, s]) 5 (0, 0))
  have hlb1 := hide (kc_lb (n := 3) (blk_new u2 (.cells (kc [3, c, s]) 5 (0, 0))) rfl (unhide hkB) (by decide))
  replace hB := hB.more hg
  clear hg
  generalize World.alloc _ _ = u3 at *
  generalize u2.heap.size = h1 at *
  simp only [Act.put, List.setIfInBounds_toArray, List.set_cons_zero, List.set_cons_succ, List.getElem_toArray, List.getElem_cons_zero, List.getElem_cons_succ]
  refine list_val (.pointer (some ⟨w.heap.size, 2, none⟩)) (by kernel_rfl) (by kernel_rfl) ?_
  simp only [Act.put, List.setIfInBounds_toArray, List.set_cons_zero, List.set_cons_succ, List.getElem_toArray, List.getElem_cons_zero, List.getElem_cons_succ]
  refine list_val (.int .u64 r) (by kernel_rfl) (exec_u64 _ (.tmp 28) rfl (w.heap.size) 2 (by kernel_rfl) r (cell_of (hB.get 0 (x := ⟨w.heap.size, #[.int .i64 c, .int .i64 s, .int .u64 r, .slice a n k], 113⟩) rfl) (i := 2) rfl)) ?_
  simp only [Act.put, List.setIfInBounds_toArray, List.set_cons_zero, List.set_cons_succ, List.getElem_toArray, List.getElem_cons_zero, List.getElem_cons_succ]
  refine list_call 62 #[.slice (some ⟨h1, 0, none⟩) 3 3, .int .u64 r] (by kernel_rfl) (by kernel_rfl) ((put64_ok [3, c, s] (some ⟨h1, 0, none⟩) 3 3 r hr0 (by omega) u3 (unhide hlb1)).mono ?_)
  rintro r_ u4 ⟨h2, rfl, hh1, hh2, hh3⟩
  have hl2 : ([3, c, s] ++ lowL r 8).length = 11 := by simp [lowL_len]
  rw [hl2]
  have hO2 := hide (ob_of hh2 hl2 (Nat.le_trans hB.gr.size hh1) (by omega))
  replace hB := hB.more hh3
  clear hh1 hh2 hh3 hl2
  refine ⟨_, rfl, ?_⟩
  simp only [Act.put, List.setIfInBounds_toArray, List.set_cons_zero, List.set_cons_succ, List.getElem_toArray, List.getElem_cons_zero, List.getElem_cons_succ]
  (refine wpList_step fun K hK => ?_; replace hK := hide hK; go_simp; refine unhide hK _ _ ?_; clear hK K)
  refine wpList_nil ?_
  replace hB := hide hB
  go_upto_region 4 with fail
  replace hB := unhide hB
  refine wp_region_lit ?_
  refine list_val (.slice (some ⟨h2, 0, none⟩) 11 11) (by kernel_rfl) (by kernel_rfl) ?_
  simp only [Act.put, List.setIfInBounds_toArray, List.set_cons_zero, List.set_cons_succ, List.getElem_toArray, List.getElem_cons_zero, List.getElem_cons_succ]
  refine list_val (.pointer (some ⟨w.heap.size, 3, none⟩)) (by kernel_rfl) (by kernel_rfl) ?_
  simp only [Act.put, List.setIfInBounds_toArray, List.set_cons_zero, List.set_cons_succ, List.getElem_toArray, List.getElem_cons_zero, List.getElem_cons_succ]
  refine list_val (.slice a n k) (by kernel_rfl) (exec_sby _ (.tmp 32) rfl (w.heap.size) 3 (by kernel_rfl) a n k (cell_of (hB.get 0 (x := ⟨w.heap.size, #[.int .i64 c, .int .i64 s, .int .u64 r, .slice a n k], 113⟩) rfl) (i := 3) rfl)) ?_
  simp only [Act.put, List.setIfInBounds_toArray, List.set_cons_zero, List.set_cons_succ, List.getElem_toArray, List.getElem_cons_zero, List.getElem_cons_succ]
  refine app_bs (by kernel_rfl) (.tmp 31) (.tmp 33) rfl w.heap.size _ ([3, c, s] ++ lowL r 8) rfl (unhide hO2) a n k B (by kernel_rfl) (unhide lb).len ((unhide lb).gr hB.gr).sl (by have := unhide hn; simp [lowL_len]; omega) hB.gr.size ?_
  intro v2 u5 hO3 hgr
  have hZ : Hid (Pok (pkB 3 c s r B) w (.returned (.tuple #[v2, .int .i64 0])) u5) := ⟨v2, rfl, hO3, (unhide hO2).grown (Nat.le_refl _) hB.gr hgr⟩
  clear hO3 hgr
  simp only [Act.put, List.setIfInBounds_toArray, List.set_cons_zero, List.set_cons_succ, List.getElem_toArray, List.getElem_cons_zero, List.getElem_cons_succ]
  (refine wpList_step fun K hK => ?_; replace hK := hide hK; go_simp; refine unhide hK _ _ ?_; clear hK K)
  (refine wpList_step fun K hK => ?_; replace hK := hide hK; go_simp; refine unhide hK _ _ ?_; clear hK K)
  refine wpList_nil ?_
  clear hB
  go_wp2_with fail
  rw [unhide hT]
  exact unhide hZ
set_option maxHeartbeats 4000000 in
theorem fputdn_no (c s r : Int) (a : Option Addr) (n k : Nat) (h : ends c s r = false ∨ rpS (n : Int) = false) (w : World) : Calls Try.prog 37 #[.agg #[.int .i64 c, .int .i64 s, .int .u64 r, .slice a n k]] w (Pno w) := by
  obtain ⟨T, hT⟩ : ∃ T, T = Pno w := ⟨_, rfl⟩
  rw [← hT]
  replace hT := hide hT
  go_enter Try.func37, Try.ntmps37
  go_upto_region 1 with fail
  have hB := ((Bl.nil w).new #[.int .i64 c, .int .i64 s, .int .u64 r, .slice a n k] 80)
  simp only [size_alloc, List.nil_append, List.cons_append] at hB
  generalize World.alloc _ _ = u at *
  replace hB : Bl w [⟨w.heap.size, #[.int .i64 c, .int .i64 s, .int .u64 r, .slice a n k], 80⟩] u := hB
  refine wp_region_lit ?_
  refine list_val (.pointer (some ⟨w.heap.size, 0, none⟩)) (by kernel_rfl) (by kernel_rfl) ?_
  simp only [Act.put, List.setIfInBounds_toArray, List.set_cons_zero, List.set_cons_succ, List.getElem_toArray, List.getElem_cons_zero, List.getElem_cons_succ]
  refine list_val (.int .i64 c) (by kernel_rfl) (exec_i64 _ (.tmp 4) rfl (w.heap.size) 0 (by kernel_rfl) c (cell_of (hB.get 0 (x := ⟨w.heap.size, #[.int .i64 c, .int .i64 s, .int .u64 r, .slice a n k], 80⟩) rfl) (i := 0) rfl)) ?_
  simp only [Act.put, List.setIfInBounds_toArray, List.set_cons_zero, List.set_cons_succ, List.getElem_toArray, List.getElem_cons_zero, List.getElem_cons_succ]
  refine list_val (.pointer (some ⟨w.heap.size, 1, none⟩)) (by kernel_rfl) (by kernel_rfl) ?_
  simp only [Act.put, List.setIfInBounds_toArray, List.set_cons_zero, List.set_cons_succ, List.getElem_toArray, List.getElem_cons_zero, List.getElem_cons_succ]
  refine list_val (.int .i64 s) (by kernel_rfl) (exec_i64 _ (.tmp 6) rfl (w.heap.size) 1 (by kernel_rfl) s (cell_of (hB.get 0 (x := ⟨w.heap.size, #[.int .i64 c, .int .i64 s, .int .u64 r, .slice a n k], 80⟩) rfl) (i := 1) rfl)) ?_
  simp only [Act.put, List.setIfInBounds_toArray, List.set_cons_zero, List.set_cons_succ, List.getElem_toArray, List.getElem_cons_zero, List.getElem_cons_succ]
  refine list_val (.pointer (some ⟨w.heap.size, 2, none⟩)) (by kernel_rfl) (by kernel_rfl) ?_
  simp only [Act.put, List.setIfInBounds_toArray, List.set_cons_zero, List.set_cons_succ, List.getElem_toArray, List.getElem_cons_zero, List.getElem_cons_succ]
  refine list_val (.int .u64 r) (by kernel_rfl) (exec_u64 _ (.tmp 8) rfl (w.heap.size) 2 (by kernel_rfl) r (cell_of (hB.get 0 (x := ⟨w.heap.size, #[.int .i64 c, .int .i64 s, .int .u64 r, .slice a n k], 80⟩) rfl) (i := 2) rfl)) ?_
  simp only [Act.put, List.setIfInBounds_toArray, List.set_cons_zero, List.set_cons_succ, List.getElem_toArray, List.getElem_cons_zero, List.getElem_cons_succ]
  refine list_val (.pointer (some ⟨w.heap.size, 3, none⟩)) (by kernel_rfl) (by kernel_rfl) ?_
  simp only [Act.put, List.setIfInBounds_toArray, List.set_cons_zero, List.set_cons_succ, List.getElem_toArray, List.getElem_cons_zero, List.getElem_cons_succ]
  refine list_val (.slice a n k) (by kernel_rfl) (exec_sby _ (.tmp 10) rfl (w.heap.size) 3 (by kernel_rfl) a n k (cell_of (hB.get 0 (x := ⟨w.heap.size, #[.int .i64 c, .int .i64 s, .int .u64 r, .slice a n k], 80⟩) rfl) (i := 3) rfl)) ?_
  simp only [Act.put, List.setIfInBounds_toArray, List.set_cons_zero, List.set_cons_succ, List.getElem_toArray, List.getElem_cons_zero, List.getElem_cons_succ]
  refine list_val (.agg #[.int .i64 c, .int .i64 s, .int .u64 r, .slice a n k]) (by kernel_rfl) (by kernel_rfl) ?_
  simp only [Act.put, List.setIfInBounds_toArray, List.set_cons_zero, List.set_cons_succ, List.getElem_toArray, List.getElem_cons_zero, List.getElem_cons_succ]
  refine list_call 67 #[.agg #[.int .i64 c, .int .i64 s, .int .u64 r, .slice a n k], .int .u8 3, .func (.func 49) #[] #[]] (by kernel_rfl) (by kernel_rfl) ((pput_dn_no c s r a n k h u).mono ?_)
  rintro r_ u1 ⟨rfl, hg1⟩
  have hZ : Hid (Pno w (.returned (.tuple #[.slice none 0 0, .int .i64 241])) u1) := ⟨rfl, hB.gr.trans hg1⟩
  clear hB hg1
  refine ⟨_, rfl, ?_⟩
  simp only [Act.put, List.setIfInBounds_toArray, List.set_cons_zero, List.set_cons_succ, List.getElem_toArray, List.getElem_cons_zero, List.getElem_cons_succ]
  refine list_val (.slice none 0 0) (by kernel_rfl) (by kernel_rfl) ?_
  simp only [Act.put, List.setIfInBounds_toArray, List.set_cons_zero, List.set_cons_succ, List.getElem_toArray, List.getElem_cons_zero, List.getElem_cons_succ]
  refine list_val (.int .i64 241) (by kernel_rfl) (by kernel_rfl) ?_
  simp only [Act.put, List.setIfInBounds_toArray, List.set_cons_zero, List.set_cons_succ, List.getElem_toArray, List.getElem_cons_zero, List.getElem_cons_succ]
  (refine wpList_step fun K hK => ?_; replace hK := hide hK; go_simp; refine unhide hK _ _ ?_; clear hK K)
  (refine wpList_step fun K hK => ?_; replace hK := hide hK; go_simp; refine unhide hK _ _ ?_; clear hK K)
  refine wpList_nil ?_
  go_wp2_with fail
  rw [unhide hT]
  exact unhide hZ
set_option maxHeartbeats 4000000 in
theorem fputdn_ok (c s r : Int) (a : Option Addr) (n k : Nat) (B : List Int) (hE : ends c s r = true) (hS : rpS (n : Int) = true) (hr : r < 18446744073709551616) (w : World) (lb : Lb w a n k B) : Calls Try.prog 37 #[.agg #[.int .i64 c, .int .i64 s, .int .u64 r, .slice a n k]] w (Pok (pkB 3 c s r B) w) := by
  obtain ⟨T, hT⟩ : ∃ T, T = Pok (pkB 3 c s r B) w := ⟨_, rfl⟩
  rw [← hT]
  replace hT := hide hT
  replace lb := hide lb
  go_enter Try.func37, Try.ntmps37
  go_upto_region 1 with fail
  have hB := ((Bl.nil w).new #[.int .i64 c, .int .i64 s, .int .u64 r, .slice a n k] 80)
  simp only [size_alloc, List.nil_append, List.cons_append] at hB
  generalize World.alloc _ _ = u at *
  replace hB : Bl w [⟨w.heap.size, #[.int .i64 c, .int .i64 s, .int .u64 r, .slice a n k], 80⟩] u := hB
  refine wp_region_lit ?_
  refine list_val (.pointer (some ⟨w.heap.size, 0, none⟩)) (by kernel_rfl) (by kernel_rfl) ?_
  simp only [Act.put, List.setIfInBounds_toArray, List.set_cons_zero, List.set_cons_succ, List.getElem_toArray, List.getElem_cons_zero, List.getElem_cons_succ]
  refine list_val (.int .i64 c) (by kernel_rfl) (exec_i64 _ (.tmp 4) rfl (w.heap.size) 0 (by kernel_rfl) c (cell_of (hB.get 0 (x := ⟨w.heap.size, #[.int .i64 c, .int .i64 s, .int .u64 r, .slice a n k], 80⟩) rfl) (i := 0) rfl)) ?_
  simp only [Act.put, List.setIfInBounds_toArray, List.set_cons_zero, List.set_cons_succ, List.getElem_toArray, List.getElem_cons_zero, List.getElem_cons_succ]
  refine list_val (.pointer (some ⟨w.heap.size, 1, none⟩)) (by kernel_rfl) (by kernel_rfl) ?_
  simp only [Act.put, List.setIfInBounds_toArray, List.set_cons_zero, List.set_cons_succ, List.getElem_toArray, List.getElem_cons_zero, List.getElem_cons_succ]
  refine list_val (.int .i64 s) (by kernel_rfl) (exec_i64 _ (.tmp 6) rfl (w.heap.size) 1 (by kernel_rfl) s (cell_of (hB.get 0 (x := ⟨w.heap.size, #[.int .i64 c, .int .i64 s, .int .u64 r, .slice a n k], 80⟩) rfl) (i := 1) rfl)) ?_
  simp only [Act.put, List.setIfInBounds_toArray, List.set_cons_zero, List.set_cons_succ, List.getElem_toArray, List.getElem_cons_zero, List.getElem_cons_succ]
  refine list_val (.pointer (some ⟨w.heap.size, 2, none⟩)) (by kernel_rfl) (by kernel_rfl) ?_
  simp only [Act.put, List.setIfInBounds_toArray, List.set_cons_zero, List.set_cons_succ, List.getElem_toArray, List.getElem_cons_zero, List.getElem_cons_succ]
  refine list_val (.int .u64 r) (by kernel_rfl) (exec_u64 _ (.tmp 8) rfl (w.heap.size) 2 (by kernel_rfl) r (cell_of (hB.get 0 (x := ⟨w.heap.size, #[.int .i64 c, .int .i64 s, .int .u64 r, .slice a n k], 80⟩) rfl) (i := 2) rfl)) ?_
  simp only [Act.put, List.setIfInBounds_toArray, List.set_cons_zero, List.set_cons_succ, List.getElem_toArray, List.getElem_cons_zero, List.getElem_cons_succ]
  refine list_val (.pointer (some ⟨w.heap.size, 3, none⟩)) (by kernel_rfl) (by kernel_rfl) ?_
  simp only [Act.put, List.setIfInBounds_toArray, List.set_cons_zero, List.set_cons_succ, List.getElem_toArray, List.getElem_cons_zero, List.getElem_cons_succ]
  refine list_val (.slice a n k) (by kernel_rfl) (exec_sby _ (.tmp 10) rfl (w.heap.size) 3 (by kernel_rfl) a n k (cell_of (hB.get 0 (x := ⟨w.heap.size, #[.int .i64 c, .int .i64 s, .int .u64 r, .slice a n k], 80⟩) rfl) (i := 3) rfl)) ?_
  simp only [Act.put, List.setIfInBounds_toArray, List.set_cons_zero, List.set_cons_succ, List.getElem_toArray, List.getElem_cons_zero, List.getElem_cons_succ]
  refine list_val (.agg #[.int .i64 c, .int .i64 s, .int .u64 r, .slice a n k]) (by kernel_rfl) (by kernel_rfl) ?_
  simp only [Act.put, List.setIfInBounds_toArray, List.set_cons_zero, List.set_cons_succ, List.getElem_toArray, List.getElem_cons_zero, List.getElem_cons_succ]
  refine list_call 67 #[.agg #[.int .i64 c, .int .i64 s, .int .u64 r, .slice a n k], .int .u8 3, .func (.func 49) #[] #[]] (by kernel_rfl) (by kernel_rfl) ((pput_dn_ok c s r a n k B hE hS hr u ((unhide lb).gr hB.gr)).mono ?_)
  rintro r_ u1 ⟨v, rfl, hO, hg1⟩
  have hZ : Hid (Pok (pkB 3 c s r B) w (.returned (.tuple #[v, .int .i64 0])) u1) := ⟨v, rfl, ob_base hO hB.gr.size, hB.gr.trans hg1⟩
  clear hB hO hg1
  refine ⟨_, rfl, ?_⟩
  simp only [Act.put, List.setIfInBounds_toArray, List.set_cons_zero, List.set_cons_succ, List.getElem_toArray, List.getElem_cons_zero, List.getElem_cons_succ]
  refine list_val v (by kernel_rfl) (by kernel_rfl) ?_
  simp only [Act.put, List.setIfInBounds_toArray, List.set_cons_zero, List.set_cons_succ, List.getElem_toArray, List.getElem_cons_zero, List.getElem_cons_succ]
  refine list_val (.int .i64 0) (by kernel_rfl) (by kernel_rfl) ?_
  simp only [Act.put, List.setIfInBounds_toArray, List.set_cons_zero, List.set_cons_succ, List.getElem_toArray, List.getElem_cons_zero, List.getElem_cons_succ]
  (refine wpList_step fun K hK => ?_; replace hK := hide hK; go_simp; refine unhide hK _ _ ?_; clear hK K)
  (refine wpList_step fun K hK => ?_; replace hK := hide hK; go_simp; refine unhide hK _ _ ?_; clear hK K)
  refine wpList_nil ?_
  go_wp2_with fail
  rw [unhide hT]
  exact unhide hZ
end Go.Proofs.Ytfmocneoffkmpaa
