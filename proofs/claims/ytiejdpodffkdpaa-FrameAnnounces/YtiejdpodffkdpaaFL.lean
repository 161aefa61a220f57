/-
  Layer 14: announcements are put.
-/
import Derived.Test.YtiejdpodffkdpaaFL0
namespace Go.Proofs.Ytiejdpodffkdpaa
open Go.RowKit
set_option maxRecDepth 100000
set_option linter.unusedSimpArgs false
set_option linter.unusedVariables false
theorem Try.infoA : (Try.prog.info? 25).map (·.size) = some 2 := by kernel_rfl
def anR (r : Int) (n : Nat) : Bool := decide (0 < r ∧ 1 ≤ n ∧ n ≤ 3)
def KsOk (ks : List (List Int)) : Prop := ∀ k ∈ ks, k.length = 32 ∧ IsB k
/-- an announcement's bytes -/
def anH (r : Int) (n : Nat) : List Int := ([1] ++ lowL r 8) ++ [(n : Int)]
def anB (r : Int) (ks : List (List Int)) : List Int := (anH r ks.length ++ ks.flatten) ++ List.replicate (96 - 32 * ks.length) 0
theorem flat32 {ks : List (List Int)} (h : KsOk ks) : ks.flatten.length = 32 * ks.length := by
  induction ks with
  | nil => rfl
  | cons k ks ih =>
    rw [List.flatten_cons, List.length_append, ih (fun x hx => h x (by simp [hx])), (h k (by simp)).1, List.length_cons]
    omega
theorem flat_isB {ks : List (List Int)} (h : KsOk ks) : IsB ks.flatten := fun x hx => by
  obtain ⟨k, hk, hxk⟩ := List.mem_flatten.1 hx
  exact (h k hk).2 x hxk
theorem take_flat (ks : List (List Int)) (j : Nat) (h : j < ks.length) : (ks.take (j + 1)).flatten = (ks.take j).flatten ++ ks.getD j [] := by
  rw [List.take_add_one, List.flatten_append]
  simp [h]
theorem KsOk.take {ks : List (List Int)} (h : KsOk ks) (j : Nat) : KsOk (ks.take j) := fun k hk => h k (List.mem_of_mem_take hk)
theorem KsOk.at_ {ks : List (List Int)} (h : KsOk ks) (j : Nat) (hj : j < ks.length) : (ks.getD j []).length = 32 ∧ IsB (ks.getD j []) := h _ (mem_of_getD hj)
theorem exec_sks {op : Oper} {a : Act} (w : World) (x : Operand) (ho : op.op = .load 23 x) (g i : Nat) (hx : a.eval x = .pointer (some ⟨g, i, none⟩)) (s : Option Addr) (n c : Nat) (hc : w.cell? ⟨g, i, none⟩ = some (.slice s n c)) : (execOp a.eval op).run Try.prog w = .ok (.value (.slice s n c)) w := by
  unfold execOp
  simp only [ho, hx, Instr.loadAt, Instr.sureAddr, Sem.run_bind, Sem.run_pure, Result.andThen_ok]
  go_simp
theorem exec_iks {a : Act} {o : Oper} (w : World) (x y : Operand) (ho : o.op = .indexAddr 23 x y) (g q len cap i : Nat) (hx : a.eval x = .slice (some ⟨g, q, none⟩) len cap) (hy : a.eval y = .int .i64 i) (hi : i < len) :
    (execOp a.eval o).run Try.prog w = .ok (.value (.pointer (some ⟨g, q + 32 * i, none⟩))) w := by
  have h1 : (i : Int) < (len : Int) := by omega
  unfold execOp
  simp only [ho, hx, hy]
  go_simp
theorem getD_map {α β : Type} (f : α → β) (l : List α) (i : Nat) (d : α) (e : β) (h : i < l.length) : (l.map f).getD i e = f (l.getD i d) := by
  simp [h]
theorem ob_ne {b : Nat} {w : World} {v : Value} {L : List Int} (h : Ob b w v L) {g : Nat} {c : Array Value} {t : TypeId} (hg : w.heap[g]? = some (.cells c t (0, 0))) (ht : t ≠ 5) : some g ≠ v.ownBlock := by
  intro e1
  rcases h.2 with ⟨e2, _⟩ | ⟨q, cap, cur, e2, _, h3, _⟩
  · rw [e2] at e1; cases e1
  · rw [e2] at e1
    injection e1 with e1
    dsimp only at e1
    rw [e1, h3] at hg
    injection hg with hg
    injection hg with _ hg _
    exact ht hg.symm
set_option maxHeartbeats 4000000 in
theorem fam_ok (r : Int) (a : Option Addr) (n c : Nat) (w : World) : Calls Try.prog 17 #[.agg #[.int .u64 r, .slice a n c]] w (Vl (.bool (anR r n)) w) := by
  obtain ⟨T, hT⟩ : ∃ T, T = Vl (.bool (anR r n)) w := ⟨_, rfl⟩
  rw [← hT]
  replace hT := hide hT
  go_enter Try.func17, Try.ntmps17
  go_upto_region 1 with fail
  have hB := ((Bl.nil w).new #[.int .u64 r, .slice a n c] 25)
  simp only [size_alloc, List.nil_append, List.cons_append] at hB
  generalize World.alloc _ _ = u at *
  replace hB : Bl w [⟨w.heap.size, #[.int .u64 r, .slice a n c], 25⟩] u := hB
  by_cases h1 : 0 < r
  · skip
    by_cases h2 : 1 ≤ n
    · skip
      have h2I : (1 : Int) ≤ (n : Int) := by omega
      by_cases h3 : n ≤ 3
      · skip
        have h3I : (n : Int) ≤ 3 := by omega
        refine wp_region_lit ?_
        refine list_val (.pointer (some ⟨w.heap.size, 0, none⟩)) (by kernel_rfl) (by kernel_rfl) ?_
        simp only [Act.put, List.setIfInBounds_toArray, List.set_cons_zero, List.set_cons_succ, List.getElem_toArray, List.getElem_cons_zero, List.getElem_cons_succ]
        refine list_val (.int .u64 r) (by kernel_rfl) (exec_u64 _ (.tmp 3) rfl (w.heap.size) 0 (by kernel_rfl) r (cell_of (hB.get 0 (x := ⟨w.heap.size, #[.int .u64 r, .slice a n c], 25⟩) rfl) (i := 0) rfl)) ?_
        simp only [Act.put, List.setIfInBounds_toArray, List.set_cons_zero, List.set_cons_succ, List.getElem_toArray, List.getElem_cons_zero, List.getElem_cons_succ]
        refine list_val (.bool true) (by kernel_rfl) (by go_simp) ?_
        simp only [Act.put, List.setIfInBounds_toArray, List.set_cons_zero, List.set_cons_succ, List.getElem_toArray, List.getElem_cons_zero, List.getElem_cons_succ]
        refine list_val (.bool true) (by kernel_rfl) (by kernel_rfl) ?_
        simp only [Act.put, List.setIfInBounds_toArray, List.set_cons_zero, List.set_cons_succ, List.getElem_toArray, List.getElem_cons_zero, List.getElem_cons_succ]
        refine list_val (.pointer (some ⟨w.heap.size, 1, none⟩)) (by kernel_rfl) (by kernel_rfl) ?_
        simp only [Act.put, List.setIfInBounds_toArray, List.set_cons_zero, List.set_cons_succ, List.getElem_toArray, List.getElem_cons_zero, List.getElem_cons_succ]
        refine list_val (.slice a n c) (by kernel_rfl) (exec_sks _ (.tmp 7) rfl (w.heap.size) 1 (by kernel_rfl) a n c (cell_of (hB.get 0 (x := ⟨w.heap.size, #[.int .u64 r, .slice a n c], 25⟩) rfl) (i := 1) rfl)) ?_
        simp only [Act.put, List.setIfInBounds_toArray, List.set_cons_zero, List.set_cons_succ, List.getElem_toArray, List.getElem_cons_zero, List.getElem_cons_succ]
        refine list_val (.int .i64 (n : Int)) (by kernel_rfl) (by kernel_rfl) ?_
        simp only [Act.put, List.setIfInBounds_toArray, List.set_cons_zero, List.set_cons_succ, List.getElem_toArray, List.getElem_cons_zero, List.getElem_cons_succ]
        refine list_val (.bool true) (by kernel_rfl) (by go_simp) ?_
        simp only [Act.put, List.setIfInBounds_toArray, List.set_cons_zero, List.set_cons_succ, List.getElem_toArray, List.getElem_cons_zero, List.getElem_cons_succ]
        refine list_val (.bool true) (by kernel_rfl) (by kernel_rfl) ?_
        simp only [Act.put, List.setIfInBounds_toArray, List.set_cons_zero, List.set_cons_succ, List.getElem_toArray, List.getElem_cons_zero, List.getElem_cons_succ]
        refine list_val (.bool true) (by kernel_rfl) (by kernel_rfl) ?_
        simp only [Act.put, List.setIfInBounds_toArray, List.set_cons_zero, List.set_cons_succ, List.getElem_toArray, List.getElem_cons_zero, List.getElem_cons_succ]
        refine list_val (.pointer (some ⟨w.heap.size, 1, none⟩)) (by kernel_rfl) (by kernel_rfl) ?_
        simp only [Act.put, List.setIfInBounds_toArray, List.set_cons_zero, List.set_cons_succ, List.getElem_toArray, List.getElem_cons_zero, List.getElem_cons_succ]
        refine list_val (.slice a n c) (by kernel_rfl) (exec_sks _ (.tmp 13) rfl (w.heap.size) 1 (by kernel_rfl) a n c (cell_of (hB.get 0 (x := ⟨w.heap.size, #[.int .u64 r, .slice a n c], 25⟩) rfl) (i := 1) rfl)) ?_
        simp only [Act.put, List.setIfInBounds_toArray, List.set_cons_zero, List.set_cons_succ, List.getElem_toArray, List.getElem_cons_zero, List.getElem_cons_succ]
        refine list_val (.int .i64 (n : Int)) (by kernel_rfl) (by kernel_rfl) ?_
        simp only [Act.put, List.setIfInBounds_toArray, List.set_cons_zero, List.set_cons_succ, List.getElem_toArray, List.getElem_cons_zero, List.getElem_cons_succ]
        refine list_val (.bool true) (by kernel_rfl) (by go_simp) ?_
        simp only [Act.put, List.setIfInBounds_toArray, List.set_cons_zero, List.set_cons_succ, List.getElem_toArray, List.getElem_cons_zero, List.getElem_cons_succ]
        refine list_val (.bool true) (by kernel_rfl) (by kernel_rfl) ?_
        simp only [Act.put, List.setIfInBounds_toArray, List.set_cons_zero, List.set_cons_succ, List.getElem_toArray, List.getElem_cons_zero, List.getElem_cons_succ]
        (refine wpList_step fun K hK => ?_; replace hK := hide hK; go_simp; refine unhide hK _ _ ?_; clear hK K)
        refine wpList_nil ?_
        have hE : anR r n = true := by unfold anR; rw [decide_eq_true_iff]; omega
        rw [hE] at hT
        have hZ : Hid (Vl (.bool true) w (.returned (.bool true)) u) := ⟨rfl, hB.gr⟩
        clear hB
        go_wp2_with fail
        rw [unhide hT]
        exact unhide hZ
      · skip
        have h3I : ¬ (n : Int) ≤ 3 := by omega
        refine wp_region_lit ?_
        refine list_val (.pointer (some ⟨w.heap.size, 0, none⟩)) (by kernel_rfl) (by kernel_rfl) ?_
        simp only [Act.put, List.setIfInBounds_toArray, List.set_cons_zero, List.set_cons_succ, List.getElem_toArray, List.getElem_cons_zero, List.getElem_cons_succ]
        refine list_val (.int .u64 r) (by kernel_rfl) (exec_u64 _ (.tmp 3) rfl (w.heap.size) 0 (by kernel_rfl) r (cell_of (hB.get 0 (x := ⟨w.heap.size, #[.int .u64 r, .slice a n c], 25⟩) rfl) (i := 0) rfl)) ?_
        simp only [Act.put, List.setIfInBounds_toArray, List.set_cons_zero, List.set_cons_succ, List.getElem_toArray, List.getElem_cons_zero, List.getElem_cons_succ]
        refine list_val (.bool true) (by kernel_rfl) (by go_simp) ?_
        simp only [Act.put, List.setIfInBounds_toArray, List.set_cons_zero, List.set_cons_succ, List.getElem_toArray, List.getElem_cons_zero, List.getElem_cons_succ]
        refine list_val (.bool true) (by kernel_rfl) (by kernel_rfl) ?_
        simp only [Act.put, List.setIfInBounds_toArray, List.set_cons_zero, List.set_cons_succ, List.getElem_toArray, List.getElem_cons_zero, List.getElem_cons_succ]
        refine list_val (.pointer (some ⟨w.heap.size, 1, none⟩)) (by kernel_rfl) (by kernel_rfl) ?_
        simp only [Act.put, List.setIfInBounds_toArray, List.set_cons_zero, List.set_cons_succ, List.getElem_toArray, List.getElem_cons_zero, List.getElem_cons_succ]
        refine list_val (.slice a n c) (by kernel_rfl) (exec_sks _ (.tmp 7) rfl (w.heap.size) 1 (by kernel_rfl) a n c (cell_of (hB.get 0 (x := ⟨w.heap.size, #[.int .u64 r, .slice a n c], 25⟩) rfl) (i := 1) rfl)) ?_
        simp only [Act.put, List.setIfInBounds_toArray, List.set_cons_zero, List.set_cons_succ, List.getElem_toArray, List.getElem_cons_zero, List.getElem_cons_succ]
        refine list_val (.int .i64 (n : Int)) (by kernel_rfl) (by kernel_rfl) ?_
        simp only [Act.put, List.setIfInBounds_toArray, List.set_cons_zero, List.set_cons_succ, List.getElem_toArray, List.getElem_cons_zero, List.getElem_cons_succ]
        refine list_val (.bool true) (by kernel_rfl) (by go_simp) ?_
        simp only [Act.put, List.setIfInBounds_toArray, List.set_cons_zero, List.set_cons_succ, List.getElem_toArray, List.getElem_cons_zero, List.getElem_cons_succ]
        refine list_val (.bool true) (by kernel_rfl) (by kernel_rfl) ?_
        simp only [Act.put, List.setIfInBounds_toArray, List.set_cons_zero, List.set_cons_succ, List.getElem_toArray, List.getElem_cons_zero, List.getElem_cons_succ]
        refine list_val (.bool true) (by kernel_rfl) (by kernel_rfl) ?_
        simp only [Act.put, List.setIfInBounds_toArray, List.set_cons_zero, List.set_cons_succ, List.getElem_toArray, List.getElem_cons_zero, List.getElem_cons_succ]
        refine list_val (.pointer (some ⟨w.heap.size, 1, none⟩)) (by kernel_rfl) (by kernel_rfl) ?_
        simp only [Act.put, List.setIfInBounds_toArray, List.set_cons_zero, List.set_cons_succ, List.getElem_toArray, List.getElem_cons_zero, List.getElem_cons_succ]
        refine list_val (.slice a n c) (by kernel_rfl) (exec_sks _ (.tmp 13) rfl (w.heap.size) 1 (by kernel_rfl) a n c (cell_of (hB.get 0 (x := ⟨w.heap.size, #[.int .u64 r, .slice a n c], 25⟩) rfl) (i := 1) rfl)) ?_
        simp only [Act.put, List.setIfInBounds_toArray, List.set_cons_zero, List.set_cons_succ, List.getElem_toArray, List.getElem_cons_zero, List.getElem_cons_succ]
        refine list_val (.int .i64 (n : Int)) (by kernel_rfl) (by kernel_rfl) ?_
        simp only [Act.put, List.setIfInBounds_toArray, List.set_cons_zero, List.set_cons_succ, List.getElem_toArray, List.getElem_cons_zero, List.getElem_cons_succ]
        refine list_val (.bool false) (by kernel_rfl) (by go_simp) ?_
        simp only [Act.put, List.setIfInBounds_toArray, List.set_cons_zero, List.set_cons_succ, List.getElem_toArray, List.getElem_cons_zero, List.getElem_cons_succ]
        refine list_val (.bool false) (by kernel_rfl) (by kernel_rfl) ?_
        simp only [Act.put, List.setIfInBounds_toArray, List.set_cons_zero, List.set_cons_succ, List.getElem_toArray, List.getElem_cons_zero, List.getElem_cons_succ]
        (refine wpList_step fun K hK => ?_; replace hK := hide hK; go_simp; refine unhide hK _ _ ?_; clear hK K)
        refine wpList_nil ?_
        have hE : anR r n = false := by unfold anR; rw [decide_eq_false_iff_not]; omega
        rw [hE] at hT
        have hZ : Hid (Vl (.bool false) w (.returned (.bool false)) u) := ⟨rfl, hB.gr⟩
        clear hB
        go_wp2_with fail
        rw [unhide hT]
        exact unhide hZ
    · skip
      have h2I : ¬ (1 : Int) ≤ (n : Int) := by omega
      refine wp_region_lit ?_
      refine list_val (.pointer (some ⟨w.heap.size, 0, none⟩)) (by kernel_rfl) (by kernel_rfl) ?_
      simp only [Act.put, List.setIfInBounds_toArray, List.set_cons_zero, List.set_cons_succ, List.getElem_toArray, List.getElem_cons_zero, List.getElem_cons_succ]
      refine list_val (.int .u64 r) (by kernel_rfl) (exec_u64 _ (.tmp 3) rfl (w.heap.size) 0 (by kernel_rfl) r (cell_of (hB.get 0 (x := ⟨w.heap.size, #[.int .u64 r, .slice a n c], 25⟩) rfl) (i := 0) rfl)) ?_
      simp only [Act.put, List.setIfInBounds_toArray, List.set_cons_zero, List.set_cons_succ, List.getElem_toArray, List.getElem_cons_zero, List.getElem_cons_succ]
      refine list_val (.bool true) (by kernel_rfl) (by go_simp) ?_
      simp only [Act.put, List.setIfInBounds_toArray, List.set_cons_zero, List.set_cons_succ, List.getElem_toArray, List.getElem_cons_zero, List.getElem_cons_succ]
      refine list_val (.bool true) (by kernel_rfl) (by kernel_rfl) ?_
      simp only [Act.put, List.setIfInBounds_toArray, List.set_cons_zero, List.set_cons_succ, List.getElem_toArray, List.getElem_cons_zero, List.getElem_cons_succ]
      refine list_val (.pointer (some ⟨w.heap.size, 1, none⟩)) (by kernel_rfl) (by kernel_rfl) ?_
      simp only [Act.put, List.setIfInBounds_toArray, List.set_cons_zero, List.set_cons_succ, List.getElem_toArray, List.getElem_cons_zero, List.getElem_cons_succ]
      refine list_val (.slice a n c) (by kernel_rfl) (exec_sks _ (.tmp 7) rfl (w.heap.size) 1 (by kernel_rfl) a n c (cell_of (hB.get 0 (x := ⟨w.heap.size, #[.int .u64 r, .slice a n c], 25⟩) rfl) (i := 1) rfl)) ?_
      simp only [Act.put, List.setIfInBounds_toArray, List.set_cons_zero, List.set_cons_succ, List.getElem_toArray, List.getElem_cons_zero, List.getElem_cons_succ]
      refine list_val (.int .i64 (n : Int)) (by kernel_rfl) (by kernel_rfl) ?_
      simp only [Act.put, List.setIfInBounds_toArray, List.set_cons_zero, List.set_cons_succ, List.getElem_toArray, List.getElem_cons_zero, List.getElem_cons_succ]
      refine list_val (.bool false) (by kernel_rfl) (by go_simp) ?_
      simp only [Act.put, List.setIfInBounds_toArray, List.set_cons_zero, List.set_cons_succ, List.getElem_toArray, List.getElem_cons_zero, List.getElem_cons_succ]
      refine list_val (.bool false) (by kernel_rfl) (by kernel_rfl) ?_
      simp only [Act.put, List.setIfInBounds_toArray, List.set_cons_zero, List.set_cons_succ, List.getElem_toArray, List.getElem_cons_zero, List.getElem_cons_succ]
      refine list_val (.bool false) (by kernel_rfl) (by kernel_rfl) ?_
      simp only [Act.put, List.setIfInBounds_toArray, List.set_cons_zero, List.set_cons_succ, List.getElem_toArray, List.getElem_cons_zero, List.getElem_cons_succ]
      refine wpList_step fun K hK => ?_
      rw [if_neg (ne_true_of_eq_false (by kernel_rfl))]
      refine hK _ _ ?_
      clear hK K
      simp only [Act.put, List.setIfInBounds_toArray, List.set_cons_zero, List.set_cons_succ, List.getElem_toArray, List.getElem_cons_zero, List.getElem_cons_succ]
      refine wpList_step fun K hK => ?_
      rw [if_neg (ne_true_of_eq_false (by kernel_rfl))]
      refine hK _ _ ?_
      clear hK K
      simp only [Act.put, List.setIfInBounds_toArray, List.set_cons_zero, List.set_cons_succ, List.getElem_toArray, List.getElem_cons_zero, List.getElem_cons_succ]
      refine wpList_step fun K hK => ?_
      rw [if_neg (ne_true_of_eq_false (by kernel_rfl))]
      refine hK _ _ ?_
      clear hK K
      simp only [Act.put, List.setIfInBounds_toArray, List.set_cons_zero, List.set_cons_succ, List.getElem_toArray, List.getElem_cons_zero, List.getElem_cons_succ]
      refine wpList_step fun K hK => ?_
      rw [if_neg (ne_true_of_eq_false (by kernel_rfl))]
      refine hK _ _ ?_
      clear hK K
      simp only [Act.put, List.setIfInBounds_toArray, List.set_cons_zero, List.set_cons_succ, List.getElem_toArray, List.getElem_cons_zero, List.getElem_cons_succ]
      refine list_val (.bool false) (by kernel_rfl) (by kernel_rfl) ?_
      simp only [Act.put, List.setIfInBounds_toArray, List.set_cons_zero, List.set_cons_succ, List.getElem_toArray, List.getElem_cons_zero, List.getElem_cons_succ]
      (refine wpList_step fun K hK => ?_; replace hK := hide hK; go_simp; refine unhide hK _ _ ?_; clear hK K)
      refine wpList_nil ?_
      have hE : anR r n = false := by unfold anR; rw [decide_eq_false_iff_not]; omega
      rw [hE] at hT
      have hZ : Hid (Vl (.bool false) w (.returned (.bool false)) u) := ⟨rfl, hB.gr⟩
      clear hB
      go_wp2_with fail
      rw [unhide hT]
      exact unhide hZ
  · skip
    refine wp_region_lit ?_
    refine list_val (.pointer (some ⟨w.heap.size, 0, none⟩)) (by kernel_rfl) (by kernel_rfl) ?_
    simp only [Act.put, List.setIfInBounds_toArray, List.set_cons_zero, List.set_cons_succ, List.getElem_toArray, List.getElem_cons_zero, List.getElem_cons_succ]
    refine list_val (.int .u64 r) (by kernel_rfl) (exec_u64 _ (.tmp 3) rfl (w.heap.size) 0 (by kernel_rfl) r (cell_of (hB.get 0 (x := ⟨w.heap.size, #[.int .u64 r, .slice a n c], 25⟩) rfl) (i := 0) rfl)) ?_
    simp only [Act.put, List.setIfInBounds_toArray, List.set_cons_zero, List.set_cons_succ, List.getElem_toArray, List.getElem_cons_zero, List.getElem_cons_succ]
    refine list_val (.bool false) (by kernel_rfl) (by go_simp) ?_
    simp only [Act.put, List.setIfInBounds_toArray, List.set_cons_zero, List.set_cons_succ, List.getElem_toArray, List.getElem_cons_zero, List.getElem_cons_succ]
    refine list_val (.bool false) (by kernel_rfl) (by kernel_rfl) ?_
    simp only [Act.put, List.setIfInBounds_toArray, List.set_cons_zero, List.set_cons_succ, List.getElem_toArray, List.getElem_cons_zero, List.getElem_cons_succ]
    refine wpList_step fun K hK => ?_
    rw [if_neg (ne_true_of_eq_false (by kernel_rfl))]
    refine hK _ _ ?_
    clear hK K
    simp only [Act.put, List.setIfInBounds_toArray, List.set_cons_zero, List.set_cons_succ, List.getElem_toArray, List.getElem_cons_zero, List.getElem_cons_succ]
    refine wpList_step fun K hK => ?_
    rw [if_neg (ne_true_of_eq_false (by kernel_rfl))]
    refine hK _ _ ?_
    clear hK K
    simp only [Act.put, List.setIfInBounds_toArray, List.set_cons_zero, List.set_cons_succ, List.getElem_toArray, List.getElem_cons_zero, List.getElem_cons_succ]
    refine wpList_step fun K hK => ?_
    rw [if_neg (ne_true_of_eq_false (by kernel_rfl))]
    refine hK _ _ ?_
    clear hK K
    simp only [Act.put, List.setIfInBounds_toArray, List.set_cons_zero, List.set_cons_succ, List.getElem_toArray, List.getElem_cons_zero, List.getElem_cons_succ]
    refine wpList_step fun K hK => ?_
    rw [if_neg (ne_true_of_eq_false (by kernel_rfl))]
    refine hK _ _ ?_
    clear hK K
    simp only [Act.put, List.setIfInBounds_toArray, List.set_cons_zero, List.set_cons_succ, List.getElem_toArray, List.getElem_cons_zero, List.getElem_cons_succ]
    refine list_val (.bool false) (by kernel_rfl) (by kernel_rfl) ?_
    simp only [Act.put, List.setIfInBounds_toArray, List.set_cons_zero, List.set_cons_succ, List.getElem_toArray, List.getElem_cons_zero, List.getElem_cons_succ]
    refine list_val (.bool false) (by kernel_rfl) (by kernel_rfl) ?_
    simp only [Act.put, List.setIfInBounds_toArray, List.set_cons_zero, List.set_cons_succ, List.getElem_toArray, List.getElem_cons_zero, List.getElem_cons_succ]
    refine wpList_step fun K hK => ?_
    rw [if_neg (ne_true_of_eq_false (by kernel_rfl))]
    refine hK _ _ ?_
    clear hK K
    simp only [Act.put, List.setIfInBounds_toArray, List.set_cons_zero, List.set_cons_succ, List.getElem_toArray, List.getElem_cons_zero, List.getElem_cons_succ]
    refine wpList_step fun K hK => ?_
    rw [if_neg (ne_true_of_eq_false (by kernel_rfl))]
    refine hK _ _ ?_
    clear hK K
    simp only [Act.put, List.setIfInBounds_toArray, List.set_cons_zero, List.set_cons_succ, List.getElem_toArray, List.getElem_cons_zero, List.getElem_cons_succ]
    refine wpList_step fun K hK => ?_
    rw [if_neg (ne_true_of_eq_false (by kernel_rfl))]
    refine hK _ _ ?_
    clear hK K
    simp only [Act.put, List.setIfInBounds_toArray, List.set_cons_zero, List.set_cons_succ, List.getElem_toArray, List.getElem_cons_zero, List.getElem_cons_succ]
    refine wpList_step fun K hK => ?_
    rw [if_neg (ne_true_of_eq_false (by kernel_rfl))]
    refine hK _ _ ?_
    clear hK K
    simp only [Act.put, List.setIfInBounds_toArray, List.set_cons_zero, List.set_cons_succ, List.getElem_toArray, List.getElem_cons_zero, List.getElem_cons_succ]
    refine list_val (.bool false) (by kernel_rfl) (by kernel_rfl) ?_
    simp only [Act.put, List.setIfInBounds_toArray, List.set_cons_zero, List.set_cons_succ, List.getElem_toArray, List.getElem_cons_zero, List.getElem_cons_succ]
    (refine wpList_step fun K hK => ?_; replace hK := hide hK; go_simp; refine unhide hK _ _ ?_; clear hK K)
    refine wpList_nil ?_
    have hE : anR r n = false := by unfold anR; rw [decide_eq_false_iff_not]; omega
    rw [hE] at hT
    have hZ : Hid (Vl (.bool false) w (.returned (.bool false)) u) := ⟨rfl, hB.gr⟩
    clear hB
    go_wp2_with fail
    rw [unhide hT]
    exact unhide hZ
set_option maxHeartbeats 4000000 in
theorem fputa_no (r : Int) (a : Option Addr) (n c : Nat) (hR : anR r n = false) (w : World) : Calls Try.prog 6 #[.agg #[.int .u64 r, .slice a n c]] w (Pno w) := by
  obtain ⟨T, hT⟩ : ∃ T, T = Pno w := ⟨_, rfl⟩
  rw [← hT]
  replace hT := hide hT
  go_enter Try.func6, Try.ntmps6
  go_upto_region 1 with fail
  have hB := ((Bl.nil w).new #[.int .u64 r, .slice a n c] 25)
  simp only [size_alloc, List.nil_append, List.cons_append] at hB
  generalize World.alloc _ _ = u at *
  replace hB : Bl w [⟨w.heap.size, #[.int .u64 r, .slice a n c], 25⟩] u := hB
  refine wp_region_lit ?_
  refine list_val (.agg #[.int .u64 r, .slice a n c]) (by kernel_rfl) (exec_arr _ 25 (.tmp 1) rfl (w.heap.size) (by kernel_rfl) #[.int .u64 r, .slice a n c] 25 _ (hB.get 0 (x := ⟨w.heap.size, #[.int .u64 r, .slice a n c], 25⟩) rfl) Try.underlying25 rfl (by rw [Try.infoA]; rfl)) ?_
  simp only [Act.put, List.setIfInBounds_toArray, List.set_cons_zero, List.set_cons_succ, List.getElem_toArray, List.getElem_cons_zero, List.getElem_cons_succ]
  refine list_call 17 #[.agg #[.int .u64 r, .slice a n c]] (by kernel_rfl) (by kernel_rfl) ((fam_ok r a n c u).mono ?_)
  rintro r_ u1 ⟨rfl, hg1⟩
  rw [hR]
  replace hB := hB.more hg1
  clear hg1
  refine ⟨_, rfl, ?_⟩
  simp only [Act.put, List.setIfInBounds_toArray, List.set_cons_zero, List.set_cons_succ, List.getElem_toArray, List.getElem_cons_zero, List.getElem_cons_succ]
  refine list_val (.bool true) (by kernel_rfl) (by kernel_rfl) ?_
  simp only [Act.put, List.setIfInBounds_toArray, List.set_cons_zero, List.set_cons_succ, List.getElem_toArray, List.getElem_cons_zero, List.getElem_cons_succ]
  refine wpList_nil ?_
  have hZ : Hid (Pno w (.returned (.tuple #[.slice none 0 0, .int .i64 241])) u1) := ⟨rfl, hB.gr⟩
  clear hB
  go_wp2_with fail
  rw [unhide hT]
  exact unhide hZ
set_option maxHeartbeats 4000000 in
theorem fputa_ok (r : Int) (a : Option Addr) (n c : Nat) (ks : List (List Int)) (hks : KsOk ks) (hR : anR r n = true) (hr : r < 18446744073709551616) (w : World) (lk : Ls 32 w a n c (ks.map bv)) : Calls Try.prog 6 #[.agg #[.int .u64 r, .slice a n c]] w (Pok (anB r ks) w) := by
  obtain ⟨T, hT⟩ : ∃ T, T = Pok (anB r ks) w := ⟨_, rfl⟩
  rw [← hT]
  replace hT := hide hT
  have hkn : ks.length = n := by have := lk.len; rwa [List.length_map] at this
  have hRR : 0 < r ∧ 1 ≤ n ∧ n ≤ 3 := by unfold anR at hR; rwa [decide_eq_true_iff] at hR
  have hr0 : 0 ≤ r := by omega
  have hn3 : n ≤ 3 := hRR.2.2
  have hn1 : 1 ≤ n := hRR.2.1
  have hn8 : IntKind.u8.wrap (n : Int) = (n : Int) := by rw [IntKind.wrap_u8]; omega
  obtain ⟨p, q, rfl, -⟩ : ∃ p q, a = some ⟨p, q, none⟩ ∧ True := by
    obtain ⟨p, q, h, _⟩ := lk.at_ 0 (by omega)
    exact ⟨p, q, h, trivial⟩
  clear hRR
  replace lk := hide lk; replace hks := hide hks; replace hkn := hide hkn
  go_enter Try.func6, Try.ntmps6
  go_upto_region 1 with fail
  have hB := ((Bl.nil w).new #[.int .u64 r, .slice (some ⟨p, q, none⟩) n c] 25)
  simp only [size_alloc, List.nil_append, List.cons_append] at hB
  generalize World.alloc _ _ = u at *
  replace hB : Bl w [⟨w.heap.size, #[.int .u64 r, .slice (some ⟨p, q, none⟩) n c], 25⟩] u := hB
  refine wp_region_lit ?_
  refine list_val (.agg #[.int .u64 r, .slice (some ⟨p, q, none⟩) n c]) (by kernel_rfl) (exec_arr _ 25 (.tmp 1) rfl (w.heap.size) (by kernel_rfl) #[.int .u64 r, .slice (some ⟨p, q, none⟩) n c] 25 _ (hB.get 0 (x := ⟨w.heap.size, #[.int .u64 r, .slice (some ⟨p, q, none⟩) n c], 25⟩) rfl) Try.underlying25 rfl (by rw [Try.infoA]; rfl)) ?_
  simp only [Act.put, List.setIfInBounds_toArray, List.set_cons_zero, List.set_cons_succ, List.getElem_toArray, List.getElem_cons_zero, List.getElem_cons_succ]
  refine list_call 17 #[.agg #[.int .u64 r, .slice (some ⟨p, q, none⟩) n c]] (by kernel_rfl) (by kernel_rfl) ((fam_ok r (some ⟨p, q, none⟩) n c u).mono ?_)
  rintro r_ u1 ⟨rfl, hg1⟩
  rw [hR]
  replace hB := hB.more hg1
  clear hg1
  refine ⟨_, rfl, ?_⟩
  simp only [Act.put, List.setIfInBounds_toArray, List.set_cons_zero, List.set_cons_succ, List.getElem_toArray, List.getElem_cons_zero, List.getElem_cons_succ]
  refine list_val (.bool false) (by kernel_rfl) (by kernel_rfl) ?_
  simp only [Act.put, List.setIfInBounds_toArray, List.set_cons_zero, List.set_cons_succ, List.getElem_toArray, List.getElem_cons_zero, List.getElem_cons_succ]
  refine wpList_nil ?_
  replace hB := hide hB
  go_upto_region 3 with fail
  replace hB := unhide hB
  refine wp_region_lit ?_
  refine list_valw (.slice (some ⟨u1.heap.size, 0, none⟩) 1 1) (u1.alloc (.cells (kc [1]) 5 (0, 0))) (by kernel_rfl) (by kernel_rfl) ?_
  have hg := (Gr.refl u1).alloc (.cells (kc [1]) 5 (0, 0))
  have hlb1 := hide (kc_lb (n := 1) (blk_new u1 (.cells (kc [1]) 5 (0, 0))) rfl (show IsB [1] from fun y hy => by rw [List.mem_singleton.1 hy]; omega) (by decide))
  replace hB := hB.more hg
  clear hg
  generalize World.alloc _ _ = u3 at *
  generalize u1.heap.size = h1 at *
  simp only [Act.put, List.setIfInBounds_toArray, List.set_cons_zero, List.set_cons_succ, List.getElem_toArray, List.getElem_cons_zero, List.getElem_cons_succ]
  refine list_val (.pointer (some ⟨w.heap.size, 0, none⟩)) (by kernel_rfl) (by kernel_rfl) ?_
  simp only [Act.put, List.setIfInBounds_toArray, List.set_cons_zero, List.set_cons_succ, List.getElem_toArray, List.getElem_cons_zero, List.getElem_cons_succ]
  refine list_val (.int .u64 r) (by kernel_rfl) (exec_u64 _ (.tmp 11) rfl (w.heap.size) 0 (by kernel_rfl) r (cell_of (hB.get 0 (x := ⟨w.heap.size, #[.int .u64 r, .slice (some ⟨p, q, none⟩) n c], 25⟩) rfl) (i := 0) rfl)) ?_
  simp only [Act.put, List.setIfInBounds_toArray, List.set_cons_zero, List.set_cons_succ, List.getElem_toArray, List.getElem_cons_zero, List.getElem_cons_succ]
  refine list_call 18 #[.slice (some ⟨h1, 0, none⟩) 1 1, .int .u64 r] (by kernel_rfl) (by kernel_rfl) ((put64_ok [1] (some ⟨h1, 0, none⟩) 1 1 r hr0 (by omega) u3 (unhide hlb1)).mono ?_)
  rintro r_ u4 ⟨h2, rfl, hh1, hh2, hh3⟩
  have hl2 : ([1] ++ lowL r 8).length = 9 := by simp [lowL_len]
  rw [hl2]
  have hO2 := hide (ob_of hh2 hl2 (Nat.le_trans hB.gr.size hh1) (by omega))
  replace hB := hB.more hh3
  clear hh1 hh2 hh3 hl2
  refine ⟨_, rfl, ?_⟩
  simp only [Act.put, List.setIfInBounds_toArray, List.set_cons_zero, List.set_cons_succ, List.getElem_toArray, List.getElem_cons_zero, List.getElem_cons_succ]
  (refine wpList_step fun K hK => ?_; replace hK := hide hK; go_simp; refine unhide hK _ _ ?_; clear hK K)
  refine wpList_nil ?_
  replace hB := hide hB
  go_upto_region 4 with fail
  replace hB := unhide hB
  refine wp_region_lit ?_
  refine list_val (.slice (some ⟨h2, 0, none⟩) 9 9) (by kernel_rfl) (by kernel_rfl) ?_
  simp only [Act.put, List.setIfInBounds_toArray, List.set_cons_zero, List.set_cons_succ, List.getElem_toArray, List.getElem_cons_zero, List.getElem_cons_succ]
  refine list_val (.pointer (some ⟨w.heap.size, 1, none⟩)) (by kernel_rfl) (by kernel_rfl) ?_
  simp only [Act.put, List.setIfInBounds_toArray, List.set_cons_zero, List.set_cons_succ, List.getElem_toArray, List.getElem_cons_zero, List.getElem_cons_succ]
  refine list_val (.slice (some ⟨p, q, none⟩) n c) (by kernel_rfl) (exec_sks _ (.tmp 15) rfl (w.heap.size) 1 (by kernel_rfl) (some ⟨p, q, none⟩) n c (cell_of (hB.get 0 (x := ⟨w.heap.size, #[.int .u64 r, .slice (some ⟨p, q, none⟩) n c], 25⟩) rfl) (i := 1) rfl)) ?_
  simp only [Act.put, List.setIfInBounds_toArray, List.set_cons_zero, List.set_cons_succ, List.getElem_toArray, List.getElem_cons_zero, List.getElem_cons_succ]
  refine list_val (.int .i64 (n : Int)) (by kernel_rfl) (by kernel_rfl) ?_
  simp only [Act.put, List.setIfInBounds_toArray, List.set_cons_zero, List.set_cons_succ, List.getElem_toArray, List.getElem_cons_zero, List.getElem_cons_succ]
  refine list_val (.int .u8 (n : Int)) (by kernel_rfl) (by go_simp) ?_
  simp only [Act.put, List.setIfInBounds_toArray, List.set_cons_zero, List.set_cons_succ, List.getElem_toArray, List.getElem_cons_zero, List.getElem_cons_succ]
  refine list_valw (.slice (some ⟨u4.heap.size, 0, none⟩) 1 1) (u4.alloc (.cells (kc [(n : Int)]) 5 (0, 0))) (by kernel_rfl) (by kernel_rfl) ?_
  have hg := (Gr.refl u4).alloc (.cells (kc [(n : Int)]) 5 (0, 0))
  have hlb3 := hide (kc_lb (n := 1) (blk_new u4 (.cells (kc [(n : Int)]) 5 (0, 0))) rfl (show IsB [(n : Int)] from fun y hy => by rw [List.mem_singleton.1 hy]; omega) (by decide))
  replace hB := hB.more hg
  replace hO2 := hide ((unhide hO2).gr hg)
  clear hg
  generalize World.alloc _ _ = u5 at *
  generalize u4.heap.size = h3 at *
  simp only [Act.put, List.setIfInBounds_toArray, List.set_cons_zero, List.set_cons_succ, List.getElem_toArray, List.getElem_cons_zero, List.getElem_cons_succ]
  refine app_bs (by kernel_rfl) (.tmp 14) (.tmp 19) rfl w.heap.size _ ([1] ++ lowL r 8) rfl (unhide hO2) (some ⟨h3, 0, none⟩) 1 1 [(n : Int)] (by kernel_rfl) (unhide hlb3).len (unhide hlb3).sl (by simp [lowL_len]) hB.gr.size ?_
  intro v2 u6 hO3 hgr
  have hG := (unhide hO2).grown (Nat.le_refl _) hB.gr hgr
  have hb0 : u6.heap[w.heap.size]? = some (.cells #[.int .u64 r, .slice (some ⟨p, q, none⟩) n c] 25 (0, 0)) := by
    rw [hgr.block w.heap.size (lt_of_block (hB.get 0 (x := ⟨w.heap.size, #[.int .u64 r, .slice (some ⟨p, q, none⟩) n c], 25⟩) rfl)) ?_]
    · exact (hB.get 0 (x := ⟨w.heap.size, #[.int .u64 r, .slice (some ⟨p, q, none⟩) n c], 25⟩) rfl)
    · intro e
      have h9 := ob_ne (t := 25) (unhide hO2) (hB.get 0 (x := ⟨w.heap.size, #[.int .u64 r, .slice (some ⟨p, q, none⟩) n c], 25⟩) rfl) (by decide)
      exact h9 e
  clear hgr hB hO2
  have hO := hide hO3
  clear hO3
  simp only [Act.put, List.setIfInBounds_toArray, List.set_cons_zero, List.set_cons_succ, List.getElem_toArray, List.getElem_cons_zero, List.getElem_cons_succ]
  (refine wpList_step fun K hK => ?_; replace hK := hide hK; go_simp; refine unhide hK _ _ ?_; clear hK K)
  refine wpList_nil ?_
  clear hlb1 hlb3
  replace hO : Hid (Ob w.heap.size u6 v2 (anH r n)) := hO
  replace hb0 := hide hb0; replace hG := hide hG
  go_upto_region 5 with fail
  refine wp_region_lit ?_
  refine list_val (.pointer (some ⟨w.heap.size, 1, none⟩)) (by kernel_rfl) (by kernel_rfl) ?_
  simp only [Act.put, List.setIfInBounds_toArray, List.set_cons_zero, List.set_cons_succ, List.getElem_toArray, List.getElem_cons_zero, List.getElem_cons_succ]
  refine list_val (.slice (some ⟨p, q, none⟩) n c) (by kernel_rfl) (exec_sks _ (.tmp 21) rfl (w.heap.size) 1 (by kernel_rfl) (some ⟨p, q, none⟩) n c (cell_of (unhide hb0) (i := 1) rfl)) ?_
  simp only [Act.put, List.setIfInBounds_toArray, List.set_cons_zero, List.set_cons_succ, List.getElem_toArray, List.getElem_cons_zero, List.getElem_cons_succ]
  refine list_val (.int .i64 (n : Int)) (by kernel_rfl) (by kernel_rfl) ?_
  simp only [Act.put, List.setIfInBounds_toArray, List.set_cons_zero, List.set_cons_succ, List.getElem_toArray, List.getElem_cons_zero, List.getElem_cons_succ]
  refine list_val (.int .i64 0) (by kernel_rfl) (by kernel_rfl) ?_
  simp only [Act.put, List.setIfInBounds_toArray, List.set_cons_zero, List.set_cons_succ, List.getElem_toArray, List.getElem_cons_zero, List.getElem_cons_succ]
  refine wpList_nil ?_
  have hI0 : Hid (Ob w.heap.size u6 v2 (anH r n ++ (ks.take 0).flatten) ∧ u6.heap[w.heap.size]? = some (.cells #[.int .u64 r, .slice (some ⟨p, q, none⟩) n c] 25 (0, 0)) ∧ Gr w u6) := ⟨by rw [List.take_zero, List.flatten_nil, List.append_nil]; exact unhide hO, unhide hb0, unhide hG⟩
  clear hO hb0 hG
  go_wp2_with fail
  go_loopw [4, 24] (fun v i wr => ∃ (j : Nat) (v' : Value), j ≤ n ∧ v' = v ∧ i = .int .i64 (j : Int) ∧ Hid (Ob w.heap.size wr v' (anH r n ++ (ks.take j).flatten) ∧ wr.heap[w.heap.size]? = some (.cells #[.int .u64 r, .slice (some ⟨p, q, none⟩) n c] 25 (0, 0)) ∧ Gr w wr)) (fun _ i _ => n - (intOf i).toNat)
  case atStart => exact ⟨0, _, by omega, rfl, rfl, hI0⟩
  case round =>
  clear hI0
  obtain ⟨j, v', hj, rfl, rfl, hA⟩ := hrel
  obtain ⟨hO, hb0, hG⟩ := unhide hA
  clear hA
  by_cases hlt : j < n
  · skip
    have jI : (j : Int) < (n : Int) := by omega
    have hjk : j < ks.length := by rw [unhide hkn]; exact hlt
    have hkj := (unhide hks).at_ j hjk
    have hrg : wr.rangeAt p (q + 32 * j) (bv (ks.getD j [])) := by
      obtain ⟨p', q', e, h⟩ := ((unhide lk).gr hG).at_ j hlt
      have e2 := Option.some.inj e
      injection e2 with e3 e4 _
      subst e3 e4
      rw [getD_map bv ks j [] [] hjk] at h
      exact h
    have hfl := take_flat ks j hjk
    have hbd : (anH r n ++ (ks.take j).flatten).length + 32 ≤ 180000000000000 := by
      have h1 := flat32 ((unhide hks).take j)
      have h2 : (ks.take j).length ≤ 3 := by rw [List.length_take]; omega
      have h3 : (anH r n).length = 10 := by unfold anH; simp [lowL_len]
      rw [List.length_append, h1, h3]
      omega
    obtain ⟨KJ, hKJ⟩ : ∃ K, K = ks.getD j [] := ⟨_, rfl⟩
    rw [← hKJ] at hkj hrg hfl
    clear hKJ
    obtain ⟨hkl, hkb⟩ := hkj
    replace hO := hide hO; replace hb0 := hide hb0; replace hG := hide hG; replace hrg := hide hrg; replace hfl := hide hfl; replace hkb := hide hkb
    go_upto_region 7 with fail
    refine wp_region_lit ?_
    refine list_val (.pointer (some ⟨p, q + 32 * j, none⟩)) (by kernel_rfl) (exec_iks _ (.tmp 22) (.tmp 24) rfl p q n c j (by kernel_rfl) (by kernel_rfl) hlt) ?_
    simp only [Act.put, List.setIfInBounds_toArray, List.set_cons_zero, List.set_cons_succ, List.getElem_toArray, List.getElem_cons_zero, List.getElem_cons_succ]
    refine list_val (.agg (kc KJ)) (by kernel_rfl) (exec_row _ 30 (.tmp 26) rfl p (q + 32 * j) (by kernel_rfl) (bv KJ) _ (unhide hrg) Try.underlying30 rfl (by rw [Try.infoKy, bv_len, hkl])) ?_
    simp only [Act.put, List.setIfInBounds_toArray, List.set_cons_zero, List.set_cons_succ, List.getElem_toArray, List.getElem_cons_zero, List.getElem_cons_succ]
    refine list_valw (.pointer (some ⟨wr.heap.size, 0, none⟩)) (wr.alloc (.cells (kc Z32) 30 (0, 0))) (by kernel_rfl) (by kernel_rfl) ?_
    have hB := (Bl.nil wr).new (kc Z32) 30
    simp only [List.nil_append] at hB
    generalize World.alloc _ _ = y1 at *
    generalize wr.heap.size = gk at *
    replace hB : Bl wr [⟨gk, kc Z32, 30⟩] y1 := hB
    simp only [Act.put, List.setIfInBounds_toArray, List.set_cons_zero, List.set_cons_succ, List.getElem_toArray, List.getElem_cons_zero, List.getElem_cons_succ]
    refine list_store 30 (.tmp 6) (.tmp 27) gk (kc KJ) 30 (kc Z32) (by kernel_rfl) rfl (by kernel_rfl) (by kernel_rfl) (hB.get 0 (x := ⟨gk, kc Z32, 30⟩) rfl) (by rw [Try.infoKy, kc_size, hkl]) (by rw [kc_size, kc_size, hkl]; rfl) (kc_one _) ?_
    replace hB := hB.set 0 (x := ⟨gk, kc Z32, 30⟩) rfl (kc KJ)
    simp only [List.set_cons_zero] at hB
    generalize World.setRow _ _ _ = y2 at *
    replace hB : Bl wr [⟨gk, kc KJ, 30⟩] y2 := hB
    simp only [Act.put, List.setIfInBounds_toArray, List.set_cons_zero, List.set_cons_succ, List.getElem_toArray, List.getElem_cons_zero, List.getElem_cons_succ]
    refine wpList_nil ?_
    replace hB := hide hB
    go_upto_region 8 with fail
    replace hB := unhide hB
    refine wp_region_lit ?_
    refine list_val v' (by kernel_rfl) (by kernel_rfl) ?_
    simp only [Act.put, List.setIfInBounds_toArray, List.set_cons_zero, List.set_cons_succ, List.getElem_toArray, List.getElem_cons_zero, List.getElem_cons_succ]
    refine list_val (.slice (some ⟨gk, 0, none⟩) 32 32) (by kernel_rfl) (by kernel_rfl) ?_
    simp only [Act.put, List.setIfInBounds_toArray, List.set_cons_zero, List.set_cons_succ, List.getElem_toArray, List.getElem_cons_zero, List.getElem_cons_succ]
    refine app_bs (by kernel_rfl) (.tmp 28) (.tmp 29) rfl w.heap.size _ (anH r n ++ (ks.take j).flatten) rfl ((unhide hO).gr hB.gr) (some ⟨gk, 0, none⟩) 32 32 KJ (by kernel_rfl) hkl (.inr ⟨gk, 0, rfl, kc_at (hB.get 0 (x := ⟨gk, kc KJ, 30⟩) rfl)⟩) hbd ((unhide hG).trans hB.gr).size ?_
    intro v3 y3 hO3 hgr
    have hI2 : Hid (Ob w.heap.size y3 v3 (anH r n ++ (ks.take (j + 1)).flatten) ∧ y3.heap[w.heap.size]? = some (.cells #[.int .u64 r, .slice (some ⟨p, q, none⟩) n c] 25 (0, 0)) ∧ Gr w y3) := by
      have hO1 := (unhide hO).gr hB.gr
      have hb1 := hB.gr.blk (unhide hb0)
      refine ⟨?_, ?_, hO1.grown (Nat.le_refl _) ((unhide hG).trans hB.gr) hgr⟩
      · rw [unhide hfl, ← List.append_assoc]
        exact hO3
      · rw [hgr.block _ (lt_of_block hb1) (fun e => ob_ne hO1 hb1 (by decide) e)]
        exact hb1
    clear hO3 hgr hB
    simp only [Act.put, List.setIfInBounds_toArray, List.set_cons_zero, List.set_cons_succ, List.getElem_toArray, List.getElem_cons_zero, List.getElem_cons_succ]
    (refine wpList_step fun K hK => ?_; replace hK := hide hK; go_simp; refine unhide hK _ _ ?_; clear hK K)
    refine wpList_nil ?_
    have ej : IntKind.i64.wrap ((j : Int) + 1) = ((j + 1 : Nat) : Int) := by rw [IntKind.wrap_i64]; omega
    go_wp2_with fail
    go_roundw
    case rel => exact ⟨j + 1, _, by omega, rfl, by go_num, hI2⟩
    case measure => simp [intOf]; omega
  · skip
    obtain rfl : j = n := by omega
    have jI : ¬ (j : Int) < (j : Int) := by omega
    rw [List.take_of_length_le (by rw [unhide hkn]; exact Nat.le_refl _)] at hO
    have hfl : (anH r j ++ ks.flatten).length = 10 + 32 * j := by
      rw [List.length_append, flat32 (unhide hks), unhide hkn]
      unfold anH
      simp [lowL_len]
    have hne : anH r j ++ ks.flatten ≠ [] := by intro e; rw [e] at hfl; simp at hfl; omega
    obtain ⟨a4, c4, rfl, h4⟩ := hO.slice
    obtain ⟨m4, hm4⟩ : ∃ m, m = (anH r j ++ ks.flatten).length := ⟨_, rfl⟩
    rw [← hm4] at hO hfl ⊢
    obtain ⟨z, hz⟩ : ∃ z, z = 96 - 32 * j := ⟨_, rfl⟩
    have hw4 : IntKind.i64.wrap (106 - (m4 : Int)) = (z : Int) := by rw [IntKind.wrap_i64]; omega
    have hbz : (anH r j ++ ks.flatten).length + z ≤ 100000 := by rw [← hm4]; omega
    replace hO := hide hO; replace hb0 := hide hb0; replace hG := hide hG; replace hne := hide hne; replace hz := hide hz
    clear h4 hm4 hfl
    go_upto_region 10 with fail
    refine wp_region_lit ?_
    refine list_val (.slice a4 m4 c4) (by kernel_rfl) (by kernel_rfl) ?_
    simp only [Act.put, List.setIfInBounds_toArray, List.set_cons_zero, List.set_cons_succ, List.getElem_toArray, List.getElem_cons_zero, List.getElem_cons_succ]
    refine list_val (.slice a4 m4 c4) (by kernel_rfl) (by kernel_rfl) ?_
    simp only [Act.put, List.setIfInBounds_toArray, List.set_cons_zero, List.set_cons_succ, List.getElem_toArray, List.getElem_cons_zero, List.getElem_cons_succ]
    refine list_val (.int .i64 m4) (by kernel_rfl) (by kernel_rfl) ?_
    simp only [Act.put, List.setIfInBounds_toArray, List.set_cons_zero, List.set_cons_succ, List.getElem_toArray, List.getElem_cons_zero, List.getElem_cons_succ]
    refine list_val (.int .i64 (z : Int)) (by kernel_rfl) (by go_simp) ?_
    simp only [Act.put, List.setIfInBounds_toArray, List.set_cons_zero, List.set_cons_succ, List.getElem_toArray, List.getElem_cons_zero, List.getElem_cons_succ]
    refine app_zs (by kernel_rfl) (.tmp 32) (.tmp 35) rfl w.heap.size _ (anH r j ++ ks.flatten) rfl (unhide hO) (unhide hne) z (by kernel_rfl) hbz (unhide hG).size ?_
    intro v5 y5 hO5 hgr
    have hZ : Hid (Pok (anB r ks) w (.returned (.tuple #[v5, .int .i64 0])) y5) := by
      refine ⟨v5, rfl, ?_, (unhide hO).grown (Nat.le_refl _) (unhide hG) hgr⟩
      unfold anB
      rw [unhide hkn, ← unhide hz]
      exact hO5
    clear hO5 hgr
    simp only [Act.put, List.setIfInBounds_toArray, List.set_cons_zero, List.set_cons_succ, List.getElem_toArray, List.getElem_cons_zero, List.getElem_cons_succ]
    (refine wpList_step fun K hK => ?_; replace hK := hide hK; go_simp; refine unhide hK _ _ ?_; clear hK K)
    (refine wpList_step fun K hK => ?_; replace hK := hide hK; go_simp; refine unhide hK _ _ ?_; clear hK K)
    refine wpList_nil ?_
    go_wp2_with fail
    rw [unhide hT]
    exact unhide hZ
end Go.Proofs.Ytiejdpodffkdpaa
