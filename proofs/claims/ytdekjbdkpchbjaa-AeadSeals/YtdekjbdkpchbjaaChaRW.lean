/-
  Four bytes as a word, the places of the quarters, by the reference.
-/
import Derived.Test.YtdekjbdkpchbjaaChaRQ
import Derived.Deep.QuietTactic
import Derived.BigQuiet
namespace Go.Proofs.Ytdekjbdkpchbjaa
open Go.RowKit
set_option maxRecDepth 100000
set_option linter.unusedSimpArgs false
set_option linter.unusedVariables false
/-- four bytes as a word -/
def wd (K : List Int) (o : Nat) : Int := bits .or .u32 (bits .or .u32 (bits .or .u32 (K.getD o 0) (K.getD (o + 1) 0 * 256)) (K.getD (o + 2) 0 * 65536)) (K.getD (o + 3) 0 * 16777216)
theorem rword_ok (K : List Int) (hb : IsB K) (g o n cap : Nat) (hn : n = K.length - o) (ho : o + 4 ≤ K.length) (w : World) (h : w.heap[g]? = some (.cells (kc K) 23 (0, 0)) ∨ w.heap[g]? = some (.cells (kc K) 25 (0, 0))) (hg : o + 3 < K.length) :
    Calls Try.prog 46 #[.slice (some ⟨g, o, none⟩) n cap] w (fun r w' => r = .returned (.int .u32 (wd K o)) ∧ Gr w w') := by
  have hc : ∀ j, j < 4 → w.cell? ⟨g, o + j, none⟩ = some (.int .u8 (K.getD (o + j) 0)) := fun j hj => by
    rcases h with h | h
    · exact kc_cell h _ (by omega)
    · exact kc_cell h _ (by omega)
  have c0 := hc 0 (by omega)
  have c1 := hc 1 (by omega)
  have c2 := hc 2 (by omega)
  have c3 := hc 3 (by omega)
  rw [Nat.add_zero] at c0
  have b0 := hb.at_ o
  have b1 := hb.at_ (o + 1)
  have b2 := hb.at_ (o + 2)
  have b3 := hb.at_ (o + 3)
  unfold wd
  generalize K.getD o 0 = x0 at *
  generalize K.getD (o + 1) 0 = x1 at *
  generalize K.getD (o + 2) 0 = x2 at *
  generalize K.getD (o + 3) 0 = x3 at *
  have n0 : (0 : Int) < n := by omega
  have n1 : (1 : Int) < n := by omega
  have n2 : (2 : Int) < n := by omega
  have n3 : (3 : Int) < n := by omega
  have m0 : 0 < n := by omega
  have m1 : 1 < n := by omega
  have m2 : 2 < n := by omega
  have m3 : 3 < n := by omega
  clear h hc hn
  go_enter Try.func46, Try.ntmps46
  go_wp2_with fail
  go_quiet (fail)
  go_wp2_with fail
  refine bodyPost_ret (v := .int .u32 (bits .or .u32 (bits .or .u32 (bits .or .u32 x0 (x1 * 256)) (x2 * 65536)) (x3 * 16777216))) ?_ rfl ⟨rfl, (Gr.refl w).drewN nq⟩
  simp [results, Try.results46, go_sem]
/-- numbers in a row -/
def ic (l : List Nat) : Array Value := (l.map (fun x : Nat => Value.int .i64 (x : Int))).toArray
theorem ic_size (l : List Nat) : (ic l).size = l.length := by simp [ic]
theorem ic_one (l : List Nat) : (ic l).all (·.oneCell') = true := by unfold ic; simp [Value.oneCell']
theorem ic_cell {v : World} {g : Nat} {l : List Nat} {t : TypeId} (h : v.heap[g]? = some (.cells (ic l) t (0, 0))) (i : Nat) (hi : i < l.length) : v.cell? ⟨g, i, none⟩ = some (.int .i64 ((l.getD i 0 : Nat) : Int)) := by
  refine cell_of h ?_
  unfold ic
  simp [hi]
/-- the places of the eight quarters -/
def PL : List Nat := [0, 4, 8, 12, 1, 5, 9, 13, 2, 6, 10, 14, 3, 7, 11, 15, 0, 5, 10, 15, 1, 6, 11, 12, 2, 7, 8, 13, 3, 4, 9, 14]
def P32 : List Nat := List.replicate 32 0
theorem Try.info84 : (Try.prog.info? 77).map (·.size) = some 32 := by kernel_rfl
theorem Try.infoP4 : (Try.prog.info? 76).map (·.size) = some 4 := by kernel_rfl
theorem rplaces_ok (w : World) : Calls Try.prog 47 #[] w (fun r w' => r = .returned (.agg (ic PL)) ∧ Gr w w') := by
  go_enter Try.func47, Try.ntmps47
  go_upto_region 1 with fail
  have hB := (Bl.nil w).new #[.int .i64 0, .int .i64 0, .int .i64 0, .int .i64 0, .int .i64 0, .int .i64 0, .int .i64 0, .int .i64 0, .int .i64 0, .int .i64 0, .int .i64 0, .int .i64 0, .int .i64 0, .int .i64 0, .int .i64 0, .int .i64 0, .int .i64 0, .int .i64 0, .int .i64 0, .int .i64 0, .int .i64 0, .int .i64 0, .int .i64 0, .int .i64 0, .int .i64 0, .int .i64 0, .int .i64 0, .int .i64 0, .int .i64 0, .int .i64 0, .int .i64 0, .int .i64 0] 77
  simp only [List.nil_append] at hB
  generalize World.alloc _ _ = u at *
  replace hB : Bl w [⟨w.heap.size, ic P32, 77⟩] u := hB
  refine wp_region_lit ?_
  refine list_val (.agg (ic [0, 4, 8, 12])) (by kernel_rfl) (by kernel_rfl) ?_
  simp only [Act.put, List.setIfInBounds_toArray, List.set_cons_zero, List.set_cons_succ, List.getElem_toArray, List.getElem_cons_zero, List.getElem_cons_succ]
  refine list_val (.agg (ic [1, 5, 9, 13])) (by kernel_rfl) (by kernel_rfl) ?_
  simp only [Act.put, List.setIfInBounds_toArray, List.set_cons_zero, List.set_cons_succ, List.getElem_toArray, List.getElem_cons_zero, List.getElem_cons_succ]
  refine list_val (.agg (ic [2, 6, 10, 14])) (by kernel_rfl) (by kernel_rfl) ?_
  simp only [Act.put, List.setIfInBounds_toArray, List.set_cons_zero, List.set_cons_succ, List.getElem_toArray, List.getElem_cons_zero, List.getElem_cons_succ]
  refine list_val (.agg (ic [3, 7, 11, 15])) (by kernel_rfl) (by kernel_rfl) ?_
  simp only [Act.put, List.setIfInBounds_toArray, List.set_cons_zero, List.set_cons_succ, List.getElem_toArray, List.getElem_cons_zero, List.getElem_cons_succ]
  refine list_val (.agg (ic [0, 5, 10, 15])) (by kernel_rfl) (by kernel_rfl) ?_
  simp only [Act.put, List.setIfInBounds_toArray, List.set_cons_zero, List.set_cons_succ, List.getElem_toArray, List.getElem_cons_zero, List.getElem_cons_succ]
  refine list_val (.agg (ic [1, 6, 11, 12])) (by kernel_rfl) (by kernel_rfl) ?_
  simp only [Act.put, List.setIfInBounds_toArray, List.set_cons_zero, List.set_cons_succ, List.getElem_toArray, List.getElem_cons_zero, List.getElem_cons_succ]
  refine list_val (.agg (ic [2, 7, 8, 13])) (by kernel_rfl) (by kernel_rfl) ?_
  simp only [Act.put, List.setIfInBounds_toArray, List.set_cons_zero, List.set_cons_succ, List.getElem_toArray, List.getElem_cons_zero, List.getElem_cons_succ]
  refine list_val (.agg (ic [3, 4, 9, 14])) (by kernel_rfl) (by kernel_rfl) ?_
  simp only [Act.put, List.setIfInBounds_toArray, List.set_cons_zero, List.set_cons_succ, List.getElem_toArray, List.getElem_cons_zero, List.getElem_cons_succ]
  refine list_val (.agg (ic PL)) (by kernel_rfl) (by kernel_rfl) ?_
  simp only [Act.put, List.setIfInBounds_toArray, List.set_cons_zero, List.set_cons_succ, List.getElem_toArray, List.getElem_cons_zero, List.getElem_cons_succ]
  refine list_store 77 (.tmp 0) (.tmp 9) w.heap.size (ic PL) 77 (ic P32) (by kernel_rfl) rfl (by kernel_rfl) (by kernel_rfl) (hB.get 0 (x := ⟨w.heap.size, ic P32, 77⟩) rfl) (by rw [Try.info84]; rfl) rfl (ic_one _) ?_
  replace hB := hB.set 0 (x := ⟨w.heap.size, ic P32, 77⟩) rfl (ic PL)
  simp only [List.set_cons_zero, List.set_cons_succ] at hB
  generalize World.setRow _ _ _ = u3 at *
  simp only [Act.put, List.setIfInBounds_toArray, List.set_cons_zero, List.set_cons_succ, List.getElem_toArray, List.getElem_cons_zero, List.getElem_cons_succ]
  refine wpList_nil ?_
  go_wp2_with fail
  exact bodyPost_ret (v := .agg (ic PL)) (results_cell_row Try.results47 _ _ w.heap.size 77 (ic PL) (0, 0) _ rfl (hB.get 0 (x := ⟨w.heap.size, ic PL, 77⟩) rfl) Try.underlying77 rfl (by rw [Try.info84]; rfl)) rfl ⟨rfl, hB.gr⟩
/-- the places of the quarter number t -/
def pl4 (t : Nat) : List Nat := (PL.drop (4 * t)).take 4
theorem pl4_len (t : Nat) (h : t < 8) : (pl4 t).length = 4 := by unfold pl4 PL; simp; omega
theorem pl4_lt (t : Nat) (h : t < 8) : ∀ i, (pl4 t).getD i 0 < 16 := by
  have hd : ∀ t, t < 8 → ∀ i, i < 4 → (pl4 t).getD i 0 < 16 := by decide
  intro i
  rcases Nat.lt_or_ge i 4 with hi | hi
  · exact hd t h i hi
  · rw [List.getD_eq_getElem?_getD, List.getElem?_eq_none (by rw [pl4_len t h]; exact hi)]
    decide
/-- the words behind t quarters of two rounds -/
def qpl (X : List Int) (p : List Nat) : List Int := qp X (p.getD 0 0) (p.getD 1 0) (p.getD 2 0) (p.getD 3 0)
def dq (X : List Int) : Nat → List Int
  | 0 => X
  | t + 1 => qpl (dq X t) (pl4 t)
theorem dq_len (X : List Int) : ∀ t, (dq X t).length = X.length
  | 0 => rfl
  | t + 1 => by rw [dq, qpl, qp_len, dq_len X t]
theorem dq_all (X : List Int) : dq X 8 = dbl X := rfl
theorem index_P (t : Nat) (h : t < 8) (w : World) : (Instr.index 77 (.agg (ic PL)) (.int .i64 t)).run Try.prog w = .ok (.agg (ic (pl4 t))) w := by
  have hd : t = 0 ∨ t = 1 ∨ t = 2 ∨ t = 3 ∨ t = 4 ∨ t = 5 ∨ t = 6 ∨ t = 7 := by omega
  rcases hd with rfl | rfl | rfl | rfl | rfl | rfl | rfl | rfl <;> (show Sem.run _ _ _ = _; kernel_rfl)
end Go.Proofs.Ytdekjbdkpchbjaa
