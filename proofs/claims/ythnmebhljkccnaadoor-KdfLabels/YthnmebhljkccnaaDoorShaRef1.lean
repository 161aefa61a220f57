/-
  Small functions of the reference and of the laws: a turn, the constants, the first state, bytes that are held against each other, bytes behind others, Copy.
-/
import Derived.Test.YthnmebhljkccnaaDoorShaRefMath
import Derived.Deep.DeepAppendWide
import Derived.Laws.BytesArg
namespace Go.Proofs.YthnmebhljkccnaaDoor
open Go.RowKit
set_option maxRecDepth 100000
set_option linter.unusedSimpArgs false

theorem right_ok (x : Int) (n : Nat) (hn : 1 ≤ n ∧ n ≤ 31) (w : World) :
    Calls Tryd.prog 40 #[.int .u32 x, .int .i64 n] w (fun r w' => r = .returned (.int .u32 (tn x n)) ∧ w' = w.drew) := by
  obtain ⟨m, hm⟩ : ∃ m, m = 32 - n := ⟨_, rfl⟩
  have e1 : 32 - (n : Int) = (m : Int) := by omega
  have e2 : IntKind.i64.wrap (m : Int) = (m : Int) := by rw [IntKind.wrap_i64]; omega
  have m0 : 0 ≤ (m : Int) := by omega
  have n0 : 0 ≤ (n : Int) := by omega
  replace hm := hide hm
  go_enter Tryd.func40, Tryd.ntmps40
  go_wp2_with fail
  go_still_tail 8, (by kernel_rfl)
  go_wp2_with fail
  refine bodyPost_ret (v := .int .u32 (tn x n)) ?_ rfl ⟨rfl, rfl⟩
  unfold tn
  rw [← unhide hm]
  simp [results, Tryd.results40, go_sem]
theorem right_int (x m : Int) (hm : 1 ≤ m ∧ m ≤ 31) (w : World) :
    Calls Tryd.prog 40 #[.int .u32 x, .int .i64 m] w (fun r w' => r = .returned (.int .u32 (tn x m.toNat)) ∧ w' = w.drew) := by
  obtain ⟨n, rfl⟩ := Int.eq_ofNat_of_zero_le (a := m) (by omega)
  exact right_ok x n (by omega) w
theorem rbegin_ok (w : World) : Calls Tryd.prog 39 #[] w (fun r w' => r = .returned (.agg (uc F0)) ∧ Gr w w') := by
  go_enter Tryd.func39, Tryd.ntmps39
  go_upto_region 1 with fail
  have hB := (Bl.nil w).new #[.int .u32 0, .int .u32 0, .int .u32 0, .int .u32 0, .int .u32 0, .int .u32 0, .int .u32 0, .int .u32 0] 67
  simp only [List.nil_append] at hB
  generalize World.alloc _ _ = u at *
  replace hB : Bl w [⟨w.heap.size, uc Z8, 67⟩] u := hB
  refine wp_region_lit ?_
  refine list_val (.agg (uc F0)) (by kernel_rfl) (by kernel_rfl) ?_
  simp only [Act.put, List.setIfInBounds_toArray, List.set_cons_zero, List.set_cons_succ, List.getElem_toArray, List.getElem_cons_zero, List.getElem_cons_succ]
  refine list_store 67 (.tmp 0) (.tmp 1) w.heap.size (uc F0) 67 (uc Z8) (by kernel_rfl) rfl (by kernel_rfl) (by kernel_rfl) (hB.get 0 (x := ⟨w.heap.size, uc Z8, 67⟩) rfl) (by rw [Tryd.infoS]; rfl) rfl (uc_one _) ?_
  replace hB := hB.set 0 (x := ⟨w.heap.size, uc Z8, 67⟩) rfl (uc F0)
  simp only [List.set_cons_zero, List.set_cons_succ] at hB
  generalize World.setRow _ _ _ = v1_ at *
  simp only [Act.put, List.setIfInBounds_toArray, List.set_cons_zero, List.set_cons_succ, List.getElem_toArray, List.getElem_cons_zero, List.getElem_cons_succ]
  refine wpList_nil ?_
  go_wp2_with fail
  exact bodyPost_ret (v := .agg (uc F0)) (results_cell_row Tryd.results39 _ _ w.heap.size 67 (uc F0) (0, 0) _ rfl (hB.get 0 (x := ⟨w.heap.size, uc F0, 67⟩) rfl) Tryd.underlying67 rfl (by rw [Tryd.infoS]; rfl)) rfl ⟨rfl, hB.gr⟩
theorem rconstants_ok (w : World) : Calls Tryd.prog 37 #[] w (fun r w' => r = .returned (.agg (uc KL)) ∧ Gr w w') := by
  go_enter Tryd.func37, Tryd.ntmps37
  go_upto_region 1 with fail
  have hB := (Bl.nil w).new #[.int .u32 0, .int .u32 0, .int .u32 0, .int .u32 0, .int .u32 0, .int .u32 0, .int .u32 0, .int .u32 0, .int .u32 0, .int .u32 0, .int .u32 0, .int .u32 0, .int .u32 0, .int .u32 0, .int .u32 0, .int .u32 0, .int .u32 0, .int .u32 0, .int .u32 0, .int .u32 0, .int .u32 0, .int .u32 0, .int .u32 0, .int .u32 0, .int .u32 0, .int .u32 0, .int .u32 0, .int .u32 0, .int .u32 0, .int .u32 0, .int .u32 0, .int .u32 0, .int .u32 0, .int .u32 0, .int .u32 0, .int .u32 0, .int .u32 0, .int .u32 0, .int .u32 0, .int .u32 0, .int .u32 0, .int .u32 0, .int .u32 0, .int .u32 0, .int .u32 0, .int .u32 0, .int .u32 0, .int .u32 0, .int .u32 0, .int .u32 0, .int .u32 0, .int .u32 0, .int .u32 0, .int .u32 0, .int .u32 0, .int .u32 0, .int .u32 0, .int .u32 0, .int .u32 0, .int .u32 0, .int .u32 0, .int .u32 0, .int .u32 0, .int .u32 0] 64
  simp only [List.nil_append] at hB
  generalize World.alloc _ _ = u at *
  replace hB : Bl w [⟨w.heap.size, uc Z64, 64⟩] u := hB
  refine wp_region_lit ?_
  refine list_val (.agg (uc KL)) (by kernel_rfl) (by kernel_rfl) ?_
  simp only [Act.put, List.setIfInBounds_toArray, List.set_cons_zero, List.set_cons_succ, List.getElem_toArray, List.getElem_cons_zero, List.getElem_cons_succ]
  refine list_store 64 (.tmp 0) (.tmp 1) w.heap.size (uc KL) 64 (uc Z64) (by kernel_rfl) rfl (by kernel_rfl) (by kernel_rfl) (hB.get 0 (x := ⟨w.heap.size, uc Z64, 64⟩) rfl) (by rw [Tryd.infoW]; rfl) rfl (uc_one _) ?_
  replace hB := hB.set 0 (x := ⟨w.heap.size, uc Z64, 64⟩) rfl (uc KL)
  simp only [List.set_cons_zero, List.set_cons_succ] at hB
  generalize World.setRow _ _ _ = v1_ at *
  simp only [Act.put, List.setIfInBounds_toArray, List.set_cons_zero, List.set_cons_succ, List.getElem_toArray, List.getElem_cons_zero, List.getElem_cons_succ]
  refine wpList_nil ?_
  go_wp2_with fail
  exact bodyPost_ret (v := .agg (uc KL)) (results_cell_row Tryd.results37 _ _ w.heap.size 64 (uc KL) (0, 0) _ rfl (hB.get 0 (x := ⟨w.heap.size, uc KL, 64⟩) rfl) Tryd.underlying64 rfl (by rw [Tryd.infoW]; rfl)) rfl ⟨rfl, hB.gr⟩

/-- bytes as a text -/
theorem Sl.text {w : World} {a : Option Addr} {B : List Int} (h : Sl w a B) (n c : Nat) (hn : B.length = n) : (convert 22 9 (.slice a n c)).run Tryd.prog w = .ok (.string (strOfNums B)) w := by
  subst hn
  rcases h with rfl | ⟨p, o, rfl, h2⟩
  · rw [run_convert_bytes_string w 22 9 5 _ _ c Tryd.underlying22 Tryd.underlying5 Tryd.underlying9]
    cases a <;> simp [Conv.bytesToString, loadCells]
    all_goals rfl
  · exact run_convert_bytes_arg (P := Tryd.prog) w 22 5 Tryd.underlying22 Tryd.underlying5 p o _ c B rfl (fun i hi => h2 i hi) 9 Tryd.underlying9
/-- a list of bytes that the call itself has made -/
def Ob (b : Nat) (w : World) (v : Value) (L : List Int) : Prop := w.ownsRow b 5 1 v L.length (L.map (Value.int .u8))
theorem Ob.gr {b : Nat} {w u : World} {v : Value} {L : List Int} (h : Ob b w v L) (k : Gr w u) : Ob b u v L := own_gr h k
theorem Ob.slice {b : Nat} {w : World} {v : Value} {L : List Int} (h : Ob b w v L) : ∃ a c, v = .slice a L.length c ∧ L.length ≤ c ∧ c ≤ maxLen ∧ Sl w a L := by
  rcases h.2 with ⟨h1, h2⟩ | ⟨g, cap, cur, h1, h2, h3, h4, h5, h6, h7⟩
  · have : L = [] := List.eq_nil_of_length_eq_zero h2
    subst this
    exact ⟨none, 0, h1, Nat.le_refl _, Nat.zero_le _, .inl rfl⟩
  · refine ⟨_, cap, h1, h4, h5, .inr ⟨g, 0, rfl, fun j hj => ?_⟩⟩
    rw [Nat.zero_add]
    refine cell_of h3 ?_
    rw [← Array.getElem?_toList]
    have e : (L.map (Value.int .u8))[j]? = some (.int .u8 (L.getD j 0)) := by simp [hj]
    rw [← h7, Nat.mul_one, List.getElem?_take, if_pos hj] at e
    exact e
theorem Ob.grown {b : Nat} {w u u' : World} {v : Value} {L : List Int} (h : Ob b u v L) (hb : w.heap.size ≤ b) (k : Gr w u) (g : u.grownBy u' v.ownBlock) : Gr w u' := by
  refine ⟨g.os.trans k.os, g.tape.trans k.tape, g.output.trans k.output, Nat.le_trans k.size g.size, fun i hi => (g.block i (Nat.lt_of_lt_of_le hi k.size) ?_).trans (k.block i hi)⟩
  intro e
  have := (World.ownsRow.lt h i e.symm).1
  omega
/-- bytes are put behind bytes of one's own -/
theorem app_bs {w : World} {ops : Array Oper} {rest : List Oper} {o : Oper} {a : Act} {Q : Exit → Act → World → Prop} (hw : Region.wanted o (yielded ops a.tmps) = true) (s x : Operand)
    (ho : o.op = .call { callee := .builtin .append, args := #[s, x], argTypes := #[22, 22] }) (b : Nat) (v : Value) (L : List Int) (hs : a.eval s = v) (hown : Ob b w v L)
    (sp : Option Addr) (n sc : Nat) (l : List Int) (hx : a.eval x = .slice sp n sc) (hn : l.length = n) (hsl : Sl w sp l) (hbig : L.length + n ≤ 180000000000000) (hB : b ≤ w.heap.size)
    (h : ∀ v' w', Ob b w' v' (L ++ l) → w.grownBy w' v.ownBlock → wpList Tryd.prog ops Q rest (a.put o.dst v') w') :
    wpList Tryd.prog ops Q (o :: rest) a w := by
  subst hn
  obtain ⟨i0, hi, hz0, hz1, hz2⟩ := info_parts Tryd.info5
  rw [wpList, if_pos hw]
  refine Or.inl ?_
  rcases hsl with rfl | ⟨p, q, rfl, hat⟩
  · obtain ⟨a', c', rfl, hc, _, _⟩ := hown.slice
    have hrun : (Builtin.append_ #[22, 22] o.type #[.slice a' L.length c', .slice sp 0 sc]).run Tryd.prog w = .ok (.slice a' L.length c') w := by
      cases a' <;> cases sp <;> simp [Builtin.append_, run_underlying Tryd.underlying22, sizeOf, typeInfo, hi, Builtin.lenOf, Builtin.firstCells, loadCells, loadCellsFrom, storeCells, hc]
    unfold Oper.wp
    simp [execOp, ho, resolve, invoke, builtin, hs, hx, hrun, Result.andThen]
    exact h _ _ (by rw [List.append_nil]; exact hown) (World.grownBy.refl _ _)
  · refine wp_append_own_wide w s x 22 ho b 5 i0 (.int .u8 0) 1 1 Tryd.underlying22 hi hz0 hz1 hz2 rfl (by decide) v L.length _ hs hown ⟨p, q, none⟩ l.length sc (l.map (Value.int .u8)) hx (by simp) ?_ ?_ (by unfold maxLen; omega) (by omega) hB ?_
    · intro j u hj
      have hjl : j < l.length := by have := (List.getElem?_eq_some_iff.1 hj).1; simpa using this
      rw [Addr.add_mid, hat j hjl]
      simp [hjl] at hj ⊢
      exact hj
    · intro u hu
      obtain ⟨y, _, rfl⟩ := List.mem_map.1 hu
      rfl
    · intro v' w' h1 h2 _
      refine h v' w' ?_ h2
      unfold Ob
      rw [List.length_append, List.map_append]
      exact h1
end Go.Proofs.YthnmebhljkccnaaDoor
