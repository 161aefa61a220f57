/-
  Layer 14: the reference's messages, exchanges, envelopes of bytes.
-/
import Derived.Test.YtfmocneoffkmpaaFR
namespace Go.Proofs.Ytfmocneoffkmpaa
open Go.RowKit
set_option maxRecDepth 100000
set_option linter.unusedSimpArgs false
set_option linter.unusedVariables false
theorem list_off {P : Program} {ops : Array Oper} {Q : Exit → Act → World → Prop} {rest : List Oper} {o : Oper} {a : Act} {w : World} (hw : Region.wanted o (yielded ops a.tmps) = false) (h : wpList P ops Q rest (a.put o.dst undef) w) : wpList P ops Q (o :: rest) a w := by
  refine wpList_step fun K hK => ?_
  rw [if_neg (ne_true_of_eq_false hw)]
  exact hK _ _ h
def putU : List Oper → Act → Act
  | [], a => a
  | o :: os, a => putU os (a.put o.dst undef)
def offB (ops : Array Oper) : List Oper → Act → Bool
  | [], _ => true
  | o :: os, a => !(Region.wanted o (yielded ops a.tmps)) && offB ops os (a.put o.dst undef)
theorem list_offs {P : Program} {ops : Array Oper} {Q : Exit → Act → World → Prop} {w : World} : ∀ (k : Nat) (rest : List Oper) (a : Act), offB ops (rest.take k) a = true → wpList P ops Q (rest.drop k) (putU (rest.take k) a) w → wpList P ops Q rest a w
  | 0, rest, a, _, h => h
  | k + 1, [], a, _, h => h
  | k + 1, o :: rest, a, ho, h => by
    simp only [List.take_succ_cons, offB, Bool.and_eq_true, Bool.not_eq_true'] at ho
    exact list_off ho.1 (list_offs k rest _ ho.2 h)
/-- an operation whose value is known, and k behind it that are not wanted -/
theorem list_val_offs {P : Program} {ops : Array Oper} {Q : Exit → Act → World → Prop} {rest : List Oper} {o : Oper} {a : Act} {w : World} (k : Nat) (v : Value) (hw : Region.wanted o (yielded ops a.tmps) = true) (hx : (execOp a.eval o).run P w = .ok (.value v) w) (ho : offB ops (rest.take k) (a.put o.dst v) = true) (h : wpList P ops Q (rest.drop k) (putU (rest.take k) (a.put o.dst v)) w) : wpList P ops Q (o :: rest) a w :=
  list_val v hw hx (list_offs k rest _ ho h)
set_option maxHeartbeats 4000000 in
theorem qgetm_ok (L : List Int) (p0 q0 c0 : Nat) (w : World) (hB0 : Lb w (some ⟨p0, q0, none⟩) 105 c0 L) : Calls Try.prog 23 #[.slice (some ⟨p0, q0, none⟩) 105 c0] w (fun r w' => r = .returned (.agg (msO L).toArray) ∧ Gr w w') := by
  obtain ⟨T, hT⟩ : ∃ T : Ending → World → Prop, T = fun r w' => r = .returned (.agg (msO L).toArray) ∧ Gr w w' := ⟨_, rfl⟩
  rw [← hT]
  replace hT := hide hT
  have hL := hB0.len
  have hcap := hB0.cap
  have e32 := sub_len (k := 0) (m := 32) hL (by omega)
  have hlX := sub_len (k := 40) (m := 65) hL (by omega)
  have hw0 := lb_win hB0 40 65 (by omega) (by omega)
  replace hw0 := hide hw0; replace hB0 := hide hB0
  go_enter Try.func23, Try.ntmps23
  go_upto_region 0 with fail
  refine wp_region_lit ?_
  refine list_valw (.pointer (some ⟨w.heap.size, 0, none⟩)) (w.alloc (.cells (msl Z32 0 0 Z65).toArray 29 (0, 0))) (by kernel_rfl) (by kernel_rfl) ?_
  have hB := (Bl.nil w).new (msl Z32 0 0 Z65).toArray 29
  simp only [List.nil_append] at hB
  generalize World.alloc _ _ = u at *
  replace hB : Bl w [⟨w.heap.size, (msl Z32 0 0 Z65).toArray, 29⟩] u := hB
  simp only [Act.put, List.setIfInBounds_toArray, List.set_cons_zero, List.set_cons_succ, List.getElem_toArray, List.getElem_cons_zero, List.getElem_cons_succ]
  refine wpList_nil ?_
  replace hB := hide hB
  go_upto_region 1 with fail
  replace hB := unhide hB
  refine wp_region_lit ?_
  refine list_val (.slice (some ⟨p0, q0, none⟩) 105 c0) (by kernel_rfl) (by kernel_rfl) ?_
  simp only [Act.put, List.setIfInBounds_toArray, List.set_cons_zero, List.set_cons_succ, List.getElem_toArray, List.getElem_cons_zero, List.getElem_cons_succ]
  refine list_call 22 #[.slice (some ⟨p0, q0, none⟩) 105 c0] (by kernel_rfl) (by kernel_rfl) ((qgeth_ok L p0 q0 105 c0 (by omega) u ((unhide hB0).gr hB.gr)).mono ?_)
  rintro r u1 ⟨rfl, hg⟩
  replace hB := hB.more hg
  clear hg
  unfold msO at hT
  unfold hdO
  generalize (L.drop 0).take 32 = K at *
  generalize lowN ((L.drop (0 + 32)).take 4) = P at *
  generalize lowN ((L.drop (0 + 36)).take 4) = Q9 at *
  generalize (L.drop 40).take 65 = X at *
  refine ⟨_, rfl, ?_⟩
  simp only [Act.put, List.setIfInBounds_toArray, List.set_cons_zero, List.set_cons_succ, List.getElem_toArray, List.getElem_cons_zero, List.getElem_cons_succ]
  refine list_val (.agg (msl K P Q9 Z65).toArray) (by kernel_rfl) (exec_bm _ (.tmp 5) rfl K P Q9 e32 (by kernel_rfl)) ?_
  simp only [Act.put, List.setIfInBounds_toArray, List.set_cons_zero, List.set_cons_succ, List.getElem_toArray, List.getElem_cons_zero, List.getElem_cons_succ]
  refine list_valw (.pointer (some ⟨u1.heap.size, 0, none⟩)) (u1.alloc (.cells (msl Z32 0 0 Z65).toArray 29 (0, 0))) (by kernel_rfl) (by kernel_rfl) ?_
  replace hB := hB.new (msl Z32 0 0 Z65).toArray 29
  simp only [List.nil_append, List.cons_append] at hB
  generalize World.alloc _ _ = u2 at *
  generalize u1.heap.size = q3 at *
  replace hB : Bl w [⟨w.heap.size, (msl Z32 0 0 Z65).toArray, 29⟩, ⟨q3, (msl Z32 0 0 Z65).toArray, 29⟩] u2 := hB
  simp only [Act.put, List.setIfInBounds_toArray, List.set_cons_zero, List.set_cons_succ, List.getElem_toArray, List.getElem_cons_zero, List.getElem_cons_succ]
  refine list_store 29 (.tmp 3) (.tmp 6) (q3) (msl K P Q9 Z65).toArray 29 (msl Z32 0 0 Z65).toArray (by kernel_rfl) rfl (by kernel_rfl) (by kernel_rfl) (hB.get 1 (x := ⟨q3, (msl Z32 0 0 Z65).toArray, 29⟩) rfl) (by rw [Try.infoM, List.size_toArray, msl_len e32 _ _ rfl]) (by rw [List.size_toArray, List.size_toArray, msl_len e32 _ _ rfl]; rfl) (msl_one ..) ?_
  replace hB := hB.set 1 (x := ⟨q3, (msl Z32 0 0 Z65).toArray, 29⟩) rfl (msl K P Q9 Z65).toArray
  simp only [List.set_cons_zero, List.set_cons_succ] at hB
  generalize World.setRow _ _ _ = u3 at *
  replace hB : Bl w [⟨w.heap.size, (msl Z32 0 0 Z65).toArray, 29⟩, ⟨q3, (msl K P Q9 Z65).toArray, 29⟩] u3 := hB
  simp only [Act.put, List.setIfInBounds_toArray, List.set_cons_zero, List.set_cons_succ, List.getElem_toArray, List.getElem_cons_zero, List.getElem_cons_succ]
  refine wpList_nil ?_
  replace hB := hide hB
  go_upto_region 2 with fail
  replace hB := unhide hB
  refine any_start (S := fun _ => True) (by kernel_rfl) ?_
  replace hB := hB.drew
  generalize World.drew _ = x0 at *
  replace hB : Bl w [⟨w.heap.size, (msl Z32 0 0 Z65).toArray, 29⟩, ⟨q3, (msl K P Q9 Z65).toArray, 29⟩] x0 := hB
  simp only [List.size_toArray, List.length_cons, List.length_nil, Array.replicate, List.replicate]
  refine any_take (i := 0) (v := (.pointer (some ⟨q3, 34, none⟩))) #[false, false, false, false, false] rfl (by kernel_rfl) (by kernel_rfl) (by kernel_rfl) (by kernel_rfl) (fun _ _ _ h => h) (.inl ⟨by kernel_rfl, fun x_ hu => by kernel_rfl⟩) trivial ?_
  simp only [Act.put, List.setIfInBounds_toArray, List.set_cons_zero, List.set_cons_succ, List.getElem_toArray, List.getElem_cons_zero, List.getElem_cons_succ]
  refine any_take (i := 1) (v := (.slice (some ⟨q3, 34, none⟩) 65 65)) #[true, false, false, false, false] rfl (by kernel_rfl) (by kernel_rfl) (by kernel_rfl) (by kernel_rfl) (fun _ _ _ h => h) (.inl ⟨by kernel_rfl, fun x_ hu => by kernel_rfl⟩) trivial ?_
  simp only [Act.put, List.setIfInBounds_toArray, List.set_cons_zero, List.set_cons_succ, List.getElem_toArray, List.getElem_cons_zero, List.getElem_cons_succ]
  refine any_take (i := 2) (v := (.slice (some ⟨p0, q0, none⟩) 105 c0)) #[true, true, false, false, false] rfl (by kernel_rfl) (by kernel_rfl) (by kernel_rfl) (by kernel_rfl) (fun _ _ _ h => h) (.inl ⟨by kernel_rfl, fun x_ hu => by kernel_rfl⟩) trivial ?_
  simp only [Act.put, List.setIfInBounds_toArray, List.set_cons_zero, List.set_cons_succ, List.getElem_toArray, List.getElem_cons_zero, List.getElem_cons_succ]
  refine any_take (i := 3) (v := (.slice (some ⟨p0, q0 + 40, none⟩) 65 (c0 - 40))) #[true, true, true, false, false] rfl (by kernel_rfl) (by kernel_rfl) (by kernel_rfl) (by kernel_rfl) (fun _ _ _ h => h) (.inl ⟨by kernel_rfl, fun x_ hu => exec_froml _ (.tmp 9) (.const (.int .i64 40)) rfl p0 q0 105 c0 40 (by kernel_rfl) (by kernel_rfl) (by omega) (by omega)⟩) trivial ?_
  simp only [Act.put, List.setIfInBounds_toArray, List.set_cons_zero, List.set_cons_succ, List.getElem_toArray, List.getElem_cons_zero, List.getElem_cons_succ]
  refine any_one (i := 4) (by kernel_rfl) rfl (fun K_ hQ => ?_)
  rw [if_pos (by kernel_rfl)]
  refine copy_wp (.tmp 8) (.tmp 10) rfl (q3) 34 65 65 (some ⟨p0, q0 + 40, none⟩) 65 (c0 - 40) (by kernel_rfl) (by kernel_rfl) (msl K P Q9 Z65) 29 (hB.get 1 (x := ⟨q3, (msl K P Q9 Z65).toArray, 29⟩) rfl) X (by rw [hlX]; exact (Nat.min_eq_right (by omega)).symm) (((unhide hw0).gr hB.gr).sl) (by rw [hlX, msl_len e32 _ _ rfl]; decide) ?_
  have hcell := setCells_heap (bv X) x0 (q3) 34 (msl K P Q9 Z65) 29 (hB.get 1 (x := ⟨q3, (msl K P Q9 Z65).toArray, 29⟩) rfl)
  rw [msl_setb K e32 P Q9 Z65 X (by rw [hlX]; rfl)] at hcell
  replace hB := hB.but (setCells_bt (bv X) x0 (q3) 34) 1 (x := ⟨q3, (msl K P Q9 Z65).toArray, 29⟩) rfl rfl hcell
  simp only [List.set_cons_zero, List.set_cons_succ] at hB
  have eb : X.map (Value.int .u8) = bv X := rfl
  rw [eb]
  generalize World.setCells _ _ _ _ = u4 at *
  replace hB : Bl w [⟨w.heap.size, (msl Z32 0 0 Z65).toArray, 29⟩, ⟨q3, (msl K P Q9 X).toArray, 29⟩] u4 := hB
  rw [hlX]
  clear hcell eb
  refine hQ.out _ _ trivial (fun _ => ?_)
  clear hQ K_
  simp only [Act.put, List.setIfInBounds_toArray, List.set_cons_zero, List.set_cons_succ, List.getElem_toArray, List.getElem_cons_zero, List.getElem_cons_succ]
  refine any_done (by kernel_rfl) ?_
  replace hB := hide hB
  go_upto_region 3 with fail
  replace hB := unhide hB
  refine wp_region_lit ?_
  refine list_val (.agg (msl K P Q9 X).toArray) (by kernel_rfl) (exec_arr _ 29 (.tmp 3) rfl q3 (by kernel_rfl) (msl K P Q9 X).toArray 29 _ (hB.get 1 (x := ⟨q3, (msl K P Q9 X).toArray, 29⟩) rfl) Try.underlying29 rfl (by rw [Try.infoM, List.size_toArray, msl_len e32 _ _ hlX])) ?_
  simp only [Act.put, List.setIfInBounds_toArray, List.set_cons_zero, List.set_cons_succ, List.getElem_toArray, List.getElem_cons_zero, List.getElem_cons_succ]
  refine list_store 29 (.tmp 2) (.tmp 12) (w.heap.size) (msl K P Q9 X).toArray 29 (msl Z32 0 0 Z65).toArray (by kernel_rfl) rfl (by kernel_rfl) (by kernel_rfl) (hB.get 0 (x := ⟨w.heap.size, (msl Z32 0 0 Z65).toArray, 29⟩) rfl) (by rw [Try.infoM, List.size_toArray, msl_len e32 _ _ hlX]) (by rw [List.size_toArray, List.size_toArray, msl_len e32 _ _ hlX]; rfl) (msl_one ..) ?_
  replace hB := hB.set 0 (x := ⟨w.heap.size, (msl Z32 0 0 Z65).toArray, 29⟩) rfl (msl K P Q9 X).toArray
  simp only [List.set_cons_zero, List.set_cons_succ] at hB
  generalize World.setRow _ _ _ = u5 at *
  replace hB : Bl w [⟨w.heap.size, (msl K P Q9 X).toArray, 29⟩, ⟨q3, (msl K P Q9 X).toArray, 29⟩] u5 := hB
  simp only [Act.put, List.setIfInBounds_toArray, List.set_cons_zero, List.set_cons_succ, List.getElem_toArray, List.getElem_cons_zero, List.getElem_cons_succ]
  refine wpList_nil ?_
  have hbk : Hid (u5.heap[w.heap.size]? = some (.cells (msl K P Q9 X).toArray 29 (0, 0))) := (hB.get 0 (x := ⟨w.heap.size, (msl K P Q9 X).toArray, 29⟩) rfl)
  have hZ : Hid (T (.returned (.agg (msl K P Q9 X).toArray)) u5) := by
    rw [unhide hT]
    exact ⟨rfl, hB.gr⟩
  clear hB
  go_wp2_with fail
  exact bodyPost_ret (v := .agg (msl K P Q9 X).toArray) (results_cell_row Try.results23 _ _ (w.heap.size) 29 (msl K P Q9 X).toArray (0, 0) _ rfl (unhide hbk) Try.underlying29 rfl (by rw [Try.infoM, List.size_toArray, msl_len e32 _ _ hlX])) rfl (unhide hZ)
set_option maxHeartbeats 4000000 in
theorem qgetx_ok (L : List Int) (p0 q0 c0 : Nat) (w : World) (hB0 : Lb w (some ⟨p0, q0, none⟩) 146 c0 L) : Calls Try.prog 24 #[.slice (some ⟨p0, q0, none⟩) 146 c0] w (fun r w' => r = .returned (.agg (xcO L).toArray) ∧ Gr w w') := by
  obtain ⟨T, hT⟩ : ∃ T : Ending → World → Prop, T = fun r w' => r = .returned (.agg (xcO L).toArray) ∧ Gr w w' := ⟨_, rfl⟩
  rw [← hT]
  replace hT := hide hT
  have hL := hB0.len
  have hcap := hB0.cap
  have hlD := sub_len (k := 0) (m := 16) hL (by omega)
  have hlX := sub_len (k := 16) (m := 130) hL (by omega)
  have hw0 := lb_win hB0 0 16 (by omega) (by omega)
  have hw1 := lb_win hB0 16 130 (by omega) (by omega)
  unfold xcO at hT
  generalize (L.drop 0).take 16 = D at *
  generalize (L.drop 16).take 130 = X at *
  replace hw0 := hide hw0; replace hw1 := hide hw1; replace hB0 := hide hB0
  go_enter Try.func24, Try.ntmps24
  go_upto_region 0 with fail
  refine wp_region_lit ?_
  refine list_valw (.pointer (some ⟨w.heap.size, 0, none⟩)) (w.alloc (.cells (xcl Z16 Z130).toArray 34 (0, 0))) (by kernel_rfl) (by kernel_rfl) ?_
  have hB := (Bl.nil w).new (xcl Z16 Z130).toArray 34
  simp only [List.nil_append] at hB
  generalize World.alloc _ _ = u at *
  replace hB : Bl w [⟨w.heap.size, (xcl Z16 Z130).toArray, 34⟩] u := hB
  simp only [Act.put, List.setIfInBounds_toArray, List.set_cons_zero, List.set_cons_succ, List.getElem_toArray, List.getElem_cons_zero, List.getElem_cons_succ]
  refine wpList_nil ?_
  replace hB := hide hB
  go_upto_region 1 with fail
  replace hB := unhide hB
  refine wp_region_lit ?_
  refine list_valw (.pointer (some ⟨u.heap.size, 0, none⟩)) (u.alloc (.cells (xcl Z16 Z130).toArray 34 (0, 0))) (by kernel_rfl) (by kernel_rfl) ?_
  replace hB := hB.new (xcl Z16 Z130).toArray 34
  simp only [List.nil_append, List.cons_append] at hB
  generalize World.alloc _ _ = u2 at *
  generalize u.heap.size = q3 at *
  replace hB : Bl w [⟨w.heap.size, (xcl Z16 Z130).toArray, 34⟩, ⟨q3, (xcl Z16 Z130).toArray, 34⟩] u2 := hB
  simp only [Act.put, List.setIfInBounds_toArray, List.set_cons_zero, List.set_cons_succ, List.getElem_toArray, List.getElem_cons_zero, List.getElem_cons_succ]
  refine wpList_nil ?_
  replace hB := hide hB
  go_upto_region 2 with fail
  replace hB := unhide hB
  refine wp_region_lit ?_
  refine list_val (.pointer (some ⟨q3, 0, none⟩)) (by kernel_rfl) (by kernel_rfl) ?_
  simp only [Act.put, List.setIfInBounds_toArray, List.set_cons_zero, List.set_cons_succ, List.getElem_toArray, List.getElem_cons_zero, List.getElem_cons_succ]
  refine list_val (.slice (some ⟨q3, 0, none⟩) 16 16) (by kernel_rfl) (by kernel_rfl) ?_
  simp only [Act.put, List.setIfInBounds_toArray, List.set_cons_zero, List.set_cons_succ, List.getElem_toArray, List.getElem_cons_zero, List.getElem_cons_succ]
  refine list_val (.slice (some ⟨p0, q0, none⟩) 146 c0) (by kernel_rfl) (by kernel_rfl) ?_
  simp only [Act.put, List.setIfInBounds_toArray, List.set_cons_zero, List.set_cons_succ, List.getElem_toArray, List.getElem_cons_zero, List.getElem_cons_succ]
  refine wpList_step fun K_ hQ => ?_
  rw [if_pos (by kernel_rfl)]
  refine copy_wp (.tmp 5) (.tmp 6) rfl (q3) 0 16 16 (some ⟨p0, q0, none⟩) 146 c0 (by kernel_rfl) (by kernel_rfl) (xcl Z16 Z130) 34 (hB.get 1 (x := ⟨q3, (xcl Z16 Z130).toArray, 34⟩) rfl) D (by rw [hlD]; exact (Nat.min_eq_right (by omega)).symm) (by have h9 := ((unhide hw0).gr hB.gr).sl; rw [Nat.add_zero] at h9; exact h9) (by rw [hlD, xcl_len rfl rfl]; decide) ?_
  have hcell := setCells_heap (bv D) u2 (q3) 0 (xcl Z16 Z130) 34 (hB.get 1 (x := ⟨q3, (xcl Z16 Z130).toArray, 34⟩) rfl)
  rw [xcl_setd Z16 D Z130 (by rw [hlD]; rfl)] at hcell
  replace hB := hB.but (setCells_bt (bv D) u2 (q3) 0) 1 (x := ⟨q3, (xcl Z16 Z130).toArray, 34⟩) rfl rfl hcell
  simp only [List.set_cons_zero, List.set_cons_succ] at hB
  have eb : D.map (Value.int .u8) = bv D := rfl
  rw [eb]
  generalize World.setCells _ _ _ _ = u3 at *
  replace hB : Bl w [⟨w.heap.size, (xcl Z16 Z130).toArray, 34⟩, ⟨q3, (xcl D Z130).toArray, 34⟩] u3 := hB
  rw [hlD]
  clear hcell eb
  refine hQ _ _ ?_
  clear hQ K_
  simp only [Act.put, List.setIfInBounds_toArray, List.set_cons_zero, List.set_cons_succ, List.getElem_toArray, List.getElem_cons_zero, List.getElem_cons_succ]
  refine wpList_nil ?_
  replace hB := hide hB
  go_upto_region 3 with fail
  replace hB := unhide hB
  refine any_start (S := fun _ => True) (by kernel_rfl) ?_
  replace hB := hB.drew
  generalize World.drew _ = x0 at *
  replace hB : Bl w [⟨w.heap.size, (xcl Z16 Z130).toArray, 34⟩, ⟨q3, (xcl D Z130).toArray, 34⟩] x0 := hB
  simp only [List.size_toArray, List.length_cons, List.length_nil, Array.replicate, List.replicate]
  refine any_take (i := 0) (v := (.pointer (some ⟨q3, 16, none⟩))) #[false, false, false, false, false] rfl (by kernel_rfl) (by kernel_rfl) (by kernel_rfl) (by kernel_rfl) (fun _ _ _ h => h) (.inl ⟨by kernel_rfl, fun x_ hu => by kernel_rfl⟩) trivial ?_
  simp only [Act.put, List.setIfInBounds_toArray, List.set_cons_zero, List.set_cons_succ, List.getElem_toArray, List.getElem_cons_zero, List.getElem_cons_succ]
  refine any_take (i := 1) (v := (.slice (some ⟨q3, 16, none⟩) 130 130)) #[true, false, false, false, false] rfl (by kernel_rfl) (by kernel_rfl) (by kernel_rfl) (by kernel_rfl) (fun _ _ _ h => h) (.inl ⟨by kernel_rfl, fun x_ hu => by kernel_rfl⟩) trivial ?_
  simp only [Act.put, List.setIfInBounds_toArray, List.set_cons_zero, List.set_cons_succ, List.getElem_toArray, List.getElem_cons_zero, List.getElem_cons_succ]
  refine any_take (i := 2) (v := (.slice (some ⟨p0, q0, none⟩) 146 c0)) #[true, true, false, false, false] rfl (by kernel_rfl) (by kernel_rfl) (by kernel_rfl) (by kernel_rfl) (fun _ _ _ h => h) (.inl ⟨by kernel_rfl, fun x_ hu => by kernel_rfl⟩) trivial ?_
  simp only [Act.put, List.setIfInBounds_toArray, List.set_cons_zero, List.set_cons_succ, List.getElem_toArray, List.getElem_cons_zero, List.getElem_cons_succ]
  refine any_take (i := 3) (v := (.slice (some ⟨p0, q0 + 16, none⟩) 130 (c0 - 16))) #[true, true, true, false, false] rfl (by kernel_rfl) (by kernel_rfl) (by kernel_rfl) (by kernel_rfl) (fun _ _ _ h => h) (.inl ⟨by kernel_rfl, fun x_ hu => exec_froml _ (.tmp 10) (.const (.int .i64 16)) rfl p0 q0 146 c0 16 (by kernel_rfl) (by kernel_rfl) (by omega) (by omega)⟩) trivial ?_
  simp only [Act.put, List.setIfInBounds_toArray, List.set_cons_zero, List.set_cons_succ, List.getElem_toArray, List.getElem_cons_zero, List.getElem_cons_succ]
  refine any_one (i := 4) (by kernel_rfl) rfl (fun K_ hQ => ?_)
  rw [if_pos (by kernel_rfl)]
  refine copy_wp (.tmp 9) (.tmp 11) rfl (q3) 16 130 130 (some ⟨p0, q0 + 16, none⟩) 130 (c0 - 16) (by kernel_rfl) (by kernel_rfl) (xcl D Z130) 34 (hB.get 1 (x := ⟨q3, (xcl D Z130).toArray, 34⟩) rfl) X (by rw [hlX]; exact (Nat.min_eq_right (by omega)).symm) (((unhide hw1).gr hB.gr).sl) (by rw [hlX, xcl_len hlD rfl]; decide) ?_
  have hcell := setCells_heap (bv X) x0 (q3) 16 (xcl D Z130) 34 (hB.get 1 (x := ⟨q3, (xcl D Z130).toArray, 34⟩) rfl)
  rw [xcl_setb D hlD Z130 X (by rw [hlX]; rfl)] at hcell
  replace hB := hB.but (setCells_bt (bv X) x0 (q3) 16) 1 (x := ⟨q3, (xcl D Z130).toArray, 34⟩) rfl rfl hcell
  simp only [List.set_cons_zero, List.set_cons_succ] at hB
  have eb : X.map (Value.int .u8) = bv X := rfl
  rw [eb]
  generalize World.setCells _ _ _ _ = u4 at *
  replace hB : Bl w [⟨w.heap.size, (xcl Z16 Z130).toArray, 34⟩, ⟨q3, (xcl D X).toArray, 34⟩] u4 := hB
  rw [hlX]
  clear hcell eb
  refine hQ.out _ _ trivial (fun _ => ?_)
  clear hQ K_
  simp only [Act.put, List.setIfInBounds_toArray, List.set_cons_zero, List.set_cons_succ, List.getElem_toArray, List.getElem_cons_zero, List.getElem_cons_succ]
  refine any_done (by kernel_rfl) ?_
  replace hB := hide hB
  go_upto_region 4 with fail
  replace hB := unhide hB
  refine wp_region_lit ?_
  refine list_val (.agg (xcl D X).toArray) (by kernel_rfl) (exec_arr _ 34 (.tmp 3) rfl q3 (by kernel_rfl) (xcl D X).toArray 34 _ (hB.get 1 (x := ⟨q3, (xcl D X).toArray, 34⟩) rfl) Try.underlying34 rfl (by rw [Try.infoX, List.size_toArray, xcl_len hlD hlX])) ?_
  simp only [Act.put, List.setIfInBounds_toArray, List.set_cons_zero, List.set_cons_succ, List.getElem_toArray, List.getElem_cons_zero, List.getElem_cons_succ]
  refine list_store 34 (.tmp 2) (.tmp 13) (w.heap.size) (xcl D X).toArray 34 (xcl Z16 Z130).toArray (by kernel_rfl) rfl (by kernel_rfl) (by kernel_rfl) (hB.get 0 (x := ⟨w.heap.size, (xcl Z16 Z130).toArray, 34⟩) rfl) (by rw [Try.infoX, List.size_toArray, xcl_len hlD hlX]) (by rw [List.size_toArray, List.size_toArray, xcl_len hlD hlX]; rfl) (xcl_one ..) ?_
  replace hB := hB.set 0 (x := ⟨w.heap.size, (xcl Z16 Z130).toArray, 34⟩) rfl (xcl D X).toArray
  simp only [List.set_cons_zero, List.set_cons_succ] at hB
  generalize World.setRow _ _ _ = u5 at *
  replace hB : Bl w [⟨w.heap.size, (xcl D X).toArray, 34⟩, ⟨q3, (xcl D X).toArray, 34⟩] u5 := hB
  simp only [Act.put, List.setIfInBounds_toArray, List.set_cons_zero, List.set_cons_succ, List.getElem_toArray, List.getElem_cons_zero, List.getElem_cons_succ]
  refine wpList_nil ?_
  have hbk : Hid (u5.heap[w.heap.size]? = some (.cells (xcl D X).toArray 34 (0, 0))) := (hB.get 0 (x := ⟨w.heap.size, (xcl D X).toArray, 34⟩) rfl)
  have hZ : Hid (T (.returned (.agg (xcl D X).toArray)) u5) := by
    rw [unhide hT]
    exact ⟨rfl, hB.gr⟩
  clear hB
  go_wp2_with fail
  exact bodyPost_ret (v := .agg (xcl D X).toArray) (results_cell_row Try.results24 _ _ (w.heap.size) 34 (xcl D X).toArray (0, 0) _ rfl (unhide hbk) Try.underlying34 rfl (by rw [Try.infoX, List.size_toArray, xcl_len hlD hlX])) rfl (unhide hZ)
set_option maxHeartbeats 4000000 in
theorem qrev_ok (k a s : Int) (B : List Int) (hl : B.length = 105) (hb : IsB B) (w : World) : Calls Try.prog 26 #[.agg (evl k a s B).toArray] w (Vl (.bool (evR k s B)) w) := by
  obtain ⟨T, hT⟩ : ∃ T, T = Vl (.bool (evR k s B)) w := ⟨_, rfl⟩
  rw [← hT]
  replace hT := hide hT
  obtain ⟨C, hC⟩ : ∃ C, C = (evl k a s B).toArray := ⟨_, rfl⟩
  rw [← hC]
  replace hC := hide hC; replace hb := hide hb
  go_enter Try.func26, Try.ntmps26
  go_upto_region 1 with fail
  have hB := ((Bl.nil w).new C 55)
  simp only [size_alloc, List.nil_append, List.cons_append] at hB
  generalize World.alloc _ _ = u at *
  rw [unhide hC] at hB
  replace hB : Bl w [⟨w.heap.size, (evl k a s B).toArray, 55⟩] u := hB
  clear hC
  have hbl : Hid (u.heap[w.heap.size]? = some (.cells (evl k a s B).toArray 55 (0, 0))) := (hB.get 0 (x := ⟨w.heap.size, (evl k a s B).toArray, 55⟩) rfl)
  have hG := hB.gr
  clear hB
  replace hG := hide hG
  by_cases hk1 : k = 1
  · skip
    subst hk1
    have ez : evR 1 s B = true := by unfold evR; simp
    rw [ez] at hT
    refine wp_region_lit ?_
    refine list_val (.pointer (some ⟨w.heap.size, 0, none⟩)) (by kernel_rfl) (by kernel_rfl) ?_
    simp only [Act.put, List.setIfInBounds_toArray, List.set_cons_zero, List.set_cons_succ, List.getElem_toArray, List.getElem_cons_zero, List.getElem_cons_succ]
    refine list_val (.int .i64 1) (by kernel_rfl) (exec_i64 _ (.tmp 3) rfl (w.heap.size) 0 (by kernel_rfl) 1 (ev_load (unhide hbl)).1) ?_
    simp only [Act.put, List.setIfInBounds_toArray, List.set_cons_zero, List.set_cons_succ, List.getElem_toArray, List.getElem_cons_zero, List.getElem_cons_succ]
    refine list_val (.bool true) (by kernel_rfl) (by kernel_rfl) ?_
    simp only [Act.put, List.setIfInBounds_toArray, List.set_cons_zero, List.set_cons_succ, List.getElem_toArray, List.getElem_cons_zero, List.getElem_cons_succ]
    refine list_val_offs 13 (.bool true) (by kernel_rfl) (by kernel_rfl) (by kernel_rfl) ?_
    simp only [List.drop_succ_cons, List.drop_zero, List.take_succ_cons, List.take_zero, putU]
    simp only [Act.put, List.setIfInBounds_toArray, List.set_cons_zero, List.set_cons_succ, List.getElem_toArray, List.getElem_cons_zero, List.getElem_cons_succ]
    refine list_val (.bool true) (by kernel_rfl) (by kernel_rfl) ?_
    simp only [Act.put, List.setIfInBounds_toArray, List.set_cons_zero, List.set_cons_succ, List.getElem_toArray, List.getElem_cons_zero, List.getElem_cons_succ]
    (refine wpList_step fun K hK => ?_; replace hK := hide hK; go_simp; refine unhide hK _ _ ?_; clear hK K)
    refine wpList_nil ?_
    have hZ : Hid (Vl (.bool true) w (.returned (.bool true)) u) := ⟨rfl, unhide hG⟩
    go_wp2_with fail
    rw [unhide hT]
    exact unhide hZ
  · skip
    by_cases hk : k = 0
    · skip
      subst hk
      by_cases hs : s = 0
      · skip
        subst hs
        refine wp_region_lit ?_
        refine list_val (.pointer (some ⟨w.heap.size, 0, none⟩)) (by kernel_rfl) (by kernel_rfl) ?_
        simp only [Act.put, List.setIfInBounds_toArray, List.set_cons_zero, List.set_cons_succ, List.getElem_toArray, List.getElem_cons_zero, List.getElem_cons_succ]
        refine list_val (.int .i64 0) (by kernel_rfl) (exec_i64 _ (.tmp 3) rfl (w.heap.size) 0 (by kernel_rfl) 0 (ev_load (unhide hbl)).1) ?_
        simp only [Act.put, List.setIfInBounds_toArray, List.set_cons_zero, List.set_cons_succ, List.getElem_toArray, List.getElem_cons_zero, List.getElem_cons_succ]
        refine list_val (.bool false) (by kernel_rfl) (by kernel_rfl) ?_
        simp only [Act.put, List.setIfInBounds_toArray, List.set_cons_zero, List.set_cons_succ, List.getElem_toArray, List.getElem_cons_zero, List.getElem_cons_succ]
        refine list_val (.bool false) (by kernel_rfl) (by kernel_rfl) ?_
        simp only [Act.put, List.setIfInBounds_toArray, List.set_cons_zero, List.set_cons_succ, List.getElem_toArray, List.getElem_cons_zero, List.getElem_cons_succ]
        refine list_val (.pointer (some ⟨w.heap.size, 0, none⟩)) (by kernel_rfl) (by kernel_rfl) ?_
        simp only [Act.put, List.setIfInBounds_toArray, List.set_cons_zero, List.set_cons_succ, List.getElem_toArray, List.getElem_cons_zero, List.getElem_cons_succ]
        refine list_val (.int .i64 0) (by kernel_rfl) (exec_i64 _ (.tmp 7) rfl (w.heap.size) 0 (by kernel_rfl) 0 (ev_load (unhide hbl)).1) ?_
        simp only [Act.put, List.setIfInBounds_toArray, List.set_cons_zero, List.set_cons_succ, List.getElem_toArray, List.getElem_cons_zero, List.getElem_cons_succ]
        refine list_val (.bool true) (by kernel_rfl) (by kernel_rfl) ?_
        simp only [Act.put, List.setIfInBounds_toArray, List.set_cons_zero, List.set_cons_succ, List.getElem_toArray, List.getElem_cons_zero, List.getElem_cons_succ]
        refine list_val (.bool true) (by kernel_rfl) (by kernel_rfl) ?_
        simp only [Act.put, List.setIfInBounds_toArray, List.set_cons_zero, List.set_cons_succ, List.getElem_toArray, List.getElem_cons_zero, List.getElem_cons_succ]
        refine list_val (.pointer (some ⟨w.heap.size, 2, none⟩)) (by kernel_rfl) (by kernel_rfl) ?_
        simp only [Act.put, List.setIfInBounds_toArray, List.set_cons_zero, List.set_cons_succ, List.getElem_toArray, List.getElem_cons_zero, List.getElem_cons_succ]
        refine list_val (.int .u32 0) (by kernel_rfl) (exec_u32 _ (.tmp 11) rfl (w.heap.size) 2 (by kernel_rfl) 0 (ev_load (unhide hbl)).2.2) ?_
        simp only [Act.put, List.setIfInBounds_toArray, List.set_cons_zero, List.set_cons_succ, List.getElem_toArray, List.getElem_cons_zero, List.getElem_cons_succ]
        refine list_val (.bool true) (by kernel_rfl) (by kernel_rfl) ?_
        simp only [Act.put, List.setIfInBounds_toArray, List.set_cons_zero, List.set_cons_succ, List.getElem_toArray, List.getElem_cons_zero, List.getElem_cons_succ]
        refine list_val (.bool true) (by kernel_rfl) (by kernel_rfl) ?_
        simp only [Act.put, List.setIfInBounds_toArray, List.set_cons_zero, List.set_cons_succ, List.getElem_toArray, List.getElem_cons_zero, List.getElem_cons_succ]
        refine list_val (.bool true) (by kernel_rfl) (by kernel_rfl) ?_
        simp only [Act.put, List.setIfInBounds_toArray, List.set_cons_zero, List.set_cons_succ, List.getElem_toArray, List.getElem_cons_zero, List.getElem_cons_succ]
        refine list_val (.pointer (some ⟨w.heap.size, 3, none⟩)) (by kernel_rfl) (by kernel_rfl) ?_
        simp only [Act.put, List.setIfInBounds_toArray, List.set_cons_zero, List.set_cons_succ, List.getElem_toArray, List.getElem_cons_zero, List.getElem_cons_succ]
        refine list_val (.slice (some ⟨w.heap.size, 3, none⟩) 105 105) (by kernel_rfl) (by kernel_rfl) ?_
        simp only [Act.put, List.setIfInBounds_toArray, List.set_cons_zero, List.set_cons_succ, List.getElem_toArray, List.getElem_cons_zero, List.getElem_cons_succ]
        refine list_call 58 #[.slice (some ⟨w.heap.size, 3, none⟩) 105 105] (by kernel_rfl) (by kernel_rfl) ((qzero_ok B (some ⟨w.heap.size, 3, none⟩) 105 105 (by omega) u (lb_mid (unhide hbl) (evl_body 0 a 0 B) rfl (unhide hb) hl (by omega) (by omega))).mono ?_)
        rintro r u1 ⟨rfl, rfl⟩
        have ez : evR 0 0 B = allZ B := by unfold evR; simp
        rw [ez] at hT
        generalize allZ B = z at *
        refine ⟨_, rfl, ?_⟩
        simp only [Act.put, List.setIfInBounds_toArray, List.set_cons_zero, List.set_cons_succ, List.getElem_toArray, List.getElem_cons_zero, List.getElem_cons_succ]
        refine list_val (.bool z) (by kernel_rfl) (by kernel_rfl) ?_
        simp only [Act.put, List.setIfInBounds_toArray, List.set_cons_zero, List.set_cons_succ, List.getElem_toArray, List.getElem_cons_zero, List.getElem_cons_succ]
        refine list_val (.bool z) (by kernel_rfl) (by kernel_rfl) ?_
        simp only [Act.put, List.setIfInBounds_toArray, List.set_cons_zero, List.set_cons_succ, List.getElem_toArray, List.getElem_cons_zero, List.getElem_cons_succ]
        (refine wpList_step fun K hK => ?_; replace hK := hide hK; go_simp; refine unhide hK _ _ ?_; clear hK K)
        refine wpList_nil ?_
        have hZ : Hid (Vl (.bool z) w (.returned (.bool z)) u1) := ⟨rfl, unhide hG⟩
        go_wp2_with fail
        rw [unhide hT]
        exact unhide hZ
      · skip
        have ez : evR 0 s B = false := by unfold evR; simp [hs]
        rw [ez] at hT
        refine wp_region_lit ?_
        refine list_val (.pointer (some ⟨w.heap.size, 0, none⟩)) (by kernel_rfl) (by kernel_rfl) ?_
        simp only [Act.put, List.setIfInBounds_toArray, List.set_cons_zero, List.set_cons_succ, List.getElem_toArray, List.getElem_cons_zero, List.getElem_cons_succ]
        refine list_val (.int .i64 0) (by kernel_rfl) (exec_i64 _ (.tmp 3) rfl (w.heap.size) 0 (by kernel_rfl) 0 (ev_load (unhide hbl)).1) ?_
        simp only [Act.put, List.setIfInBounds_toArray, List.set_cons_zero, List.set_cons_succ, List.getElem_toArray, List.getElem_cons_zero, List.getElem_cons_succ]
        refine list_val (.bool false) (by kernel_rfl) (by kernel_rfl) ?_
        simp only [Act.put, List.setIfInBounds_toArray, List.set_cons_zero, List.set_cons_succ, List.getElem_toArray, List.getElem_cons_zero, List.getElem_cons_succ]
        refine list_val (.bool false) (by kernel_rfl) (by kernel_rfl) ?_
        simp only [Act.put, List.setIfInBounds_toArray, List.set_cons_zero, List.set_cons_succ, List.getElem_toArray, List.getElem_cons_zero, List.getElem_cons_succ]
        refine list_val (.pointer (some ⟨w.heap.size, 0, none⟩)) (by kernel_rfl) (by kernel_rfl) ?_
        simp only [Act.put, List.setIfInBounds_toArray, List.set_cons_zero, List.set_cons_succ, List.getElem_toArray, List.getElem_cons_zero, List.getElem_cons_succ]
        refine list_val (.int .i64 0) (by kernel_rfl) (exec_i64 _ (.tmp 7) rfl (w.heap.size) 0 (by kernel_rfl) 0 (ev_load (unhide hbl)).1) ?_
        simp only [Act.put, List.setIfInBounds_toArray, List.set_cons_zero, List.set_cons_succ, List.getElem_toArray, List.getElem_cons_zero, List.getElem_cons_succ]
        refine list_val (.bool true) (by kernel_rfl) (by kernel_rfl) ?_
        simp only [Act.put, List.setIfInBounds_toArray, List.set_cons_zero, List.set_cons_succ, List.getElem_toArray, List.getElem_cons_zero, List.getElem_cons_succ]
        refine list_val (.bool true) (by kernel_rfl) (by kernel_rfl) ?_
        simp only [Act.put, List.setIfInBounds_toArray, List.set_cons_zero, List.set_cons_succ, List.getElem_toArray, List.getElem_cons_zero, List.getElem_cons_succ]
        refine list_val (.pointer (some ⟨w.heap.size, 2, none⟩)) (by kernel_rfl) (by kernel_rfl) ?_
        simp only [Act.put, List.setIfInBounds_toArray, List.set_cons_zero, List.set_cons_succ, List.getElem_toArray, List.getElem_cons_zero, List.getElem_cons_succ]
        refine list_val (.int .u32 s) (by kernel_rfl) (exec_u32 _ (.tmp 11) rfl (w.heap.size) 2 (by kernel_rfl) s (ev_load (unhide hbl)).2.2) ?_
        simp only [Act.put, List.setIfInBounds_toArray, List.set_cons_zero, List.set_cons_succ, List.getElem_toArray, List.getElem_cons_zero, List.getElem_cons_succ]
        refine list_val (.bool false) (by kernel_rfl) (by go_simp) ?_
        simp only [Act.put, List.setIfInBounds_toArray, List.set_cons_zero, List.set_cons_succ, List.getElem_toArray, List.getElem_cons_zero, List.getElem_cons_succ]
        refine list_val (.bool false) (by kernel_rfl) (by kernel_rfl) ?_
        simp only [Act.put, List.setIfInBounds_toArray, List.set_cons_zero, List.set_cons_succ, List.getElem_toArray, List.getElem_cons_zero, List.getElem_cons_succ]
        refine list_val_offs 3 (.bool false) (by kernel_rfl) (by kernel_rfl) (by kernel_rfl) ?_
        simp only [List.drop_succ_cons, List.drop_zero, List.take_succ_cons, List.take_zero, putU]
        simp only [Act.put, List.setIfInBounds_toArray, List.set_cons_zero, List.set_cons_succ, List.getElem_toArray, List.getElem_cons_zero, List.getElem_cons_succ]
        refine list_val (.bool false) (by kernel_rfl) (by kernel_rfl) ?_
        simp only [Act.put, List.setIfInBounds_toArray, List.set_cons_zero, List.set_cons_succ, List.getElem_toArray, List.getElem_cons_zero, List.getElem_cons_succ]
        refine list_val (.bool false) (by kernel_rfl) (by kernel_rfl) ?_
        simp only [Act.put, List.setIfInBounds_toArray, List.set_cons_zero, List.set_cons_succ, List.getElem_toArray, List.getElem_cons_zero, List.getElem_cons_succ]
        (refine wpList_step fun K hK => ?_; replace hK := hide hK; go_simp; refine unhide hK _ _ ?_; clear hK K)
        refine wpList_nil ?_
        have hZ : Hid (Vl (.bool false) w (.returned (.bool false)) u) := ⟨rfl, unhide hG⟩
        go_wp2_with fail
        rw [unhide hT]
        exact unhide hZ
    · skip
      have ez : evR k s B = false := by unfold evR; simp [hk, hk1]
      rw [ez] at hT
      refine wp_region_lit ?_
      refine list_val (.pointer (some ⟨w.heap.size, 0, none⟩)) (by kernel_rfl) (by kernel_rfl) ?_
      simp only [Act.put, List.setIfInBounds_toArray, List.set_cons_zero, List.set_cons_succ, List.getElem_toArray, List.getElem_cons_zero, List.getElem_cons_succ]
      refine list_val (.int .i64 k) (by kernel_rfl) (exec_i64 _ (.tmp 3) rfl (w.heap.size) 0 (by kernel_rfl) k (ev_load (unhide hbl)).1) ?_
      simp only [Act.put, List.setIfInBounds_toArray, List.set_cons_zero, List.set_cons_succ, List.getElem_toArray, List.getElem_cons_zero, List.getElem_cons_succ]
      refine list_val (.bool false) (by kernel_rfl) (by go_simp) ?_
      simp only [Act.put, List.setIfInBounds_toArray, List.set_cons_zero, List.set_cons_succ, List.getElem_toArray, List.getElem_cons_zero, List.getElem_cons_succ]
      refine list_val (.bool false) (by kernel_rfl) (by kernel_rfl) ?_
      simp only [Act.put, List.setIfInBounds_toArray, List.set_cons_zero, List.set_cons_succ, List.getElem_toArray, List.getElem_cons_zero, List.getElem_cons_succ]
      refine list_val (.pointer (some ⟨w.heap.size, 0, none⟩)) (by kernel_rfl) (by kernel_rfl) ?_
      simp only [Act.put, List.setIfInBounds_toArray, List.set_cons_zero, List.set_cons_succ, List.getElem_toArray, List.getElem_cons_zero, List.getElem_cons_succ]
      refine list_val (.int .i64 k) (by kernel_rfl) (exec_i64 _ (.tmp 7) rfl (w.heap.size) 0 (by kernel_rfl) k (ev_load (unhide hbl)).1) ?_
      simp only [Act.put, List.setIfInBounds_toArray, List.set_cons_zero, List.set_cons_succ, List.getElem_toArray, List.getElem_cons_zero, List.getElem_cons_succ]
      refine list_val (.bool false) (by kernel_rfl) (by go_simp) ?_
      simp only [Act.put, List.setIfInBounds_toArray, List.set_cons_zero, List.set_cons_succ, List.getElem_toArray, List.getElem_cons_zero, List.getElem_cons_succ]
      refine list_val_offs 3 (.bool false) (by kernel_rfl) (by kernel_rfl) (by kernel_rfl) ?_
      simp only [List.drop_succ_cons, List.drop_zero, List.take_succ_cons, List.take_zero, putU]
      simp only [Act.put, List.setIfInBounds_toArray, List.set_cons_zero, List.set_cons_succ, List.getElem_toArray, List.getElem_cons_zero, List.getElem_cons_succ]
      refine list_val (.bool false) (by kernel_rfl) (by kernel_rfl) ?_
      simp only [Act.put, List.setIfInBounds_toArray, List.set_cons_zero, List.set_cons_succ, List.getElem_toArray, List.getElem_cons_zero, List.getElem_cons_succ]
      refine list_val_offs 3 (.bool false) (by kernel_rfl) (by kernel_rfl) (by kernel_rfl) ?_
      simp only [List.drop_succ_cons, List.drop_zero, List.take_succ_cons, List.take_zero, putU]
      simp only [Act.put, List.setIfInBounds_toArray, List.set_cons_zero, List.set_cons_succ, List.getElem_toArray, List.getElem_cons_zero, List.getElem_cons_succ]
      refine list_val (.bool false) (by kernel_rfl) (by kernel_rfl) ?_
      simp only [Act.put, List.setIfInBounds_toArray, List.set_cons_zero, List.set_cons_succ, List.getElem_toArray, List.getElem_cons_zero, List.getElem_cons_succ]
      refine list_val (.bool false) (by kernel_rfl) (by kernel_rfl) ?_
      simp only [Act.put, List.setIfInBounds_toArray, List.set_cons_zero, List.set_cons_succ, List.getElem_toArray, List.getElem_cons_zero, List.getElem_cons_succ]
      (refine wpList_step fun K hK => ?_; replace hK := hide hK; go_simp; refine unhide hK _ _ ?_; clear hK K)
      refine wpList_nil ?_
      have hZ : Hid (Vl (.bool false) w (.returned (.bool false)) u) := ⟨rfl, unhide hG⟩
      go_wp2_with fail
      rw [unhide hT]
      exact unhide hZ
end Go.Proofs.Ytfmocneoffkmpaa
