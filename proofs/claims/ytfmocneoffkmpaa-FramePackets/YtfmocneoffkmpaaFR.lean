/-
  Layer 14: the reference's records of bytes.
-/
import Derived.Test.YtfmocneoffkmpaaFQ
namespace Go.Proofs.Ytfmocneoffkmpaa
open Go.RowKit
set_option maxRecDepth 100000
set_option linter.unusedSimpArgs false
set_option linter.unusedVariables false
theorem exec_winl {a : Act} {o : Oper} (w : World) (x y z : Operand) (ho : o.op = .slice 35 x (some y) (some z) none) (p q len cap l h m : Nat) (hx : a.eval x = .slice (some ⟨p, q, none⟩) len cap) (hy : a.eval y = .int .i64 l) (hz : a.eval z = .int .i64 h) (h1 : h = l + m) (h0 : 0 < m) (h2 : h ≤ cap) :
    (execOp a.eval o).run Try.prog w = .ok (.value (.slice (some ⟨p, q + l, none⟩) m (cap - l))) w := by
  have e0 : h - l = m := by omega
  have e1 : (0 : Int) ≤ l := by omega
  have e2 : (l : Int) ≤ h := by omega
  have e3 : (h : Int) ≤ cap := by omega
  have hu : Try.prog.underlying 35 = some (.slice (Try.prog.elem 35)) := by kernel_rfl
  have hs : (sizeOf (Try.prog.elem 35)).run Try.prog w = .ok 1 w := by kernel_rfl
  have hne : ¬ cap = l := by omega
  simp [execOp, ho, hx, hy, hz, run_sliceAt_slice _ _ _ _ _ _ hu, run_slice_lh _ _ _ _ _ hu _ _ _ _ e1 e2 e3, hs, sliced, hne, Addr.add_mid, e0]
theorem exec_froml {a : Act} {o : Oper} (w : World) (x y : Operand) (ho : o.op = .slice 35 x (some y) none none) (p q len cap l : Nat) (hx : a.eval x = .slice (some ⟨p, q, none⟩) len cap) (hy : a.eval y = .int .i64 l) (h1 : l < len) (h2 : len ≤ cap) :
    (execOp a.eval o).run Try.prog w = .ok (.value (.slice (some ⟨p, q + l, none⟩) (len - l) (cap - l))) w := by
  have h := exec_from w x y ho (some ⟨p, q, none⟩) len cap l hx hy h2 (by omega)
  rw [if_neg (by omega), Option.map_some, Addr.add_mid] at h
  exact h
theorem lb_win {w : World} {p q n c : Nat} {L : List Int} (h : Lb w (some ⟨p, q, none⟩) n c L) (l m : Nat) (hm : l + m ≤ n) (h0 : 0 < n) : Lb w (some ⟨p, q + l, none⟩) m (c - l) ((L.drop l).take m) := by
  have hat : At w p q L := by
    rcases h.sl with e | ⟨p', q', e, h2⟩
    · have := h.len
      rw [e] at this
      simp at this
      omega
    · have e2 := Option.some.inj e
      injection e2 with e3 e4 _
      subst e3 e4
      exact h2
  exact ⟨sub_len h.len hm, sub_isB h.isB l m, .inr ⟨p, q + l, rfl, (hat.drop l).take m⟩, by have := h.cap; omega, by have := h.max; omega⟩
theorem lb_fromd {w : World} {p q n c : Nat} {L : List Int} (h : Lb w (some ⟨p, q, none⟩) n c L) (l : Nat) (hm : l < n) : Lb w (some ⟨p, q + l, none⟩) (n - l) (c - l) (L.drop l) := by
  have h1 := lb_win h l (n - l) (by omega) (by omega)
  rwa [List.take_of_length_le (by rw [List.length_drop, h.len]; exact Nat.le_refl _)] at h1
theorem lb_cell {w : World} {p q n c : Nat} {L : List Int} (h : Lb w (some ⟨p, q, none⟩) n c L) (i : Nat) (hi : i < n) : w.cell? ⟨p, q + i, none⟩ = some (.int .u8 (L.getD i 0)) := by
  obtain ⟨p', q', e, h2⟩ := h.cellAt hi
  have e2 := Option.some.inj e
  injection e2 with e3 e4 _
  subst e3 e4
  exact h2
set_option maxHeartbeats 4000000 in
theorem qgeth_ok (L : List Int) (p0 q0 n c0 : Nat) (hn : 40 ≤ n) (w : World) (hB0 : Lb w (some ⟨p0, q0, none⟩) n c0 L) : Calls Try.prog 22 #[.slice (some ⟨p0, q0, none⟩) n c0] w (fun r w' => r = .returned (.agg (hdO L 0).toArray) ∧ Gr w w') := by
  obtain ⟨T, hT⟩ : ∃ T : Ending → World → Prop, T = fun r w' => r = .returned (.agg (hdO L 0).toArray) ∧ Gr w w' := ⟨_, rfl⟩
  rw [← hT]
  replace hT := hide hT
  have hL := hB0.len
  have hcap := hB0.cap
  have e32 := sub_len (k := 0) (m := 32) hL (by omega)
  have hw1 := lb_win hB0 32 4 (by omega) (by omega)
  have hw2 := lb_win hB0 36 4 (by omega) (by omega)
  have hw0 := lb_win hB0 0 32 (by omega) (by omega)
  have hp9 := lowN_bd _ hw1.isB
  have hq9 := lowN_bd _ hw2.isB
  rw [hw1.len, show (256 : Int) ^ 4 = 4294967296 from by decide] at hp9
  rw [hw2.len, show (256 : Int) ^ 4 = 4294967296 from by decide] at hq9
  unfold hdO at hT
  rw [Nat.zero_add, Nat.zero_add] at hT
  generalize (L.drop 0).take 32 = K at *
  obtain ⟨P, hP⟩ : ∃ x, x = lowN ((L.drop 32).take 4) := ⟨_, rfl⟩
  obtain ⟨Q9, hQ9⟩ : ∃ x, x = lowN ((L.drop 36).take 4) := ⟨_, rfl⟩
  rw [← hP] at hp9 hT
  rw [← hQ9] at hq9 hT
  have hPw : IntKind.u32.wrap P = P := by rw [IntKind.wrap_u32]; omega
  have hQw : IntKind.u32.wrap Q9 = Q9 := by rw [IntKind.wrap_u32]; omega
  clear hp9 hq9
  replace hP := hide hP; replace hQ9 := hide hQ9; replace hw0 := hide hw0; replace hw1 := hide hw1; replace hw2 := hide hw2; replace hB0 := hide hB0
  go_enter Try.func22, Try.ntmps22
  go_upto_region 2 with fail
  have hB := (((Bl.nil w).new #[.int .u8 0, .int .u8 0, .int .u8 0, .int .u8 0, .int .u8 0, .int .u8 0, .int .u8 0, .int .u8 0, .int .u8 0, .int .u8 0, .int .u8 0, .int .u8 0, .int .u8 0, .int .u8 0, .int .u8 0, .int .u8 0, .int .u8 0, .int .u8 0, .int .u8 0, .int .u8 0, .int .u8 0, .int .u8 0, .int .u8 0, .int .u8 0, .int .u8 0, .int .u8 0, .int .u8 0, .int .u8 0, .int .u8 0, .int .u8 0, .int .u8 0, .int .u8 0, .int .u32 0, .int .u32 0] 26).new #[.int .u8 0, .int .u8 0, .int .u8 0, .int .u8 0, .int .u8 0, .int .u8 0, .int .u8 0, .int .u8 0, .int .u8 0, .int .u8 0, .int .u8 0, .int .u8 0, .int .u8 0, .int .u8 0, .int .u8 0, .int .u8 0, .int .u8 0, .int .u8 0, .int .u8 0, .int .u8 0, .int .u8 0, .int .u8 0, .int .u8 0, .int .u8 0, .int .u8 0, .int .u8 0, .int .u8 0, .int .u8 0, .int .u8 0, .int .u8 0, .int .u8 0, .int .u8 0, .int .u32 0, .int .u32 0] 26)
  simp only [size_alloc, List.nil_append, List.cons_append] at hB
  generalize World.alloc _ _ = u at *
  replace hB : Bl w [⟨w.heap.size, (hdl Z32 0 0).toArray, 26⟩, ⟨w.heap.size + 1, (hdl Z32 0 0).toArray, 26⟩] u := hB
  refine wp_region_lit ?_
  refine list_val (.pointer (some ⟨w.heap.size + 1, 0, none⟩)) (by kernel_rfl) (by kernel_rfl) ?_
  simp only [Act.put, List.setIfInBounds_toArray, List.set_cons_zero, List.set_cons_succ, List.getElem_toArray, List.getElem_cons_zero, List.getElem_cons_succ]
  refine list_val (.slice (some ⟨w.heap.size + 1, 0, none⟩) 32 32) (by kernel_rfl) (by kernel_rfl) ?_
  simp only [Act.put, List.setIfInBounds_toArray, List.set_cons_zero, List.set_cons_succ, List.getElem_toArray, List.getElem_cons_zero, List.getElem_cons_succ]
  refine list_val (.slice (some ⟨p0, q0, none⟩) n c0) (by kernel_rfl) (by kernel_rfl) ?_
  simp only [Act.put, List.setIfInBounds_toArray, List.set_cons_zero, List.set_cons_succ, List.getElem_toArray, List.getElem_cons_zero, List.getElem_cons_succ]
  refine wpList_step fun K_ hQ => ?_
  rw [if_pos (by kernel_rfl)]
  refine copy_wp (.tmp 5) (.tmp 6) rfl (w.heap.size + 1) 0 32 32 (some ⟨p0, q0, none⟩) n c0 (by kernel_rfl) (by kernel_rfl) (hdl Z32 0 0) 26 (hB.get 1 (x := ⟨w.heap.size + 1, (hdl Z32 0 0).toArray, 26⟩) rfl) K (by rw [e32]; exact (Nat.min_eq_right (by omega)).symm) (by have h9 := ((unhide hw0).gr hB.gr).sl; rw [Nat.add_zero] at h9; exact h9) (by rw [e32, hdl_len rfl]; decide) ?_
  have hcell := setCells_heap (bv K) u (w.heap.size + 1) 0 (hdl Z32 0 0) 26 (hB.get 1 (x := ⟨w.heap.size + 1, (hdl Z32 0 0).toArray, 26⟩) rfl)
  rw [hdl_setk Z32 K (by rw [e32]; rfl)] at hcell
  replace hB := hB.but (setCells_bt (bv K) u (w.heap.size + 1) 0) 1 (x := ⟨w.heap.size + 1, (hdl Z32 0 0).toArray, 26⟩) rfl rfl hcell
  simp only [List.set_cons_zero, List.set_cons_succ] at hB
  have eb : K.map (Value.int .u8) = bv K := rfl
  rw [eb]
  refine hQ _ _ ?_
  clear hQ K_ hcell eb
  generalize World.setCells _ _ _ _ = u1 at *
  replace hB : Bl w [⟨w.heap.size, (hdl Z32 0 0).toArray, 26⟩, ⟨w.heap.size + 1, (hdl K 0 0).toArray, 26⟩] u1 := hB
  rw [e32]
  simp only [Act.put, List.setIfInBounds_toArray, List.set_cons_zero, List.set_cons_succ, List.getElem_toArray, List.getElem_cons_zero, List.getElem_cons_succ]
  refine wpList_nil ?_
  replace hB := hide hB
  go_upto_region 3 with fail
  replace hB := unhide hB
  refine any_start (S := fun _ => True) (by kernel_rfl) ?_
  replace hB := hB.drew
  generalize World.drew _ = x0 at *
  replace hB : Bl w [⟨w.heap.size, (hdl Z32 0 0).toArray, 26⟩, ⟨w.heap.size + 1, (hdl K 0 0).toArray, 26⟩] x0 := hB
  simp only [List.size_toArray, List.length_cons, List.length_nil, Array.replicate, List.replicate]
  refine any_take (i := 0) (v := (.slice (some ⟨p0, q0, none⟩) n c0)) #[false, false, false, false, false, false, false, false, false, false, false, false] rfl (by kernel_rfl) (by kernel_rfl) (by kernel_rfl) (by kernel_rfl) (fun _ _ _ h => h) (.inl ⟨by kernel_rfl, fun x_ hu => by kernel_rfl⟩) trivial ?_
  simp only [Act.put, List.setIfInBounds_toArray, List.set_cons_zero, List.set_cons_succ, List.getElem_toArray, List.getElem_cons_zero, List.getElem_cons_succ]
  refine any_take (i := 1) (v := (.slice (some ⟨p0, q0 + 32, none⟩) 4 (c0 - 32))) #[true, false, false, false, false, false, false, false, false, false, false, false] rfl (by kernel_rfl) (by kernel_rfl) (by kernel_rfl) (by kernel_rfl) (fun _ _ _ h => h) (.inl ⟨by kernel_rfl, fun x_ hu => exec_winl _ (.tmp 8) (.const (.int .i64 32)) (.const (.int .i64 36)) rfl p0 q0 n c0 32 36 4 (by kernel_rfl) (by kernel_rfl) (by kernel_rfl) rfl (by omega) (by omega)⟩) trivial ?_
  simp only [Act.put, List.setIfInBounds_toArray, List.set_cons_zero, List.set_cons_succ, List.getElem_toArray, List.getElem_cons_zero, List.getElem_cons_succ]
  refine any_take (i := 4) (v := (.slice (some ⟨p0, q0, none⟩) n c0)) #[true, true, false, false, false, false, false, false, false, false, false, false] rfl (by kernel_rfl) (by kernel_rfl) (by kernel_rfl) (by kernel_rfl) (fun _ _ _ h => h) (.inl ⟨by kernel_rfl, fun x_ hu => by kernel_rfl⟩) trivial ?_
  simp only [Act.put, List.setIfInBounds_toArray, List.set_cons_zero, List.set_cons_succ, List.getElem_toArray, List.getElem_cons_zero, List.getElem_cons_succ]
  refine any_take (i := 5) (v := (.slice (some ⟨p0, q0 + 36, none⟩) 4 (c0 - 36))) #[true, true, false, false, true, false, false, false, false, false, false, false] rfl (by kernel_rfl) (by kernel_rfl) (by kernel_rfl) (by kernel_rfl) (fun _ _ _ h => h) (.inl ⟨by kernel_rfl, fun x_ hu => exec_winl _ (.tmp 12) (.const (.int .i64 36)) (.const (.int .i64 40)) rfl p0 q0 n c0 36 40 4 (by kernel_rfl) (by kernel_rfl) (by kernel_rfl) rfl (by omega) (by omega)⟩) trivial ?_
  simp only [Act.put, List.setIfInBounds_toArray, List.set_cons_zero, List.set_cons_succ, List.getElem_toArray, List.getElem_cons_zero, List.getElem_cons_succ]
  refine any_one (i := 2) (by kernel_rfl) rfl (fun K_ hQ => ?_)
  refine step_callw (by kernel_rfl) 56 #[.slice (some ⟨p0, q0 + 32, none⟩) 4 (c0 - 32)] (by kernel_rfl) ((qnum_ok ((L.drop 32).take 4) _ 4 (c0 - 32) (by omega) x0 ((unhide hw1).gr hB.gr)).mono ?_)
  rintro r x1 ⟨rfl, rfl⟩
  refine ⟨_, rfl, ?_⟩
  rw [← unhide hP]
  refine hQ.out _ _ trivial (fun _ => ?_)
  clear hQ K_
  simp only [Act.put, List.setIfInBounds_toArray, List.set_cons_zero, List.set_cons_succ, List.getElem_toArray, List.getElem_cons_zero, List.getElem_cons_succ]
  refine any_take (i := 3) (v := (.int .u32 P)) #[true, true, true, false, true, true, false, false, false, false, false, false] rfl (by kernel_rfl) (by kernel_rfl) (by kernel_rfl) (by kernel_rfl) (fun _ _ _ h => h) (.inl ⟨by kernel_rfl, fun x_ hu => by go_simp⟩) trivial ?_
  simp only [Act.put, List.setIfInBounds_toArray, List.set_cons_zero, List.set_cons_succ, List.getElem_toArray, List.getElem_cons_zero, List.getElem_cons_succ]
  refine any_one (i := 6) (by kernel_rfl) rfl (fun K_ hQ => ?_)
  refine step_callw (by kernel_rfl) 56 #[.slice (some ⟨p0, q0 + 36, none⟩) 4 (c0 - 36)] (by kernel_rfl) ((qnum_ok ((L.drop 36).take 4) _ 4 (c0 - 36) (by omega) x1 ((unhide hw2).gr hB.gr)).mono ?_)
  rintro r x2 ⟨rfl, rfl⟩
  refine ⟨_, rfl, ?_⟩
  rw [← unhide hQ9]
  refine hQ.out _ _ trivial (fun _ => ?_)
  clear hQ K_
  simp only [Act.put, List.setIfInBounds_toArray, List.set_cons_zero, List.set_cons_succ, List.getElem_toArray, List.getElem_cons_zero, List.getElem_cons_succ]
  refine any_take (i := 7) (v := (.int .u32 Q9)) #[true, true, true, true, true, true, true, false, false, false, false, false] rfl (by kernel_rfl) (by kernel_rfl) (by kernel_rfl) (by kernel_rfl) (fun _ _ _ h => h) (.inl ⟨by kernel_rfl, fun x_ hu => by go_simp⟩) trivial ?_
  simp only [Act.put, List.setIfInBounds_toArray, List.set_cons_zero, List.set_cons_succ, List.getElem_toArray, List.getElem_cons_zero, List.getElem_cons_succ]
  refine any_take (i := 8) (v := (.pointer (some ⟨w.heap.size + 1, 32, none⟩))) #[true, true, true, true, true, true, true, true, false, false, false, false] rfl (by kernel_rfl) (by kernel_rfl) (by kernel_rfl) (by kernel_rfl) (fun _ _ _ h => h) (.inl ⟨by kernel_rfl, fun x_ hu => by kernel_rfl⟩) trivial ?_
  simp only [Act.put, List.setIfInBounds_toArray, List.set_cons_zero, List.set_cons_succ, List.getElem_toArray, List.getElem_cons_zero, List.getElem_cons_succ]
  refine any_one (i := 9) (by kernel_rfl) rfl (fun K_ hQ => ?_)
  have c4 := cell_of (hB.get 1 (x := ⟨w.heap.size + 1, (hdl K 0 0).toArray, 26⟩) rfl) (i := 32) (hd_prev e32 0 0)
  have fz := froz_of (i := 32) (hB.get 1 (x := ⟨w.heap.size + 1, (hdl K 0 0).toArray, 26⟩) rfl)
  have hB2 := hB.cell 1 (x := ⟨w.heap.size + 1, (hdl K 0 0).toArray, 26⟩) rfl 32 (.int .u32 P)
  simp only [List.set_cons_zero, List.set_cons_succ] at hB2
  rw [hdl_setp K e32] at hB2
  clear hB
  replace hB2 := hide hB2
  replace hQ := hide hQ
  dsimp only at c4 fz
  go_simp
  refine (unhide hQ).out _ _ trivial (fun _ => ?_)
  clear hQ K_ c4 fz
  have hB := unhide hB2
  clear hB2
  generalize World.setCell _ _ _ = x3 at *
  replace hB : Bl w [⟨w.heap.size, (hdl Z32 0 0).toArray, 26⟩, ⟨w.heap.size + 1, (hdl K P 0).toArray, 26⟩] x3 := hB
  simp only [Act.put, List.setIfInBounds_toArray, List.set_cons_zero, List.set_cons_succ, List.getElem_toArray, List.getElem_cons_zero, List.getElem_cons_succ]
  refine any_take (i := 10) (v := (.pointer (some ⟨w.heap.size + 1, 33, none⟩))) #[true, true, true, true, true, true, true, true, true, true, false, false] rfl (by kernel_rfl) (by kernel_rfl) (by kernel_rfl) (by kernel_rfl) (fun _ _ _ h => h) (.inl ⟨by kernel_rfl, fun x_ hu => by kernel_rfl⟩) trivial ?_
  simp only [Act.put, List.setIfInBounds_toArray, List.set_cons_zero, List.set_cons_succ, List.getElem_toArray, List.getElem_cons_zero, List.getElem_cons_succ]
  refine any_one (i := 11) (by kernel_rfl) rfl (fun K_ hQ => ?_)
  have c4 := cell_of (hB.get 1 (x := ⟨w.heap.size + 1, (hdl K P 0).toArray, 26⟩) rfl) (i := 33) (hd_num e32 P 0)
  have fz := froz_of (i := 33) (hB.get 1 (x := ⟨w.heap.size + 1, (hdl K P 0).toArray, 26⟩) rfl)
  have hB2 := hB.cell 1 (x := ⟨w.heap.size + 1, (hdl K P 0).toArray, 26⟩) rfl 33 (.int .u32 Q9)
  simp only [List.set_cons_zero, List.set_cons_succ] at hB2
  rw [hdl_setq K e32] at hB2
  clear hB
  replace hB2 := hide hB2
  replace hQ := hide hQ
  dsimp only at c4 fz
  go_simp
  refine (unhide hQ).out _ _ trivial (fun _ => ?_)
  clear hQ K_ c4 fz
  have hB := unhide hB2
  clear hB2
  generalize World.setCell _ _ _ = x4 at *
  replace hB : Bl w [⟨w.heap.size, (hdl Z32 0 0).toArray, 26⟩, ⟨w.heap.size + 1, (hdl K P Q9).toArray, 26⟩] x4 := hB
  simp only [Act.put, List.setIfInBounds_toArray, List.set_cons_zero, List.set_cons_succ, List.getElem_toArray, List.getElem_cons_zero, List.getElem_cons_succ]
  refine any_done (by kernel_rfl) ?_
  replace hB := hide hB
  go_upto_region 4 with fail
  replace hB := unhide hB
  refine wp_region_lit ?_
  refine list_val (.agg (hdl K P Q9).toArray) (by kernel_rfl) (exec_arr _ 26 (.tmp 3) rfl (w.heap.size + 1) (by kernel_rfl) (hdl K P Q9).toArray 26 _ (hB.get 1 (x := ⟨w.heap.size + 1, (hdl K P Q9).toArray, 26⟩) rfl) Try.underlying26 rfl (by rw [Try.infoH, List.size_toArray, hdl_len e32])) ?_
  simp only [Act.put, List.setIfInBounds_toArray, List.set_cons_zero, List.set_cons_succ, List.getElem_toArray, List.getElem_cons_zero, List.getElem_cons_succ]
  refine list_store 26 (.tmp 2) (.tmp 18) (w.heap.size) (hdl K P Q9).toArray 26 (hdl Z32 0 0).toArray (by kernel_rfl) rfl (by kernel_rfl) (by kernel_rfl) (hB.get 0 (x := ⟨w.heap.size, (hdl Z32 0 0).toArray, 26⟩) rfl) (by rw [Try.infoH, List.size_toArray, hdl_len e32]) (by rw [List.size_toArray, List.size_toArray, hdl_len e32, hdl_len rfl]) (hdl_one _ _ _) ?_
  replace hB := hB.set 0 (x := ⟨w.heap.size, (hdl Z32 0 0).toArray, 26⟩) rfl (hdl K P Q9).toArray
  simp only [List.set_cons_zero, List.set_cons_succ] at hB
  generalize World.setRow _ _ _ = u5 at *
  replace hB : Bl w [⟨w.heap.size, (hdl K P Q9).toArray, 26⟩, ⟨w.heap.size + 1, (hdl K P Q9).toArray, 26⟩] u5 := hB
  simp only [Act.put, List.setIfInBounds_toArray, List.set_cons_zero, List.set_cons_succ, List.getElem_toArray, List.getElem_cons_zero, List.getElem_cons_succ]
  refine wpList_nil ?_
  have hbk : Hid (u5.heap[w.heap.size]? = some (.cells (hdl K P Q9).toArray 26 (0, 0))) := (hB.get 0 (x := ⟨w.heap.size, (hdl K P Q9).toArray, 26⟩) rfl)
  have hZ : Hid (T (.returned (.agg (hdl K P Q9).toArray)) u5) := by
    rw [unhide hT]
    exact ⟨rfl, hB.gr⟩
  clear hB
  go_wp2_with fail
  exact bodyPost_ret (v := .agg (hdl K P Q9).toArray) (results_cell_row Try.results22 _ _ (w.heap.size) 26 (hdl K P Q9).toArray (0, 0) _ rfl (unhide hbk) Try.underlying26 rfl (by rw [Try.infoH, List.size_toArray, hdl_len e32])) rfl (unhide hZ)
end Go.Proofs.Ytfmocneoffkmpaa
