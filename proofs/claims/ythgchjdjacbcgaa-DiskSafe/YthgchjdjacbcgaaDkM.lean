/-
  The laws' own helpers: an op is done.
-/
import Derived.Test.YthgchjdjacbcgaaPkG
namespace Go.Proofs.Ythgchjdjacbcgaa
open Go.RowKit
set_option maxRecDepth 100000
set_option linter.unusedSimpArgs false
set_option linter.unusedVariables false
/-- what does answers and leaves -/
def Dos (F : List Nat) (g : Nat) (D : Dk) (o : Opl) (w : World) (r : Ending) (w' : World) : Prop := ∃ F', r = .returned (.tuple #[.agg (kc (D.opB o)), .int .i64 (D.opE o)]) ∧ Lies F' g (D.opD o) w' ∧ Chg F F' w w'
theorem Lies.gr {F : List Nat} {g : Nat} {D : Dk} {v u : World} (h : Lies F g D v) (k : Gr v u) : Lies F g D u := h.keep k.size (fun i hi => k.block i (h.lt i hi))
theorem Lies.bt {F : List Nat} {g b : Nat} {D : Dk} {v u : World} (h : Lies F g D v) (k : Bt b v u) (hb : b ∉ F) : Lies F g D u := h.keep k.size (fun i hi => k.block i (h.lt i hi) (fun e => hb (e ▸ hi)))
theorem Lies.chg {F G G' : List Nat} {g : Nat} {D : Dk} {v u : World} (h : Lies F g D v) (k : Chg G G' v u) (hb : ∀ i ∈ F, i ∉ G) : Lies F g D u := h.keep k.size (fun i hi => k.block i (h.lt i hi) (hb i hi))
set_option maxHeartbeats 4000000 in
theorem does_ok (F : List Nat) (gd m : Nat) (D : Dk) (hD : D.Ok m) (hm : m ≤ 1000000) (o : Opl) (ho : o.Ok) (ka : Option Addr) (kn kp : Nat) (w : World) (hL : Lies F gd D w) (hK : Kp w ka kn kp o.keep) : Calls Try.prog 13 #[P0 gd, .agg (opv o ka kn kp)] w (Dos F gd D o w) := by
  obtain ⟨T, hT⟩ : ∃ T, T = Dos F gd D o w := ⟨_, rfl⟩
  rw [← hT]
  replace hT := hide hT
  obtain ⟨SO, hSO⟩ : ∃ X, X = opv o ka kn kp := ⟨_, rfl⟩
  rw [← hSO]
  have hFl := hL.lt
  have hnF : ∀ i, w.heap.size ≤ i → i ∉ F := fun i hi hm => by have := hFl i hm; omega
  replace hSO := hide hSO; replace hK := hide hK; replace ho := hide ho; replace hL := hide hL; replace hD := hide hD
  go_enter Try.func13, Try.ntmps13
  go_upto_region 1 with fail
  have hB := (((Bl.nil w).new SO 37).new #[.int .u8 0, .int .u8 0, .int .u8 0, .int .u8 0, .int .u8 0, .int .u8 0, .int .u8 0, .int .u8 0, .int .u8 0, .int .u8 0, .int .u8 0, .int .u8 0, .int .u8 0, .int .u8 0, .int .u8 0, .int .u8 0, .int .u8 0, .int .u8 0, .int .u8 0, .int .u8 0, .int .u8 0, .int .u8 0, .int .u8 0, .int .u8 0, .int .u8 0, .int .u8 0, .int .u8 0, .int .u8 0, .int .u8 0, .int .u8 0, .int .u8 0, .int .u8 0, .int .u8 0, .int .u8 0, .int .u8 0, .int .u8 0, .int .u8 0, .int .u8 0, .int .u8 0, .int .u8 0, .int .u8 0, .int .u8 0, .int .u8 0, .int .u8 0, .int .u8 0, .int .u8 0, .int .u8 0, .int .u8 0, .int .u8 0, .int .u8 0, .int .u8 0, .int .u8 0, .int .u8 0, .int .u8 0, .int .u8 0, .int .u8 0, .int .u8 0, .int .u8 0, .int .u8 0, .int .u8 0, .int .u8 0, .int .u8 0, .int .u8 0, .int .u8 0] 39)
  simp only [size_alloc, List.nil_append, List.cons_append] at hB
  generalize World.alloc _ _ = u at *
  rw [unhide hSO] at hB
  replace hB : Bl w [⟨w.heap.size, opv o ka kn kp, 37⟩, ⟨w.heap.size + 1, kc ZB, 39⟩] u := hB
  refine wp_region_lit ?_
  refine list_val (.agg (opv o ka kn kp)) (by kernel_rfl) (exec_arr _ 37 (.tmp 3) rfl (w.heap.size) (by kernel_rfl) (opv o ka kn kp) 37 _ (hB.get 0 (x := ⟨w.heap.size, opv o ka kn kp, 37⟩) rfl) Try.underlying37 rfl (by rw [Try.infoO]; rfl)) ?_
  simp only [Act.put, List.setIfInBounds_toArray, List.set_cons_zero, List.set_cons_succ, List.getElem_toArray, List.getElem_cons_zero, List.getElem_cons_succ]
  refine list_call 29 #[.agg (opv o ka kn kp)] (by kernel_rfl) (by kernel_rfl) ((kind_ok o (unhide ho) ka kn kp _).mono ?_)
  rintro r v1 ⟨rfl, hg⟩
  refine ⟨_, rfl, ?_⟩
  replace hB := hB.more hg
  obtain ⟨kk, hkk⟩ : ∃ kk, kk = o.k := ⟨_, rfl⟩
  rw [← hkk]
  have hk5 : kk < 5 := by rw [hkk]; exact o.k_lt
  clear hg
  simp only [Act.put, List.setIfInBounds_toArray, List.set_cons_zero, List.set_cons_succ, List.getElem_toArray, List.getElem_cons_zero, List.getElem_cons_succ]
  refine wpList_nil ?_
  have hcs : kk = 0 ∨ kk = 1 ∨ kk = 2 ∨ kk = 3 ∨ kk = 4 := by omega
  rcases hcs with rfl | rfl | rfl | rfl | rfl
  · skip
    have hop : Hid (D.opD o = D ∧ D.opB o = D.readB o.at_ ∧ D.opE o = D.readE o.at_) := ⟨by unfold Dk.opD; rw [← hkk] <;> rfl, by unfold Dk.opB; rw [← hkk] <;> rfl, by unfold Dk.opE; rw [← hkk] <;> rfl⟩
    replace hkk := hide hkk
    replace hB := hide hB
    go_upto_region 3 with fail
    replace hB := unhide hB
    refine wp_region_lit ?_
    refine list_val (.pointer (some ⟨gd, 0, none⟩)) (by kernel_rfl) (by kernel_rfl) ?_
    simp only [Act.put, List.setIfInBounds_toArray, List.set_cons_zero, List.set_cons_succ, List.getElem_toArray, List.getElem_cons_zero, List.getElem_cons_succ]
    refine list_val (.pointer (some ⟨w.heap.size, 1, none⟩)) (by kernel_rfl) (by kernel_rfl) ?_
    simp only [Act.put, List.setIfInBounds_toArray, List.set_cons_zero, List.set_cons_succ, List.getElem_toArray, List.getElem_cons_zero, List.getElem_cons_succ]
    refine list_val (.int .i64 o.at_) (by kernel_rfl) (exec_i64 _ (.tmp 11) rfl (w.heap.size) 1 (by kernel_rfl) o.at_ (cell_of (hB.get 0 (x := ⟨w.heap.size, opv o ka kn kp, 37⟩) rfl) (i := 1) rfl)) ?_
    simp only [Act.put, List.setIfInBounds_toArray, List.set_cons_zero, List.set_cons_succ, List.getElem_toArray, List.getElem_cons_zero, List.getElem_cons_succ]
    refine list_call 17 #[.pointer (some ⟨gd, 0, none⟩), .int .i64 o.at_] (by kernel_rfl) (by kernel_rfl) ((dread_ok F gd m D (unhide hD) hm o.at_ _ ((unhide hL).gr hB.gr)).mono ?_)
    rintro r v2 ⟨rfl, hg⟩
    refine ⟨_, rfl, ?_⟩
    replace hB := hB.more hg
    have hbb := Dk.readB_bb (unhide hD) o.at_
    obtain ⟨b, hb⟩ : ∃ b, b = D.readB o.at_ := ⟨_, rfl⟩
    obtain ⟨e, he⟩ : ∃ e, e = D.readE o.at_ := ⟨_, rfl⟩
    rw [← hb, ← he]
    rw [← hb] at hbb
    have hbl := hbb.1
    replace hb := hide hb; replace he := hide he
    clear hg hbb
    simp only [Act.put, List.setIfInBounds_toArray, List.set_cons_zero, List.set_cons_succ, List.getElem_toArray, List.getElem_cons_zero, List.getElem_cons_succ]
    refine list_val (.agg (kc b)) (by kernel_rfl) (by kernel_rfl) ?_
    simp only [Act.put, List.setIfInBounds_toArray, List.set_cons_zero, List.set_cons_succ, List.getElem_toArray, List.getElem_cons_zero, List.getElem_cons_succ]
    refine list_val (.int .i64 e) (by kernel_rfl) (by kernel_rfl) ?_
    simp only [Act.put, List.setIfInBounds_toArray, List.set_cons_zero, List.set_cons_succ, List.getElem_toArray, List.getElem_cons_zero, List.getElem_cons_succ]
    refine list_store 39 (.tmp 4) (.tmp 14) (w.heap.size + 1) (kc b) 39 (kc ZB) (by kernel_rfl) rfl (by kernel_rfl) (by kernel_rfl) (hB.get 1 (x := ⟨w.heap.size + 1, kc ZB, 39⟩) rfl) (by rw [Try.infoB, kc_size, hbl]) ((show (kc ZB).size = 64 from rfl).trans ((kc_size _).trans hbl).symm) (kc_one _) ?_
    replace hB := hB.set 1 (x := ⟨w.heap.size + 1, kc ZB, 39⟩) rfl (kc b)
    simp only [List.set_cons_zero, List.set_cons_succ] at hB
    generalize World.setRow _ _ _ = v3 at *
    replace hB : Bl w [⟨w.heap.size, opv o ka kn kp, 37⟩, ⟨w.heap.size + 1, kc b, 39⟩] v3 := hB
    simp only [Act.put, List.setIfInBounds_toArray, List.set_cons_zero, List.set_cons_succ, List.getElem_toArray, List.getElem_cons_zero, List.getElem_cons_succ]
    (refine wpList_step fun K hK => ?_; replace hK := hide hK; go_simp; refine unhide hK _ _ ?_; clear hK K)
    refine wpList_nil ?_
    have hP : Hid (Lies F gd (D.opD o) _ ∧ Chg F F w _) := ⟨by rw [(unhide hop).1]; exact (unhide hL).gr hB.gr, hB.gr.chg0 F⟩
    have hR1 := hide ((hB.get 1 (x := ⟨w.heap.size + 1, kc b, 39⟩) rfl))
    clear hB
    go_wp2_with fail
    rw [unhide hT]
    exact bodyPost_ret (v := .tuple #[.agg (kc b), .int .i64 e]) (results_cell_tmp Try.results13 _ _ (w.heap.size + 1) 39 (kc b) (0, 0) _ rfl (.int .i64 e) rfl (unhide hR1) Try.underlying39 rfl (by rw [Try.infoB, kc_size, hbl])) rfl ⟨F, by rw [(unhide hop).2.1, (unhide hop).2.2, ← unhide hb, ← unhide he], (unhide hP).1, (unhide hP).2⟩
  · skip
    have hop : Hid (D.opD o = D.writeD o.at_ (blkL o.fill) ∧ D.opB o = ZB ∧ D.opE o = D.writeE o.at_) := ⟨by unfold Dk.opD; rw [← hkk] <;> rfl, by unfold Dk.opB; rw [← hkk] <;> rfl, by unfold Dk.opE; rw [← hkk] <;> rfl⟩
    replace hkk := hide hkk
    replace hB := hide hB
    go_upto_region 5 with fail
    replace hB := unhide hB
    refine any_start (S := fun v => v.heap[w.heap.size]? = some (.cells (opv o ka kn kp) 37 (0, 0))) (by kernel_rfl) ?_
    have hKk := hK
    clear hK
    replace hB := hB.drew
    generalize World.drew _ = x0 at *
    simp only [List.size_toArray, List.length_cons, List.length_nil, Array.replicate, List.replicate]
    refine any_take (i := 0) (v := (.agg (kc ZB))) #[false, false, false, false, false, false, false, false, false, false] rfl (by kernel_rfl) (by kernel_rfl) (by kernel_rfl) (by kernel_rfl) (fun _ _ _ h => h) (.inl ⟨by kernel_rfl, fun x_ hu => by kernel_rfl⟩) (hB.get 0 (x := ⟨w.heap.size, opv o ka kn kp, 37⟩) rfl) ?_
    simp only [Act.put, List.setIfInBounds_toArray, List.set_cons_zero, List.set_cons_succ, List.getElem_toArray, List.getElem_cons_zero, List.getElem_cons_succ]
    refine any_take (i := 1) (v := (.pointer (some ⟨gd, 0, none⟩))) #[true, false, false, false, false, false, false, false, false, false] rfl (by kernel_rfl) (by kernel_rfl) (by kernel_rfl) (by kernel_rfl) (fun _ _ _ h => h) (.inl ⟨by kernel_rfl, fun x_ hu => by kernel_rfl⟩) (hB.get 0 (x := ⟨w.heap.size, opv o ka kn kp, 37⟩) rfl) ?_
    simp only [Act.put, List.setIfInBounds_toArray, List.set_cons_zero, List.set_cons_succ, List.getElem_toArray, List.getElem_cons_zero, List.getElem_cons_succ]
    refine any_take (i := 2) (v := (.pointer (some ⟨w.heap.size, 1, none⟩))) #[true, true, false, false, false, false, false, false, false, false] rfl (by kernel_rfl) (by kernel_rfl) (by kernel_rfl) (by kernel_rfl) (fun _ _ _ h => h) (.inl ⟨by kernel_rfl, fun x_ hu => by kernel_rfl⟩) (hB.get 0 (x := ⟨w.heap.size, opv o ka kn kp, 37⟩) rfl) ?_
    simp only [Act.put, List.setIfInBounds_toArray, List.set_cons_zero, List.set_cons_succ, List.getElem_toArray, List.getElem_cons_zero, List.getElem_cons_succ]
    refine any_take (i := 3) (v := (.int .i64 o.at_)) #[true, true, true, false, false, false, false, false, false, false] rfl (by kernel_rfl) (by kernel_rfl) (by kernel_rfl) (by kernel_rfl) (fun _ _ _ h => h) (.inl ⟨by kernel_rfl, fun x_ hu => exec_i64 _ (.tmp 20) rfl (w.heap.size) 1 (by kernel_rfl) o.at_ (cell_of hu (i := 1) rfl)⟩) (hB.get 0 (x := ⟨w.heap.size, opv o ka kn kp, 37⟩) rfl) ?_
    simp only [Act.put, List.setIfInBounds_toArray, List.set_cons_zero, List.set_cons_succ, List.getElem_toArray, List.getElem_cons_zero, List.getElem_cons_succ]
    refine any_take (i := 4) (v := (.pointer (some ⟨w.heap.size, 2, none⟩))) #[true, true, true, true, false, false, false, false, false, false] rfl (by kernel_rfl) (by kernel_rfl) (by kernel_rfl) (by kernel_rfl) (fun _ _ _ h => h) (.inl ⟨by kernel_rfl, fun x_ hu => by kernel_rfl⟩) (hB.get 0 (x := ⟨w.heap.size, opv o ka kn kp, 37⟩) rfl) ?_
    simp only [Act.put, List.setIfInBounds_toArray, List.set_cons_zero, List.set_cons_succ, List.getElem_toArray, List.getElem_cons_zero, List.getElem_cons_succ]
    refine any_take (i := 5) (v := (.int .u8 o.fill)) #[true, true, true, true, true, false, false, false, false, false] rfl (by kernel_rfl) (by kernel_rfl) (by kernel_rfl) (by kernel_rfl) (fun _ _ _ h => h) (.inl ⟨by kernel_rfl, fun x_ hu => exec_b _ (.tmp 22) rfl (w.heap.size) 2 (by kernel_rfl) o.fill (cell_of hu (i := 2) rfl)⟩) (hB.get 0 (x := ⟨w.heap.size, opv o ka kn kp, 37⟩) rfl) ?_
    simp only [Act.put, List.setIfInBounds_toArray, List.set_cons_zero, List.set_cons_succ, List.getElem_toArray, List.getElem_cons_zero, List.getElem_cons_succ]
    refine any_one (i := 6) (by kernel_rfl) rfl (fun K_ hQ => ?_)
    refine step_callw (by kernel_rfl) 30 #[.int .u8 o.fill] (by kernel_rfl) ((block_ok o.fill _).mono ?_)
    rintro r x1 ⟨rfl, hg⟩
    refine ⟨_, rfl, ?_⟩
    replace hB := hB.more hg
    clear hg
    refine hQ.out _ _ (hB.get 0 (x := ⟨w.heap.size, opv o ka kn kp, 37⟩) rfl) (fun _ => ?_)
    clear hQ K_
    simp only [Act.put, List.setIfInBounds_toArray, List.set_cons_zero, List.set_cons_succ, List.getElem_toArray, List.getElem_cons_zero, List.getElem_cons_succ]
    refine any_one (i := 7) (by kernel_rfl) rfl (fun K_ hQ => ?_)
    refine step_callw (by kernel_rfl) 31 #[.pointer (some ⟨gd, 0, none⟩), .int .i64 o.at_, .agg (kc (blkL o.fill))] (by kernel_rfl) ((dwrite_ok F gd m D (unhide hD) hm o.at_ (blkL o.fill) (blkL_bb _) _ ((unhide hL).gr hB.gr)).mono ?_)
    rintro r x2 ⟨F1, rfl, hL1, hch⟩
    refine ⟨_, rfl, ?_⟩
    have k0 := hch.blk (hB.get 0 (x := ⟨w.heap.size, opv o ka kn kp, 37⟩) rfl) (hnF _ (Nat.le_refl _))
    dsimp only at k0
    have hlt1 := lt_of_block (hB.get 1 (x := ⟨w.heap.size + 1, kc ZB, 39⟩) rfl)
    dsimp only at hlt1
    have k1 := hch.blk (hB.get 1 (x := ⟨w.heap.size + 1, kc ZB, 39⟩) rfl) (hnF _ (by show w.heap.size ≤ w.heap.size + 1; omega))
    have hn1 : w.heap.size + 1 ∉ F1 := fun hm_ => by
      rcases hch.new _ hm_ with h | h
      · exact hnF _ (by omega) h
      · omega
    have hcw := hB.gr.chg hch
    dsimp only at k1
    clear hlt1 hch
    obtain ⟨e, he⟩ : ∃ e, e = D.writeE o.at_ := ⟨_, rfl⟩
    rw [← he]
    replace he := hide he
    refine hQ.out _ _ k0 (fun _ => ?_)
    clear hQ K_
    simp only [Act.put, List.setIfInBounds_toArray, List.set_cons_zero, List.set_cons_succ, List.getElem_toArray, List.getElem_cons_zero, List.getElem_cons_succ]
    refine any_one (i := 8) (by kernel_rfl) rfl (fun K_ hQ => ?_)
    rw [if_pos (by kernel_rfl)]
    refine wp_store_row 39 (.tmp 4) (.tmp 18) rfl (w.heap.size + 1) (kc ZB) (by kernel_rfl) (by kernel_rfl) 39 (kc ZB) k1 (by rw [Try.infoB]; rfl) rfl (kc_one _) ?_
    replace hL1 := hL1.bt ((Bt.refl (w.heap.size + 1) x2).row_self (kc ZB)) hn1
    replace hcw := hcw.bt ((Bt.refl (w.heap.size + 1) x2).row_self (kc ZB)) (show w.heap.size ≤ w.heap.size + 1 by omega)
    replace k0 := ((Bt.refl (w.heap.size + 1) x2).row_self (kc ZB)).blk k0 (show w.heap.size ≠ w.heap.size + 1 by omega)
    replace k1 := setRow_heap x2 (w.heap.size + 1) (kc ZB) (kc ZB) 39 (0, 0) k1
    generalize World.setRow _ _ _ = x3 at *
    refine hQ.out _ _ k0 (fun _ => ?_)
    clear hQ K_
    simp only [Act.put, List.setIfInBounds_toArray, List.set_cons_zero, List.set_cons_succ, List.getElem_toArray, List.getElem_cons_zero, List.getElem_cons_succ]
    refine any_one (i := 9) (by kernel_rfl) rfl (fun K_ hQ => ?_)
    replace hQ := hide hQ
    go_simp
    refine (unhide hQ).out _ _ k0 (fun _ => ?_)
    clear hQ K_
    refine any_done (by kernel_rfl) ?_
    have hP : Hid (Lies F1 gd (D.opD o) _ ∧ Chg F F1 w _) := ⟨by rw [(unhide hop).1]; exact hL1, hcw⟩
    have hR1 := hide (k1)
    clear hB
    go_wp2_with fail
    rw [unhide hT]
    exact bodyPost_ret (v := .tuple #[.agg (kc ZB), .int .i64 e]) (results_cell_tmp Try.results13 _ _ (w.heap.size + 1) 39 (kc ZB) (0, 0) _ rfl (.int .i64 e) rfl (unhide hR1) Try.underlying39 rfl (by rw [Try.infoB, kc_size, ZB_len])) rfl ⟨F1, by rw [(unhide hop).2.1, (unhide hop).2.2, ← unhide he], (unhide hP).1, (unhide hP).2⟩
  · skip
    have hop : Hid (D.opD o = D.syncD ∧ D.opB o = ZB ∧ D.opE o = D.syncE) := ⟨by unfold Dk.opD; rw [← hkk] <;> rfl, by unfold Dk.opB; rw [← hkk] <;> rfl, by unfold Dk.opE; rw [← hkk] <;> rfl⟩
    replace hkk := hide hkk
    replace hB := hide hB
    go_upto_region 7 with fail
    replace hB := unhide hB
    refine wp_region_lit ?_
    refine list_val (.agg (kc ZB)) (by kernel_rfl) (by kernel_rfl) ?_
    simp only [Act.put, List.setIfInBounds_toArray, List.set_cons_zero, List.set_cons_succ, List.getElem_toArray, List.getElem_cons_zero, List.getElem_cons_succ]
    refine list_val (.pointer (some ⟨gd, 0, none⟩)) (by kernel_rfl) (by kernel_rfl) ?_
    simp only [Act.put, List.setIfInBounds_toArray, List.set_cons_zero, List.set_cons_succ, List.getElem_toArray, List.getElem_cons_zero, List.getElem_cons_succ]
    refine list_call 26 #[.pointer (some ⟨gd, 0, none⟩)] (by kernel_rfl) (by kernel_rfl) ((dsync_ok F gd m D (unhide hD) hm _ ((unhide hL).gr hB.gr)).mono ?_)
    rintro r v2 ⟨F1, rfl, hL1, hch⟩
    refine ⟨_, rfl, ?_⟩
    have hlt1 := lt_of_block (hB.get 1 (x := ⟨w.heap.size + 1, kc ZB, 39⟩) rfl)
    dsimp only at hlt1
    have k1 := hch.blk (hB.get 1 (x := ⟨w.heap.size + 1, kc ZB, 39⟩) rfl) (hnF _ (by show w.heap.size ≤ w.heap.size + 1; omega))
    have hn1 : w.heap.size + 1 ∉ F1 := fun hm_ => by
      rcases hch.new _ hm_ with h | h
      · exact hnF _ (by omega) h
      · omega
    have hcw := hB.gr.chg hch
    dsimp only at k1
    clear hlt1 hch
    obtain ⟨e, he⟩ : ∃ e, e = D.syncE := ⟨_, rfl⟩
    rw [← he]
    replace he := hide he
    simp only [Act.put, List.setIfInBounds_toArray, List.set_cons_zero, List.set_cons_succ, List.getElem_toArray, List.getElem_cons_zero, List.getElem_cons_succ]
    refine list_store 39 (.tmp 4) (.tmp 28) (w.heap.size + 1) (kc ZB) 39 (kc ZB) (by kernel_rfl) rfl (by kernel_rfl) (by kernel_rfl) k1 (by rw [Try.infoB]; rfl) rfl (kc_one _) ?_
    replace hL1 := hL1.bt ((Bt.refl (w.heap.size + 1) v2).row_self (kc ZB)) hn1
    replace hcw := hcw.bt ((Bt.refl (w.heap.size + 1) v2).row_self (kc ZB)) (show w.heap.size ≤ w.heap.size + 1 by omega)
    replace k1 := setRow_heap v2 (w.heap.size + 1) (kc ZB) (kc ZB) 39 (0, 0) k1
    generalize World.setRow _ _ _ = v3 at *
    simp only [Act.put, List.setIfInBounds_toArray, List.set_cons_zero, List.set_cons_succ, List.getElem_toArray, List.getElem_cons_zero, List.getElem_cons_succ]
    (refine wpList_step fun K hK => ?_; replace hK := hide hK; go_simp; refine unhide hK _ _ ?_; clear hK K)
    refine wpList_nil ?_
    have hP : Hid (Lies F1 gd (D.opD o) _ ∧ Chg F F1 w _) := ⟨by rw [(unhide hop).1]; exact hL1, hcw⟩
    have hR1 := hide (k1)
    clear hB
    go_wp2_with fail
    rw [unhide hT]
    exact bodyPost_ret (v := .tuple #[.agg (kc ZB), .int .i64 e]) (results_cell_tmp Try.results13 _ _ (w.heap.size + 1) 39 (kc ZB) (0, 0) _ rfl (.int .i64 e) rfl (unhide hR1) Try.underlying39 rfl (by rw [Try.infoB, kc_size, ZB_len])) rfl ⟨F1, by rw [(unhide hop).2.1, (unhide hop).2.2, ← unhide he], (unhide hP).1, (unhide hP).2⟩
  · skip
    have hop : Hid (D.opD o = D.armD o.at_ ∧ D.opB o = ZB ∧ D.opE o = D.armE) := ⟨by unfold Dk.opD; rw [← hkk] <;> rfl, by unfold Dk.opB; rw [← hkk] <;> rfl, by unfold Dk.opE; rw [← hkk] <;> rfl⟩
    replace hkk := hide hkk
    replace hB := hide hB
    go_upto_region 9 with fail
    replace hB := unhide hB
    refine wp_region_lit ?_
    refine list_val (.agg (kc ZB)) (by kernel_rfl) (by kernel_rfl) ?_
    simp only [Act.put, List.setIfInBounds_toArray, List.set_cons_zero, List.set_cons_succ, List.getElem_toArray, List.getElem_cons_zero, List.getElem_cons_succ]
    refine list_val (.pointer (some ⟨gd, 0, none⟩)) (by kernel_rfl) (by kernel_rfl) ?_
    simp only [Act.put, List.setIfInBounds_toArray, List.set_cons_zero, List.set_cons_succ, List.getElem_toArray, List.getElem_cons_zero, List.getElem_cons_succ]
    refine list_val (.pointer (some ⟨w.heap.size, 1, none⟩)) (by kernel_rfl) (by kernel_rfl) ?_
    simp only [Act.put, List.setIfInBounds_toArray, List.set_cons_zero, List.set_cons_succ, List.getElem_toArray, List.getElem_cons_zero, List.getElem_cons_succ]
    refine list_val (.int .i64 o.at_) (by kernel_rfl) (exec_i64 _ (.tmp 35) rfl (w.heap.size) 1 (by kernel_rfl) o.at_ (cell_of (hB.get 0 (x := ⟨w.heap.size, opv o ka kn kp, 37⟩) rfl) (i := 1) rfl)) ?_
    simp only [Act.put, List.setIfInBounds_toArray, List.set_cons_zero, List.set_cons_succ, List.getElem_toArray, List.getElem_cons_zero, List.getElem_cons_succ]
    refine list_call 28 #[.pointer (some ⟨gd, 0, none⟩), .int .i64 o.at_] (by kernel_rfl) (by kernel_rfl) ((darm_ok F gd m D (unhide hD) hm o.at_ (unhide ho).a1 (unhide ho).a2 _ ((unhide hL).gr hB.gr)).mono ?_)
    rintro r v2 ⟨F1, rfl, hL1, hch⟩
    refine ⟨_, rfl, ?_⟩
    have hlt1 := lt_of_block (hB.get 1 (x := ⟨w.heap.size + 1, kc ZB, 39⟩) rfl)
    dsimp only at hlt1
    have k1 := hch.blk (hB.get 1 (x := ⟨w.heap.size + 1, kc ZB, 39⟩) rfl) (hnF _ (by show w.heap.size ≤ w.heap.size + 1; omega))
    have hn1 : w.heap.size + 1 ∉ F1 := fun hm_ => by
      rcases hch.new _ hm_ with h | h
      · exact hnF _ (by omega) h
      · omega
    have hcw := hB.gr.chg hch
    dsimp only at k1
    clear hlt1 hch
    obtain ⟨e, he⟩ : ∃ e, e = D.armE := ⟨_, rfl⟩
    rw [← he]
    replace he := hide he
    simp only [Act.put, List.setIfInBounds_toArray, List.set_cons_zero, List.set_cons_succ, List.getElem_toArray, List.getElem_cons_zero, List.getElem_cons_succ]
    refine list_store 39 (.tmp 4) (.tmp 33) (w.heap.size + 1) (kc ZB) 39 (kc ZB) (by kernel_rfl) rfl (by kernel_rfl) (by kernel_rfl) k1 (by rw [Try.infoB]; rfl) rfl (kc_one _) ?_
    replace hL1 := hL1.bt ((Bt.refl (w.heap.size + 1) v2).row_self (kc ZB)) hn1
    replace hcw := hcw.bt ((Bt.refl (w.heap.size + 1) v2).row_self (kc ZB)) (show w.heap.size ≤ w.heap.size + 1 by omega)
    replace k1 := setRow_heap v2 (w.heap.size + 1) (kc ZB) (kc ZB) 39 (0, 0) k1
    generalize World.setRow _ _ _ = v3 at *
    simp only [Act.put, List.setIfInBounds_toArray, List.set_cons_zero, List.set_cons_succ, List.getElem_toArray, List.getElem_cons_zero, List.getElem_cons_succ]
    (refine wpList_step fun K hK => ?_; replace hK := hide hK; go_simp; refine unhide hK _ _ ?_; clear hK K)
    refine wpList_nil ?_
    have hP : Hid (Lies F1 gd (D.opD o) _ ∧ Chg F F1 w _) := ⟨by rw [(unhide hop).1]; exact hL1, hcw⟩
    have hR1 := hide (k1)
    clear hB
    go_wp2_with fail
    rw [unhide hT]
    exact bodyPost_ret (v := .tuple #[.agg (kc ZB), .int .i64 e]) (results_cell_tmp Try.results13 _ _ (w.heap.size + 1) 39 (kc ZB) (0, 0) _ rfl (.int .i64 e) rfl (unhide hR1) Try.underlying39 rfl (by rw [Try.infoB, kc_size, ZB_len])) rfl ⟨F1, by rw [(unhide hop).2.1, (unhide hop).2.2, ← unhide he], (unhide hP).1, (unhide hP).2⟩
  · skip
    have hop : Hid (D.opD o = D.crashD o.keep ∧ D.opB o = ZB ∧ D.opE o = 0) := ⟨by unfold Dk.opD; rw [← hkk] <;> rfl, by unfold Dk.opB; rw [← hkk] <;> rfl, by unfold Dk.opE; rw [← hkk] <;> rfl⟩
    replace hkk := hide hkk
    replace hB := hide hB
    go_upto_region 10 with fail
    replace hB := unhide hB
    refine wp_region_lit ?_
    refine list_val (.agg (kc ZB)) (by kernel_rfl) (by kernel_rfl) ?_
    simp only [Act.put, List.setIfInBounds_toArray, List.set_cons_zero, List.set_cons_succ, List.getElem_toArray, List.getElem_cons_zero, List.getElem_cons_succ]
    refine list_val (.pointer (some ⟨gd, 0, none⟩)) (by kernel_rfl) (by kernel_rfl) ?_
    simp only [Act.put, List.setIfInBounds_toArray, List.set_cons_zero, List.set_cons_succ, List.getElem_toArray, List.getElem_cons_zero, List.getElem_cons_succ]
    refine list_val (.pointer (some ⟨w.heap.size, 3, none⟩)) (by kernel_rfl) (by kernel_rfl) ?_
    simp only [Act.put, List.setIfInBounds_toArray, List.set_cons_zero, List.set_cons_succ, List.getElem_toArray, List.getElem_cons_zero, List.getElem_cons_succ]
    refine list_val (.slice ka kn kp) (by kernel_rfl) (exec_sk _ (.tmp 40) rfl (w.heap.size) 3 (by kernel_rfl) ka kn kp (cell_of (hB.get 0 (x := ⟨w.heap.size, opv o ka kn kp, 37⟩) rfl) (i := 3) rfl)) ?_
    simp only [Act.put, List.setIfInBounds_toArray, List.set_cons_zero, List.set_cons_succ, List.getElem_toArray, List.getElem_cons_zero, List.getElem_cons_succ]
    refine list_call 32 #[.slice ka kn kp] (by kernel_rfl) (by kernel_rfl) ((keeps_ok o.keep ka kn kp (by have h1 := (unhide ho).kl; have h2 := (unhide hK).len; omega) _ ((unhide hK).gr hB.gr)).mono ?_)
    rintro r v2 ⟨a2, c2, rfl, hK2, hf2, hg⟩
    refine ⟨_, rfl, ?_⟩
    have hsz := hB.gr.size
    have hn2 : ∀ i ∈ F, blkOf a2 ≠ some i := fun i hi e => by
      rcases hf2 i e with h | h
      · cases h
      · have := hFl i hi; omega
    replace hB := hB.more hg
    clear hg hf2 hsz
    simp only [Act.put, List.setIfInBounds_toArray, List.set_cons_zero, List.set_cons_succ, List.getElem_toArray, List.getElem_cons_zero, List.getElem_cons_succ]
    refine list_call 25 #[.pointer (some ⟨gd, 0, none⟩), .slice a2 kn c2] (by kernel_rfl) (by kernel_rfl) ((dcrash_ok F gd m D (unhide hD) hm o.keep a2 kn c2 _ ((unhide hL).gr hB.gr) hK2 hn2).mono ?_)
    rintro r v3 ⟨F1, rfl, hL1, hch⟩
    refine ⟨_, rfl, ?_⟩
    have hlt1 := lt_of_block (hB.get 1 (x := ⟨w.heap.size + 1, kc ZB, 39⟩) rfl)
    dsimp only at hlt1
    have k1 := hch.blk (hB.get 1 (x := ⟨w.heap.size + 1, kc ZB, 39⟩) rfl) (hnF _ (by show w.heap.size ≤ w.heap.size + 1; omega))
    have hn1 : w.heap.size + 1 ∉ F1 := fun hm_ => by
      rcases hch.new _ hm_ with h | h
      · exact hnF _ (by omega) h
      · omega
    have hcw := hB.gr.chg hch
    dsimp only at k1
    clear hlt1 hch
    clear hK2 hn2
    simp only [Act.put, List.setIfInBounds_toArray, List.set_cons_zero, List.set_cons_succ, List.getElem_toArray, List.getElem_cons_zero, List.getElem_cons_succ]
    refine list_store 39 (.tmp 4) (.tmp 38) (w.heap.size + 1) (kc ZB) 39 (kc ZB) (by kernel_rfl) rfl (by kernel_rfl) (by kernel_rfl) k1 (by rw [Try.infoB]; rfl) rfl (kc_one _) ?_
    replace hL1 := hL1.bt ((Bt.refl (w.heap.size + 1) v3).row_self (kc ZB)) hn1
    replace hcw := hcw.bt ((Bt.refl (w.heap.size + 1) v3).row_self (kc ZB)) (show w.heap.size ≤ w.heap.size + 1 by omega)
    replace k1 := setRow_heap v3 (w.heap.size + 1) (kc ZB) (kc ZB) 39 (0, 0) k1
    generalize World.setRow _ _ _ = v4 at *
    simp only [Act.put, List.setIfInBounds_toArray, List.set_cons_zero, List.set_cons_succ, List.getElem_toArray, List.getElem_cons_zero, List.getElem_cons_succ]
    (refine wpList_step fun K hK => ?_; replace hK := hide hK; go_simp; refine unhide hK _ _ ?_; clear hK K)
    refine wpList_nil ?_
    have hP : Hid (Lies F1 gd (D.opD o) _ ∧ Chg F F1 w _) := ⟨by rw [(unhide hop).1]; exact hL1, hcw⟩
    have hR1 := hide (k1)
    clear hB
    go_wp2_with fail
    rw [unhide hT]
    exact bodyPost_ret (v := .tuple #[.agg (kc ZB), .int .i64 0]) (results_cell_tmp Try.results13 _ _ (w.heap.size + 1) 39 (kc ZB) (0, 0) _ rfl (.int .i64 0) rfl (unhide hR1) Try.underlying39 rfl (by rw [Try.infoB, kc_size, ZB_len])) rfl ⟨F1, by rw [(unhide hop).2.1, (unhide hop).2.2], (unhide hP).1, (unhide hP).2⟩
end Go.Proofs.Ythgchjdjacbcgaa
