/-
  Layer 14: announcements are got.
-/
import Derived.Test.YtiejdpodffkdpaaFL
namespace Go.Proofs.Ytiejdpodffkdpaa
open Go.RowKit
set_option maxRecDepth 100000
set_option linter.unusedSimpArgs false
set_option linter.unusedVariables false
/-- a Reader's cells, its error told -/
def rdx (k : Nat) (e : Int) (p n c : Nat) : Array Value := #[.int .i64 (k : Int), .int .i64 e, .slice (some ⟨p, 0, none⟩) n c]
theorem rdr_rdx (k p n c : Nat) : rdr k p n c = rdx k 0 p n c := rfl
set_option maxHeartbeats 4000000 in
theorem rerrx_ok (g p n c k : Nat) (e : Int) (w : World) (hc : w.heap[g]? = some (.cells (rdx k e p n c) 70 (0, 0))) : Calls Try.prog 39 #[P0 g] w (Vl (.int .i64 e) w) := by
  obtain ⟨T, hT⟩ : ∃ T, T = Vl (.int .i64 e) w := ⟨_, rfl⟩
  rw [← hT]
  replace hT := hide hT
  replace hc := hide hc
  go_enter Try.func39, Try.ntmps39
  go_upto_region 3 with fail
  refine wp_region_lit ?_
  refine list_val (.pointer (some ⟨g, 0, none⟩)) (by kernel_rfl) (by kernel_rfl) ?_
  simp only [Act.put, List.setIfInBounds_toArray, List.set_cons_zero, List.set_cons_succ, List.getElem_toArray, List.getElem_cons_zero, List.getElem_cons_succ]
  refine list_val (.pointer (some ⟨g, 0, none⟩)) (by kernel_rfl) (by kernel_rfl) ?_
  simp only [Act.put, List.setIfInBounds_toArray, List.set_cons_zero, List.set_cons_succ, List.getElem_toArray, List.getElem_cons_zero, List.getElem_cons_succ]
  refine list_val (.pointer (some ⟨g, 0, none⟩)) (by kernel_rfl) (by kernel_rfl) ?_
  simp only [Act.put, List.setIfInBounds_toArray, List.set_cons_zero, List.set_cons_succ, List.getElem_toArray, List.getElem_cons_zero, List.getElem_cons_succ]
  refine list_val (.pointer (some ⟨g, 1, none⟩)) (by kernel_rfl) (by kernel_rfl) ?_
  simp only [Act.put, List.setIfInBounds_toArray, List.set_cons_zero, List.set_cons_succ, List.getElem_toArray, List.getElem_cons_zero, List.getElem_cons_succ]
  refine list_val (.int .i64 e) (by kernel_rfl) (exec_err _ (.tmp 8) rfl g 1 (by kernel_rfl) e (cell_of (unhide hc) (i := 1) rfl)) ?_
  simp only [Act.put, List.setIfInBounds_toArray, List.set_cons_zero, List.set_cons_succ, List.getElem_toArray, List.getElem_cons_zero, List.getElem_cons_succ]
  (refine wpList_step fun K hK => ?_; replace hK := hide hK; go_simp; refine unhide hK _ _ ?_; clear hK K)
  refine wpList_nil ?_
  have hZ : Hid (Vl (.int .i64 e) w (.returned (.int .i64 e)) w) := ⟨rfl, Gr.refl w⟩
  go_wp2_with fail
  rw [unhide hT]
  exact unhide hZ
set_option maxHeartbeats 4000000 in
theorem rtake_bad (g p n c k : Nat) (e : Int) (hk : k ≤ n) (hn : n ≤ 100000) (he : e ≠ 0 ∨ n < k + 32) (w : World) (hc : w.heap[g]? = some (.cells (rdx k e p n c) 70 (0, 0))) : Calls Try.prog 37 #[P0 g, .int .i64 32] w (fun r w' => r = .returned (.slice none 0 0) ∧ (∃ e', w'.heap[g]? = some (.cells (rdx k e' p n c) 70 (0, 0))) ∧ Bt g w w') := by
  obtain ⟨T, hT⟩ : ∃ T : Ending → World → Prop, T = fun r w' => r = .returned (.slice none 0 0) ∧ (∃ e', w'.heap[g]? = some (.cells (rdx k e' p n c) 70 (0, 0))) ∧ Bt g w w' := ⟨_, rfl⟩
  rw [← hT]
  replace hT := hide hT
  replace hc := hide hc
  go_enter Try.func37, Try.ntmps37
  go_upto_region 1 with fail
  by_cases he0 : e = 0
  · skip
    subst he0
    have hkn : n < k + 32 := he.resolve_left (by simp)
    clear he
    refine wp_region_lit ?_
    refine list_val (.pointer (some ⟨g, 0, none⟩)) (by kernel_rfl) (by kernel_rfl) ?_
    simp only [Act.put, List.setIfInBounds_toArray, List.set_cons_zero, List.set_cons_succ, List.getElem_toArray, List.getElem_cons_zero, List.getElem_cons_succ]
    refine list_call 39 #[P0 g] (by kernel_rfl) (by kernel_rfl) ((rerrx_ok g p n c k 0 w (unhide hc)).mono ?_)
    rintro r u1 ⟨rfl, hg1⟩
    replace hc := hide (hg1.blk (unhide hc))
    replace hg1 := hide hg1
    refine ⟨_, rfl, ?_⟩
    simp only [Act.put, List.setIfInBounds_toArray, List.set_cons_zero, List.set_cons_succ, List.getElem_toArray, List.getElem_cons_zero, List.getElem_cons_succ]
    refine list_val (.bool false) (by kernel_rfl) (by kernel_rfl) ?_
    simp only [Act.put, List.setIfInBounds_toArray, List.set_cons_zero, List.set_cons_succ, List.getElem_toArray, List.getElem_cons_zero, List.getElem_cons_succ]
    refine wpList_nil ?_
    go_upto_region 6 with fail
    refine wp_region_lit ?_
    refine list_val (.int .i64 32) (by kernel_rfl) (by kernel_rfl) ?_
    simp only [Act.put, List.setIfInBounds_toArray, List.set_cons_zero, List.set_cons_succ, List.getElem_toArray, List.getElem_cons_zero, List.getElem_cons_succ]
    refine list_val (.pointer (some ⟨g, 0, none⟩)) (by kernel_rfl) (by kernel_rfl) ?_
    simp only [Act.put, List.setIfInBounds_toArray, List.set_cons_zero, List.set_cons_succ, List.getElem_toArray, List.getElem_cons_zero, List.getElem_cons_succ]
    refine list_call 27 #[P0 g] (by kernel_rfl) (by kernel_rfl) ((rleft_ok g p n c k hk hn u1 (unhide hc)).mono ?_)
    rintro r u2 ⟨rfl, hg2⟩
    replace hc := hide (hg2.blk (unhide hc))
    replace hg1 := hide ((unhide hg1).trans hg2)
    clear hg2
    obtain ⟨j, hj⟩ : ∃ j, j = n - k := ⟨_, rfl⟩
    rw [← hj]
    have hj32 : (j : Int) < 32 := by omega
    clear hj
    refine ⟨_, rfl, ?_⟩
    simp only [Act.put, List.setIfInBounds_toArray, List.set_cons_zero, List.set_cons_succ, List.getElem_toArray, List.getElem_cons_zero, List.getElem_cons_succ]
    refine list_val (.bool true) (by kernel_rfl) (by go_simp) ?_
    simp only [Act.put, List.setIfInBounds_toArray, List.set_cons_zero, List.set_cons_succ, List.getElem_toArray, List.getElem_cons_zero, List.getElem_cons_succ]
    refine wpList_nil ?_
    go_upto_region 7 with fail
    refine wp_region_lit ?_
    refine list_val (.pointer (some ⟨g, 0, none⟩)) (by kernel_rfl) (by kernel_rfl) ?_
    simp only [Act.put, List.setIfInBounds_toArray, List.set_cons_zero, List.set_cons_succ, List.getElem_toArray, List.getElem_cons_zero, List.getElem_cons_succ]
    refine list_val (.pointer (some ⟨g, 0, none⟩)) (by kernel_rfl) (by kernel_rfl) ?_
    simp only [Act.put, List.setIfInBounds_toArray, List.set_cons_zero, List.set_cons_succ, List.getElem_toArray, List.getElem_cons_zero, List.getElem_cons_succ]
    refine list_val (.pointer (some ⟨g, 0, none⟩)) (by kernel_rfl) (by kernel_rfl) ?_
    simp only [Act.put, List.setIfInBounds_toArray, List.set_cons_zero, List.set_cons_succ, List.getElem_toArray, List.getElem_cons_zero, List.getElem_cons_succ]
    refine list_val (.pointer (some ⟨g, 1, none⟩)) (by kernel_rfl) (by kernel_rfl) ?_
    simp only [Act.put, List.setIfInBounds_toArray, List.set_cons_zero, List.set_cons_succ, List.getElem_toArray, List.getElem_cons_zero, List.getElem_cons_succ]
    have c4 := cell_of (unhide hc) (i := 1) rfl
    have fz := froz_of (i := 1) (unhide hc)
    have hcg : (u2.setCell ⟨g, 1, none⟩ (.int .i64 110)).heap[g]? = some (.cells (rdx k 110 p n c) 70 (0, 0)) := setCells_heap [.int .i64 110] u2 g 1 (rdx k 0 p n c).toList 70 (unhide hc)
    have hbt := setCell_bt u2 g 1 (.int .i64 110)
    have hZ : Hid (T (.returned (.slice none 0 0)) (u2.setCell ⟨g, 1, none⟩ (.int .i64 110))) := by
      rw [unhide hT]
      exact ⟨rfl, ⟨110, hcg⟩, ((unhide hg1).bt g).trans hbt⟩
    clear hcg hbt
    (refine wpList_step fun K hK => ?_; replace hK := hide hK; go_simp; refine unhide hK _ _ ?_; clear hK K)
    clear c4 fz
    generalize World.setCell _ _ _ = u3 at *
    refine wpList_nil ?_
    go_wp2_with fail
    exact unhide hZ
  · skip
    refine wp_region_lit ?_
    refine list_val (.pointer (some ⟨g, 0, none⟩)) (by kernel_rfl) (by kernel_rfl) ?_
    simp only [Act.put, List.setIfInBounds_toArray, List.set_cons_zero, List.set_cons_succ, List.getElem_toArray, List.getElem_cons_zero, List.getElem_cons_succ]
    refine list_call 39 #[P0 g] (by kernel_rfl) (by kernel_rfl) ((rerrx_ok g p n c k e w (unhide hc)).mono ?_)
    rintro r u1 ⟨rfl, hg1⟩
    replace hc := hide (hg1.blk (unhide hc))
    replace hg1 := hide hg1
    refine ⟨_, rfl, ?_⟩
    simp only [Act.put, List.setIfInBounds_toArray, List.set_cons_zero, List.set_cons_succ, List.getElem_toArray, List.getElem_cons_zero, List.getElem_cons_succ]
    refine list_val (.bool true) (by kernel_rfl) (by go_simp) ?_
    simp only [Act.put, List.setIfInBounds_toArray, List.set_cons_zero, List.set_cons_succ, List.getElem_toArray, List.getElem_cons_zero, List.getElem_cons_succ]
    refine wpList_nil ?_
    have hZ : Hid (T (.returned (.slice none 0 0)) u1) := by
      rw [unhide hT]
      exact ⟨rfl, ⟨e, unhide hc⟩, (unhide hg1).bt g⟩
    go_wp2_with fail
    exact unhide hZ
set_option maxHeartbeats 4000000 in
theorem rkey_bad (g p n c k : Nat) (e : Int) (hk : k ≤ n) (hn : n ≤ 100000) (he : e ≠ 0 ∨ n < k + 32) (w : World) (hc : w.heap[g]? = some (.cells (rdx k e p n c) 70 (0, 0))) : Calls Try.prog 24 #[P0 g] w (fun r w' => r = .returned (.agg (kc Z32)) ∧ (∃ e', w'.heap[g]? = some (.cells (rdx k e' p n c) 70 (0, 0))) ∧ Bt g w w') := by
  obtain ⟨T, hT⟩ : ∃ T : Ending → World → Prop, T = fun r w' => r = .returned (.agg (kc Z32)) ∧ (∃ e', w'.heap[g]? = some (.cells (rdx k e' p n c) 70 (0, 0))) ∧ Bt g w w' := ⟨_, rfl⟩
  rw [← hT]
  replace hT := hide hT
  have hgl := lt_of_block hc
  replace hc := hide hc
  go_enter Try.func24, Try.ntmps24
  go_upto_region 2 with fail
  have hB := (((Bl.nil w).new #[.int .u8 0, .int .u8 0, .int .u8 0, .int .u8 0, .int .u8 0, .int .u8 0, .int .u8 0, .int .u8 0, .int .u8 0, .int .u8 0, .int .u8 0, .int .u8 0, .int .u8 0, .int .u8 0, .int .u8 0, .int .u8 0, .int .u8 0, .int .u8 0, .int .u8 0, .int .u8 0, .int .u8 0, .int .u8 0, .int .u8 0, .int .u8 0, .int .u8 0, .int .u8 0, .int .u8 0, .int .u8 0, .int .u8 0, .int .u8 0, .int .u8 0, .int .u8 0] 30).new #[.int .u8 0, .int .u8 0, .int .u8 0, .int .u8 0, .int .u8 0, .int .u8 0, .int .u8 0, .int .u8 0, .int .u8 0, .int .u8 0, .int .u8 0, .int .u8 0, .int .u8 0, .int .u8 0, .int .u8 0, .int .u8 0, .int .u8 0, .int .u8 0, .int .u8 0, .int .u8 0, .int .u8 0, .int .u8 0, .int .u8 0, .int .u8 0, .int .u8 0, .int .u8 0, .int .u8 0, .int .u8 0, .int .u8 0, .int .u8 0, .int .u8 0, .int .u8 0] 30)
  simp only [size_alloc, List.nil_append, List.cons_append] at hB
  generalize World.alloc _ _ = u at *
  replace hB : Bl w [⟨w.heap.size, kc Z32, 30⟩, ⟨w.heap.size + 1, kc Z32, 30⟩] u := hB
  have hk0 := (hB.get 0 (x := ⟨w.heap.size, kc Z32, 30⟩) rfl)
  have hk1 := (hB.get 1 (x := ⟨w.heap.size + 1, kc Z32, 30⟩) rfl)
  have hg0 := hB.gr
  have hsz := lt_of_block hk1
  dsimp only at hk0 hk1 hsz
  clear hB
  obtain ⟨h0, e0⟩ : ∃ h, h = w.heap.size := ⟨_, rfl⟩
  obtain ⟨h1, e1⟩ : ∃ h, h = w.heap.size + 1 := ⟨_, rfl⟩
  rw [← e0] at hk0
  rw [← e1] at hk1
  rw [← e1, ← e0]
  have hn0 : h0 ≠ g := by omega
  have hn1 : h1 ≠ g := by omega
  have hgn0 : g ≠ h0 := by omega
  have hlow0 : w.heap.size ≤ h0 := by omega
  clear hgl hsz e0 e1
  replace hc := hide (hg0.blk (unhide hc))
  replace hk0 := hide hk0; replace hk1 := hide hk1; replace hg0 := hide hg0
  refine any_start (S := fun _ => True) (by kernel_rfl) ?_
  have hdr := (Gr.refl u).drew
  replace hc := hide (hdr.blk (unhide hc))
  replace hk0 := hide (hdr.blk (unhide hk0))
  replace hk1 := hide (hdr.blk (unhide hk1))
  replace hg0 := hide ((unhide hg0).trans hdr)
  clear hdr
  generalize World.drew _ = x0 at *
  simp only [List.size_toArray, List.length_cons, List.length_nil, Array.replicate, List.replicate]
  refine any_take (i := 0) (v := (.slice (some ⟨h1, 0, none⟩) 32 32)) #[false, false, false, false] rfl (by kernel_rfl) (by kernel_rfl) (by kernel_rfl) (by kernel_rfl) (fun _ _ _ h => h) (.inl ⟨by kernel_rfl, fun x_ hu => by kernel_rfl⟩) trivial ?_
  simp only [Act.put, List.setIfInBounds_toArray, List.set_cons_zero, List.set_cons_succ, List.getElem_toArray, List.getElem_cons_zero, List.getElem_cons_succ]
  refine any_take (i := 1) (v := (.pointer (some ⟨g, 0, none⟩))) #[true, false, false, false] rfl (by kernel_rfl) (by kernel_rfl) (by kernel_rfl) (by kernel_rfl) (fun _ _ _ h => h) (.inl ⟨by kernel_rfl, fun x_ hu => by kernel_rfl⟩) trivial ?_
  simp only [Act.put, List.setIfInBounds_toArray, List.set_cons_zero, List.set_cons_succ, List.getElem_toArray, List.getElem_cons_zero, List.getElem_cons_succ]
  refine any_one (i := 2) (by kernel_rfl) rfl (fun K_ hQ => ?_)
  refine step_callw (by kernel_rfl) 37 #[P0 g, .int .i64 32] (by kernel_rfl) ((rtake_bad g p n c k e hk hn he x0 (unhide hc)).mono ?_)
  rintro r u1 ⟨rfl, ⟨e2, hc2⟩, hb1⟩
  refine ⟨_, rfl, ?_⟩
  replace hk0 := hide (hb1.blk (unhide hk0) hn0)
  replace hk1 := hide (hb1.blk (unhide hk1) hn1)
  replace hc := hide hc2
  clear hc2
  replace hb1 := hide hb1
  refine hQ.out _ _ trivial (fun _ => ?_)
  clear hQ K_
  simp only [Act.put, List.setIfInBounds_toArray, List.set_cons_zero, List.set_cons_succ, List.getElem_toArray, List.getElem_cons_zero, List.getElem_cons_succ]
  refine any_one (i := 3) (by kernel_rfl) rfl (fun K_ hQ => ?_)
  rw [if_pos (by kernel_rfl)]
  refine copy_wp (.tmp 4) (.tmp 6) rfl h1 0 32 32 none 0 0 (by kernel_rfl) (by kernel_rfl) (bv Z32) 30 (unhide hk1) [] rfl (.inl rfl) (by decide) ?_
  have hb2 : Bt g w u1 := by
    have hg0 := unhide hg0; have hb1 := unhide hb1
    exact (hg0.bt g).trans hb1
  replace hb1 := hide hb2
  clear hb2 hg0
  have e5 : u1.setCells h1 0 (([] : List Int).map (Value.int .u8)) = u1 := rfl
  rw [e5]
  refine hQ.out _ _ trivial (fun _ => ?_)
  clear hQ K_ e5
  simp only [Act.put, List.setIfInBounds_toArray, List.set_cons_zero, List.set_cons_succ, List.getElem_toArray, List.getElem_cons_zero, List.getElem_cons_succ]
  refine any_done (by kernel_rfl) ?_
  go_upto_region 3 with fail
  refine wp_region_lit ?_
  refine list_val (.agg (kc Z32)) (by kernel_rfl) (exec_arr _ 30 (.tmp 3) rfl h1 (by kernel_rfl) (kc Z32) 30 _ (unhide hk1) Try.underlying30 rfl (by rw [Try.infoKy]; rfl)) ?_
  simp only [Act.put, List.setIfInBounds_toArray, List.set_cons_zero, List.set_cons_succ, List.getElem_toArray, List.getElem_cons_zero, List.getElem_cons_succ]
  refine list_store 30 (.tmp 2) (.tmp 8) h0 (kc Z32) 30 (kc Z32) (by kernel_rfl) rfl (by kernel_rfl) (by kernel_rfl) (unhide hk0) (by rw [Try.infoKy]; rfl) rfl (kc_one _) ?_
  have hbt := setRow_bt u1 h0 (kc Z32)
  have hk_ := setRow_heap u1 h0 _ (kc Z32) 30 (0, 0) (unhide hk0)
  have hP : Hid (T (.returned (.agg (kc Z32))) (u1.setRow h0 (kc Z32))) := by
    rw [unhide hT]
    refine ⟨rfl, ⟨e2, hbt.blk (unhide hc) hgn0⟩, ?_⟩
    have hb1 := unhide hb1
    exact ⟨hbt.os.trans hb1.os, hbt.tape.trans hb1.tape, hbt.output.trans hb1.output, Nat.le_trans hb1.size hbt.size, fun i hi hne => by
      have s2 := hb1.size
      rw [hbt.block i (by omega) (by omega), hb1.block i hi hne]⟩
  generalize World.setRow _ _ _ = u3 at *
  replace hk_ := hide hk_
  clear hbt
  simp only [Act.put, List.setIfInBounds_toArray, List.set_cons_zero, List.set_cons_succ, List.getElem_toArray, List.getElem_cons_zero, List.getElem_cons_succ]
  refine wpList_nil ?_
  go_wp2_with fail
  exact bodyPost_ret (v := .agg (kc Z32)) (results_cell_row Try.results24 _ _ h0 30 (kc Z32) (0, 0) _ rfl (unhide hk_) Try.underlying30 rfl (by rw [Try.infoKy]; rfl)) rfl (unhide hP)
def kyO (L : List Int) (i : Nat) : List Int := if i < 3 then (L.drop (10 + 32 * i)).take 32 else Z32
def ksO (L : List Int) (n : Nat) : List (List Int) := (List.range n).map (kyO L)
structure RS (g p c : Nat) (L : List Int) (j : Nat) (v : World) : Prop where
  few : j ≤ 3 → Rdr g p 106 c (10 + 32 * j) L v
  many : 3 ≤ j → ∃ e, v.heap[g]? = some (.cells (rdx 106 e p 106 c) 70 (0, 0))
  any : ∃ C, v.heap[g]? = some (.cells C 70 (0, 0))
theorem RS.gr {g p c : Nat} {L : List Int} {j : Nat} {u v : World} (h : RS g p c L j u) (e : Gr u v) : RS g p c L j v :=
  ⟨fun hj => (h.few hj).gr e, fun hj => by obtain ⟨x, hx⟩ := h.many hj; exact ⟨x, e.blk hx⟩, by obtain ⟨x, hx⟩ := h.any; exact ⟨x, e.blk hx⟩⟩
theorem RS.bt {g p c : Nat} {L : List Int} {j : Nat} {u v : World} {q : Nat} (h : RS g p c L j u) (e : Bt q u v) (h1 : g ≠ q) (h2 : p ≠ q) : RS g p c L j v :=
  ⟨fun hj => (h.few hj).bt e h1 h2, fun hj => by obtain ⟨x, hx⟩ := h.many hj; exact ⟨x, e.blk hx h1⟩, by obtain ⟨x, hx⟩ := h.any; exact ⟨x, e.blk hx h1⟩⟩
theorem rkey_step (g p c j : Nat) (L : List Int) (w : World) (h : RS g p c L j w) : Calls Try.prog 24 #[P0 g] w (fun r w' => r = .returned (.agg (kc (kyO L j))) ∧ RS g p c L (j + 1) w' ∧ Bt g w w') := by
  by_cases hj : j < 3
  · refine (rkey_ok g p 106 c (10 + 32 * j) L w (h.few (by omega)) (by omega) (by omega)).mono ?_
    rintro r u ⟨rfl, hR, hb⟩
    have hR2 : Rdr g p 106 c (10 + 32 * (j + 1)) L u := by
      rw [show 10 + 32 * (j + 1) = 10 + 32 * j + 32 from by omega]
      exact hR
    refine ⟨by unfold kyO; rw [if_pos hj], ⟨fun _ => hR2, fun h3 => ?_, _, hR2.cel⟩, hb⟩
    have e : 10 + 32 * (j + 1) = 106 := by omega
    rw [e] at hR2
    exact ⟨0, hR2.cel⟩
  · obtain ⟨e, he⟩ := h.many (by omega)
    refine (rkey_bad g p 106 c 106 e (by omega) (by omega) (.inr (by omega)) w he).mono ?_
    rintro r u ⟨rfl, ⟨e2, he2⟩, hb⟩
    exact ⟨by unfold kyO; rw [if_neg hj], ⟨fun h3 => absurd h3 (by omega), fun _ => ⟨e2, he2⟩, _, he2⟩, hb⟩
theorem kyO_ok {L : List Int} (hl : L.length = 106) (hb : IsB L) (i : Nat) : (kyO L i).length = 32 ∧ IsB (kyO L i) := by
  unfold kyO
  split
  · exact ⟨sub_len hl (by omega), sub_isB hb _ _⟩
  · exact ⟨rfl, fun x hx => by have := List.eq_of_mem_replicate hx; omega⟩
theorem ksO_succ (L : List Int) (n : Nat) : ksO L (n + 1) = ksO L n ++ [kyO L n] := by unfold ksO; rw [List.range_succ, List.map_append]; rfl
theorem ksO_len (L : List Int) (n : Nat) : (ksO L n).length = n := by unfold ksO; simp
theorem ksO_ok {L : List Int} (hl : L.length = 106) (hb : IsB L) (n : Nat) : KsOk (ksO L n) := fun k hk => by
  unfold ksO at hk
  obtain ⟨i, _, rfl⟩ := List.mem_map.1 hk
  exact kyO_ok hl hb i
theorem list32 : ∀ (M : List Int), M.length = 32 → ∃ x0 x1 x2 x3 x4 x5 x6 x7 x8 x9 x10 x11 x12 x13 x14 x15 x16 x17 x18 x19 x20 x21 x22 x23 x24 x25 x26 x27 x28 x29 x30 x31, M = [x0, x1, x2, x3, x4, x5, x6, x7, x8, x9, x10, x11, x12, x13, x14, x15, x16, x17, x18, x19, x20, x21, x22, x23, x24, x25, x26, x27, x28, x29, x30, x31]
  | [x0, x1, x2, x3, x4, x5, x6, x7, x8, x9, x10, x11, x12, x13, x14, x15, x16, x17, x18, x19, x20, x21, x22, x23, x24, x25, x26, x27, x28, x29, x30, x31], _ => ⟨_, _, _, _, _, _, _, _, _, _, _, _, _, _, _, _, _, _, _, _, _, _, _, _, _, _, _, _, _, _, _, _, rfl⟩
theorem Try.infoKz : (Try.prog.info? 30).map (fun i => (i.zero, i.size, i.bytes)) = some (some (.agg (kc Z32)), 32, 32) := by kernel_rfl
theorem exec_bk1 {a : Act} {o : Oper} (w : World) (x : Operand) (ho : o.op = .buildSlice 23 1 #[(0, x)]) (b : List Int) (hb : b.length = 32) (hx : a.eval x = .agg (kc b)) :
    (execOp a.eval o).run Try.prog w = .ok (.value (.slice (some ⟨w.heap.size, 0, none⟩) 1 1)) (w.alloc (.cells (kc b) 30 (0, 0))) := by
  obtain ⟨x0, x1, x2, x3, x4, x5, x6, x7, x8, x9, x10, x11, x12, x13, x14, x15, x16, x17, x18, x19, x20, x21, x22, x23, x24, x25, x26, x27, x28, x29, x30, x31, rfl⟩ := list32 b hb
  obtain ⟨i0, h1, h2, h3, h4⟩ := info_parts Try.infoKz
  have h := run_buildSlice (P := Try.prog) w 23 30 1 #[(0, .agg (kc [x0, x1, x2, x3, x4, x5, x6, x7, x8, x9, x10, x11, x12, x13, x14, x15, x16, x17, x18, x19, x20, x21, x22, x23, x24, x25, x26, x27, x28, x29, x30, x31]))] (kc [x0, x1, x2, x3, x4, x5, x6, x7, x8, x9, x10, x11, x12, x13, x14, x15, x16, x17, x18, x19, x20, x21, x22, x23, x24, x25, x26, x27, x28, x29, x30, x31]) i0 (.agg (kc Z32)) Try.underlying23 h1 h2 (by rw [h3]; decide) (by rw [h3]; decide) (by rw [h3]; kernel_rfl)
  unfold execOp
  simp only [ho, List.map_toArray, List.map_cons, List.map_nil, hx, Sem.run_bind, h, Result.andThen_ok, Sem.run_pure]
theorem lt_k : Lt 23 30 32 32 := by
  obtain ⟨i, h1, h2, h3, h4⟩ := info_parts Try.infoKz
  exact ⟨Try.underlying23, ⟨i, _, h1, h2, h3, h4, rfl⟩, by decide, by decide⟩
theorem or_ne {k : Nat} {e : TypeId} {b : Nat} {w : World} {v : Value} {R : List (List Value)} (h : Or_ k e b w v R) {g : Nat} {C : Array Value} {t : TypeId} (hg : w.heap[g]? = some (.cells C t (0, 0))) (hne : t ≠ e) : some g ≠ v.ownBlock := by
  intro e1
  rcases h.2.2 with ⟨e2, _⟩ | ⟨q, cap, cur, e2, _, h3, _⟩
  · rw [e2] at e1; cases e1
  · rw [e2] at e1
    injection e1 with e1
    dsimp only at e1
    rw [e1, h3] at hg
    injection hg with hg
    injection hg with _ hg _
    exact hne hg.symm
theorem or_bt2 {k : Nat} {e : TypeId} {b : Nat} {u v : World} {x : Value} {R : List (List Value)} (h : Or_ k e b u x R) {g : Nat} {C : Array Value} {t : TypeId} (hg : u.heap[g]? = some (.cells C t (0, 0))) (hne : t ≠ e) (hb : Bt g u v) : Or_ k e b v x R := by
  obtain ⟨a, c, rfl, _⟩ := h.ls
  refine or_keep h (fun i hi => ?_)
  obtain ⟨cur, hcur⟩ := or_blk_lt h hi
  refine hb.block i (lt_of_block hcur) (fun e1 => ?_)
  rw [e1, hg] at hcur
  injection hcur with hcur
  injection hcur with _ hcur _
  exact hne hcur
end Go.Proofs.Ytiejdpodffkdpaa
