/-
  Of layer 12: what the proof leans on.
-/
import Derived.Test.YtaoiejgjdmakjabDoorForgesK10
namespace Go.Proofs.YtaoiejgjdmakjabDoor
open Go.RowKit
set_option maxRecDepth 100000
set_option linter.unusedSimpArgs false
set_option linter.unusedVariables false
theorem usd_two : usd [[120]] = 2 := by decide
set_option maxHeartbeats 4000000 in
theorem wakes12_ok (w : World) (hf : Fst w) : Calls Tryd.prog 5 #[] w (Vl (.bool true) w) := by
  obtain ⟨T, hT⟩ : ∃ T, T = Vl (.bool true) w := ⟨_, rfl⟩
  rw [← hT]
  replace hT := hide hT
  replace hf := hide hf
  go_enter Tryd.func5, Tryd.ntmps5
  go_upto_region 1 with fail
  refine wp_region_lit ?_
  refine list_call 6 #[.int .i64 0] (by kernel_rfl) (by kernel_rfl) ((store_ok 0 w (unhide hf)).mono ?_)
  rintro r u1 ⟨F, G, gs, gd, D, rfl, hXs, hwd, hDz⟩
  obtain ⟨s1, s2, s3, s4⟩ := sup0_is
  have hz := stz_bd 0
  generalize stz 0 = zz at *
  generalize sup0 = S0 at *
  have hs0 : S0.turn = 0 := by omega
  clear s1 s2 s3 s4
  refine ⟨_, rfl, ?_⟩
  replace hXs := hide hXs; replace hwd := hide hwd; replace hDz := hide hDz
  simp only [Act.put, List.setIfInBounds_toArray, List.set_cons_zero, List.set_cons_succ, List.getElem_toArray, List.getElem_cons_zero, List.getElem_cons_succ]
  refine list_val (.tuple #[.pointer (some ⟨gd, 0, none⟩), .pointer (some ⟨gs, 0, none⟩)]) (by kernel_rfl) (by kernel_rfl) ?_
  simp only [Act.put, List.setIfInBounds_toArray, List.set_cons_zero, List.set_cons_succ, List.getElem_toArray, List.getElem_cons_zero, List.getElem_cons_succ]
  refine list_val (.pointer (some ⟨gd, 0, none⟩)) (by kernel_rfl) (by kernel_rfl) ?_
  simp only [Act.put, List.setIfInBounds_toArray, List.set_cons_zero, List.set_cons_succ, List.getElem_toArray, List.getElem_cons_zero, List.getElem_cons_succ]
  refine list_val (.pointer (some ⟨gs, 0, none⟩)) (by kernel_rfl) (by kernel_rfl) ?_
  simp only [Act.put, List.setIfInBounds_toArray, List.set_cons_zero, List.set_cons_succ, List.getElem_toArray, List.getElem_cons_zero, List.getElem_cons_succ]
  (refine wpList_step fun K hK => ?_; replace hK := hide hK; go_simp; refine unhide hK _ _ ?_; clear hK K)
  (refine wpList_step fun K hK => ?_; replace hK := hide hK; go_simp; refine unhide hK _ _ ?_; clear hK K)
  refine wpList_nil ?_
  go_upto_region 4 with fail
  refine wp_region_lit ?_
  refine list_val (.pointer (some ⟨gs, 0, none⟩)) (by kernel_rfl) (by kernel_rfl) ?_
  simp only [Act.put, List.setIfInBounds_toArray, List.set_cons_zero, List.set_cons_succ, List.getElem_toArray, List.getElem_cons_zero, List.getElem_cons_succ]
  skip
  refine list_call 7 #[P0 gs] (by kernel_rfl) (by kernel_rfl) ((x_open (unhide hXs) (unhide hwd) (by omega) (unhide hf)).mono ?_)
  rintro r u2 ⟨l, H, rfl, hlx, hln, hg⟩
  refine ⟨_, rfl, ?_⟩
  have hX := hide hlx
  clear hlx hln
  clear hg
  simp only [Act.put, List.setIfInBounds_toArray, List.set_cons_zero, List.set_cons_succ, List.getElem_toArray, List.getElem_cons_zero, List.getElem_cons_succ]
  refine list_val (.tuple #[.pointer (some ⟨l, 0, none⟩), .int .i64 0]) (by kernel_rfl) (by kernel_rfl) ?_
  simp only [Act.put, List.setIfInBounds_toArray, List.set_cons_zero, List.set_cons_succ, List.getElem_toArray, List.getElem_cons_zero, List.getElem_cons_succ]
  refine list_val (.pointer (some ⟨l, 0, none⟩)) (by kernel_rfl) (by kernel_rfl) ?_
  simp only [Act.put, List.setIfInBounds_toArray, List.set_cons_zero, List.set_cons_succ, List.getElem_toArray, List.getElem_cons_zero, List.getElem_cons_succ]
  refine list_val (.int .i64 0) (by kernel_rfl) (by kernel_rfl) ?_
  simp only [Act.put, List.setIfInBounds_toArray, List.set_cons_zero, List.set_cons_succ, List.getElem_toArray, List.getElem_cons_zero, List.getElem_cons_succ]
  (refine wpList_step fun K hK => ?_; replace hK := hide hK; go_simp; refine unhide hK _ _ ?_; clear hK K)
  (refine wpList_step fun K hK => ?_; replace hK := hide hK; go_simp; refine unhide hK _ _ ?_; clear hK K)
  refine wpList_nil ?_
  go_upto_region 5 with fail
  refine wp_region_lit ?_
  refine list_val (.int .i64 0) (by kernel_rfl) (by kernel_rfl) ?_
  simp only [Act.put, List.setIfInBounds_toArray, List.set_cons_zero, List.set_cons_succ, List.getElem_toArray, List.getElem_cons_zero, List.getElem_cons_succ]
  refine list_val (.bool false) (by kernel_rfl) (by kernel_rfl) ?_
  simp only [Act.put, List.setIfInBounds_toArray, List.set_cons_zero, List.set_cons_succ, List.getElem_toArray, List.getElem_cons_zero, List.getElem_cons_succ]
  refine list_val (.bool false) (by kernel_rfl) (by kernel_rfl) ?_
  simp only [Act.put, List.setIfInBounds_toArray, List.set_cons_zero, List.set_cons_succ, List.getElem_toArray, List.getElem_cons_zero, List.getElem_cons_succ]
  refine list_val (.pointer (some ⟨l, 0, none⟩)) (by kernel_rfl) (by kernel_rfl) ?_
  simp only [Act.put, List.setIfInBounds_toArray, List.set_cons_zero, List.set_cons_succ, List.getElem_toArray, List.getElem_cons_zero, List.getElem_cons_succ]
  refine list_val (.bool false) (by kernel_rfl) (by kernel_rfl) ?_
  simp only [Act.put, List.setIfInBounds_toArray, List.set_cons_zero, List.set_cons_succ, List.getElem_toArray, List.getElem_cons_zero, List.getElem_cons_succ]
  refine list_val (.bool false) (by kernel_rfl) (by kernel_rfl) ?_
  simp only [Act.put, List.setIfInBounds_toArray, List.set_cons_zero, List.set_cons_succ, List.getElem_toArray, List.getElem_cons_zero, List.getElem_cons_succ]
  refine list_val (.bool false) (by kernel_rfl) (by kernel_rfl) ?_
  simp only [Act.put, List.setIfInBounds_toArray, List.set_cons_zero, List.set_cons_succ, List.getElem_toArray, List.getElem_cons_zero, List.getElem_cons_succ]
  refine list_val (.pointer (some ⟨l, 0, none⟩)) (by kernel_rfl) (by kernel_rfl) ?_
  simp only [Act.put, List.setIfInBounds_toArray, List.set_cons_zero, List.set_cons_succ, List.getElem_toArray, List.getElem_cons_zero, List.getElem_cons_succ]
  refine list_valw (.slice (some ⟨u2.heap.size, 0, none⟩) 1 1) (u2.alloc (.cells (kc [120]) 5 (0, 0))) (by kernel_rfl) (by kernel_rfl) ?_
  simp only [Act.put, List.setIfInBounds_toArray, List.set_cons_zero, List.set_cons_succ, List.getElem_toArray, List.getElem_cons_zero, List.getElem_cons_succ]
  refine list_valw (.slice (some ⟨u2.heap.size, 0, none⟩) 1 1) (u2.alloc (.cells (kc [120]) 5 ((kc [120]).size, (kc [120]).size + 1))) (by kernel_rfl) (exec_const u2 (.tmp 25) rfl (kc [120]) 1 1 (by kernel_rfl)) ?_
  simp only [Act.put, List.setIfInBounds_toArray, List.set_cons_zero, List.set_cons_succ, List.getElem_toArray, List.getElem_cons_zero, List.getElem_cons_succ]
  have hg := (Gr.refl u2).alloc (.cells (kc [120]) 5 ((kc [120]).size, (kc [120]).size + 1))
  have hxb : IsB [120] := by intro x hx; simp at hx; omega
  have l1 : Lb (u2.alloc (.cells (kc [120]) 5 ((kc [120]).size, (kc [120]).size + 1))) (some ⟨u2.heap.size, 0, none⟩) 1 1 [120] := ⟨rfl, hxb, .inr ⟨_, 0, rfl, fun j hj => by rw [Nat.zero_add]; exact cell_of (blk_new _ _) (kc_get [120] j hj)⟩, by omega, by omega⟩
  have hfar : ([120] : List Int) = [] ∨ ∀ i, i ∈ F ∨ i ∈ G ∨ i ∈ H → blkOf (some ⟨u2.heap.size, 0, none⟩) ≠ some i := by
    right
    intro i hi e
    have e2 : u2.heap.size = i := Option.some.inj e
    rcases hi with hi | hi | hi
    · have := (unhide hX).xs.ls.lt i hi; omega
    · have := (unhide hX).xs.st.lt i hi; omega
    · have := (unhide hX).lg.lt i hi; omega
  replace hX := hide ((unhide hX).more hg)
  clear hg
  generalize World.alloc _ _ = u3 at *
  generalize u2.heap.size = h1 at *
  replace l1 := hide l1; replace hfar := hide hfar
  have hlg := lgo_slots D.safe.length
  refine list_call 8 #[P0 l, .slice (some ⟨h1, 0, none⟩) 1 1] (by kernel_rfl) (by kernel_rfl) ((x_append (unhide hX) (by omega) (unhide hf) [120] (some ⟨h1, 0, none⟩) 1 1 (unhide l1) (unhide hfar) (by rw [hlg, unhide hDz]; show 0 + 2 ≤ _; omega)).mono ?_)
  rintro r u4 ⟨F2, H2, E, rfl, hX2, hEl, hC, -⟩
  refine ⟨_, rfl, ?_⟩
  have hXs2 := hide hX2.xs
  have hwd2 := hide hX2.wd
  clear hX hX2 hC l1 hfar hlg
  simp only [Act.put, List.setIfInBounds_toArray, List.set_cons_zero, List.set_cons_succ, List.getElem_toArray, List.getElem_cons_zero, List.getElem_cons_succ]
  refine list_val (.bool false) (by kernel_rfl) (by kernel_rfl) ?_
  simp only [Act.put, List.setIfInBounds_toArray, List.set_cons_zero, List.set_cons_succ, List.getElem_toArray, List.getElem_cons_zero, List.getElem_cons_succ]
  refine list_val (.bool false) (by kernel_rfl) (by kernel_rfl) ?_
  simp only [Act.put, List.setIfInBounds_toArray, List.set_cons_zero, List.set_cons_succ, List.getElem_toArray, List.getElem_cons_zero, List.getElem_cons_succ]
  refine wpList_nil ?_
  go_upto_region 7 with fail
  refine wp_region_lit ?_
  refine list_val (.pointer (some ⟨gs, 0, none⟩)) (by kernel_rfl) (by kernel_rfl) ?_
  simp only [Act.put, List.setIfInBounds_toArray, List.set_cons_zero, List.set_cons_succ, List.getElem_toArray, List.getElem_cons_zero, List.getElem_cons_succ]
  skip
  refine list_call 7 #[P0 gs] (by kernel_rfl) (by kernel_rfl) ((x_open (unhide hXs2) (unhide hwd2) (by decide) (unhide hf)).mono ?_)
  rintro r u5 ⟨l2, H3, rfl, hl2x, hl2n, hg⟩
  refine ⟨_, rfl, ?_⟩
  have hX3 := hide hl2x
  clear hl2x hl2n
  clear hg
  simp only [Act.put, List.setIfInBounds_toArray, List.set_cons_zero, List.set_cons_succ, List.getElem_toArray, List.getElem_cons_zero, List.getElem_cons_succ]
  refine list_val (.tuple #[.pointer (some ⟨l2, 0, none⟩), .int .i64 0]) (by kernel_rfl) (by kernel_rfl) ?_
  simp only [Act.put, List.setIfInBounds_toArray, List.set_cons_zero, List.set_cons_succ, List.getElem_toArray, List.getElem_cons_zero, List.getElem_cons_succ]
  refine list_val (.pointer (some ⟨l2, 0, none⟩)) (by kernel_rfl) (by kernel_rfl) ?_
  simp only [Act.put, List.setIfInBounds_toArray, List.set_cons_zero, List.set_cons_succ, List.getElem_toArray, List.getElem_cons_zero, List.getElem_cons_succ]
  refine list_val (.int .i64 0) (by kernel_rfl) (by kernel_rfl) ?_
  simp only [Act.put, List.setIfInBounds_toArray, List.set_cons_zero, List.set_cons_succ, List.getElem_toArray, List.getElem_cons_zero, List.getElem_cons_succ]
  (refine wpList_step fun K hK => ?_; replace hK := hide hK; go_simp; refine unhide hK _ _ ?_; clear hK K)
  (refine wpList_step fun K hK => ?_; replace hK := hide hK; go_simp; refine unhide hK _ _ ?_; clear hK K)
  refine wpList_nil ?_
  go_upto_region 8 with fail
  refine wp_region_lit ?_
  refine list_val (.int .i64 0) (by kernel_rfl) (by kernel_rfl) ?_
  simp only [Act.put, List.setIfInBounds_toArray, List.set_cons_zero, List.set_cons_succ, List.getElem_toArray, List.getElem_cons_zero, List.getElem_cons_succ]
  refine list_val (.bool true) (by kernel_rfl) (by kernel_rfl) ?_
  simp only [Act.put, List.setIfInBounds_toArray, List.set_cons_zero, List.set_cons_succ, List.getElem_toArray, List.getElem_cons_zero, List.getElem_cons_succ]
  refine list_val (.bool true) (by kernel_rfl) (by kernel_rfl) ?_
  simp only [Act.put, List.setIfInBounds_toArray, List.set_cons_zero, List.set_cons_succ, List.getElem_toArray, List.getElem_cons_zero, List.getElem_cons_succ]
  refine list_val (.pointer (some ⟨l2, 0, none⟩)) (by kernel_rfl) (by kernel_rfl) ?_
  simp only [Act.put, List.setIfInBounds_toArray, List.set_cons_zero, List.set_cons_succ, List.getElem_toArray, List.getElem_cons_zero, List.getElem_cons_succ]
  refine list_val (.bool true) (by kernel_rfl) (by kernel_rfl) ?_
  simp only [Act.put, List.setIfInBounds_toArray, List.set_cons_zero, List.set_cons_succ, List.getElem_toArray, List.getElem_cons_zero, List.getElem_cons_succ]
  refine list_val (.bool true) (by kernel_rfl) (by kernel_rfl) ?_
  simp only [Act.put, List.setIfInBounds_toArray, List.set_cons_zero, List.set_cons_succ, List.getElem_toArray, List.getElem_cons_zero, List.getElem_cons_succ]
  refine list_val (.bool true) (by kernel_rfl) (by kernel_rfl) ?_
  simp only [Act.put, List.setIfInBounds_toArray, List.set_cons_zero, List.set_cons_succ, List.getElem_toArray, List.getElem_cons_zero, List.getElem_cons_succ]
  refine list_val (.pointer (some ⟨l2, 0, none⟩)) (by kernel_rfl) (by kernel_rfl) ?_
  simp only [Act.put, List.setIfInBounds_toArray, List.set_cons_zero, List.set_cons_succ, List.getElem_toArray, List.getElem_cons_zero, List.getElem_cons_succ]
  refine list_call 16 #[P0 l2] (by kernel_rfl) (by kernel_rfl) ((x_txs (unhide hX3)).mono ?_)
  rintro r u6 ⟨vx, rfl, hox, hg⟩
  obtain ⟨xa, xc, rfl, -⟩ := hox.lq
  refine ⟨_, rfl, ?_⟩
  replace hX3 := hide ((unhide hX3).more hg)
  clear hox hg
  simp only [Act.put, List.setIfInBounds_toArray, List.set_cons_zero, List.set_cons_succ, List.getElem_toArray, List.getElem_cons_zero, List.getElem_cons_succ]
  refine list_val (.int .i64 1) (by kernel_rfl) (by kernel_rfl) ?_
  simp only [Act.put, List.setIfInBounds_toArray, List.set_cons_zero, List.set_cons_succ, List.getElem_toArray, List.getElem_cons_zero, List.getElem_cons_succ]
  refine list_val (.bool true) (by kernel_rfl) (by kernel_rfl) ?_
  simp only [Act.put, List.setIfInBounds_toArray, List.set_cons_zero, List.set_cons_succ, List.getElem_toArray, List.getElem_cons_zero, List.getElem_cons_succ]
  refine list_val (.bool true) (by kernel_rfl) (by kernel_rfl) ?_
  simp only [Act.put, List.setIfInBounds_toArray, List.set_cons_zero, List.set_cons_succ, List.getElem_toArray, List.getElem_cons_zero, List.getElem_cons_succ]
  refine list_val (.bool true) (by kernel_rfl) (by kernel_rfl) ?_
  simp only [Act.put, List.setIfInBounds_toArray, List.set_cons_zero, List.set_cons_succ, List.getElem_toArray, List.getElem_cons_zero, List.getElem_cons_succ]
  refine list_val (.pointer (some ⟨l2, 0, none⟩)) (by kernel_rfl) (by kernel_rfl) ?_
  simp only [Act.put, List.setIfInBounds_toArray, List.set_cons_zero, List.set_cons_succ, List.getElem_toArray, List.getElem_cons_zero, List.getElem_cons_succ]
  refine list_call 9 #[.pointer (some ⟨l2, 0, none⟩)] (by kernel_rfl) (by kernel_rfl) ((x_used (unhide hX3)).mono ?_)
  rintro r u7 ⟨rfl, hg⟩
  refine ⟨_, rfl, ?_⟩
  replace hX3 := hide ((unhide hX3).more hg)
  rw [show usd ([] ++ [[120]]) = 2 from usd_two]
  clear hg
  simp only [Act.put, List.setIfInBounds_toArray, List.set_cons_zero, List.set_cons_succ, List.getElem_toArray, List.getElem_cons_zero, List.getElem_cons_succ]
  refine list_val (.bool true) (by kernel_rfl) (by kernel_rfl) ?_
  simp only [Act.put, List.setIfInBounds_toArray, List.set_cons_zero, List.set_cons_succ, List.getElem_toArray, List.getElem_cons_zero, List.getElem_cons_succ]
  refine list_val (.bool true) (by kernel_rfl) (by kernel_rfl) ?_
  simp only [Act.put, List.setIfInBounds_toArray, List.set_cons_zero, List.set_cons_succ, List.getElem_toArray, List.getElem_cons_zero, List.getElem_cons_succ]
  refine list_val (.bool true) (by kernel_rfl) (by kernel_rfl) ?_
  simp only [Act.put, List.setIfInBounds_toArray, List.set_cons_zero, List.set_cons_succ, List.getElem_toArray, List.getElem_cons_zero, List.getElem_cons_succ]
  refine list_call 13 #[.int .i64 64] (by kernel_rfl) (by kernel_rfl) ((wneed_ok 64 (by omega) (by omega) _).mono ?_)
  rintro r u8 ⟨rfl, hg⟩
  refine ⟨_, rfl, ?_⟩
  replace hX3 := hide ((unhide hX3).more hg)
  rw [show nedI 64 = 3 from by decide]
  clear hg
  simp only [Act.put, List.setIfInBounds_toArray, List.set_cons_zero, List.set_cons_succ, List.getElem_toArray, List.getElem_cons_zero, List.getElem_cons_succ]
  refine list_val (.bool true) (by kernel_rfl) (by kernel_rfl) ?_
  simp only [Act.put, List.setIfInBounds_toArray, List.set_cons_zero, List.set_cons_succ, List.getElem_toArray, List.getElem_cons_zero, List.getElem_cons_succ]
  refine list_val (.bool true) (by kernel_rfl) (by kernel_rfl) ?_
  simp only [Act.put, List.setIfInBounds_toArray, List.set_cons_zero, List.set_cons_succ, List.getElem_toArray, List.getElem_cons_zero, List.getElem_cons_succ]
  (refine wpList_step fun K hK => ?_; replace hK := hide hK; go_simp; refine unhide hK _ _ ?_; clear hK K)
  refine wpList_nil ?_
  have hZ : Hid (Vl (.bool true) w (.returned (.bool true)) u8) := ⟨rfl, (unhide hX3).xs.gr⟩
  clear hX3
  go_wp2_with fail
  rw [unhide hT]
  exact unhide hZ
theorem run_writes_left : ∀ (X : List (Nat × List Int)) (D : Dk), D.dead = false → (∀ x ∈ X, x.1 < D.safe.length) → (X.length : Int) ≤ D.left →
    (Dk.runD (X.map some) D).2 = 0 ∧ (Dk.runD (X.map some) D).1.dead = false ∧ (Dk.runD (X.map some) D).1.left = D.left - X.length ∧ (Dk.runD (X.map some) D).1.safe = D.safe ∧ (Dk.runD (X.map some) D).1.pend = D.pend ++ X
  | [], D, hd, _, hl => ⟨rfl, hd, by show D.left = _; simp, rfl, (List.append_nil _).symm⟩
  | x :: r, D, hd, hX, hl => by
    have hx := hX x List.mem_cons_self
    rw [List.length_cons] at hl
    rw [List.map_cons, Dk.runD]
    obtain ⟨e1, e2, e3, e4, e5, e6⟩ := step_write hd x hx (by omega)
    rw [if_pos e1]
    rw [if_pos (by omega)] at e5
    obtain ⟨h1, h2, h3, h4, h5⟩ := run_writes_left r (D.step (some x)).1 e2 (fun y hy => by rw [e3]; exact hX y (List.mem_cons_of_mem _ hy)) (by omega)
    refine ⟨h1, h2, by rw [h3, e5, List.length_cons]; omega, h4.trans e3, by rw [h5, e4, List.append_assoc]; rfl⟩
theorem wd_app_dead {D : Dk} {m : Nat} {s : Sup} {L x : List Int} {X : List (List Int)} (k : Wd D m s L X) (keep : List Bool) (hx : IsB x) (hf : usd X + ned x.length ≤ D.safe.length - lgo D.safe.length) (ht : s.turn < 18446744073709551616) (hb : x.length ≤ 100000) :
    (Dk.runD (appOps (lgo D.safe.length) s.turn X.length (usd X) x) (D.armD ((ned x.length : Nat) : Int))).2 = 7 ∧ Wd ((Dk.runD (appOps (lgo D.safe.length) s.turn X.length (usd X) x) (D.armD ((ned x.length : Nat) : Int))).1.crashD keep) (m + ((x.length + 62) / 63 + 3)) s L X := by
  have hg := lgo_le k.fd.len
  have hcut := wd_app_cut k ((ned x.length : Nat) : Int) (by omega) (by unfold ned; omega) keep hx hf ht
  have hsz := run_len (appOps (lgo D.safe.length) s.turn X.length (usd X) x) (D.armD ((ned x.length : Nat) : Int))
  obtain ⟨a1, a2, a3, a4, a5⟩ := arm_parts k.fd.dead (a := ((ned x.length : Nat) : Int)) (by omega)
  obtain ⟨K, hK⟩ : ∃ K, K = (x.length + 62) / 63 := ⟨_, rfl⟩
  have hned : ned x.length = K + 1 := by unfold ned; omega
  obtain ⟨u, hu⟩ : ∃ u, u = usd X := ⟨_, rfl⟩
  obtain ⟨o, ho⟩ : ∃ o, o = lgo D.safe.length := ⟨_, rfl⟩
  have hpn := k.pn
  have key : (Dk.runD (appOps (lgo D.safe.length) s.turn X.length (usd X) x) (D.armD ((ned x.length : Nat) : Int))).2 = 7 ∧ ∀ j, ((Dk.runD (appOps (lgo D.safe.length) s.turn X.length (usd X) x) (D.armD ((ned x.length : Nat) : Int))).1.crashD keep).cur j = if o + u + 1 ≤ j ∧ j < o + u + 1 + K then dat x (j - (o + u + 1)) else D.cur j := by
    clear hcut hsz
    unfold appOps
    rw [run_app, ← hK, ← hu, ← ho]
    rw [← hu, ← ho, hned] at hf
    rw [← ho] at hg
    rw [hned] at a1 a2 a3 a4 a5 ⊢
    obtain ⟨f1, f2, f3, f4, f5⟩ := run_writes_left (wrf (o + u + 1) (dat x) K) (D.armD ((K + 1 : Nat) : Int)) a1 (by intro y hy; rw [a3]; have := wrf_mem hy; omega) (by rw [wrf_len, a2]; omega)
    rw [if_pos f1]
    have c1 : ∀ j, (Dk.runD ((wrf (o + u + 1) (dat x) K).map some) (D.armD ((K + 1 : Nat) : Int))).1.cur j = if o + u + 1 ≤ j ∧ j < o + u + 1 + K then dat x (j - (o + u + 1)) else D.cur j := by
      intro j
      rw [← a5]
      unfold Dk.cur
      rw [f4, f5]
      exact wrf_cur _ _ _ _ _ _
    rw [wrf_len, a2] at f3
    rw [a3] at f4
    rw [a4, hpn, List.nil_append] at f5
    generalize (Dk.runD ((wrf (o + u + 1) (dat x) K).map some) (D.armD ((K + 1 : Nat) : Int))).1 = D1 at *
    have hr1 : ∀ y ∈ D1.pend, y.1 < D1.safe.length := by
      intro y hy
      rw [f4]
      rw [f5] at hy
      have := wrf_mem hy
      omega
    have hl1 : D1.left ≠ 0 := by omega
    rw [Dk.runD]
    obtain ⟨g1, g2, g3, g4, g5, g6⟩ := step_sync f2 hl1
    rw [if_pos g1]
    have c2 : ∀ j, (D1.step none).1.cur j = if o + u + 1 ≤ j ∧ j < o + u + 1 + K then dat x (j - (o + u + 1)) else D.cur j := fun j => (Dk.sync_cur f2 hl1 hr1 j).trans (c1 j)
    rw [if_pos (by omega)] at g5
    rw [f4] at g3
    generalize (D1.step none).1 = D2 at *
    rw [Dk.runD]
    obtain ⟨i1, i2, i3, i4⟩ := step_write_off g2 (o + u, mkL s.turn X.length x) (by show o + u < _; omega) (by omega)
    rw [if_neg (by rw [i1]; decide)]
    refine ⟨i1, fun j => ?_⟩
    rw [crash_none (by rw [i4, g4]; intro y hy; cases hy) keep (by rw [i4, g4]; intro y hy; cases hy), i3, ← c2 j]
    exact (cur_none (D := D2) (j := j) (by rw [g4]; intro y hy; cases hy)).symm
  refine ⟨key.1, ?_⟩
  have kc := key.2
  have kE := key.1
  clear key
  rw [a3] at hsz
  generalize (Dk.runD (appOps (lgo D.safe.length) s.turn X.length (usd X) x) (D.armD ((ned x.length : Nat) : Int))).2 = e at *
  generalize (Dk.runD (appOps (lgo D.safe.length) s.turn X.length (usd X) x) (D.armD ((ned x.length : Nat) : Int))).1 = E at *
  have wl : Wl (fun i => (E.crashD keep).cur (lgo (E.crashD keep).safe.length + i)) ((E.crashD keep).safe.length - lgo (E.crashD keep).safe.length) s.turn X := by
    rw [crash_size, hsz]
    refine k.wl.part x (fun i hi => ?_)
    show (E.crashD keep).cur _ = D.cur _ ∨ _
    rw [kc, ← ho]
    by_cases h : o + u + 1 ≤ o + i ∧ o + i < o + u + 1 + K
    · right
      rw [← hu]
      exact ⟨by omega, by rw [if_pos h, show o + i - (o + u + 1) = i - u - 1 from by omega]⟩
    · rw [if_neg h]; exact .inl rfl
  rcases hcut with ⟨h1, -, -⟩ | ⟨-, -, h | h⟩
  · rw [kE] at h1; cases h1
  · exact h
  · exact ⟨h.fd, h.pn, wl⟩
structure Xr (w : World) (F G H : List Nat) (l gs gd : Nat) (A : Dk) (s : Sup) (L : List Int) (X : List (List Int)) (bk : Bool) (v : World) : Prop where
  gr : Gr w v
  ls : Lies F gd A v
  st : Sto G gs gd A.safe.length s v
  lg : Lg H l gs L X bk v
  oF : ∀ i ∈ F, w.heap.size ≤ i
  oG : ∀ i ∈ G, w.heap.size ≤ i
  oH : ∀ i ∈ H, w.heap.size ≤ i
  fg : ∀ i ∈ F, i ∉ G
  fh : ∀ i ∈ F, i ∉ H
  gh : gs ∉ H
theorem Xl.xr {w : World} {F G H : List Nat} {l gs gd : Nat} {D : Dk} {m : Nat} {s : Sup} {L : List Int} {X : List (List Int)} {v : World} (h : Xl w F G H l gs gd D m s L X v) : Xr w F G H l gs gd D s L X false v := ⟨h.xs.gr, h.xs.ls, h.xs.st, h.lg, h.xs.oF, h.xs.oG, h.oH, h.xs.ap, h.fh, h.gh⟩
theorem Xr.turn {w : World} {F F' G H : List Nat} {l gs gd : Nat} {A B : Dk} {s : Sup} {L : List Int} {X : List (List Int)} {bk : Bool} {v u : World} (h : Xr w F G H l gs gd A s L X bk v) (hB : Lies F' gd B u) (hs : B.safe.length = A.safe.length) (k : Chg F F' v u) : Xr w F' G H l gs gd B s L X bk u :=
  ⟨Chg.own h.gr k h.oF, hB, by rw [hs]; exact h.st.chg k h.fg, h.lg.chg k h.fh, fun i hi => (k.new i hi).elim (h.oF i) (fun e => Nat.le_trans h.gr.size e), h.oG, h.oH,
   fun i hi hg => (k.new i hi).elim (fun e => h.fg i e hg) (fun e => by have := h.st.lt i hg; omega),
   fun i hi hg => (k.new i hi).elim (fun e => h.fh i e hg) (fun e => by have := h.lg.lt i hg; omega), h.gh⟩
theorem Xr.zero {w : World} {F G H : List Nat} {l gs gd : Nat} {A : Dk} {s : Sup} {L : List Int} {X : List (List Int)} {bk : Bool} {v : World} (h : Xr w F G H l gs gd A s L X bk v) (hf : Fst w) : 0 ∉ F ∧ 0 ∉ G := ⟨fun e => by have := h.oF 0 e; have := fst_size hf; omega, fun e => by have := h.oG 0 e; have := fst_size hf; omega⟩
theorem Xr.far {w : World} {F G H : List Nat} {l gs gd : Nat} {A : Dk} {s : Sup} {L : List Int} {X : List (List Int)} {bk : Bool} {v : World} (h : Xr w F G H l gs gd A s L X bk v) {a : Option Addr} {n c : Nat} {M : List Int} (hA : Lb w a n c M) : M = [] ∨ ∀ i, i ∈ F ∨ i ∈ G ∨ i ∈ H → blkOf a ≠ some i := by
  rcases hA.sl with e | ⟨p, o, rfl, h2⟩
  · exact .inl e
  · by_cases he : M = []
    · exact .inl he
    · right
      have hp := lt_of_cell (h2 0 (List.length_pos_iff.2 he))
      intro i hi e
      have e2 : p = i := Option.some.inj e
      subst e2
      rcases hi with hi | hi | hi
      · have := h.oF p hi; omega
      · have := h.oG p hi; omega
      · have := h.oH p hi; omega
theorem x_arm {w : World} {F G H : List Nat} {l gs gd : Nat} {D : Dk} {m : Nat} {s : Sup} {L : List Int} {X : List (List Int)} {v : World} (k : Xl w F G H l gs gd D m s L X v) (hm : m ≤ 800000) (a : Int) (ha : 0 ≤ a) (ha2 : a < 9223372036854775808) : Calls Tryd.prog 12 #[P0 gd, .int .i64 a] v (fun r u => ∃ F', r = .returned (.int .i64 0) ∧ Xr w F' G H l gs gd (D.armD a) s L X false u ∧ Chg F F' v u) := by
  refine (darm_ok F gd m D k.wd.fd.ok (by omega) a (by omega) ha2 v k.xs.ls).mono ?_
  rintro r u ⟨F', rfl, h1, h2⟩
  refine ⟨F', by unfold Dk.armE; rw [k.wd.fd.dead]; rfl, k.xr.turn h1 ?_ h2, h2⟩
  rw [(arm_parts k.wd.fd.dead ha).2.2.1]
theorem x_app_armed {w : World} {F G H : List Nat} {l gs gd : Nat} {D : Dk} {m : Nat} {s : Sup} {L : List Int} {X : List (List Int)} {v : World} (a : Int) (ha : 0 ≤ a) (ha2 : a < 9223372036854775808) (k : Xr w F G H l gs gd (D.armD a) s L X false v) (wd : Wd D m s L X) (hm : m ≤ 800000) (hf : Fst w) (M : List Int) (b : Option Addr) (n c : Nat) (hM : Lb v b n c M) (hMa : M = [] ∨ ∀ i, i ∈ F ∨ i ∈ G ∨ i ∈ H → blkOf b ≠ some i) (hfit : usd X + ned M.length ≤ D.safe.length - lgo D.safe.length) : Calls Tryd.prog 8 #[P0 l, .slice b n c] v (fun r u => ∃ F' H', r = .returned (.int .i64 (Dk.runD (appOps (lgo D.safe.length) s.turn X.length (usd X) M) (D.armD a)).2) ∧ Xr w F' G H' l gs gd (Dk.runD (appOps (lgo D.safe.length) s.turn X.length (usd X) M) (D.armD a)).1 s L (if (Dk.runD (appOps (lgo D.safe.length) s.turn X.length (usd X) M) (D.armD a)).2 = 0 then X ++ [M] else X) (decide (¬ (Dk.runD (appOps (lgo D.safe.length) s.turn X.length (usd X) M) (D.armD a)).2 = 0)) u ∧ Chg (F ++ H) (F' ++ H') v u) := by
  obtain ⟨a1, a2, a3, a4, a5⟩ := arm_parts wd.fd.dead ha
  have e : (D.armD a).safe.length = D.safe.length := by rw [a3]
  have hl := lappend_ok F G H l gs gd m (D.armD a) s (wd.fd.ok.arm a ha2) hm a1 (by rw [a4]; exact wd.pn) (by rw [a5]; exact wd.os.cnt) (by rw [e]; exact wd.fd.len) wd.turn L X v k.ls k.st k.lg k.fh k.gh M b n c hM (hMa.imp id (fun h i hi => h i (hi.imp id .inr))) (by rw [e]; exact hfit) (hf.gr k.gr) (k.zero hf).1
  unfold App at hl
  rw [e] at hl
  refine hl.mono ?_
  rintro r u ⟨F', H', rfl, b1, b2, b3, b4, b5, b6⟩
  have hsz := run_len (appOps (lgo D.safe.length) s.turn X.length (usd X) M) (D.armD a)
  rw [e] at hsz
  have hown : ∀ i ∈ F ++ H, w.heap.size ≤ i := fun i hi => (List.mem_append.1 hi).elim (k.oF i) (k.oH i)
  have hnew : ∀ i ∈ F' ++ H', w.heap.size ≤ i := fun i hi => (b6.new i hi).elim (hown i) (fun e => Nat.le_trans k.gr.size e)
  have hGe := k.st.1
  have hgF : gs ∉ F := fun e => k.fg gs e (by rw [hGe]; exact List.mem_singleton.2 rfl)
  have hst : Sto G gs gd (D.armD a).safe.length s u := k.st.chg b6 (fun i hi hg => by
    rw [hGe, List.mem_singleton] at hg
    subst hg
    rcases List.mem_append.1 hi with e | e
    · exact hgF e
    · exact k.gh e)
  have hgF' : ∀ i ∈ F', i ∉ G := fun i hi hg => by
    rw [hGe, List.mem_singleton] at hg
    subst hg
    exact lies_no b1 hst.2 (fun c t e => by injection e with _ e2 _; subst e2; decide) hi
  rw [e] at hst
  exact ⟨F', H', rfl, ⟨Chg.own k.gr b6 hown, b1, by rw [hsz]; exact hst, b2, fun i hi => hnew i (List.mem_append_left _ hi), k.oG, fun i hi => hnew i (List.mem_append_right _ hi), hgF', b3, b5⟩, b6⟩
theorem x_crash {w : World} {F G H : List Nat} {l gs gd : Nat} {A : Dk} {m : Nat} {s : Sup} {L : List Int} {X : List (List Int)} {bk : Bool} {v : World} (k : Xr w F G H l gs gd A s L X bk v) (hA : A.Ok m) (hm : m ≤ 1000000) (keep : List Bool) (ka : Option Addr) (kn kp : Nat) (hK : Kp v ka kn kp keep) (hn : keep = [] ∨ ∀ i ∈ F, blkOf ka ≠ some i) : Calls Tryd.prog 14 #[P0 gd, .slice ka kn kp] v (fun r u => ∃ F', r = .returned (.int .i64 0) ∧ Xr w F' G H l gs gd (A.crashD keep) s L X bk u ∧ Chg F F' v u) := by
  refine (dcrash_ok2 F gd m A hA hm keep ka kn kp v k.ls hK hn).mono ?_
  rintro r u ⟨F', rfl, h1, h2⟩
  exact ⟨F', rfl, k.turn h1 (crash_size A keep) h2, h2⟩
def Agn (w : World) (F : List Nat) (gd : Nat) (D : Dk) (m : Nat) (s : Sup) (L : List Int) (X : List (List Int)) (v : World) (r : Ending) (u : World) : Prop := ∃ l gs G H, r = .returned (.tuple #[P0 l, .bool true]) ∧ Xl w F G H l gs gd D m s L X u ∧ Gr v u
set_option maxHeartbeats 4000000 in
theorem again_ok (w : World) (F : List Nat) (gd : Nat) (D : Dk) (m : Nat) (s : Sup) (L : List Int) (X : List (List Int)) (hf : Fst w) (v : World) (hg0 : Gr w v) (hL : Lies F gd D v) (hF : ∀ i ∈ F, w.heap.size ≤ i) (wd : Wd D m s L X) (hm : m ≤ 800000) : Calls Tryd.prog 15 #[P0 gd] v (Agn w F gd D m s L X v) := by
  obtain ⟨T, hT⟩ : ∃ T, T = Agn w F gd D m s L X v := ⟨_, rfl⟩
  rw [← hT]
  replace hT := hide hT
  replace hf := hide hf; replace hg0 := hide hg0; replace hL := hide hL; replace hF := hide hF; replace wd := hide wd
  go_enter Tryd.func15, Tryd.ntmps15
  go_upto_region 1 with fail
  refine wp_region_lit ?_
  refine list_val (.pointer (some ⟨gd, 0, none⟩)) (by kernel_rfl) (by kernel_rfl) ?_
  simp only [Act.put, List.setIfInBounds_toArray, List.set_cons_zero, List.set_cons_succ, List.getElem_toArray, List.getElem_cons_zero, List.getElem_cons_succ]
  refine list_call 33 #[P0 gd] (by kernel_rfl) (by kernel_rfl) ((eopen_ok F gd m D s L (unhide wd).fd.ok (by omega) (unhide wd).fd.dead (unhide wd).fd.len v (unhide hL) (unhide wd).os ((unhide hf).gr (unhide hg0))).mono ?_)
  rintro r u1 ⟨gs, G, rfl, hS, hG, hg1⟩
  have hXs : Xs w F G gs gd D s u1 := ⟨(unhide hg0).trans hg1, (unhide hL).keep hg1.size (fun i hi => hg1.block i ((unhide hL).lt i hi)), hS, unhide hF, fun i hi => Nat.le_trans (unhide hg0).size (hG i hi), fun i hi h2 => by have h3 := (unhide hL).lt i hi; have h4 := hG i h2; omega⟩
  replace hXs := hide hXs; replace hg1 := hide hg1
  clear hS hG
  refine ⟨_, rfl, ?_⟩
  simp only [Act.put, List.setIfInBounds_toArray, List.set_cons_zero, List.set_cons_succ, List.getElem_toArray, List.getElem_cons_zero, List.getElem_cons_succ]
  refine list_val (.tuple #[.pointer (some ⟨gs, 0, none⟩), .int .i64 0]) (by kernel_rfl) (by kernel_rfl) ?_
  simp only [Act.put, List.setIfInBounds_toArray, List.set_cons_zero, List.set_cons_succ, List.getElem_toArray, List.getElem_cons_zero, List.getElem_cons_succ]
  refine list_val (.pointer (some ⟨gs, 0, none⟩)) (by kernel_rfl) (by kernel_rfl) ?_
  simp only [Act.put, List.setIfInBounds_toArray, List.set_cons_zero, List.set_cons_succ, List.getElem_toArray, List.getElem_cons_zero, List.getElem_cons_succ]
  refine list_val (.int .i64 0) (by kernel_rfl) (by kernel_rfl) ?_
  simp only [Act.put, List.setIfInBounds_toArray, List.set_cons_zero, List.set_cons_succ, List.getElem_toArray, List.getElem_cons_zero, List.getElem_cons_succ]
  (refine wpList_step fun K hK => ?_; replace hK := hide hK; go_simp; refine unhide hK _ _ ?_; clear hK K)
  (refine wpList_step fun K hK => ?_; replace hK := hide hK; go_simp; refine unhide hK _ _ ?_; clear hK K)
  refine wpList_nil ?_
  go_upto_region 2 with fail
  refine wp_region_lit ?_
  refine list_val (.int .i64 0) (by kernel_rfl) (by kernel_rfl) ?_
  simp only [Act.put, List.setIfInBounds_toArray, List.set_cons_zero, List.set_cons_succ, List.getElem_toArray, List.getElem_cons_zero, List.getElem_cons_succ]
  refine list_val (.bool false) (by kernel_rfl) (by kernel_rfl) ?_
  simp only [Act.put, List.setIfInBounds_toArray, List.set_cons_zero, List.set_cons_succ, List.getElem_toArray, List.getElem_cons_zero, List.getElem_cons_succ]
  refine wpList_nil ?_
  go_upto_region 4 with fail
  refine wp_region_lit ?_
  refine list_val (.pointer (some ⟨gs, 0, none⟩)) (by kernel_rfl) (by kernel_rfl) ?_
  simp only [Act.put, List.setIfInBounds_toArray, List.set_cons_zero, List.set_cons_succ, List.getElem_toArray, List.getElem_cons_zero, List.getElem_cons_succ]
  skip
  refine list_call 7 #[P0 gs] (by kernel_rfl) (by kernel_rfl) ((x_open (unhide hXs) (unhide wd) hm (unhide hf)).mono ?_)
  rintro r u2 ⟨l, H, rfl, hlx, hln, hg⟩
  refine ⟨_, rfl, ?_⟩
  have hX := hide hlx
  clear hlx hln
  have hg2 := hide ((unhide hg1).trans hg)
  clear hg
  simp only [Act.put, List.setIfInBounds_toArray, List.set_cons_zero, List.set_cons_succ, List.getElem_toArray, List.getElem_cons_zero, List.getElem_cons_succ]
  refine list_val (.tuple #[.pointer (some ⟨l, 0, none⟩), .int .i64 0]) (by kernel_rfl) (by kernel_rfl) ?_
  simp only [Act.put, List.setIfInBounds_toArray, List.set_cons_zero, List.set_cons_succ, List.getElem_toArray, List.getElem_cons_zero, List.getElem_cons_succ]
  refine list_val (.pointer (some ⟨l, 0, none⟩)) (by kernel_rfl) (by kernel_rfl) ?_
  simp only [Act.put, List.setIfInBounds_toArray, List.set_cons_zero, List.set_cons_succ, List.getElem_toArray, List.getElem_cons_zero, List.getElem_cons_succ]
  refine list_val (.int .i64 0) (by kernel_rfl) (by kernel_rfl) ?_
  simp only [Act.put, List.setIfInBounds_toArray, List.set_cons_zero, List.set_cons_succ, List.getElem_toArray, List.getElem_cons_zero, List.getElem_cons_succ]
  (refine wpList_step fun K hK => ?_; replace hK := hide hK; go_simp; refine unhide hK _ _ ?_; clear hK K)
  (refine wpList_step fun K hK => ?_; replace hK := hide hK; go_simp; refine unhide hK _ _ ?_; clear hK K)
  refine wpList_nil ?_
  go_upto_region 5 with fail
  refine wp_region_lit ?_
  refine list_val (.pointer (some ⟨l, 0, none⟩)) (by kernel_rfl) (by kernel_rfl) ?_
  simp only [Act.put, List.setIfInBounds_toArray, List.set_cons_zero, List.set_cons_succ, List.getElem_toArray, List.getElem_cons_zero, List.getElem_cons_succ]
  refine list_val (.int .i64 0) (by kernel_rfl) (by kernel_rfl) ?_
  simp only [Act.put, List.setIfInBounds_toArray, List.set_cons_zero, List.set_cons_succ, List.getElem_toArray, List.getElem_cons_zero, List.getElem_cons_succ]
  refine list_val (.bool true) (by kernel_rfl) (by kernel_rfl) ?_
  simp only [Act.put, List.setIfInBounds_toArray, List.set_cons_zero, List.set_cons_succ, List.getElem_toArray, List.getElem_cons_zero, List.getElem_cons_succ]
  refine list_val (.bool true) (by kernel_rfl) (by kernel_rfl) ?_
  simp only [Act.put, List.setIfInBounds_toArray, List.set_cons_zero, List.set_cons_succ, List.getElem_toArray, List.getElem_cons_zero, List.getElem_cons_succ]
  refine list_val (.pointer (some ⟨l, 0, none⟩)) (by kernel_rfl) (by kernel_rfl) ?_
  simp only [Act.put, List.setIfInBounds_toArray, List.set_cons_zero, List.set_cons_succ, List.getElem_toArray, List.getElem_cons_zero, List.getElem_cons_succ]
  refine list_val (.bool true) (by kernel_rfl) (by kernel_rfl) ?_
  simp only [Act.put, List.setIfInBounds_toArray, List.set_cons_zero, List.set_cons_succ, List.getElem_toArray, List.getElem_cons_zero, List.getElem_cons_succ]
  refine list_val (.bool true) (by kernel_rfl) (by kernel_rfl) ?_
  simp only [Act.put, List.setIfInBounds_toArray, List.set_cons_zero, List.set_cons_succ, List.getElem_toArray, List.getElem_cons_zero, List.getElem_cons_succ]
  (refine wpList_step fun K hK => ?_; replace hK := hide hK; go_simp; refine unhide hK _ _ ?_; clear hK K)
  (refine wpList_step fun K hK => ?_; replace hK := hide hK; go_simp; refine unhide hK _ _ ?_; clear hK K)
  refine wpList_nil ?_
  have hZ : Hid (Agn w F gd D m s L X v (.returned (.tuple #[P0 l, .bool true])) u2) := ⟨l, gs, G, H, rfl, unhide hX, unhide hg2⟩
  clear hX hXs
  go_wp2_with fail
  rw [unhide hT]
  exact unhide hZ
end Go.Proofs.YtaoiejgjdmakjabDoor
