/-
  New, Sum of a Hash, Len.
-/
import Derived.Test.YthnmebhljkccnaaDoorShaWrite2
namespace Go.Proofs.YthnmebhljkccnaaDoor
open Go.RowKit
set_option maxRecDepth 100000
set_option linter.unusedSimpArgs false

theorem write_ok (g : Nat) (B C : List Int) (hC : IsB C) (hbig : B.length + C.length < 1152921504606846976) (a : Option Addr) (n cap : Nat) (hn : C.length = n) (hcap : n ≤ cap) (hcb : cap < 9223372036854775808) (w : World)
    (hB : H g B w) (hX : SlX g w a C) : Calls Tryd.prog 31 #[.pointer (some ⟨g, 0, none⟩), .slice a n cap] w (Wrote g (B ++ C) w) := by
  subst hn
  rcases Nat.eq_zero_or_pos (B.length % 64) with h | h
  · exact write_whole g B C hC h hbig a cap hcap hcb w hB hX
  · exact write_some g B C hC h hbig a cap hcap hcb w hB hX
def Zl64 : List Int := List.replicate 64 0
theorem list_valw {P : Program} {ops : Array Oper} {Q : Exit → Act → World → Prop} {a : Act} {w : World} {o : Oper} {rest : List Oper} (v : Value) (w' : World) (hw : Region.wanted o (yielded ops a.tmps) = true) (hx : (execOp a.eval o).run P w = .ok (.value v) w') (h : wpList P ops Q rest (a.put o.dst v) w') : wpList P ops Q (o :: rest) a w := by
  refine wpList_step fun K hK => ?_
  rw [if_pos hw]
  unfold Oper.wp
  rw [hx]
  exact hK _ _ h
def ZH : Array Value := hc Z8 Zl64 0
/-- the hash of bytes -/
def sumL (B : List Int) : List Int := keyL (bk ((B ++ padL B.length).length / 64) F0 (B ++ padL B.length))
theorem sumL_len (B : List Int) : (sumL B).length = 32 := keyL_len _
/-- what the variable first holds -/
def Fst (w : World) : Prop := w.rangeAt 0 0 (F0.map (Value.int .u32))
theorem Fst.gr {w v : World} (h : Fst w) (k : Gr w v) : Fst v := fun j x hj => k.cell (h j x hj)
def News (w : World) (r : Ending) (w' : World) : Prop := ∃ g, r = .returned (.pointer (some ⟨g, 0, none⟩)) ∧ w.heap.size ≤ g ∧ H g [] w' ∧ Gr w w'
theorem Tryd.infoH : (Tryd.prog.info? 73).map (·.size) = some 73 := by kernel_rfl
theorem new_ok (w : World) (hF : Fst w) : Calls Tryd.prog 29 #[] w (News w) := by
  obtain ⟨T, hT⟩ : ∃ T, T = News w := ⟨_, rfl⟩
  rw [← hT]
  replace hT := hide hT
  go_enter Tryd.func29, Tryd.ntmps29
  go_upto_region 1 with fail
  refine wp_region_lit ?_
  refine list_val (.agg (uc F0)) (by kernel_rfl) (exec_row _ 67 (.global 0) rfl 0 0 (by kernel_rfl) (F0.map (Value.int .u32)) _ hF Tryd.underlying67 rfl (by rw [Tryd.infoS]; rfl)) ?_
  simp only [Act.put, List.setIfInBounds_toArray, List.set_cons_zero, List.set_cons_succ, List.getElem_toArray, List.getElem_cons_zero, List.getElem_cons_succ]
  refine list_val (.agg (hc F0 Zl64 0)) (by kernel_rfl) (by kernel_rfl) ?_
  simp only [Act.put, List.setIfInBounds_toArray, List.set_cons_zero, List.set_cons_succ, List.getElem_toArray, List.getElem_cons_zero, List.getElem_cons_succ]
  iterate 2 (refine wpList_step fun K hK => ?_; replace hK := hide hK; go_simp; refine unhide hK _ _ ?_; clear hK K)
  refine wpList_nil ?_
  have hP : Hid (News w (.returned (.pointer (some ⟨w.heap.size, 0, none⟩))) (w.alloc (.cells (hc F0 Zl64 0) 73 (0, 0)))) :=
    ⟨w.heap.size, rfl, Nat.le_refl _, ⟨Zl64, rfl, (by intro x hx; have := List.eq_of_mem_replicate hx; omega), blk_new _ _, rfl⟩, (Gr.refl w).alloc _⟩
  go_wp2_with fail
  rw [unhide hT]
  exact unhide hP
theorem H.count {g : Nat} {B : List Int} {w : World} (h : H g B w) : w.cell? ⟨g, 72, none⟩ = some (.int .i64 B.length) := by
  obtain ⟨l, h1, h2, h3, h4⟩ := h
  exact cnt_cell h3 (bk_len _ _ rfl _) h1
def Summed (B : List Int) (w : World) (r : Ending) (w' : World) : Prop := r = .returned (.agg (kc (sumL B))) ∧ Gr w w'
set_option maxHeartbeats 2000000 in
theorem hsum_ok (g : Nat) (B : List Int) (hbig : B.length < 1152921504606846000) (w : World) (hB : H g B w) : Calls Tryd.prog 32 #[.pointer (some ⟨g, 0, none⟩)] w (Summed B w) := by
  obtain ⟨T, hT⟩ : ∃ T, T = Summed B w := ⟨_, rfl⟩
  rw [← hT]
  replace hT := hide hT
  replace hB := hide hB
  go_enter Tryd.func32, Tryd.ntmps32
  go_upto_region 3 with fail
  have hL := (Bl.nil w).new #[.int .u8 0, .int .u8 0, .int .u8 0, .int .u8 0, .int .u8 0, .int .u8 0, .int .u8 0, .int .u8 0, .int .u8 0, .int .u8 0, .int .u8 0, .int .u8 0, .int .u8 0, .int .u8 0, .int .u8 0, .int .u8 0, .int .u8 0, .int .u8 0, .int .u8 0, .int .u8 0, .int .u8 0, .int .u8 0, .int .u8 0, .int .u8 0, .int .u8 0, .int .u8 0, .int .u8 0, .int .u8 0, .int .u8 0, .int .u8 0, .int .u8 0, .int .u8 0] 28
  replace hB := (unhide hB).gr ((Gr.refl w).alloc (.cells #[.int .u8 0, .int .u8 0, .int .u8 0, .int .u8 0, .int .u8 0, .int .u8 0, .int .u8 0, .int .u8 0, .int .u8 0, .int .u8 0, .int .u8 0, .int .u8 0, .int .u8 0, .int .u8 0, .int .u8 0, .int .u8 0, .int .u8 0, .int .u8 0, .int .u8 0, .int .u8 0, .int .u8 0, .int .u8 0, .int .u8 0, .int .u8 0, .int .u8 0, .int .u8 0, .int .u8 0, .int .u8 0, .int .u8 0, .int .u8 0, .int .u8 0, .int .u8 0] 28))
  simp only [List.nil_append] at hL
  generalize World.alloc _ _ = u1 at *
  replace hL : Bl w [⟨w.heap.size, kc Z32, 28⟩] u1 := hL
  obtain ⟨l, hl, hlB, hH, hlt⟩ := hB
  have hSl : (bk (B.length / 64) F0 B).length = 8 := bk_len _ _ rfl _
  obtain ⟨c, hc0⟩ : ∃ c, c = hc (bk (B.length / 64) F0 B) l B.length := ⟨_, rfl⟩
  have hcs : c.size = 73 := by rw [hc0]; unfold hc; rw [List.size_toArray, hcl_len _ _ _ hSl hl]
  have hc1 : c.all (·.oneCell') = true := by rw [hc0]; unfold hc hcl; simp [Value.oneCell']
  have hB : Hid (∀ v, v.heap[u1.heap.size]? = some (.cells c 73 (0, 0)) → H u1.heap.size B v) := fun v hv => ⟨l, hl, hlB, by rw [← hc0]; exact hv, hlt⟩
  rw [← hc0] at hH
  clear hlt
  refine wp_region_lit ?_
  iterate 2 (refine wpList_step fun K hK => ?_; replace hK := hide hK; go_simp; refine unhide hK _ _ ?_; clear hK K)
  refine list_val (.agg c) (by kernel_rfl) (exec_arr _ 73 (.tmp 8) rfl g (by kernel_rfl) c 73 _ hH Tryd.underlying73 rfl (by rw [Tryd.infoH, hcs])) ?_
  simp only [Act.put, List.setIfInBounds_toArray, List.set_cons_zero, List.set_cons_succ, List.getElem_toArray, List.getElem_cons_zero, List.getElem_cons_succ]
  refine list_valw (.pointer (some ⟨u1.heap.size, 0, none⟩)) (u1.alloc (.cells ZH 73 (0, 0))) (by kernel_rfl) (by kernel_rfl) ?_
  simp only [Act.put, List.setIfInBounds_toArray, List.set_cons_zero, List.set_cons_succ, List.getElem_toArray, List.getElem_cons_zero, List.getElem_cons_succ]
  replace hL := hL.new ZH 73
  have hne : u1.heap.size ≠ g := by have := lt_of_block hH; omega
  replace hH := ((Gr.refl u1).alloc (.cells ZH 73)).blk hH
  simp only [List.cons_append, List.nil_append] at hL
  generalize u1.heap.size = ge at *
  generalize World.alloc _ _ = u2 at *
  refine list_store 73 (.tmp 3) (.tmp 9) ge c 73 ZH (by kernel_rfl) rfl (by kernel_rfl) (by kernel_rfl) (hL.get 1 (x := ⟨ge, ZH, 73⟩) rfl) (by rw [Tryd.infoH, hcs]) (by rw [hcs]; rfl) hc1 ?_
  replace hL := hL.set 1 (x := ⟨ge, ZH, 73⟩) rfl c
  simp only [List.set_cons_zero, List.set_cons_succ] at hL
  replace hH := (setRow_other u2 ge g c (fun e => hne e.symm)).trans hH
  generalize World.setRow _ _ _ = u3 at *
  simp only [Act.put, List.setIfInBounds_toArray, List.set_cons_zero, List.set_cons_succ, List.getElem_toArray, List.getElem_cons_zero, List.getElem_cons_succ]
  refine wpList_nil ?_
  have hE := (unhide hB) u3 (hL.get 1 (x := ⟨ge, c, 73⟩) rfl)
  clear hB
  have hcc : u3.cell? ⟨g, 72, none⟩ = some (.int .i64 B.length) := cnt_cell (by rw [← hc0]; exact hH) hSl hl
  clear hH hc0
  replace hL := hide hL
  replace hE := hide hE
  go_upto_region 4 with fail
  refine wp_region_lit ?_
  iterate 4 (refine wpList_step fun K hK => ?_; replace hK := hide hK; go_simp; refine unhide hK _ _ ?_; clear hK K)
  refine list_call 44 #[.int .i64 B.length] (by kernel_rfl) (by kernel_rfl) ((pad_ok B.length (by omega) _).mono ?_)
  rintro r u4 ⟨gp, rfl, hgp, hP, hg⟩
  refine ⟨_, rfl, ?_⟩
  simp only [Act.put, List.setIfInBounds_toArray, List.set_cons_zero, List.set_cons_succ, List.getElem_toArray, List.getElem_cons_zero, List.getElem_cons_succ]
  have hgp2 : gp ≠ ge := by have := lt_of_block ((unhide hL).get 1 (x := ⟨ge, c, 73⟩) rfl); have h2 : u3.heap.size ≤ gp := hgp; dsimp only at this; omega
  replace hL := (unhide hL).more hg
  replace hE := (unhide hE).gr hg
  clear hg hcc
  refine list_call 31 #[.pointer (some ⟨ge, 0, none⟩), .slice (some ⟨gp, 0, none⟩) (nz B.length + 9) (nz B.length + 9)] (by kernel_rfl) (by kernel_rfl) ((write_ok ge B (padL B.length) (padL_isB _) (by rw [padL_len]; unfold nz; omega) (some ⟨gp, 0, none⟩) (nz B.length + 9) (nz B.length + 9) (padL_len _) (Nat.le_refl _) (by unfold nz; omega) _ hE (.inr ⟨gp, 0, rfl, fun j hj => by rw [Nat.zero_add]; exact kc_cell hP j hj, hgp2⟩)).mono ?_)
  rintro r u5 ⟨rfl, hE2, hbt⟩
  refine ⟨_, rfl, ?_⟩
  simp only [Act.put, List.setIfInBounds_toArray, List.set_cons_zero, List.set_cons_succ, List.getElem_toArray, List.getElem_cons_zero, List.getElem_cons_succ]
  refine wpList_nil ?_
  obtain ⟨l2, hl2, _, hH2, _⟩ := hE2
  replace hL := hL.but hbt 1 (x := ⟨ge, c, 73⟩) rfl rfl hH2
  simp only [List.set_cons_zero, List.set_cons_succ] at hL
  clear hbt hE
  replace hL := hide hL
  go_upto_region 5 with fail
  refine wp_region_lit ?_
  iterate 1 (refine wpList_step fun K hK => ?_; replace hK := hide hK; go_simp; refine unhide hK _ _ ?_; clear hK K)
  obtain ⟨s, hs⟩ : ∃ s, s = bk ((B ++ padL B.length).length / 64) F0 (B ++ padL B.length) := ⟨_, rfl⟩
  have hsl : s.length = 8 := by rw [hs]; exact bk_len _ _ rfl _
  rw [← hs] at hH2
  refine list_val (.agg (uc s)) (by kernel_rfl) (exec_row _ 67 (.tmp 16) rfl ge 0 (by kernel_rfl) (s.map (Value.int .u32)) _ (range_st hH2) Tryd.underlying67 rfl (by rw [Tryd.infoS, List.length_map, hsl])) ?_
  simp only [Act.put, List.setIfInBounds_toArray, List.set_cons_zero, List.set_cons_succ, List.getElem_toArray, List.getElem_cons_zero, List.getElem_cons_succ]
  refine list_call 45 #[.agg (uc s)] (by kernel_rfl) (by kernel_rfl) ((key_ok s hsl _).mono ?_)
  rintro r u6 ⟨rfl, hg⟩
  refine ⟨_, rfl, ?_⟩
  simp only [Act.put, List.setIfInBounds_toArray, List.set_cons_zero, List.set_cons_succ, List.getElem_toArray, List.getElem_cons_zero, List.getElem_cons_succ]
  replace hL := (unhide hL).more hg
  have hkl : (keyL s).length = 32 := keyL_len s
  have hks : keyL s = sumL B := by rw [hs]; rfl
  clear hH2 hg hs
  generalize keyL s = m at *
  generalize hc _ _ _ = ce at *
  refine list_store 28 (.tmp 2) (.tmp 18) w.heap.size (kc m) 28 (kc Z32) (by kernel_rfl) rfl (by kernel_rfl) (by kernel_rfl) (hL.get 0 (x := ⟨w.heap.size, kc Z32, 28⟩) rfl) (by rw [Tryd.infoKey, kc_size, hkl]) ((show (kc Z32).size = 32 from rfl).trans ((kc_size _).trans hkl).symm) (kc_one _) ?_
  replace hL := hL.set 0 (x := ⟨w.heap.size, kc Z32, 28⟩) rfl (kc m)
  simp only [List.set_cons_zero, List.set_cons_succ] at hL
  generalize World.setRow _ _ _ = u7 at *
  simp only [Act.put, List.setIfInBounds_toArray, List.set_cons_zero, List.set_cons_succ, List.getElem_toArray, List.getElem_cons_zero, List.getElem_cons_succ]
  refine wpList_nil ?_
  go_wp2_with fail
  rw [unhide hT]
  exact bodyPost_ret (v := .agg (kc m)) (results_cell_row Tryd.results32 _ _ w.heap.size 28 (kc m) (0, 0) _ rfl (hL.get 0 (x := ⟨w.heap.size, kc m, 28⟩) rfl) Tryd.underlying28 rfl (by rw [Tryd.infoKey, kc_size, hkl])) rfl ⟨by rw [hks], hL.gr⟩
end Go.Proofs.YthnmebhljkccnaaDoor
