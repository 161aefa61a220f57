/-
  Of layer 12: what the proof leans on.
-/
import Derived.Test.YtaoiejgjdmakjaaDoorDoesK5
namespace Go.Proofs.YtaoiejgjdmakjaaDoor
open Go.RowKit
set_option maxRecDepth 100000
set_option linter.unusedSimpArgs false
set_option linter.unusedVariables false
theorem exec_eqB {a : Act} {o : Oper} (w : World) (x y : Operand) (ho : o.op = .binOp .eql 50 x y 50) (b d : List Int) (hb : b.length = 64) (hd : d.length = 64) (hx : a.eval x = .agg (kc b)) (hy : a.eval y = .agg (kc d)) (q : Bool) (hq : q = decide (b = d)) : (execOp a.eval o).run Tryd.prog w = .ok (.value (.bool q)) w := by
  have h := eq_B b d hb hd w
  rw [← hq] at h
  unfold execOp
  simp only [ho, hx, hy]
  go_simp
theorem spl_len {s : Sup} (h : s.hash.length = 16) : (spl s).length = 19 := by unfold spl bv; simp [h]
theorem sub_sub (b : List Int) (o n k m : Nat) (h : k + m ≤ n) : (((b.drop o).take n).drop k).take m = (b.drop (o + k)).take m := by
  rw [List.drop_take, List.take_take, List.drop_drop, Nat.min_eq_left (by omega)]
theorem sp_spl (s : Sup) (h : List Int) (hs : s.hash.length = h.length) : sp (spl s) 3 (h.map (Value.int .u8)) = spl ⟨s.place, s.turn, s.size, h⟩ := by
  have e := sp_mid (h.map (Value.int .u8)) [.int .u8 (s.place : Int), .int .u64 (s.turn : Int), .int .u32 (s.size : Int)] (bv s.hash) [] (by unfold bv; rw [List.length_map, List.length_map, hs])
  rw [List.append_nil, List.append_nil] at e
  exact e
theorem sup_right {b : List Int} (hb : BB b) : ((supOf b).place < 2 ∧ (supOf b).blk = b) ↔ rightB b = true := by
  constructor
  · rintro ⟨h1, h2⟩
    obtain ⟨e1, e2, e3, e4, b1, b2, b3, b4⟩ := sup_nums hb
    have hl := hb.1
    have ok : (supOf b).Ok := ⟨h1, by omega, by omega, by rw [e4, List.length_take, List.length_drop]; omega, by rw [e4]; exact fun x hx => hb.2 x (List.mem_of_mem_drop (List.mem_of_mem_take hx))⟩
    have := right_blk ok
    rw [h2] at this
    exact this
  · intro h
    obtain ⟨h1, h2⟩ := right_eq hb h
    exact ⟨h1.p, h2.symm⟩
theorem sup_ok2 {b : List Int} (hb : BB b) (h1 : (supOf b).place < 2) : (supOf b).Ok := by
  obtain ⟨e1, e2, e3, e4, b1, b2, b3, b4⟩ := sup_nums hb
  have hl := hb.1
  exact ⟨h1, by omega, by omega, by rw [e4, List.length_take, List.length_drop]; omega, by rw [e4]; exact fun x hx => hb.2 x (List.mem_of_mem_drop (List.mem_of_mem_take hx))⟩
theorem sup_hl {b : List Int} (hb : BB b) : (supOf b).hash.length = 16 := by
  obtain ⟨e1, e2, e3, e4, b1, b2, b3, b4⟩ := sup_nums hb
  have hl := hb.1
  rw [e4, List.length_take, List.length_drop]
  omega
def Rds (b : List Int) (w : World) (r : Ending) (w' : World) : Prop := r = .returned (.tuple #[.agg (spv (supOf b)), .bool (rightB b)]) ∧ Gr w w'
set_option maxHeartbeats 4000000 in
theorem sread_ok (b : List Int) (hb : BB b) (w : World) (hf : Fst w) : Calls Tryd.prog 86 #[.agg (kc b)] w (Rds b w) := by
  obtain ⟨T, hT⟩ : ∃ T, T = Rds b w := ⟨_, rfl⟩
  rw [← hT]
  replace hT := hide hT
  obtain ⟨SK, hSK⟩ : ∃ X, X = kc b := ⟨_, rfl⟩
  rw [← hSK]
  obtain ⟨e1, e2, e3, e4, -⟩ := sup_nums hb
  have hrt := sup_right hb
  have hok2 := sup_ok2 hb
  have hhl := sup_hl hb
  have hbl := hb.1
  have hR0 : Hid (T = fun r w' => r = .returned (.tuple #[.agg (spv (supOf b)), .bool (rightB b)]) ∧ Gr w w') := hT
  clear hT
  generalize hs : supOf b = s at *
  generalize rightB b = rt at *
  have t1 : lowN ((((b.drop 12).take 52).drop 0).take 8) = (s.turn : Int) := by rw [sub_sub b 12 52 0 8 (by omega)]; exact e2.symm
  have t2 : lowN ((((b.drop 12).take 52).drop 8).take 4) = (s.size : Int) := by rw [sub_sub b 12 52 8 4 (by omega)]; exact e3.symm
  have t3 : (((b.drop 12).take 52).drop 12).take 16 = s.hash := by rw [sub_sub b 12 52 12 16 (by omega)]; exact e4.symm
  have hBl : ((b.drop 12).take 52).length = 52 := by rw [List.length_take, List.length_drop, hbl]; rfl
  have hih : IsB s.hash := by rw [e4]; exact fun x hx => hb.2 x (List.mem_of_mem_drop (List.mem_of_mem_take hx))
  clear hs e2 e3 e4
  replace hSK := hide hSK; replace hf := hide hf; replace hb := hide hb; replace e1 := hide e1; replace t1 := hide t1; replace t2 := hide t2; replace t3 := hide t3; replace hrt := hide hrt; replace hok2 := hide hok2; replace hih := hide hih
  go_enter Tryd.func86, Tryd.ntmps86
  go_upto_region 1 with fail
  have hB := (((Bl.nil w).new SK 50).new #[.int .u8 0, .int .u64 0, .int .u32 0, .int .u8 0, .int .u8 0, .int .u8 0, .int .u8 0, .int .u8 0, .int .u8 0, .int .u8 0, .int .u8 0, .int .u8 0, .int .u8 0, .int .u8 0, .int .u8 0, .int .u8 0, .int .u8 0, .int .u8 0, .int .u8 0] 85)
  simp only [size_alloc, List.nil_append, List.cons_append] at hB
  generalize World.alloc _ _ = u at *
  rw [unhide hSK] at hB
  replace hB : Bl w [⟨w.heap.size, kc b, 50⟩, ⟨w.heap.size + 1, spv ZSp, 85⟩] u := hB
  refine wp_region_lit ?_
  refine list_val (.pointer (some ⟨w.heap.size, 10, none⟩)) (by kernel_rfl) (by kernel_rfl) ?_
  simp only [nrm]
  refine list_val (.int .u8 (s.place : Int)) (by kernel_rfl) (exec_b _ (.tmp 6) rfl (w.heap.size) 10 (by kernel_rfl) _ (by rw [unhide e1]; exact kc_cell (hB.get 0 (x := ⟨w.heap.size, kc b, 50⟩) rfl) 10 (by omega))) ?_
  simp only [nrm]
  refine list_val (.agg (spv ⟨s.place, 0, 0, Z16⟩)) (by kernel_rfl) (by kernel_rfl) ?_
  simp only [nrm]
  refine list_valw (.pointer (some ⟨u.heap.size, 0, none⟩)) (u.alloc (.cells (spv ZSp) 85 (0, 0))) (by kernel_rfl) (by kernel_rfl) ?_
  replace hB := hB.new (spv ZSp) 85
  simp only [List.nil_append, List.cons_append] at hB
  generalize World.alloc _ _ = u1 at *
  generalize u.heap.size = gs at *
  replace hB : Bl w [⟨w.heap.size, kc b, 50⟩, ⟨w.heap.size + 1, spv ZSp, 85⟩, ⟨gs, spv ZSp, 85⟩] u1 := hB
  simp only [nrm]
  refine list_store 85 (.tmp 4) (.tmp 8) (gs) (spv ⟨s.place, 0, 0, Z16⟩) 85 (spv ZSp) (by kernel_rfl) rfl (by kernel_rfl) (by kernel_rfl) (hB.get 2 (x := ⟨gs, spv ZSp, 85⟩) rfl) (by rw [Tryd.infoSp, spv_size (s := ⟨s.place, 0, 0, Z16⟩) (by first | rfl | exact hhl)]) (by rw [spv_size (s := ⟨s.place, 0, 0, Z16⟩) (by first | rfl | exact hhl)]; rfl) (spv_one _) ?_
  replace hB := hB.set 2 (x := ⟨gs, spv ZSp, 85⟩) rfl (spv ⟨s.place, 0, 0, Z16⟩)
  simp only [List.set_cons_zero, List.set_cons_succ] at hB
  generalize World.setRow _ _ _ = u2 at *
  replace hB : Bl w [⟨w.heap.size, kc b, 50⟩, ⟨w.heap.size + 1, spv ZSp, 85⟩, ⟨gs, spv ⟨s.place, 0, 0, Z16⟩, 85⟩] u2 := hB
  simp only [nrm]
  refine wpList_nil ?_
  replace hB := hide hB
  go_upto_region 2 with fail
  replace hB := unhide hB
  refine wp_region_lit ?_
  refine list_val (.slice (some ⟨w.heap.size, 12, none⟩) 52 52) (by kernel_rfl) (by kernel_rfl) ?_
  simp only [nrm]
  have hlb : Lb u2 (some ⟨w.heap.size, 12, none⟩) 52 52 ((b.drop 12).take 52) := sub_lb (hB.get 0 (x := ⟨w.heap.size, kc b, 50⟩) rfl) (unhide hb).2 12 52 52 (by omega) (by omega) (by omega)
  refine list_call 80 #[.slice (some ⟨w.heap.size, 12, none⟩) 52 52] (by kernel_rfl) (by kernel_rfl) ((oread_ok _ (w.heap.size) 12 52 52 u2 hlb (by omega) (by omega)).mono ?_)
  rintro r u3 ⟨gr, p, c, rfl, hg1, hg2, hR, hg⟩
  rw [hBl] at hR
  have hgs : gs < u2.heap.size := lt_of_block (hB.get 2 (x := ⟨gs, spv ⟨s.place, 0, 0, Z16⟩, 85⟩) rfl)
  have hne1 : gr ≠ gs := by omega
  have hne2 : p ≠ gs := by omega
  have hB2 := hB.join hg [⟨gr, rdr 0 p 52 c, 144⟩] (by intro x hx; rw [List.mem_singleton] at hx; subst hx; exact ⟨hR.cel, hg1⟩) (List.pairwise_singleton _ _)
  replace hB2 : Bl w [⟨w.heap.size, kc b, 50⟩, ⟨w.heap.size + 1, spv ZSp, 85⟩, ⟨gs, spv ⟨s.place, 0, 0, Z16⟩, 85⟩, ⟨gr, rdr 0 p 52 c, 144⟩] u3 := hB2
  clear hB hg1 hg2 hg hgs hlb
  have hB := hB2
  clear hB2
  replace hR := hide hR
  generalize (b.drop 12).take 52 = B12 at *
  refine ⟨_, rfl, ?_⟩
  simp only [nrm]
  (refine wpList_step fun K hK => ?_; replace hK := hide hK; go_simp; refine unhide hK _ _ ?_; clear hK K)
  refine wpList_nil ?_
  replace hB := hide hB
  go_upto_region 3 with fail
  replace hB := unhide hB
  refine wp_region_lit ?_
  refine list_val (.pointer (some ⟨gr, 0, none⟩)) (by kernel_rfl) (by kernel_rfl) ?_
  simp only [nrm]
  refine list_call 102 #[P0 gr] (by kernel_rfl) (by kernel_rfl) ((ru64_ok gr p 52 c 0 B12 u3 (unhide hR) (by omega) (by omega)).mono ?_)
  rintro r u4 ⟨rfl, hR2, hbt⟩
  have hB2 := hB.but hbt 3 (x := ⟨gr, rdr 0 p 52 c, 144⟩) rfl rfl hR2.cel
  simp only [List.set_cons_zero, List.set_cons_succ] at hB2
  clear hB hR
  have hB : Bl w [⟨w.heap.size, kc b, 50⟩, ⟨w.heap.size + 1, spv ZSp, 85⟩, ⟨gs, spv ⟨s.place, 0, 0, Z16⟩, 85⟩, ⟨gr, rdr 8 p 52 c, 144⟩] u4 := hB2
  rw [unhide t1]
  have hR : Hid (Rdr gr p 52 c 8 B12 u4) := hR2
  clear hB2 hR2 hbt
  refine ⟨_, rfl, ?_⟩
  simp only [nrm]
  refine list_val (.pointer (some ⟨gs, 1, none⟩)) (by kernel_rfl) (by kernel_rfl) ?_
  simp only [nrm]
  have hR2 := hide ((unhide hR).bt (Bt.setCell (g := gs) u4 1 (.int .u64 (s.turn : Int))) hne1 hne2)
  clear hR
  have c4 := cell_of (hB.get 2 (x := ⟨gs, spv ⟨s.place, 0, 0, Z16⟩, 85⟩) rfl) (i := 1) rfl
  have fz := froz_of (i := 1) (hB.get 2 (x := ⟨gs, spv ⟨s.place, 0, 0, Z16⟩, 85⟩) rfl)
  have hB2 := hB.cell 2 (x := ⟨gs, spv ⟨s.place, 0, 0, Z16⟩, 85⟩) rfl 1 (.int .u64 (s.turn : Int))
  simp only [List.set_cons_zero, List.set_cons_succ] at hB2
  replace hB2 : Bl w [⟨w.heap.size, kc b, 50⟩, ⟨w.heap.size + 1, spv ZSp, 85⟩, ⟨gs, spv ⟨s.place, s.turn, 0, Z16⟩, 85⟩, ⟨gr, rdr 8 p 52 c, 144⟩] _ := hB2
  clear hB
  replace hB2 := hide hB2
  dsimp only at c4 fz
  (refine wpList_step fun K hK => ?_; replace hK := hide hK; go_simp; refine unhide hK _ _ ?_; clear hK K)
  clear c4 fz
  have hB := unhide hB2
  clear hB2
  generalize World.setCell _ _ _ = u5 at *
  have hR := hR2
  clear hR2
  refine wpList_nil ?_
  replace hB := hide hB
  go_upto_region 4 with fail
  replace hB := unhide hB
  refine wp_region_lit ?_
  refine list_val (.pointer (some ⟨gr, 0, none⟩)) (by kernel_rfl) (by kernel_rfl) ?_
  simp only [nrm]
  refine list_call 81 #[P0 gr] (by kernel_rfl) (by kernel_rfl) ((ru32_ok gr p 52 c 8 B12 u5 (unhide hR) (by omega) (by omega)).mono ?_)
  rintro r u6 ⟨rfl, hR2, hbt⟩
  have hB2 := hB.but hbt 3 (x := ⟨gr, rdr 8 p 52 c, 144⟩) rfl rfl hR2.cel
  simp only [List.set_cons_zero, List.set_cons_succ] at hB2
  clear hB hR
  have hB : Bl w [⟨w.heap.size, kc b, 50⟩, ⟨w.heap.size + 1, spv ZSp, 85⟩, ⟨gs, spv ⟨s.place, s.turn, 0, Z16⟩, 85⟩, ⟨gr, rdr 12 p 52 c, 144⟩] u6 := hB2
  rw [unhide t2]
  have hR : Hid (Rdr gr p 52 c 12 B12 u6) := hR2
  clear hB2 hR2 hbt
  refine ⟨_, rfl, ?_⟩
  simp only [nrm]
  refine list_val (.pointer (some ⟨gs, 2, none⟩)) (by kernel_rfl) (by kernel_rfl) ?_
  simp only [nrm]
  have hR2 := hide ((unhide hR).bt (Bt.setCell (g := gs) u6 2 (.int .u32 (s.size : Int))) hne1 hne2)
  clear hR
  have c4 := cell_of (hB.get 2 (x := ⟨gs, spv ⟨s.place, s.turn, 0, Z16⟩, 85⟩) rfl) (i := 2) rfl
  have fz := froz_of (i := 2) (hB.get 2 (x := ⟨gs, spv ⟨s.place, s.turn, 0, Z16⟩, 85⟩) rfl)
  have hB2 := hB.cell 2 (x := ⟨gs, spv ⟨s.place, s.turn, 0, Z16⟩, 85⟩) rfl 2 (.int .u32 (s.size : Int))
  simp only [List.set_cons_zero, List.set_cons_succ] at hB2
  replace hB2 : Bl w [⟨w.heap.size, kc b, 50⟩, ⟨w.heap.size + 1, spv ZSp, 85⟩, ⟨gs, spv ⟨s.place, s.turn, s.size, Z16⟩, 85⟩, ⟨gr, rdr 12 p 52 c, 144⟩] _ := hB2
  clear hB
  replace hB2 := hide hB2
  dsimp only at c4 fz
  (refine wpList_step fun K hK => ?_; replace hK := hide hK; go_simp; refine unhide hK _ _ ?_; clear hK K)
  clear c4 fz
  have hB := unhide hB2
  clear hB2
  generalize World.setCell _ _ _ = u7 at *
  have hR := hR2
  clear hR2
  refine wpList_nil ?_
  replace hB := hide hB
  go_upto_region 5 with fail
  replace hB := unhide hB
  refine any_start (S := fun _ => True) (by kernel_rfl) ?_
  replace hB := hB.drew
  replace hR := hide ((unhide hR).gr (Gr.refl _).drew)
  generalize World.drew _ = x0 at *
  simp only [List.size_toArray, List.length_cons, List.length_nil, Array.replicate, List.replicate]
  refine any_take (i := 0) (v := (.pointer (some ⟨gs, 3, none⟩))) #[false, false, false, false, false] rfl (by kernel_rfl) (by kernel_rfl) (by kernel_rfl) (by kernel_rfl) (fun _ _ _ h => h) (.inl ⟨by kernel_rfl, fun x_ hu => by kernel_rfl⟩) trivial ?_
  simp only [nrm]
  refine any_take (i := 1) (v := (.slice (some ⟨gs, 3, none⟩) 16 16)) #[true, false, false, false, false] rfl (by kernel_rfl) (by kernel_rfl) (by kernel_rfl) (by kernel_rfl) (fun _ _ _ h => h) (.inl ⟨by kernel_rfl, fun x_ hu => by kernel_rfl⟩) trivial ?_
  simp only [nrm]
  refine any_take (i := 2) (v := (.pointer (some ⟨gr, 0, none⟩))) #[true, true, false, false, false] rfl (by kernel_rfl) (by kernel_rfl) (by kernel_rfl) (by kernel_rfl) (fun _ _ _ h => h) (.inl ⟨by kernel_rfl, fun x_ hu => by kernel_rfl⟩) trivial ?_
  simp only [nrm]
  refine any_one (i := 3) (by kernel_rfl) rfl (fun K_ hQ => ?_)
  refine step_callw (by kernel_rfl) 82 #[P0 gr, .int .i64 ((16 : Nat) : Int)] (by kernel_rfl) ((rraw_ok gr p 52 c 12 16 B12 x0 (unhide hR) (by omega) (by omega) (by omega)).mono ?_)
  rintro r u8 ⟨vr, rfl, hO, hR2, hbt⟩
  refine ⟨_, rfl, ?_⟩
  rw [unhide t3] at hO
  obtain ⟨ar, cr, rfl, hlr⟩ := ob_lb hO (unhide hih) hhl
  have hB2 := hB.but hbt 3 (x := ⟨gr, rdr 12 p 52 c, 144⟩) rfl rfl hR2.cel
  simp only [List.set_cons_zero, List.set_cons_succ] at hB2
  clear hB hR hO hbt hR2
  have hB : Bl w [⟨w.heap.size, kc b, 50⟩, ⟨w.heap.size + 1, spv ZSp, 85⟩, ⟨gs, spv ⟨s.place, s.turn, s.size, Z16⟩, 85⟩, ⟨gr, rdr 28 p 52 c, 144⟩] u8 := hB2
  clear hB2
  refine hQ.out _ _ trivial (fun _ => ?_)
  clear hQ K_
  simp only [nrm]
  refine any_one (i := 4) (by kernel_rfl) rfl (fun K_ hQ => ?_)
  rw [if_pos (by kernel_rfl)]
  refine copy_wp (.tmp 18) (.tmp 20) rfl gs 3 16 16 ar 16 cr (by kernel_rfl) (by kernel_rfl) (spl ⟨s.place, s.turn, s.size, Z16⟩) 85 (hB.get 2 (x := ⟨gs, spv ⟨s.place, s.turn, s.size, Z16⟩, 85⟩) rfl) s.hash (by rw [hhl]; rfl) hlr.sl (by have := spl_len (s := ⟨s.place, s.turn, s.size, Z16⟩) rfl; rw [hhl]; omega) ?_
  have hcell := setCells_heap (s.hash.map (Value.int .u8)) u8 gs 3 (spl ⟨s.place, s.turn, s.size, Z16⟩) 85 (hB.get 2 (x := ⟨gs, spv ⟨s.place, s.turn, s.size, Z16⟩, 85⟩) rfl)
  rw [sp_spl _ _ (by rw [hhl]; rfl)] at hcell
  have hB2 := hB.but (setCells_bt (s.hash.map (Value.int .u8)) u8 gs 3) 2 (x := ⟨gs, spv ⟨s.place, s.turn, s.size, Z16⟩, 85⟩) rfl rfl hcell
  simp only [List.set_cons_zero, List.set_cons_succ] at hB2
  generalize World.setCells _ _ _ _ = u9 at *
  rw [hhl]
  clear hcell hB hlr
  have hB : Bl w [⟨w.heap.size, kc b, 50⟩, ⟨w.heap.size + 1, spv ZSp, 85⟩, ⟨gs, spv s, 85⟩, ⟨gr, rdr 28 p 52 c, 144⟩] u9 := hB2
  clear hB2
  refine hQ.out _ _ trivial (fun _ => ?_)
  clear hQ K_
  simp only [nrm]
  refine any_done (by kernel_rfl) ?_
  replace hB := hide hB
  go_upto_region 6 with fail
  replace hB := unhide hB
  by_cases hpl : s.place < 2
  · skip
    have hpI : (s.place : Int) < 2 := by omega
    have hok := unhide hok2 hpl
    have hrt2 : rt = decide (s.blk = b) := by
      have h := unhide hrt
      by_cases hq : s.blk = b
      · rw [decide_eq_true hq]; exact h.1 ⟨hpl, hq⟩
      · rw [decide_eq_false hq]
        cases hr : rt
        · rfl
        · exact absurd (h.2 hr).2 hq
    clear hpl
    replace hrt2 := hide hrt2
    refine any_start (S := fun (v : World) => v.heap[gs]? = some (.cells (spv s) 85 (0, 0)) ∧ v.heap[w.heap.size]? = some (.cells (kc b) 50 (0, 0))) (by kernel_rfl) ?_
    replace hB := hB.drew
    generalize World.drew _ = x1 at *
    have hS : (fun (v : World) => v.heap[gs]? = some (.cells (spv s) 85 (0, 0)) ∧ v.heap[w.heap.size]? = some (.cells (kc b) 50 (0, 0))) x1 := ⟨(hB.get 2 (x := ⟨gs, spv s, 85⟩) rfl), (hB.get 0 (x := ⟨w.heap.size, kc b, 50⟩) rfl)⟩
    simp only [List.size_toArray, List.length_cons, List.length_nil, Array.replicate, List.replicate]
    refine any_take (i := 0) (v := (.agg (spv s))) #[false, false, false, false, false, false, false, false, false, false, false, false] rfl (by kernel_rfl) (by kernel_rfl) (by kernel_rfl) (by kernel_rfl) (fun _ _ _ h => h) (.inl ⟨by kernel_rfl, fun x_ hu => exec_arr _ 85 (.tmp 4) rfl gs (by kernel_rfl) (spv s) 85 _ hu.1 Tryd.underlying85 rfl (by rw [Tryd.infoSp, spv_size hhl])⟩) hS ?_
    simp only [nrm]
    refine any_take (i := 1) (v := (.pointer (some ⟨gs, 0, none⟩))) #[true, false, false, false, false, false, false, false, false, false, false, false] rfl (by kernel_rfl) (by kernel_rfl) (by kernel_rfl) (by kernel_rfl) (fun _ _ _ h => h) (.inl ⟨by kernel_rfl, fun x_ hu => by kernel_rfl⟩) hS ?_
    simp only [nrm]
    refine any_take (i := 2) (v := (.int .u8 (s.place : Int))) #[true, true, false, false, false, false, false, false, false, false, false, false] rfl (by kernel_rfl) (by kernel_rfl) (by kernel_rfl) (by kernel_rfl) (fun _ _ _ h => h) (.inl ⟨by kernel_rfl, fun x_ hu => exec_b _ (.tmp 23) rfl gs 0 (by kernel_rfl) _ (spv_cells hu.1).1⟩) hS ?_
    simp only [nrm]
    refine any_take (i := 3) (v := (.bool true)) #[true, true, true, false, false, false, false, false, false, false, false, false] rfl (by kernel_rfl) (by kernel_rfl) (by kernel_rfl) (by kernel_rfl) (fun _ _ _ h => h) (.inl ⟨by kernel_rfl, fun x_ hu => by go_simp⟩) hS ?_
    simp only [nrm]
    refine any_take (i := 4) (v := (.bool true)) #[true, true, true, true, false, false, false, false, false, false, false, false] rfl (by kernel_rfl) (by kernel_rfl) (by kernel_rfl) (by kernel_rfl) (fun _ _ _ h => h) (.inl ⟨by kernel_rfl, fun x_ hu => by kernel_rfl⟩) hS ?_
    simp only [nrm]
    refine any_take (i := 5) (v := (.agg (spv s))) #[true, true, true, true, true, false, false, false, false, false, false, false] rfl (by kernel_rfl) (by kernel_rfl) (by kernel_rfl) (by kernel_rfl) (fun _ _ _ h => h) (.inl ⟨by kernel_rfl, fun x_ hu => exec_arr _ 85 (.tmp 4) rfl gs (by kernel_rfl) (spv s) 85 _ hu.1 Tryd.underlying85 rfl (by rw [Tryd.infoSp, spv_size hhl])⟩) hS ?_
    simp only [nrm]
    refine any_take (i := 7) (v := (.agg (kc b))) #[true, true, true, true, true, true, false, false, false, false, false, false] rfl (by kernel_rfl) (by kernel_rfl) (by kernel_rfl) (by kernel_rfl) (fun _ _ _ h => h) (.inl ⟨by kernel_rfl, fun x_ hu => exec_arr _ 50 (.tmp 1) rfl (w.heap.size) (by kernel_rfl) (kc b) 50 _ hu.2 Tryd.underlying50 rfl (by rw [Tryd.infoB, kc_size, hbl])⟩) hS ?_
    simp only [nrm]
    refine any_one (i := 6) (by kernel_rfl) rfl (fun K_ hQ => ?_)
    refine step_callw (by kernel_rfl) 50 #[.agg (spv s)] (by kernel_rfl) ((sblock_ok s hok x1 ((unhide hf).gr hB.gr)).mono ?_)
    rintro r u11 ⟨rfl, hg⟩
    refine ⟨_, rfl, ?_⟩
    replace hB := hB.more hg
    have hKl := (blk_bb hok).1
    obtain ⟨BK, hBK⟩ : ∃ x, x = s.blk := ⟨_, rfl⟩
    rw [← hBK] at hKl ⊢
    have hrq : rt = decide (BK = b) := by rw [hBK]; exact unhide hrt2
    replace hrq := hide hrq
    replace hS : (fun (v : World) => v.heap[gs]? = some (.cells (spv s) 85 (0, 0)) ∧ v.heap[w.heap.size]? = some (.cells (kc b) 50 (0, 0))) u11 := ⟨hg.blk hS.1, hg.blk hS.2⟩
    replace hBK := hide hBK
    clear hg
    refine hQ.out _ _ hS (fun _ => ?_)
    clear hQ K_
    simp only [nrm]
    refine any_take (i := 8) (v := (.bool rt)) #[true, true, true, true, true, true, true, true, false, false, false, false] rfl (by kernel_rfl) (by kernel_rfl) (by kernel_rfl) (by kernel_rfl) (fun _ _ _ h => h) (.inl ⟨by kernel_rfl, fun x_ hu => exec_eqB _ (.tmp 28) (.tmp 29) rfl BK b hKl hbl (by kernel_rfl) (by kernel_rfl) rt (unhide hrq)⟩) hS ?_
    simp only [nrm]
    refine any_take (i := 9) (v := (.bool rt)) #[true, true, true, true, true, true, true, true, true, false, false, false] rfl (by kernel_rfl) (by kernel_rfl) (by kernel_rfl) (by kernel_rfl) (fun _ _ _ h => h) (.inl ⟨by kernel_rfl, fun x_ hu => by kernel_rfl⟩) hS ?_
    simp only [nrm]
    refine any_one (i := 10) (by kernel_rfl) rfl (fun K_ hQ => ?_)
    rw [if_pos (by kernel_rfl)]
    refine wp_store_row 85 (.tmp 2) (.tmp 22) rfl (w.heap.size + 1) (spv s) (by kernel_rfl) (by kernel_rfl) 85 (spv ZSp) (hB.get 1 (x := ⟨w.heap.size + 1, spv ZSp, 85⟩) rfl) (by rw [Tryd.infoSp, spv_size hhl]) (by rw [spv_size hhl]; rfl) (spv_one _) ?_
    have hB2 := hB.set 1 (x := ⟨w.heap.size + 1, spv ZSp, 85⟩) rfl (spv s)
    simp only [List.set_cons_zero, List.set_cons_succ] at hB2
    generalize World.setRow _ _ _ = u12 at *
    clear hB hS
    have hB : Bl w [⟨w.heap.size, kc b, 50⟩, ⟨w.heap.size + 1, spv s, 85⟩, ⟨gs, spv s, 85⟩, ⟨gr, rdr 28 p 52 c, 144⟩] u12 := hB2
    clear hB2
    have hS : (fun (v : World) => v.heap[gs]? = some (.cells (spv s) 85 (0, 0)) ∧ v.heap[w.heap.size]? = some (.cells (kc b) 50 (0, 0))) u12 := ⟨(hB.get 2 (x := ⟨gs, spv s, 85⟩) rfl), (hB.get 0 (x := ⟨w.heap.size, kc b, 50⟩) rfl)⟩
    refine hQ.out _ _ hS (fun _ => ?_)
    clear hQ K_
    simp only [nrm]
    refine any_one (i := 11) (by kernel_rfl) rfl (fun K_ hQ => ?_)
    replace hQ := hide hQ
    go_simp
    refine (unhide hQ).out _ _ hS (fun _ => ?_)
    clear hQ K_
    refine any_done (by kernel_rfl) ?_
    replace hB := hide hB
    clear hS
    go_wp2_with fail
    replace hB := unhide hB
    rw [unhide hR0]
    exact bodyPost_ret (v := .tuple #[.agg (spv s), .bool rt]) (results_cell_tmp Tryd.results86 _ _ (w.heap.size + 1) 85 (spv s) (0, 0) _ rfl (.bool rt) rfl (hB.get 1 (x := ⟨w.heap.size + 1, spv s, 85⟩) rfl) Tryd.underlying85 rfl (by rw [Tryd.infoSp, spv_size hhl])) rfl ⟨rfl, hB.gr⟩
  · skip
    have hpI : ¬ (s.place : Int) < 2 := by omega
    have hrf : rt = false := by
      cases hr : rt
      · rfl
      · exact absurd ((unhide hrt).2 hr).1 hpl
    clear hpl
    replace hrf := hide hrf
    refine any_start (S := fun (v : World) => v.heap[gs]? = some (.cells (spv s) 85 (0, 0)) ∧ v.heap[w.heap.size]? = some (.cells (kc b) 50 (0, 0))) (by kernel_rfl) ?_
    replace hB := hB.drew
    generalize World.drew _ = x1 at *
    have hS : (fun (v : World) => v.heap[gs]? = some (.cells (spv s) 85 (0, 0)) ∧ v.heap[w.heap.size]? = some (.cells (kc b) 50 (0, 0))) x1 := ⟨(hB.get 2 (x := ⟨gs, spv s, 85⟩) rfl), (hB.get 0 (x := ⟨w.heap.size, kc b, 50⟩) rfl)⟩
    simp only [List.size_toArray, List.length_cons, List.length_nil, Array.replicate, List.replicate]
    refine any_take (i := 0) (v := (.agg (spv s))) #[false, false, false, false, false, false, false, false, false, false, false, false] rfl (by kernel_rfl) (by kernel_rfl) (by kernel_rfl) (by kernel_rfl) (fun _ _ _ h => h) (.inl ⟨by kernel_rfl, fun x_ hu => exec_arr _ 85 (.tmp 4) rfl gs (by kernel_rfl) (spv s) 85 _ hu.1 Tryd.underlying85 rfl (by rw [Tryd.infoSp, spv_size hhl])⟩) hS ?_
    simp only [nrm]
    refine any_take (i := 1) (v := (.pointer (some ⟨gs, 0, none⟩))) #[true, false, false, false, false, false, false, false, false, false, false, false] rfl (by kernel_rfl) (by kernel_rfl) (by kernel_rfl) (by kernel_rfl) (fun _ _ _ h => h) (.inl ⟨by kernel_rfl, fun x_ hu => by kernel_rfl⟩) hS ?_
    simp only [nrm]
    refine any_take (i := 2) (v := (.int .u8 (s.place : Int))) #[true, true, false, false, false, false, false, false, false, false, false, false] rfl (by kernel_rfl) (by kernel_rfl) (by kernel_rfl) (by kernel_rfl) (fun _ _ _ h => h) (.inl ⟨by kernel_rfl, fun x_ hu => exec_b _ (.tmp 23) rfl gs 0 (by kernel_rfl) _ (spv_cells hu.1).1⟩) hS ?_
    simp only [nrm]
    refine any_take (i := 3) (v := (.bool false)) #[true, true, true, false, false, false, false, false, false, false, false, false] rfl (by kernel_rfl) (by kernel_rfl) (by kernel_rfl) (by kernel_rfl) (fun _ _ _ h => h) (.inl ⟨by kernel_rfl, fun x_ hu => by go_simp⟩) hS ?_
    simp only [nrm]
    refine any_take (i := 4) (v := (.bool false)) #[true, true, true, true, false, false, false, false, false, false, false, false] rfl (by kernel_rfl) (by kernel_rfl) (by kernel_rfl) (by kernel_rfl) (fun _ _ _ h => h) (.inl ⟨by kernel_rfl, fun x_ hu => by kernel_rfl⟩) hS ?_
    simp only [nrm]
    refine any_take (i := 5) (v := undef) #[true, true, true, true, true, false, false, false, false, false, false, false] rfl (by kernel_rfl) (by kernel_rfl) (by kernel_rfl) (by kernel_rfl) (fun _ _ _ h => h) (.inr ⟨by kernel_rfl, rfl⟩) hS ?_
    simp only [nrm]
    refine any_take (i := 6) (v := undef) #[true, true, true, true, true, true, false, false, false, false, false, false] rfl (by kernel_rfl) (by kernel_rfl) (by kernel_rfl) (by kernel_rfl) (fun _ _ _ h => h) (.inr ⟨by kernel_rfl, rfl⟩) hS ?_
    simp only [nrm]
    refine any_take (i := 7) (v := undef) #[true, true, true, true, true, true, true, false, false, false, false, false] rfl (by kernel_rfl) (by kernel_rfl) (by kernel_rfl) (by kernel_rfl) (fun _ _ _ h => h) (.inr ⟨by kernel_rfl, rfl⟩) hS ?_
    simp only [nrm]
    refine any_take (i := 8) (v := undef) #[true, true, true, true, true, true, true, true, false, false, false, false] rfl (by kernel_rfl) (by kernel_rfl) (by kernel_rfl) (by kernel_rfl) (fun _ _ _ h => h) (.inr ⟨by kernel_rfl, rfl⟩) hS ?_
    simp only [nrm]
    refine any_take (i := 9) (v := (.bool false)) #[true, true, true, true, true, true, true, true, true, false, false, false] rfl (by kernel_rfl) (by kernel_rfl) (by kernel_rfl) (by kernel_rfl) (fun _ _ _ h => h) (.inl ⟨by kernel_rfl, fun x_ hu => by kernel_rfl⟩) hS ?_
    simp only [nrm]
    refine any_one (i := 10) (by kernel_rfl) rfl (fun K_ hQ => ?_)
    rw [if_pos (by kernel_rfl)]
    refine wp_store_row 85 (.tmp 2) (.tmp 22) rfl (w.heap.size + 1) (spv s) (by kernel_rfl) (by kernel_rfl) 85 (spv ZSp) (hB.get 1 (x := ⟨w.heap.size + 1, spv ZSp, 85⟩) rfl) (by rw [Tryd.infoSp, spv_size hhl]) (by rw [spv_size hhl]; rfl) (spv_one _) ?_
    have hB2 := hB.set 1 (x := ⟨w.heap.size + 1, spv ZSp, 85⟩) rfl (spv s)
    simp only [List.set_cons_zero, List.set_cons_succ] at hB2
    generalize World.setRow _ _ _ = u12 at *
    clear hB hS
    have hB : Bl w [⟨w.heap.size, kc b, 50⟩, ⟨w.heap.size + 1, spv s, 85⟩, ⟨gs, spv s, 85⟩, ⟨gr, rdr 28 p 52 c, 144⟩] u12 := hB2
    clear hB2
    have hS : (fun (v : World) => v.heap[gs]? = some (.cells (spv s) 85 (0, 0)) ∧ v.heap[w.heap.size]? = some (.cells (kc b) 50 (0, 0))) u12 := ⟨(hB.get 2 (x := ⟨gs, spv s, 85⟩) rfl), (hB.get 0 (x := ⟨w.heap.size, kc b, 50⟩) rfl)⟩
    refine hQ.out _ _ hS (fun _ => ?_)
    clear hQ K_
    simp only [nrm]
    refine any_one (i := 11) (by kernel_rfl) rfl (fun K_ hQ => ?_)
    replace hQ := hide hQ
    go_simp
    refine (unhide hQ).out _ _ hS (fun _ => ?_)
    clear hQ K_
    refine any_done (by kernel_rfl) ?_
    replace hB := hide hB
    clear hS
    go_wp2_with fail
    replace hB := unhide hB
    rw [unhide hR0]
    exact bodyPost_ret (v := .tuple #[.agg (spv s), .bool false]) (results_cell_tmp Tryd.results86 _ _ (w.heap.size + 1) 85 (spv s) (0, 0) _ rfl (.bool false) rfl (hB.get 1 (x := ⟨w.heap.size + 1, spv s, 85⟩) rfl) Tryd.underlying85 rfl (by rw [Tryd.infoSp, spv_size hhl])) rfl ⟨by rw [unhide hrf], hB.gr⟩
def Cnt (c : Sup × Bool) (w : World) (r : Ending) (w' : World) : Prop := r = .returned (.tuple #[.agg (spv (if c.2 then c.1 else ZSp)), .bool c.2]) ∧ Gr w w'
theorem ZSp_hl : ZSp.hash.length = 16 := rfl
set_option maxHeartbeats 4000000 in
theorem counts_ok (b0 b1 : List Int) (h0 : BB b0) (h1 : BB b1) (w : World) (hf : Fst w) : Calls Tryd.prog 70 #[.agg (kc b0), .agg (kc b1)] w (Cnt (cntS b0 b1) w) := by
  obtain ⟨T, hT⟩ : ∃ T, T = Cnt (cntS b0 b1) w := ⟨_, rfl⟩
  rw [← hT]
  replace hT := hide hT
  obtain ⟨SK, hSK⟩ : ∃ X, X = kc b0 := ⟨_, rfl⟩
  obtain ⟨SL, hSL⟩ : ∃ X, X = kc b1 := ⟨_, rfl⟩
  rw [← hSK, ← hSL]
  have hl0 := h0.1
  have hl1 := h1.1
  have k0 := sup_hl h0
  have k1 := sup_hl h1
  have hc : Hid (cntS b0 b1 = if rightB b0 = false ∨ (rightB b1 = true ∧ (supOf b0).turn < (supOf b1).turn) then (supOf b1, rightB b1) else (supOf b0, rightB b0)) := rfl
  generalize cntS b0 b1 = ct at *
  replace hSK := hide hSK; replace hSL := hide hSL; replace hf := hide hf; replace h0 := hide h0; replace h1 := hide h1
  go_enter Tryd.func70, Tryd.ntmps70
  go_upto_region 1 with fail
  have hB := ((((Bl.nil w).new SK 50).new SL 50).new #[.int .u8 0, .int .u64 0, .int .u32 0, .int .u8 0, .int .u8 0, .int .u8 0, .int .u8 0, .int .u8 0, .int .u8 0, .int .u8 0, .int .u8 0, .int .u8 0, .int .u8 0, .int .u8 0, .int .u8 0, .int .u8 0, .int .u8 0, .int .u8 0, .int .u8 0] 85)
  simp only [size_alloc, List.nil_append, List.cons_append] at hB
  generalize World.alloc _ _ = u at *
  rw [unhide hSK, unhide hSL] at hB
  replace hB : Bl w [⟨w.heap.size, kc b0, 50⟩, ⟨w.heap.size + 1, kc b1, 50⟩, ⟨w.heap.size + 1 + 1, spv ZSp, 85⟩] u := hB
  refine wp_region_lit ?_
  refine list_val (.agg (kc b0)) (by kernel_rfl) (exec_arr _ 50 (.tmp 2) rfl (w.heap.size) (by kernel_rfl) (kc b0) 50 _ (hB.get 0 (x := ⟨w.heap.size, kc b0, 50⟩) rfl) Tryd.underlying50 rfl (by rw [Tryd.infoB, kc_size, hl0])) ?_
  simp only [nrm]
  refine list_call 86 #[.agg (kc b0)] (by kernel_rfl) (by kernel_rfl) ((sread_ok b0 (unhide h0) u ((unhide hf).gr hB.gr)).mono ?_)
  rintro r u1 ⟨rfl, hg⟩
  replace hB := hB.more hg
  clear hg
  generalize supOf b0 = s0 at *
  generalize rightB b0 = r0 at *
  refine ⟨_, rfl, ?_⟩
  simp only [nrm]
  refine list_val (.tuple #[.agg (spv s0), .bool r0]) (by kernel_rfl) (by kernel_rfl) ?_
  simp only [nrm]
  refine list_val (.agg (spv s0)) (by kernel_rfl) (by kernel_rfl) ?_
  simp only [nrm]
  refine list_val (.bool r0) (by kernel_rfl) (by kernel_rfl) ?_
  simp only [nrm]
  refine list_valw (.pointer (some ⟨u1.heap.size, 0, none⟩)) (u1.alloc (.cells (spv ZSp) 85 (0, 0))) (by kernel_rfl) (by kernel_rfl) ?_
  replace hB := hB.new (spv ZSp) 85
  simp only [List.nil_append, List.cons_append] at hB
  generalize World.alloc _ _ = u2 at *
  generalize u1.heap.size = ga at *
  replace hB : Bl w [⟨w.heap.size, kc b0, 50⟩, ⟨w.heap.size + 1, kc b1, 50⟩, ⟨w.heap.size + 1 + 1, spv ZSp, 85⟩, ⟨ga, spv ZSp, 85⟩] u2 := hB
  simp only [nrm]
  refine list_store 85 (.tmp 6) (.tmp 13) (ga) (spv s0) 85 (spv ZSp) (by kernel_rfl) rfl (by kernel_rfl) (by kernel_rfl) (hB.get 3 (x := ⟨ga, spv ZSp, 85⟩) rfl) (by rw [Tryd.infoSp, spv_size (s := s0) k0]) (by rw [spv_size (s := s0) k0, spv_size (s := ZSp) ZSp_hl]) (spv_one _) ?_
  replace hB := hB.set 3 (x := ⟨ga, spv ZSp, 85⟩) rfl (spv s0)
  simp only [List.set_cons_zero, List.set_cons_succ] at hB
  generalize World.setRow _ _ _ = u3 at *
  replace hB : Bl w [⟨w.heap.size, kc b0, 50⟩, ⟨w.heap.size + 1, kc b1, 50⟩, ⟨w.heap.size + 1 + 1, spv ZSp, 85⟩, ⟨ga, spv s0, 85⟩] u3 := hB
  simp only [nrm]
  (refine wpList_step fun K hK => ?_; replace hK := hide hK; go_simp; refine unhide hK _ _ ?_; clear hK K)
  refine wpList_nil ?_
  replace hB := hide hB
  go_upto_region 2 with fail
  replace hB := unhide hB
  refine wp_region_lit ?_
  refine list_val (.agg (kc b1)) (by kernel_rfl) (exec_arr _ 50 (.tmp 3) rfl (w.heap.size + 1) (by kernel_rfl) (kc b1) 50 _ (hB.get 1 (x := ⟨w.heap.size + 1, kc b1, 50⟩) rfl) Tryd.underlying50 rfl (by rw [Tryd.infoB, kc_size, hl1])) ?_
  simp only [nrm]
  refine list_call 86 #[.agg (kc b1)] (by kernel_rfl) (by kernel_rfl) ((sread_ok b1 (unhide h1) u3 ((unhide hf).gr hB.gr)).mono ?_)
  rintro r u4 ⟨rfl, hg⟩
  replace hB := hB.more hg
  clear hg
  generalize supOf b1 = s1 at *
  generalize rightB b1 = r1 at *
  refine ⟨_, rfl, ?_⟩
  simp only [nrm]
  refine list_val (.tuple #[.agg (spv s1), .bool r1]) (by kernel_rfl) (by kernel_rfl) ?_
  simp only [nrm]
  refine list_val (.agg (spv s1)) (by kernel_rfl) (by kernel_rfl) ?_
  simp only [nrm]
  refine list_val (.bool r1) (by kernel_rfl) (by kernel_rfl) ?_
  simp only [nrm]
  refine list_valw (.pointer (some ⟨u4.heap.size, 0, none⟩)) (u4.alloc (.cells (spv ZSp) 85 (0, 0))) (by kernel_rfl) (by kernel_rfl) ?_
  replace hB := hB.new (spv ZSp) 85
  simp only [List.nil_append, List.cons_append] at hB
  generalize World.alloc _ _ = u5 at *
  generalize u4.heap.size = gb at *
  replace hB : Bl w [⟨w.heap.size, kc b0, 50⟩, ⟨w.heap.size + 1, kc b1, 50⟩, ⟨w.heap.size + 1 + 1, spv ZSp, 85⟩, ⟨ga, spv s0, 85⟩, ⟨gb, spv ZSp, 85⟩] u5 := hB
  simp only [nrm]
  refine list_store 85 (.tmp 8) (.tmp 18) (gb) (spv s1) 85 (spv ZSp) (by kernel_rfl) rfl (by kernel_rfl) (by kernel_rfl) (hB.get 4 (x := ⟨gb, spv ZSp, 85⟩) rfl) (by rw [Tryd.infoSp, spv_size (s := s1) k1]) (by rw [spv_size (s := s1) k1, spv_size (s := ZSp) ZSp_hl]) (spv_one _) ?_
  replace hB := hB.set 4 (x := ⟨gb, spv ZSp, 85⟩) rfl (spv s1)
  simp only [List.set_cons_zero, List.set_cons_succ] at hB
  generalize World.setRow _ _ _ = u6 at *
  replace hB : Bl w [⟨w.heap.size, kc b0, 50⟩, ⟨w.heap.size + 1, kc b1, 50⟩, ⟨w.heap.size + 1 + 1, spv ZSp, 85⟩, ⟨ga, spv s0, 85⟩, ⟨gb, spv s1, 85⟩] u6 := hB
  simp only [nrm]
  (refine wpList_step fun K hK => ?_; replace hK := hide hK; go_simp; refine unhide hK _ _ ?_; clear hK K)
  refine wpList_nil ?_
  cases r0
  · skip
    cases r1
    · skip
      have hct : Hid (ct = (s1, false)) := by
        show ct = (s1, false)
        rw [unhide hc]
        rw [if_pos (.inl rfl)]
      clear hc
      replace hB := hide hB
      go_upto_region 3 with fail
      replace hB := unhide hB
      refine wp_region_lit ?_
      refine list_val (.bool false) (by kernel_rfl) (by kernel_rfl) ?_
      simp only [nrm]
      refine list_val (.bool false) (by kernel_rfl) (by kernel_rfl) ?_
      simp only [nrm]
      refine wpList_step fun K hK => ?_
      rw [if_neg (ne_true_of_eq_false (by kernel_rfl))]
      refine hK _ _ ?_
      clear hK K
      simp only [nrm]
      refine list_val (.bool false) (by kernel_rfl) (by kernel_rfl) ?_
      simp only [nrm]
      refine list_val (.bool false) (by kernel_rfl) (by kernel_rfl) ?_
      simp only [nrm]
      refine wpList_step fun K hK => ?_
      rw [if_neg (ne_true_of_eq_false (by kernel_rfl))]
      refine hK _ _ ?_
      clear hK K
      simp only [nrm]
      refine wpList_step fun K hK => ?_
      rw [if_neg (ne_true_of_eq_false (by kernel_rfl))]
      refine hK _ _ ?_
      clear hK K
      simp only [nrm]
      refine wpList_step fun K hK => ?_
      rw [if_neg (ne_true_of_eq_false (by kernel_rfl))]
      refine hK _ _ ?_
      clear hK K
      simp only [nrm]
      refine wpList_step fun K hK => ?_
      rw [if_neg (ne_true_of_eq_false (by kernel_rfl))]
      refine hK _ _ ?_
      clear hK K
      simp only [nrm]
      refine wpList_step fun K hK => ?_
      rw [if_neg (ne_true_of_eq_false (by kernel_rfl))]
      refine hK _ _ ?_
      clear hK K
      simp only [nrm]
      refine list_val (.bool false) (by kernel_rfl) (by kernel_rfl) ?_
      simp only [nrm]
      (refine wpList_step fun K hK => ?_; replace hK := hide hK; go_simp; refine unhide hK _ _ ?_; clear hK K)
      refine wpList_nil ?_
      replace hB := hide hB
      go_upto_region 5 with fail
      replace hB := unhide hB
      refine wp_region_lit ?_
      refine list_val (.bool false) (by kernel_rfl) (by kernel_rfl) ?_
      simp only [nrm]
      (refine wpList_step fun K hK => ?_; replace hK := hide hK; go_simp; refine unhide hK _ _ ?_; clear hK K)
      refine wpList_nil ?_
      replace hB := hide hB
      go_upto_region 7 with fail
      replace hB := unhide hB
      refine wp_region_lit ?_
      refine list_val (.bool false) (by kernel_rfl) (by kernel_rfl) ?_
      simp only [nrm]
      (refine wpList_step fun K hK => ?_; replace hK := hide hK; go_simp; refine unhide hK _ _ ?_; clear hK K)
      refine wpList_nil ?_
      replace hB := hide hB
      go_upto_region 9 with fail
      replace hB := unhide hB
      refine wp_region_lit ?_
      refine list_val (.agg (spv ZSp)) (by kernel_rfl) (by kernel_rfl) ?_
      simp only [nrm]
      refine list_store 85 (.tmp 4) (.tmp 39) (w.heap.size + 1 + 1) (spv ZSp) 85 (spv ZSp) (by kernel_rfl) rfl (by kernel_rfl) (by kernel_rfl) (hB.get 2 (x := ⟨w.heap.size + 1 + 1, spv ZSp, 85⟩) rfl) (by rw [Tryd.infoSp, spv_size (s := ZSp) ZSp_hl]) rfl (spv_one _) ?_
      replace hB := hB.set 2 (x := ⟨w.heap.size + 1 + 1, spv ZSp, 85⟩) rfl (spv ZSp)
      simp only [List.set_cons_zero, List.set_cons_succ] at hB
      generalize World.setRow _ _ _ = u7 at *
      replace hB : Bl w [⟨w.heap.size, kc b0, 50⟩, ⟨w.heap.size + 1, kc b1, 50⟩, ⟨w.heap.size + 1 + 1, spv ZSp, 85⟩, ⟨ga, spv s0, 85⟩, ⟨gb, spv s1, 85⟩] u7 := hB
      simp only [nrm]
      (refine wpList_step fun K hK => ?_; replace hK := hide hK; go_simp; refine unhide hK _ _ ?_; clear hK K)
      refine wpList_nil ?_
      replace hB := hide hB
      go_wp2_with fail
      replace hB := unhide hB
      rw [unhide hT, unhide hct]
      exact bodyPost_ret (v := .tuple #[.agg (spv ZSp), .bool false]) (results_cell_tmp Tryd.results70 _ _ (w.heap.size + 1 + 1) 85 (spv ZSp) (0, 0) _ rfl (.bool false) rfl (hB.get 2 (x := ⟨w.heap.size + 1 + 1, spv ZSp, 85⟩) rfl) Tryd.underlying85 rfl (by rw [Tryd.infoSp, spv_size (s := ZSp) ZSp_hl])) rfl ⟨rfl, hB.gr⟩
    · skip
      have hct : Hid (ct = (s1, true)) := by
        show ct = (s1, true)
        rw [unhide hc]
        rw [if_pos (.inl rfl)]
      clear hc
      replace hB := hide hB
      go_upto_region 3 with fail
      replace hB := unhide hB
      refine wp_region_lit ?_
      refine list_val (.bool false) (by kernel_rfl) (by kernel_rfl) ?_
      simp only [nrm]
      refine list_val (.bool false) (by kernel_rfl) (by kernel_rfl) ?_
      simp only [nrm]
      refine wpList_step fun K hK => ?_
      rw [if_neg (ne_true_of_eq_false (by kernel_rfl))]
      refine hK _ _ ?_
      clear hK K
      simp only [nrm]
      refine list_val (.bool false) (by kernel_rfl) (by kernel_rfl) ?_
      simp only [nrm]
      refine list_val (.bool false) (by kernel_rfl) (by kernel_rfl) ?_
      simp only [nrm]
      refine wpList_step fun K hK => ?_
      rw [if_neg (ne_true_of_eq_false (by kernel_rfl))]
      refine hK _ _ ?_
      clear hK K
      simp only [nrm]
      refine wpList_step fun K hK => ?_
      rw [if_neg (ne_true_of_eq_false (by kernel_rfl))]
      refine hK _ _ ?_
      clear hK K
      simp only [nrm]
      refine wpList_step fun K hK => ?_
      rw [if_neg (ne_true_of_eq_false (by kernel_rfl))]
      refine hK _ _ ?_
      clear hK K
      simp only [nrm]
      refine wpList_step fun K hK => ?_
      rw [if_neg (ne_true_of_eq_false (by kernel_rfl))]
      refine hK _ _ ?_
      clear hK K
      simp only [nrm]
      refine wpList_step fun K hK => ?_
      rw [if_neg (ne_true_of_eq_false (by kernel_rfl))]
      refine hK _ _ ?_
      clear hK K
      simp only [nrm]
      refine list_val (.bool false) (by kernel_rfl) (by kernel_rfl) ?_
      simp only [nrm]
      (refine wpList_step fun K hK => ?_; replace hK := hide hK; go_simp; refine unhide hK _ _ ?_; clear hK K)
      refine wpList_nil ?_
      replace hB := hide hB
      go_upto_region 5 with fail
      replace hB := unhide hB
      refine wp_region_lit ?_
      refine list_val (.bool false) (by kernel_rfl) (by kernel_rfl) ?_
      simp only [nrm]
      (refine wpList_step fun K hK => ?_; replace hK := hide hK; go_simp; refine unhide hK _ _ ?_; clear hK K)
      refine wpList_nil ?_
      replace hB := hide hB
      go_upto_region 7 with fail
      replace hB := unhide hB
      refine wp_region_lit ?_
      refine list_val (.bool true) (by kernel_rfl) (by kernel_rfl) ?_
      simp only [nrm]
      (refine wpList_step fun K hK => ?_; replace hK := hide hK; go_simp; refine unhide hK _ _ ?_; clear hK K)
      refine wpList_nil ?_
      replace hB := hide hB
      go_upto_region 8 with fail
      replace hB := unhide hB
      refine wp_region_lit ?_
      refine list_val (.agg (spv s1)) (by kernel_rfl) (exec_arr _ 85 (.tmp 8) rfl (gb) (by kernel_rfl) (spv s1) 85 _ (hB.get 4 (x := ⟨gb, spv s1, 85⟩) rfl) Tryd.underlying85 rfl (by rw [Tryd.infoSp, spv_size (s := s1) k1])) ?_
      simp only [nrm]
      refine list_store 85 (.tmp 4) (.tmp 38) (w.heap.size + 1 + 1) (spv s1) 85 (spv ZSp) (by kernel_rfl) rfl (by kernel_rfl) (by kernel_rfl) (hB.get 2 (x := ⟨w.heap.size + 1 + 1, spv ZSp, 85⟩) rfl) (by rw [Tryd.infoSp, spv_size (s := s1) k1]) (by rw [spv_size (s := s1) k1, spv_size (s := ZSp) ZSp_hl]) (spv_one _) ?_
      replace hB := hB.set 2 (x := ⟨w.heap.size + 1 + 1, spv ZSp, 85⟩) rfl (spv s1)
      simp only [List.set_cons_zero, List.set_cons_succ] at hB
      generalize World.setRow _ _ _ = u7 at *
      replace hB : Bl w [⟨w.heap.size, kc b0, 50⟩, ⟨w.heap.size + 1, kc b1, 50⟩, ⟨w.heap.size + 1 + 1, spv s1, 85⟩, ⟨ga, spv s0, 85⟩, ⟨gb, spv s1, 85⟩] u7 := hB
      simp only [nrm]
      (refine wpList_step fun K hK => ?_; replace hK := hide hK; go_simp; refine unhide hK _ _ ?_; clear hK K)
      refine wpList_nil ?_
      replace hB := hide hB
      go_wp2_with fail
      replace hB := unhide hB
      rw [unhide hT, unhide hct]
      exact bodyPost_ret (v := .tuple #[.agg (spv s1), .bool true]) (results_cell_tmp Tryd.results70 _ _ (w.heap.size + 1 + 1) 85 (spv s1) (0, 0) _ rfl (.bool true) rfl (hB.get 2 (x := ⟨w.heap.size + 1 + 1, spv s1, 85⟩) rfl) Tryd.underlying85 rfl (by rw [Tryd.infoSp, spv_size (s := s1) k1])) rfl ⟨rfl, hB.gr⟩
  · skip
    cases r1
    · skip
      have hct : Hid (ct = (s0, true)) := by
        show ct = (s0, true)
        rw [unhide hc]
        rw [if_neg (by rintro (h | ⟨h, _⟩); cases h; cases h)]
      clear hc
      replace hB := hide hB
      go_upto_region 3 with fail
      replace hB := unhide hB
      refine wp_region_lit ?_
      refine list_val (.bool true) (by kernel_rfl) (by kernel_rfl) ?_
      simp only [nrm]
      refine list_val (.bool true) (by kernel_rfl) (by kernel_rfl) ?_
      simp only [nrm]
      refine list_val (.bool false) (by kernel_rfl) (by kernel_rfl) ?_
      simp only [nrm]
      refine list_val (.bool false) (by kernel_rfl) (by kernel_rfl) ?_
      simp only [nrm]
      refine list_val (.bool false) (by kernel_rfl) (by kernel_rfl) ?_
      simp only [nrm]
      refine wpList_step fun K hK => ?_
      rw [if_neg (ne_true_of_eq_false (by kernel_rfl))]
      refine hK _ _ ?_
      clear hK K
      simp only [nrm]
      refine wpList_step fun K hK => ?_
      rw [if_neg (ne_true_of_eq_false (by kernel_rfl))]
      refine hK _ _ ?_
      clear hK K
      simp only [nrm]
      refine wpList_step fun K hK => ?_
      rw [if_neg (ne_true_of_eq_false (by kernel_rfl))]
      refine hK _ _ ?_
      clear hK K
      simp only [nrm]
      refine wpList_step fun K hK => ?_
      rw [if_neg (ne_true_of_eq_false (by kernel_rfl))]
      refine hK _ _ ?_
      clear hK K
      simp only [nrm]
      refine wpList_step fun K hK => ?_
      rw [if_neg (ne_true_of_eq_false (by kernel_rfl))]
      refine hK _ _ ?_
      clear hK K
      simp only [nrm]
      refine list_val (.bool false) (by kernel_rfl) (by kernel_rfl) ?_
      simp only [nrm]
      (refine wpList_step fun K hK => ?_; replace hK := hide hK; go_simp; refine unhide hK _ _ ?_; clear hK K)
      refine wpList_nil ?_
      replace hB := hide hB
      go_upto_region 5 with fail
      replace hB := unhide hB
      refine wp_region_lit ?_
      refine list_val (.bool true) (by kernel_rfl) (by kernel_rfl) ?_
      simp only [nrm]
      (refine wpList_step fun K hK => ?_; replace hK := hide hK; go_simp; refine unhide hK _ _ ?_; clear hK K)
      refine wpList_nil ?_
      replace hB := hide hB
      go_upto_region 6 with fail
      replace hB := unhide hB
      refine wp_region_lit ?_
      refine list_val (.agg (spv s0)) (by kernel_rfl) (exec_arr _ 85 (.tmp 6) rfl (ga) (by kernel_rfl) (spv s0) 85 _ (hB.get 3 (x := ⟨ga, spv s0, 85⟩) rfl) Tryd.underlying85 rfl (by rw [Tryd.infoSp, spv_size (s := s0) k0])) ?_
      simp only [nrm]
      refine list_store 85 (.tmp 4) (.tmp 35) (w.heap.size + 1 + 1) (spv s0) 85 (spv ZSp) (by kernel_rfl) rfl (by kernel_rfl) (by kernel_rfl) (hB.get 2 (x := ⟨w.heap.size + 1 + 1, spv ZSp, 85⟩) rfl) (by rw [Tryd.infoSp, spv_size (s := s0) k0]) (by rw [spv_size (s := s0) k0, spv_size (s := ZSp) ZSp_hl]) (spv_one _) ?_
      replace hB := hB.set 2 (x := ⟨w.heap.size + 1 + 1, spv ZSp, 85⟩) rfl (spv s0)
      simp only [List.set_cons_zero, List.set_cons_succ] at hB
      generalize World.setRow _ _ _ = u7 at *
      replace hB : Bl w [⟨w.heap.size, kc b0, 50⟩, ⟨w.heap.size + 1, kc b1, 50⟩, ⟨w.heap.size + 1 + 1, spv s0, 85⟩, ⟨ga, spv s0, 85⟩, ⟨gb, spv s1, 85⟩] u7 := hB
      simp only [nrm]
      (refine wpList_step fun K hK => ?_; replace hK := hide hK; go_simp; refine unhide hK _ _ ?_; clear hK K)
      refine wpList_nil ?_
      replace hB := hide hB
      go_wp2_with fail
      replace hB := unhide hB
      rw [unhide hT, unhide hct]
      exact bodyPost_ret (v := .tuple #[.agg (spv s0), .bool true]) (results_cell_tmp Tryd.results70 _ _ (w.heap.size + 1 + 1) 85 (spv s0) (0, 0) _ rfl (.bool true) rfl (hB.get 2 (x := ⟨w.heap.size + 1 + 1, spv s0, 85⟩) rfl) Tryd.underlying85 rfl (by rw [Tryd.infoSp, spv_size (s := s0) k0])) rfl ⟨rfl, hB.gr⟩
    · skip
      by_cases hlt : s0.turn < s1.turn
      · skip
        have hct : Hid (ct = (s1, true)) := by
          show ct = (s1, true)
          rw [unhide hc]
          rw [if_pos (.inr ⟨rfl, hlt⟩)]
        clear hc
        have hlI : (s0.turn : Int) < (s1.turn : Int) := by omega
        clear hlt
        replace hB := hide hB
        go_upto_region 3 with fail
        replace hB := unhide hB
        refine wp_region_lit ?_
        refine list_val (.bool true) (by kernel_rfl) (by kernel_rfl) ?_
        simp only [nrm]
        refine list_val (.bool true) (by kernel_rfl) (by kernel_rfl) ?_
        simp only [nrm]
        refine list_val (.bool true) (by kernel_rfl) (by kernel_rfl) ?_
        simp only [nrm]
        refine list_val (.bool true) (by kernel_rfl) (by kernel_rfl) ?_
        simp only [nrm]
        refine list_val (.bool true) (by kernel_rfl) (by kernel_rfl) ?_
        simp only [nrm]
        refine list_val (.pointer (some ⟨gb, 1, none⟩)) (by kernel_rfl) (by kernel_rfl) ?_
        simp only [nrm]
        refine list_val (.int .u64 (s1.turn : Int)) (by kernel_rfl) (exec_u64 _ (.tmp 26) rfl gb 1 (by kernel_rfl) _ (spv_cells (hB.get 4 (x := ⟨gb, spv s1, 85⟩) rfl)).2.1) ?_
        simp only [nrm]
        refine list_val (.pointer (some ⟨ga, 1, none⟩)) (by kernel_rfl) (by kernel_rfl) ?_
        simp only [nrm]
        refine list_val (.int .u64 (s0.turn : Int)) (by kernel_rfl) (exec_u64 _ (.tmp 28) rfl ga 1 (by kernel_rfl) _ (spv_cells (hB.get 3 (x := ⟨ga, spv s0, 85⟩) rfl)).2.1) ?_
        simp only [nrm]
        refine list_val (.bool true) (by kernel_rfl) (by go_simp) ?_
        simp only [nrm]
        refine list_val (.bool true) (by kernel_rfl) (by kernel_rfl) ?_
        simp only [nrm]
        (refine wpList_step fun K hK => ?_; replace hK := hide hK; go_simp; refine unhide hK _ _ ?_; clear hK K)
        refine wpList_nil ?_
        replace hB := hide hB
        go_upto_region 4 with fail
        replace hB := unhide hB
        refine wp_region_lit ?_
        refine list_val (.agg (spv s1)) (by kernel_rfl) (exec_arr _ 85 (.tmp 8) rfl (gb) (by kernel_rfl) (spv s1) 85 _ (hB.get 4 (x := ⟨gb, spv s1, 85⟩) rfl) Tryd.underlying85 rfl (by rw [Tryd.infoSp, spv_size (s := s1) k1])) ?_
        simp only [nrm]
        refine list_store 85 (.tmp 4) (.tmp 32) (w.heap.size + 1 + 1) (spv s1) 85 (spv ZSp) (by kernel_rfl) rfl (by kernel_rfl) (by kernel_rfl) (hB.get 2 (x := ⟨w.heap.size + 1 + 1, spv ZSp, 85⟩) rfl) (by rw [Tryd.infoSp, spv_size (s := s1) k1]) (by rw [spv_size (s := s1) k1, spv_size (s := ZSp) ZSp_hl]) (spv_one _) ?_
        replace hB := hB.set 2 (x := ⟨w.heap.size + 1 + 1, spv ZSp, 85⟩) rfl (spv s1)
        simp only [List.set_cons_zero, List.set_cons_succ] at hB
        generalize World.setRow _ _ _ = u7 at *
        replace hB : Bl w [⟨w.heap.size, kc b0, 50⟩, ⟨w.heap.size + 1, kc b1, 50⟩, ⟨w.heap.size + 1 + 1, spv s1, 85⟩, ⟨ga, spv s0, 85⟩, ⟨gb, spv s1, 85⟩] u7 := hB
        simp only [nrm]
        (refine wpList_step fun K hK => ?_; replace hK := hide hK; go_simp; refine unhide hK _ _ ?_; clear hK K)
        refine wpList_nil ?_
        replace hB := hide hB
        go_wp2_with fail
        replace hB := unhide hB
        rw [unhide hT, unhide hct]
        exact bodyPost_ret (v := .tuple #[.agg (spv s1), .bool true]) (results_cell_tmp Tryd.results70 _ _ (w.heap.size + 1 + 1) 85 (spv s1) (0, 0) _ rfl (.bool true) rfl (hB.get 2 (x := ⟨w.heap.size + 1 + 1, spv s1, 85⟩) rfl) Tryd.underlying85 rfl (by rw [Tryd.infoSp, spv_size (s := s1) k1])) rfl ⟨rfl, hB.gr⟩
      · skip
        have hct : Hid (ct = (s0, true)) := by
          show ct = (s0, true)
          rw [unhide hc]
          rw [if_neg (by rintro (h | ⟨_, h⟩); cases h; exact hlt h)]
        clear hc
        have hlI : ¬ (s0.turn : Int) < (s1.turn : Int) := by omega
        clear hlt
        replace hB := hide hB
        go_upto_region 3 with fail
        replace hB := unhide hB
        refine wp_region_lit ?_
        refine list_val (.bool true) (by kernel_rfl) (by kernel_rfl) ?_
        simp only [nrm]
        refine list_val (.bool true) (by kernel_rfl) (by kernel_rfl) ?_
        simp only [nrm]
        refine list_val (.bool true) (by kernel_rfl) (by kernel_rfl) ?_
        simp only [nrm]
        refine list_val (.bool true) (by kernel_rfl) (by kernel_rfl) ?_
        simp only [nrm]
        refine list_val (.bool true) (by kernel_rfl) (by kernel_rfl) ?_
        simp only [nrm]
        refine list_val (.pointer (some ⟨gb, 1, none⟩)) (by kernel_rfl) (by kernel_rfl) ?_
        simp only [nrm]
        refine list_val (.int .u64 (s1.turn : Int)) (by kernel_rfl) (exec_u64 _ (.tmp 26) rfl gb 1 (by kernel_rfl) _ (spv_cells (hB.get 4 (x := ⟨gb, spv s1, 85⟩) rfl)).2.1) ?_
        simp only [nrm]
        refine list_val (.pointer (some ⟨ga, 1, none⟩)) (by kernel_rfl) (by kernel_rfl) ?_
        simp only [nrm]
        refine list_val (.int .u64 (s0.turn : Int)) (by kernel_rfl) (exec_u64 _ (.tmp 28) rfl ga 1 (by kernel_rfl) _ (spv_cells (hB.get 3 (x := ⟨ga, spv s0, 85⟩) rfl)).2.1) ?_
        simp only [nrm]
        refine list_val (.bool false) (by kernel_rfl) (by go_simp) ?_
        simp only [nrm]
        refine list_val (.bool false) (by kernel_rfl) (by kernel_rfl) ?_
        simp only [nrm]
        (refine wpList_step fun K hK => ?_; replace hK := hide hK; go_simp; refine unhide hK _ _ ?_; clear hK K)
        refine wpList_nil ?_
        replace hB := hide hB
        go_upto_region 5 with fail
        replace hB := unhide hB
        refine wp_region_lit ?_
        refine list_val (.bool true) (by kernel_rfl) (by kernel_rfl) ?_
        simp only [nrm]
        (refine wpList_step fun K hK => ?_; replace hK := hide hK; go_simp; refine unhide hK _ _ ?_; clear hK K)
        refine wpList_nil ?_
        replace hB := hide hB
        go_upto_region 6 with fail
        replace hB := unhide hB
        refine wp_region_lit ?_
        refine list_val (.agg (spv s0)) (by kernel_rfl) (exec_arr _ 85 (.tmp 6) rfl (ga) (by kernel_rfl) (spv s0) 85 _ (hB.get 3 (x := ⟨ga, spv s0, 85⟩) rfl) Tryd.underlying85 rfl (by rw [Tryd.infoSp, spv_size (s := s0) k0])) ?_
        simp only [nrm]
        refine list_store 85 (.tmp 4) (.tmp 35) (w.heap.size + 1 + 1) (spv s0) 85 (spv ZSp) (by kernel_rfl) rfl (by kernel_rfl) (by kernel_rfl) (hB.get 2 (x := ⟨w.heap.size + 1 + 1, spv ZSp, 85⟩) rfl) (by rw [Tryd.infoSp, spv_size (s := s0) k0]) (by rw [spv_size (s := s0) k0, spv_size (s := ZSp) ZSp_hl]) (spv_one _) ?_
        replace hB := hB.set 2 (x := ⟨w.heap.size + 1 + 1, spv ZSp, 85⟩) rfl (spv s0)
        simp only [List.set_cons_zero, List.set_cons_succ] at hB
        generalize World.setRow _ _ _ = u7 at *
        replace hB : Bl w [⟨w.heap.size, kc b0, 50⟩, ⟨w.heap.size + 1, kc b1, 50⟩, ⟨w.heap.size + 1 + 1, spv s0, 85⟩, ⟨ga, spv s0, 85⟩, ⟨gb, spv s1, 85⟩] u7 := hB
        simp only [nrm]
        (refine wpList_step fun K hK => ?_; replace hK := hide hK; go_simp; refine unhide hK _ _ ?_; clear hK K)
        refine wpList_nil ?_
        replace hB := hide hB
        go_wp2_with fail
        replace hB := unhide hB
        rw [unhide hT, unhide hct]
        exact bodyPost_ret (v := .tuple #[.agg (spv s0), .bool true]) (results_cell_tmp Tryd.results70 _ _ (w.heap.size + 1 + 1) 85 (spv s0) (0, 0) _ rfl (.bool true) rfl (hB.get 2 (x := ⟨w.heap.size + 1 + 1, spv s0, 85⟩) rfl) Tryd.underlying85 rfl (by rw [Tryd.infoSp, spv_size (s := s0) k0])) rfl ⟨rfl, hB.gr⟩
def Cur (c : Sup × Bool) (w : World) (r : Ending) (w' : World) : Prop := r = .returned (.tuple #[.agg (spv (if c.2 then c.1 else ZSp)), .int .i64 (if c.2 then 0 else 210)]) ∧ Gr w w'
def Z128 : List Int := List.replicate 128 0
theorem Z128_len : Z128.length = 128 := by unfold Z128; rw [List.length_replicate]
theorem lay_two {a b : List Int} (ha : a.length = 64) (hb : b.length = 64) : lay (lay Z128 0 a) 64 b = a ++ b := by
  have e1 : lay Z128 0 a = a ++ List.replicate 64 0 := by
    have h := lay_zero [] a 128 (by omega)
    rw [ha, List.nil_append] at h
    exact h
  have h := lay_zero a b 64 (by omega)
  rw [ha, hb] at h
  rw [e1, h]
  simp
set_option maxHeartbeats 4000000 in
theorem current_ok (F : List Nat) (gd m : Nat) (D : Dk) (hD : D.Ok m) (hm : m ≤ 900000) (hd : D.dead = false) (hn : 2 ≤ D.safe.length) (w : World) (hL : Lies F gd D w) (hf : Fst w) : Calls Tryd.prog 43 #[P0 gd] w (Cur (cntS (D.cur 0) (D.cur 1)) w) := by
  obtain ⟨T, hT⟩ : ∃ T, T = Cur (cntS (D.cur 0) (D.cur 1)) w := ⟨_, rfl⟩
  rw [← hT]
  replace hT := hide hT
  have r0 : D.readB ((0 : Nat) : Int) = D.cur 0 ∧ D.readE ((0 : Nat) : Int) = 0 := ⟨read_cur hd 0 (by omega), by unfold Dk.readE; rw [hd, if_neg (by decide), if_pos ⟨by omega, by omega⟩]⟩
  have r1 : D.readB ((1 : Nat) : Int) = D.cur 1 ∧ D.readE ((1 : Nat) : Int) = 0 := ⟨read_cur hd 1 (by omega), by unfold Dk.readE; rw [hd, if_neg (by decide), if_pos ⟨by omega, by omega⟩]⟩
  have c0 := Dk.cur_bb hD 0 (by omega)
  have c1 := Dk.cur_bb hD 1 (by omega)
  have kc_ := cnt_ok c0 c1
  generalize D.cur 0 = b0 at *
  generalize D.cur 1 = b1 at *
  have l0 := c0.1
  have l1 := c1.1
  replace hD := hide hD; replace hL := hide hL; replace hf := hide hf; replace r0 := hide r0; replace r1 := hide r1; replace c0 := hide c0; replace c1 := hide c1
  go_enter Tryd.func43, Tryd.ntmps43
  go_upto_region 1 with fail
  have hB := ((Bl.nil w).new #[.int .u8 0, .int .u64 0, .int .u32 0, .int .u8 0, .int .u8 0, .int .u8 0, .int .u8 0, .int .u8 0, .int .u8 0, .int .u8 0, .int .u8 0, .int .u8 0, .int .u8 0, .int .u8 0, .int .u8 0, .int .u8 0, .int .u8 0, .int .u8 0, .int .u8 0] 85)
  simp only [size_alloc, List.nil_append, List.cons_append] at hB
  generalize World.alloc _ _ = u at *
  replace hB : Bl w [⟨w.heap.size, spv ZSp, 85⟩] u := hB
  refine wp_region_lit ?_
  refine list_valw (.pointer (some ⟨u.heap.size, 0, none⟩)) (u.alloc (.cells (kc Z128) 120 (0, 0))) (by kernel_rfl) (by kernel_rfl) ?_
  replace hB := hB.new (kc Z128) 120
  simp only [List.nil_append, List.cons_append] at hB
  generalize World.alloc _ _ = u1 at *
  generalize u.heap.size = gc at *
  replace hB : Bl w [⟨w.heap.size, spv ZSp, 85⟩, ⟨gc, kc Z128, 120⟩] u1 := hB
  simp only [nrm]
  refine wpList_nil ?_
  obtain ⟨C0, eC0⟩ : ∃ x, x = Z128 := ⟨_, rfl⟩
  obtain ⟨C1, eC1⟩ : ∃ x, x = lay Z128 0 b0 := ⟨_, rfl⟩
  obtain ⟨C2, eC2⟩ : ∃ x, x = b0 ++ b1 := ⟨_, rfl⟩
  have n0 : C0.length = 128 := by rw [eC0, Z128_len]
  have n1 : C1.length = 128 := by rw [eC1, lay_len _ _ _ (by rw [l0, Z128_len]; omega), Z128_len]
  have n2 : C2.length = 128 := by rw [eC2, List.length_append, l0, l1]
  have s1 : lay C0 (64 * 0) b0 = C1 := by rw [eC0, eC1]
  have s2 : lay C1 (64 * 1) b1 = C2 := by rw [eC1, eC2]; exact lay_two l0 l1
  rw [← eC0] at hB
  replace hB : Bl w [⟨w.heap.size, spv ZSp, 85⟩, ⟨gc, kc C0, 120⟩] u1 := hB
  replace s1 := hide s1; replace s2 := hide s2; replace eC0 := hide eC0; replace eC1 := hide eC1; replace eC2 := hide eC2
  replace hB := hide hB
  go_wp2_with fail
  go_loopw [10] (fun i wr => ∃ j : Nat, j ≤ 2 ∧ i = .int .i64 (j : Int) ∧ Hid (Bl w [⟨w.heap.size, spv ZSp, 85⟩, ⟨gc, kc (if j = 0 then C0 else if j = 1 then C1 else C2), 120⟩] wr)) (fun i _ => 2 - (intOf i).toNat)
  case atStart => exact ⟨0, by omega, rfl, hB⟩
  case round =>
  clear hB
  obtain ⟨j, hj, rfl, hB⟩ := hrel
  have hj3 : j = 0 ∨ j = 1 ∨ j = 2 := by omega
  clear hj
  rcases hj3 with rfl | rfl | rfl
  · skip
    replace hB : Hid (Bl w [⟨w.heap.size, spv ZSp, 85⟩, ⟨gc, kc C0, 120⟩] wr) := hB
    go_upto_region 5 with fail
    replace hB := unhide hB
    refine wp_region_lit ?_
    refine list_val (.pointer (some ⟨gd, 0, none⟩)) (by kernel_rfl) (by kernel_rfl) ?_
    simp only [nrm]
    refine list_val (.int .i64 ((0 : Nat) : Int)) (by kernel_rfl) (by kernel_rfl) ?_
    simp only [nrm]
    refine list_call 45 #[P0 gd, .int .i64 ((0 : Nat) : Int)] (by kernel_rfl) (by kernel_rfl) ((dread_ok F gd m D (unhide hD) (by omega) ((0 : Nat) : Int) wr ((unhide hL).gr hB.gr)).mono ?_)
    rintro r v1 ⟨rfl, hg⟩
    rw [(unhide r0).1, (unhide r0).2]
    replace hB := hB.more hg
    clear hg
    refine ⟨_, rfl, ?_⟩
    simp only [nrm]
    refine list_val (.tuple #[.agg (kc b0), .int .i64 0]) (by kernel_rfl) (by kernel_rfl) ?_
    simp only [nrm]
    refine list_val (.agg (kc b0)) (by kernel_rfl) (by kernel_rfl) ?_
    simp only [nrm]
    refine list_val (.int .i64 0) (by kernel_rfl) (by kernel_rfl) ?_
    simp only [nrm]
    refine list_valw (.pointer (some ⟨v1.heap.size, 0, none⟩)) (v1.alloc (.cells (kc ZB) 50 (0, 0))) (by kernel_rfl) (by kernel_rfl) ?_
    replace hB := hB.new (kc ZB) 50
    simp only [List.nil_append, List.cons_append] at hB
    generalize World.alloc _ _ = v2 at *
    generalize v1.heap.size = gk at *
    replace hB : Bl w [⟨w.heap.size, spv ZSp, 85⟩, ⟨gc, kc C0, 120⟩, ⟨gk, kc ZB, 50⟩] v2 := hB
    simp only [nrm]
    refine list_store 50 (.tmp 6) (.tmp 17) (gk) (kc b0) 50 (kc ZB) (by kernel_rfl) rfl (by kernel_rfl) (by kernel_rfl) (hB.get 2 (x := ⟨gk, kc ZB, 50⟩) rfl) (by rw [Tryd.infoB, kc_size, l0]) ((show (kc ZB).size = 64 from rfl).trans ((kc_size _).trans l0).symm) (kc_one _) ?_
    replace hB := hB.set 2 (x := ⟨gk, kc ZB, 50⟩) rfl (kc b0)
    simp only [List.set_cons_zero, List.set_cons_succ] at hB
    generalize World.setRow _ _ _ = v3 at *
    replace hB : Bl w [⟨w.heap.size, spv ZSp, 85⟩, ⟨gc, kc C0, 120⟩, ⟨gk, kc b0, 50⟩] v3 := hB
    simp only [nrm]
    (refine wpList_step fun K hK => ?_; replace hK := hide hK; go_simp; refine unhide hK _ _ ?_; clear hK K)
    refine wpList_nil ?_
    replace hB := hide hB
    go_upto_region 8 with fail
    replace hB := unhide hB
    refine wp_region_lit ?_
    refine list_val (.int .i64 ((0 : Nat) : Int)) (by kernel_rfl) (by kernel_rfl) ?_
    simp only [nrm]
    refine list_val (.agg (kc b0)) (by kernel_rfl) (exec_arr _ 50 (.tmp 6) rfl (gk) (by kernel_rfl) (kc b0) 50 _ (hB.get 2 (x := ⟨gk, kc b0, 50⟩) rfl) Tryd.underlying50 rfl (by rw [Tryd.infoB, kc_size, l0])) ?_
    simp only [nrm]
    refine list_val (.pointer (some ⟨gc, 64 * 0, none⟩)) (by kernel_rfl) (by kernel_rfl) ?_
    simp only [nrm]
    refine wpList_step fun K hK => ?_
    refine list_store_mid 50 (.tmp 25) (.tmp 24) gc (64 * 0) (kc b0) (by kernel_rfl) rfl (by kernel_rfl) (by kernel_rfl) (there_of (C := C0.map (Value.int .u8)) (t := 120) (hB.get 1 (x := ⟨gc, kc C0, 120⟩) rfl) (by rw [List.length_map, n0, kc_size, l0]; omega)) (by rw [Tryd.infoB, kc_size, l0]) (kc_one _) (hK _ _ ?_)
    clear hK K
    have hcell := laid (S := b0) (o := 64 * 0) (hB.get 1 (x := ⟨gc, kc C0, 120⟩) rfl) (by rw [l0, n0]; omega)
    rw [unhide s1] at hcell
    have hB2 := hB.but (setCells_bt (b0.map (Value.int .u8)) v3 gc (64 * 0)) 1 (x := ⟨gc, kc C0, 120⟩) rfl rfl hcell
    simp only [List.set_cons_zero, List.set_cons_succ] at hB2
    replace hB2 : Bl w [⟨w.heap.size, spv ZSp, 85⟩, ⟨gc, kc C1, 120⟩, ⟨gk, kc b0, 50⟩] (v3.setCells gc (64 * 0) (kc b0).toList) := hB2
    generalize World.setCells _ _ _ _ = v4 at *
    clear hcell hB
    have hB := Bl.left (L := [⟨w.heap.size, spv ZSp, 85⟩, ⟨gc, kc C1, 120⟩]) (M := [⟨gk, kc b0, 50⟩]) hB2
    clear hB2
    simp only [nrm]
    refine wpList_nil ?_
    replace hB := hide hB
    go_wp2_with fail
    go_roundw
    case rel => exact ⟨1, by omega, by go_num, hB⟩
    case measure => simp [intOf]
  · skip
    replace hB : Hid (Bl w [⟨w.heap.size, spv ZSp, 85⟩, ⟨gc, kc C1, 120⟩] wr) := hB
    go_upto_region 5 with fail
    replace hB := unhide hB
    refine wp_region_lit ?_
    refine list_val (.pointer (some ⟨gd, 0, none⟩)) (by kernel_rfl) (by kernel_rfl) ?_
    simp only [nrm]
    refine list_val (.int .i64 ((1 : Nat) : Int)) (by kernel_rfl) (by kernel_rfl) ?_
    simp only [nrm]
    refine list_call 45 #[P0 gd, .int .i64 ((1 : Nat) : Int)] (by kernel_rfl) (by kernel_rfl) ((dread_ok F gd m D (unhide hD) (by omega) ((1 : Nat) : Int) wr ((unhide hL).gr hB.gr)).mono ?_)
    rintro r v1 ⟨rfl, hg⟩
    rw [(unhide r1).1, (unhide r1).2]
    replace hB := hB.more hg
    clear hg
    refine ⟨_, rfl, ?_⟩
    simp only [nrm]
    refine list_val (.tuple #[.agg (kc b1), .int .i64 0]) (by kernel_rfl) (by kernel_rfl) ?_
    simp only [nrm]
    refine list_val (.agg (kc b1)) (by kernel_rfl) (by kernel_rfl) ?_
    simp only [nrm]
    refine list_val (.int .i64 0) (by kernel_rfl) (by kernel_rfl) ?_
    simp only [nrm]
    refine list_valw (.pointer (some ⟨v1.heap.size, 0, none⟩)) (v1.alloc (.cells (kc ZB) 50 (0, 0))) (by kernel_rfl) (by kernel_rfl) ?_
    replace hB := hB.new (kc ZB) 50
    simp only [List.nil_append, List.cons_append] at hB
    generalize World.alloc _ _ = v2 at *
    generalize v1.heap.size = gk at *
    replace hB : Bl w [⟨w.heap.size, spv ZSp, 85⟩, ⟨gc, kc C1, 120⟩, ⟨gk, kc ZB, 50⟩] v2 := hB
    simp only [nrm]
    refine list_store 50 (.tmp 6) (.tmp 17) (gk) (kc b1) 50 (kc ZB) (by kernel_rfl) rfl (by kernel_rfl) (by kernel_rfl) (hB.get 2 (x := ⟨gk, kc ZB, 50⟩) rfl) (by rw [Tryd.infoB, kc_size, l1]) ((show (kc ZB).size = 64 from rfl).trans ((kc_size _).trans l1).symm) (kc_one _) ?_
    replace hB := hB.set 2 (x := ⟨gk, kc ZB, 50⟩) rfl (kc b1)
    simp only [List.set_cons_zero, List.set_cons_succ] at hB
    generalize World.setRow _ _ _ = v3 at *
    replace hB : Bl w [⟨w.heap.size, spv ZSp, 85⟩, ⟨gc, kc C1, 120⟩, ⟨gk, kc b1, 50⟩] v3 := hB
    simp only [nrm]
    (refine wpList_step fun K hK => ?_; replace hK := hide hK; go_simp; refine unhide hK _ _ ?_; clear hK K)
    refine wpList_nil ?_
    replace hB := hide hB
    go_upto_region 8 with fail
    replace hB := unhide hB
    refine wp_region_lit ?_
    refine list_val (.int .i64 ((1 : Nat) : Int)) (by kernel_rfl) (by kernel_rfl) ?_
    simp only [nrm]
    refine list_val (.agg (kc b1)) (by kernel_rfl) (exec_arr _ 50 (.tmp 6) rfl (gk) (by kernel_rfl) (kc b1) 50 _ (hB.get 2 (x := ⟨gk, kc b1, 50⟩) rfl) Tryd.underlying50 rfl (by rw [Tryd.infoB, kc_size, l1])) ?_
    simp only [nrm]
    refine list_val (.pointer (some ⟨gc, 64 * 1, none⟩)) (by kernel_rfl) (by kernel_rfl) ?_
    simp only [nrm]
    refine wpList_step fun K hK => ?_
    refine list_store_mid 50 (.tmp 25) (.tmp 24) gc (64 * 1) (kc b1) (by kernel_rfl) rfl (by kernel_rfl) (by kernel_rfl) (there_of (C := C1.map (Value.int .u8)) (t := 120) (hB.get 1 (x := ⟨gc, kc C1, 120⟩) rfl) (by rw [List.length_map, n1, kc_size, l1]; omega)) (by rw [Tryd.infoB, kc_size, l1]) (kc_one _) (hK _ _ ?_)
    clear hK K
    have hcell := laid (S := b1) (o := 64 * 1) (hB.get 1 (x := ⟨gc, kc C1, 120⟩) rfl) (by rw [l1, n1]; omega)
    rw [unhide s2] at hcell
    have hB2 := hB.but (setCells_bt (b1.map (Value.int .u8)) v3 gc (64 * 1)) 1 (x := ⟨gc, kc C1, 120⟩) rfl rfl hcell
    simp only [List.set_cons_zero, List.set_cons_succ] at hB2
    replace hB2 : Bl w [⟨w.heap.size, spv ZSp, 85⟩, ⟨gc, kc C2, 120⟩, ⟨gk, kc b1, 50⟩] (v3.setCells gc (64 * 1) (kc b1).toList) := hB2
    generalize World.setCells _ _ _ _ = v4 at *
    clear hcell hB
    have hB := Bl.left (L := [⟨w.heap.size, spv ZSp, 85⟩, ⟨gc, kc C2, 120⟩]) (M := [⟨gk, kc b1, 50⟩]) hB2
    clear hB2
    simp only [nrm]
    refine wpList_nil ?_
    replace hB := hide hB
    go_wp2_with fail
    go_roundw
    case rel => exact ⟨2, by omega, by go_num, hB⟩
    case measure => simp [intOf]
  replace hB : Hid (Bl w [⟨w.heap.size, spv ZSp, 85⟩, ⟨gc, kc C2, 120⟩] wr) := hB
  go_upto_region 10 with fail
  replace hB := unhide hB
  have q0 : (C2.drop 0).take 64 = b0 := by rw [unhide eC2]; exact take_app _ _ 64 l0
  have q1 : (C2.drop 64).take 64 = b1 := by
    have h := drop_app b0 b1 64 0 l0
    rw [unhide eC2, show (64 : Nat) = 64 + 0 from rfl, h]
    exact List.take_of_length_le (by rw [List.drop_zero, l1]; omega)
  replace q0 := hide q0; replace q1 := hide q1
  refine wp_region_lit ?_
  refine list_val (.pointer (some ⟨gc, 0, none⟩)) (by kernel_rfl) (by kernel_rfl) ?_
  simp only [nrm]
  refine list_val (.agg (kc b0)) (by kernel_rfl) (exec_row _ 50 (.tmp 28) rfl gc 0 (by kernel_rfl) (bv b0) _ (by have h := range_sub (hB.get 1 (x := ⟨gc, kc C2, 120⟩) rfl) 0 64; rw [unhide q0] at h; exact h) Tryd.underlying50 rfl (by rw [Tryd.infoB, bv_len, l0])) ?_
  simp only [nrm]
  refine list_val (.pointer (some ⟨gc, 64, none⟩)) (by kernel_rfl) (by kernel_rfl) ?_
  simp only [nrm]
  refine list_val (.agg (kc b1)) (by kernel_rfl) (exec_row _ 50 (.tmp 30) rfl gc 64 (by kernel_rfl) (bv b1) _ (by have h := range_sub (hB.get 1 (x := ⟨gc, kc C2, 120⟩) rfl) 64 64; rw [unhide q1] at h; exact h) Tryd.underlying50 rfl (by rw [Tryd.infoB, bv_len, l1])) ?_
  simp only [nrm]
  refine list_call 70 #[.agg (kc b0), .agg (kc b1)] (by kernel_rfl) (by kernel_rfl) ((counts_ok b0 b1 (unhide c0) (unhide c1) wr ((unhide hf).gr hB.gr)).mono ?_)
  rintro r v5 ⟨rfl, hg⟩
  replace hB := hB.more hg
  clear hg
  obtain ⟨ct, hct⟩ : ∃ x, x = cntS b0 b1 := ⟨_, rfl⟩
  rw [← hct]
  replace hct := hide hct
  obtain ⟨sn, bn⟩ := ct
  dsimp only
  obtain ⟨sk, hsk⟩ : ∃ x, x = if bn then sn else ZSp := ⟨_, rfl⟩
  have ksk : sk.hash.length = 16 := by
    have h := kc_.2.1
    rw [← unhide hct] at h
    rw [hsk]
    cases bn
    · exact ZSp_hl
    · exact h
  rw [show (if bn = true then sn else ZSp) = sk from hsk.symm]
  replace hsk := hide hsk
  refine ⟨_, rfl, ?_⟩
  simp only [nrm]
  refine list_val (.tuple #[.agg (spv sk), .bool bn]) (by kernel_rfl) (by kernel_rfl) ?_
  simp only [nrm]
  refine list_val (.agg (spv sk)) (by kernel_rfl) (by kernel_rfl) ?_
  simp only [nrm]
  refine list_val (.bool bn) (by kernel_rfl) (by kernel_rfl) ?_
  simp only [nrm]
  refine list_valw (.pointer (some ⟨v5.heap.size, 0, none⟩)) (v5.alloc (.cells (spv ZSp) 85 (0, 0))) (by kernel_rfl) (by kernel_rfl) ?_
  replace hB := hB.new (spv ZSp) 85
  simp only [List.nil_append, List.cons_append] at hB
  generalize World.alloc _ _ = v6 at *
  generalize v5.heap.size = gn at *
  replace hB : Bl w [⟨w.heap.size, spv ZSp, 85⟩, ⟨gc, kc C2, 120⟩, ⟨gn, spv ZSp, 85⟩] v6 := hB
  simp only [nrm]
  refine list_store 85 (.tmp 8) (.tmp 33) (gn) (spv sk) 85 (spv ZSp) (by kernel_rfl) rfl (by kernel_rfl) (by kernel_rfl) (hB.get 2 (x := ⟨gn, spv ZSp, 85⟩) rfl) (by rw [Tryd.infoSp, spv_size (s := sk) ksk]) (by rw [spv_size (s := sk) ksk, spv_size (s := ZSp) ZSp_hl]) (spv_one _) ?_
  replace hB := hB.set 2 (x := ⟨gn, spv ZSp, 85⟩) rfl (spv sk)
  simp only [List.set_cons_zero, List.set_cons_succ] at hB
  generalize World.setRow _ _ _ = v7 at *
  replace hB : Bl w [⟨w.heap.size, spv ZSp, 85⟩, ⟨gc, kc C2, 120⟩, ⟨gn, spv sk, 85⟩] v7 := hB
  simp only [nrm]
  (refine wpList_step fun K hK => ?_; replace hK := hide hK; go_simp; refine unhide hK _ _ ?_; clear hK K)
  refine wpList_nil ?_
  cases bn
  · skip
    have hsk2 : Hid (sk = ZSp) := by show sk = _; rw [unhide hsk]; rfl
    replace hB := hide hB
    go_upto_region 11 with fail
    replace hB := unhide hB
    refine wp_region_lit ?_
    refine list_val (.bool false) (by kernel_rfl) (by kernel_rfl) ?_
    simp only [nrm]
    refine list_val (.bool true) (by kernel_rfl) (by kernel_rfl) ?_
    simp only [nrm]
    refine wpList_nil ?_
    replace hB := hide hB
    go_upto_region 12 with fail
    replace hB := unhide hB
    refine wp_region_lit ?_
    refine list_val (.agg (spv ZSp)) (by kernel_rfl) (by kernel_rfl) ?_
    simp only [nrm]
    refine list_store 85 (.tmp 2) (.tmp 37) (w.heap.size) (spv ZSp) 85 (spv ZSp) (by kernel_rfl) rfl (by kernel_rfl) (by kernel_rfl) (hB.get 0 (x := ⟨w.heap.size, spv ZSp, 85⟩) rfl) (by rw [Tryd.infoSp, spv_size (s := ZSp) ZSp_hl]) rfl (spv_one _) ?_
    replace hB := hB.set 0 (x := ⟨w.heap.size, spv ZSp, 85⟩) rfl (spv ZSp)
    simp only [List.set_cons_zero, List.set_cons_succ] at hB
    generalize World.setRow _ _ _ = v8 at *
    replace hB : Bl w [⟨w.heap.size, spv ZSp, 85⟩, ⟨gc, kc C2, 120⟩, ⟨gn, spv sk, 85⟩] v8 := hB
    simp only [nrm]
    (refine wpList_step fun K hK => ?_; replace hK := hide hK; go_simp; refine unhide hK _ _ ?_; clear hK K)
    refine wpList_nil ?_
    replace hB := hide hB
    go_wp2_with fail
    replace hB := unhide hB
    rw [unhide hT, ← unhide hct]
    exact bodyPost_ret (v := .tuple #[.agg (spv ZSp), .int .i64 210]) (results_cell_tmp Tryd.results43 _ _ (w.heap.size) 85 (spv ZSp) (0, 0) _ rfl (.int .i64 210) rfl (hB.get 0 (x := ⟨w.heap.size, spv ZSp, 85⟩) rfl) Tryd.underlying85 rfl (by rw [Tryd.infoSp, spv_size (s := ZSp) ZSp_hl])) rfl ⟨rfl, hB.gr⟩
  · skip
    have hsk2 : Hid (sk = sn) := by show sk = _; rw [unhide hsk]; rfl
    replace hB := hide hB
    go_upto_region 11 with fail
    replace hB := unhide hB
    refine wp_region_lit ?_
    refine list_val (.bool true) (by kernel_rfl) (by kernel_rfl) ?_
    simp only [nrm]
    refine list_val (.bool false) (by kernel_rfl) (by kernel_rfl) ?_
    simp only [nrm]
    refine wpList_nil ?_
    replace hB := hide hB
    go_upto_region 13 with fail
    replace hB := unhide hB
    refine wp_region_lit ?_
    refine list_val (.agg (spv sk)) (by kernel_rfl) (exec_arr _ 85 (.tmp 8) rfl (gn) (by kernel_rfl) (spv sk) 85 _ (hB.get 2 (x := ⟨gn, spv sk, 85⟩) rfl) Tryd.underlying85 rfl (by rw [Tryd.infoSp, spv_size (s := sk) ksk])) ?_
    simp only [nrm]
    refine list_store 85 (.tmp 2) (.tmp 38) (w.heap.size) (spv sk) 85 (spv ZSp) (by kernel_rfl) rfl (by kernel_rfl) (by kernel_rfl) (hB.get 0 (x := ⟨w.heap.size, spv ZSp, 85⟩) rfl) (by rw [Tryd.infoSp, spv_size (s := sk) ksk]) (by rw [spv_size (s := sk) ksk, spv_size (s := ZSp) ZSp_hl]) (spv_one _) ?_
    replace hB := hB.set 0 (x := ⟨w.heap.size, spv ZSp, 85⟩) rfl (spv sk)
    simp only [List.set_cons_zero, List.set_cons_succ] at hB
    generalize World.setRow _ _ _ = v8 at *
    replace hB : Bl w [⟨w.heap.size, spv sk, 85⟩, ⟨gc, kc C2, 120⟩, ⟨gn, spv sk, 85⟩] v8 := hB
    simp only [nrm]
    (refine wpList_step fun K hK => ?_; replace hK := hide hK; go_simp; refine unhide hK _ _ ?_; clear hK K)
    refine wpList_nil ?_
    replace hB := hide hB
    go_wp2_with fail
    replace hB := unhide hB
    rw [unhide hT, ← unhide hct]
    exact bodyPost_ret (v := .tuple #[.agg (spv sk), .int .i64 0]) (results_cell_tmp Tryd.results43 _ _ (w.heap.size) 85 (spv sk) (0, 0) _ rfl (.int .i64 0) rfl (hB.get 0 (x := ⟨w.heap.size, spv sk, 85⟩) rfl) Tryd.underlying85 rfl (by rw [Tryd.infoSp, spv_size (s := sk) ksk])) rfl ⟨by rw [unhide hsk2]; rfl, hB.gr⟩
def lyv (h lg sl : Nat) : Array Value := #[.int .i64 (h : Int), .int .i64 (lg : Int), .int .i64 (sl : Int)]
def stv (h lg sl gd : Nat) : Array Value := #[.int .i64 (h : Int), .int .i64 (lg : Int), .int .i64 (sl : Int), .pointer (some ⟨gd, 0, none⟩)]
def stN (n gd : Nat) : Array Value := stv ((n - 2) / 4) (2 + 2 * ((n - 2) / 4)) (n - (2 + 2 * ((n - 2) / 4))) gd
def lyN (n : Nat) : Array Value := lyv ((n - 2) / 4) (2 + 2 * ((n - 2) / 4)) (n - (2 + 2 * ((n - 2) / 4)))
theorem Tryd.infoLy : (Tryd.prog.info? 71).map (·.size) = some 3 := by kernel_rfl
theorem lyv_one (h lg sl : Nat) : (lyv h lg sl).all (·.oneCell') = true := by unfold lyv; simp [Value.oneCell']
set_option maxHeartbeats 4000000 in
theorem divide_ok (n : Nat) (h2 : 2 ≤ n) (hn : n ≤ 1000000) (w : World) : Calls Tryd.prog 73 #[.int .i64 (n : Int)] w (Vl (.agg (lyN n)) w) := by
  obtain ⟨T, hT⟩ : ∃ T, T = Vl (.agg (lyN n)) w := ⟨_, rfl⟩
  rw [← hT]
  replace hT := hide hT
  obtain ⟨h, hh⟩ : ∃ h, h = (n - 2) / 4 := ⟨_, rfl⟩
  obtain ⟨lg, hlg⟩ : ∃ x, x = 2 + 2 * h := ⟨_, rfl⟩
  obtain ⟨sl, hsl⟩ : ∃ x, x = n - lg := ⟨_, rfl⟩
  obtain ⟨m, hm⟩ : ∃ m, m = n - 2 := ⟨_, rfl⟩
  have e1 : IntKind.i64.wrap ((n : Int) - 2) = (m : Int) := by rw [IntKind.wrap_i64]; omega
  have e4 : IntKind.i64.wrap (h : Int) = (h : Int) := by rw [IntKind.wrap_i64]; omega
  have e3 : (m : Int).tdiv 4 = (h : Int) := by rw [Int.tdiv_eq_ediv_of_nonneg (by omega)]; omega
  obtain ⟨h2_, hh2⟩ : ∃ x : Nat, x = 2 * h := ⟨_, rfl⟩
  have e5 : IntKind.i64.wrap (2 * (h : Int)) = (h2_ : Int) := by rw [IntKind.wrap_i64]; omega
  have e6 : IntKind.i64.wrap (2 + (h2_ : Int)) = (lg : Int) := by rw [IntKind.wrap_i64]; omega
  have e7 : IntKind.i64.wrap ((n : Int) - (lg : Int)) = (sl : Int) := by rw [IntKind.wrap_i64]; omega
  have hq : lyN n = lyv h lg sl := by unfold lyN; rw [hsl, hlg, hh]
  rw [hq] at hT
  clear hq
  replace hh := hide hh; replace hm := hide hm; replace hlg := hide hlg; replace hsl := hide hsl; replace hh2 := hide hh2
  go_enter Tryd.func73, Tryd.ntmps73
  go_upto_region 1 with fail
  have hB := ((Bl.nil w).new #[.int .i64 0, .int .i64 0, .int .i64 0] 71)
  simp only [size_alloc, List.nil_append, List.cons_append] at hB
  generalize World.alloc _ _ = u at *
  replace hB : Bl w [⟨w.heap.size, lyv 0 0 0, 71⟩] u := hB
  refine wp_region_lit ?_
  refine list_val (.int .i64 n) (by kernel_rfl) (by kernel_rfl) ?_
  simp only [nrm]
  refine list_val (.int .i64 m) (by kernel_rfl) (by go_simp) ?_
  simp only [nrm]
  refine list_val (.int .i64 h) (by kernel_rfl) (by go_simp) ?_
  simp only [nrm]
  (refine wpList_step fun K hK => ?_; replace hK := hide hK; go_simp; refine unhide hK _ _ ?_; clear hK K)
  refine wpList_nil ?_
  replace hB := hide hB
  go_upto_region 2 with fail
  replace hB := unhide hB
  refine wp_region_lit ?_
  refine list_val (.int .i64 h) (by kernel_rfl) (by kernel_rfl) ?_
  simp only [nrm]
  refine list_val (.int .i64 h2_) (by kernel_rfl) (by go_simp) ?_
  simp only [nrm]
  refine list_val (.int .i64 lg) (by kernel_rfl) (by go_simp) ?_
  simp only [nrm]
  (refine wpList_step fun K hK => ?_; replace hK := hide hK; go_simp; refine unhide hK _ _ ?_; clear hK K)
  refine wpList_nil ?_
  replace hB := hide hB
  go_upto_region 3 with fail
  replace hB := unhide hB
  refine wp_region_lit ?_
  refine list_val (.int .i64 h) (by kernel_rfl) (by kernel_rfl) ?_
  simp only [nrm]
  refine list_val (.int .i64 lg) (by kernel_rfl) (by kernel_rfl) ?_
  simp only [nrm]
  refine list_val (.int .i64 n) (by kernel_rfl) (by kernel_rfl) ?_
  simp only [nrm]
  refine list_val (.int .i64 lg) (by kernel_rfl) (by kernel_rfl) ?_
  simp only [nrm]
  refine list_val (.int .i64 sl) (by kernel_rfl) (by go_simp) ?_
  simp only [nrm]
  refine list_val (.agg (lyv h lg sl)) (by kernel_rfl) (by kernel_rfl) ?_
  simp only [nrm]
  refine list_store 71 (.tmp 2) (.tmp 16) (w.heap.size) (lyv h lg sl) 71 (lyv 0 0 0) (by kernel_rfl) rfl (by kernel_rfl) (by kernel_rfl) (hB.get 0 (x := ⟨w.heap.size, lyv 0 0 0, 71⟩) rfl) (by rw [Tryd.infoLy]; rfl) rfl (lyv_one ..) ?_
  replace hB := hB.set 0 (x := ⟨w.heap.size, lyv 0 0 0, 71⟩) rfl (lyv h lg sl)
  simp only [List.set_cons_zero, List.set_cons_succ] at hB
  generalize World.setRow _ _ _ = u4 at *
  replace hB : Bl w [⟨w.heap.size, lyv h lg sl, 71⟩] u4 := hB
  simp only [nrm]
  refine wpList_nil ?_
  replace hB := hide hB
  go_wp2_with fail
  replace hB := unhide hB
  rw [unhide hT]
  exact bodyPost_ret (v := .agg (lyv h lg sl)) (results_cell_row Tryd.results73 _ _ (w.heap.size) 71 (lyv h lg sl) (0, 0) _ rfl (hB.get 0 (x := ⟨w.heap.size, lyv h lg sl, 71⟩) rfl) Tryd.underlying71 rfl (by rw [Tryd.infoLy]; rfl)) rfl ⟨rfl, hB.gr⟩
set_option maxHeartbeats 4000000 in
theorem start_ok (h lg sl p : Nat) (hh : h ≤ 1000) (hp : p < 256) (w : World) : Calls Tryd.prog 53 #[.agg (lyv h lg sl), .int .u8 (p : Int)] w (Vl (.int .i64 ((2 + p * h : Nat) : Int)) w) := by
  obtain ⟨T, hT⟩ : ∃ T, T = Vl (.int .i64 ((2 + p * h : Nat) : Int)) w := ⟨_, rfl⟩
  rw [← hT]
  replace hT := hide hT
  obtain ⟨SK, hSK⟩ : ∃ X, X = lyv h lg sl := ⟨_, rfl⟩
  rw [← hSK]
  obtain ⟨ph, hph⟩ : ∃ x, x = p * h := ⟨_, rfl⟩
  obtain ⟨q, hq⟩ : ∃ x, x = 2 + ph := ⟨_, rfl⟩
  have hb : ph ≤ 256000 := by rw [hph]; exact Nat.le_trans (Nat.mul_le_mul (Nat.le_of_lt hp) hh) (by omega)
  have e1 : IntKind.i64.wrap (p : Int) = (p : Int) := by rw [IntKind.wrap_i64]; omega
  have e0 : (p : Int) * (h : Int) = (ph : Int) := by rw [hph]; exact (Int.natCast_mul p h).symm
  have e2 : IntKind.i64.wrap (ph : Int) = (ph : Int) := by rw [IntKind.wrap_i64]; omega
  have e3 : IntKind.i64.wrap (2 + (ph : Int)) = (q : Int) := by rw [IntKind.wrap_i64]; omega
  rw [← hph, ← hq] at hT
  replace hSK := hide hSK; replace hph := hide hph; replace hq := hide hq
  go_enter Tryd.func53, Tryd.ntmps53
  go_upto_region 1 with fail
  have hB := ((Bl.nil w).new SK 71)
  simp only [size_alloc, List.nil_append, List.cons_append] at hB
  generalize World.alloc _ _ = u at *
  rw [unhide hSK] at hB
  replace hB : Bl w [⟨w.heap.size, lyv h lg sl, 71⟩] u := hB
  refine wp_region_lit ?_
  refine list_val (.int .u8 (p : Int)) (by kernel_rfl) (by kernel_rfl) ?_
  simp only [nrm]
  refine list_val (.int .i64 (p : Int)) (by kernel_rfl) (by go_simp) ?_
  simp only [nrm]
  refine list_val (.pointer (some ⟨w.heap.size, 0, none⟩)) (by kernel_rfl) (by kernel_rfl) ?_
  simp only [nrm]
  refine list_val (.int .i64 (h : Int)) (by kernel_rfl) (exec_i64 _ (.tmp 7) rfl (w.heap.size) 0 (by kernel_rfl) _ (cell_of (hB.get 0 (x := ⟨w.heap.size, lyv h lg sl, 71⟩) rfl) (i := 0) rfl)) ?_
  simp only [nrm]
  refine list_val (.int .i64 (ph : Int)) (by kernel_rfl) (by go_simp) ?_
  simp only [nrm]
  refine list_val (.int .i64 (q : Int)) (by kernel_rfl) (by go_simp) ?_
  simp only [nrm]
  (refine wpList_step fun K hK => ?_; replace hK := hide hK; go_simp; refine unhide hK _ _ ?_; clear hK K)
  refine wpList_nil ?_
  have hZ : Hid (Vl (.int .i64 (q : Int)) w (.returned (.int .i64 (q : Int))) u) := ⟨rfl, hB.gr⟩
  replace hB := hide hB
  go_wp2_with fail
  rw [unhide hT]
  exact unhide hZ
set_option maxHeartbeats 4000000 in
theorem other_ok (p : Nat) (hp : p < 2) (w : World) : Calls Tryd.prog 63 #[.int .u8 (p : Int)] w (Vl (.int .u8 ((1 - p : Nat) : Int)) w) := by
  obtain ⟨T, hT⟩ : ∃ T, T = Vl (.int .u8 ((1 - p : Nat) : Int)) w := ⟨_, rfl⟩
  rw [← hT]
  replace hT := hide hT
  obtain ⟨q, hq⟩ : ∃ x, x = 1 - p := ⟨_, rfl⟩
  have e1 : IntKind.u8.wrap (1 - (p : Int)) = (q : Int) := by rw [IntKind.wrap_u8]; omega
  rw [← hq] at hT
  replace hq := hide hq
  go_enter Tryd.func63, Tryd.ntmps63
  go_upto_region 1 with fail
  refine wp_region_lit ?_
  refine list_val (.int .u8 (p : Int)) (by kernel_rfl) (by kernel_rfl) ?_
  simp only [nrm]
  refine list_val (.int .u8 (q : Int)) (by kernel_rfl) (by go_simp) ?_
  simp only [nrm]
  (refine wpList_step fun K hK => ?_; replace hK := hide hK; go_simp; refine unhide hK _ _ ?_; clear hK K)
  refine wpList_nil ?_
  have hZ : Hid (Vl (.int .u8 (q : Int)) w (.returned (.int .u8 (q : Int))) w) := ⟨rfl, Gr.refl w⟩
  go_wp2_with fail
  rw [unhide hT]
  exact unhide hZ
def Onn (n gd : Nat) (w : World) (r : Ending) (w' : World) : Prop := ∃ g, r = .returned (.tuple #[.pointer (some ⟨g, 0, none⟩), .int .i64 0]) ∧ w.heap.size ≤ g ∧ w'.heap[g]? = some (.cells (stN n gd) 73 (0, 0)) ∧ Gr w w'
set_option maxHeartbeats 4000000 in
theorem on_ok (F : List Nat) (gd m : Nat) (D : Dk) (hD : D.Ok m) (hm : m ≤ 900000) (hn : 64 ≤ D.safe.length) (w : World) (hL : Lies F gd D w) : Calls Tryd.prog 48 #[P0 gd] w (Onn D.safe.length gd w) := by
  obtain ⟨T, hT⟩ : ∃ T, T = Onn D.safe.length gd w := ⟨_, rfl⟩
  rw [← hT]
  replace hT := hide hT
  have h512 := hD.hi1
  obtain ⟨n, hnn⟩ : ∃ n, n = D.safe.length := ⟨_, rfl⟩
  rw [← hnn] at hn h512 hT
  replace hD := hide hD; replace hL := hide hL; replace hnn := hide hnn
  go_enter Tryd.func48, Tryd.ntmps48
  go_upto_region 1 with fail
  refine wp_region_lit ?_
  refine list_val (.pointer (some ⟨gd, 0, none⟩)) (by kernel_rfl) (by kernel_rfl) ?_
  simp only [nrm]
  refine list_val (.bool false) (by kernel_rfl) (by kernel_rfl) ?_
  simp only [nrm]
  refine wpList_nil ?_
  have hB := Bl.nil w
  replace hB := hide hB
  go_upto_region 3 with fail
  replace hB := unhide hB
  have hnI : ¬ (n : Int) < 64 := by omega
  refine wp_region_lit ?_
  refine list_val (.pointer (some ⟨gd, 0, none⟩)) (by kernel_rfl) (by kernel_rfl) ?_
  simp only [nrm]
  refine list_call 72 #[.pointer (some ⟨gd, 0, none⟩)] (by kernel_rfl) (by kernel_rfl) ((dlen_ok F gd m D (unhide hD) (by omega) _ ((unhide hL).gr hB.gr)).mono ?_)
  rintro r u1 ⟨rfl, hg⟩
  refine ⟨_, rfl, ?_⟩
  rw [← unhide hnn]
  replace hB := hB.more hg
  clear hg
  simp only [nrm]
  refine list_val (.bool false) (by kernel_rfl) (by go_simp) ?_
  simp only [nrm]
  refine wpList_nil ?_
  replace hB := hide hB
  go_upto_region 5 with fail
  replace hB := unhide hB
  refine wp_region_lit ?_
  refine list_val (.pointer (some ⟨gd, 0, none⟩)) (by kernel_rfl) (by kernel_rfl) ?_
  simp only [nrm]
  refine list_call 72 #[.pointer (some ⟨gd, 0, none⟩)] (by kernel_rfl) (by kernel_rfl) ((dlen_ok F gd m D (unhide hD) (by omega) _ ((unhide hL).gr hB.gr)).mono ?_)
  rintro r u2 ⟨rfl, hg⟩
  refine ⟨_, rfl, ?_⟩
  rw [← unhide hnn]
  replace hB := hB.more hg
  clear hg
  simp only [nrm]
  refine list_call 73 #[.int .i64 (n : Int)] (by kernel_rfl) (by kernel_rfl) ((divide_ok n (by omega) (by omega) _).mono ?_)
  rintro r u3 ⟨rfl, hg⟩
  refine ⟨_, rfl, ?_⟩
  obtain ⟨h, hh⟩ : ∃ h, h = (n - 2) / 4 := ⟨_, rfl⟩
  obtain ⟨lg, hlg⟩ : ∃ x, x = 2 + 2 * h := ⟨_, rfl⟩
  obtain ⟨sl, hsl⟩ : ∃ x, x = n - lg := ⟨_, rfl⟩
  have hq : lyN n = lyv h lg sl := by unfold lyN; rw [hsl, hlg, hh]
  have hq2 : Hid (stN n gd = stv h lg sl gd) := by show stN n gd = _; unfold stN; rw [hsl, hlg, hh]
  rw [hq]
  clear hq
  replace hh := hide hh; replace hlg := hide hlg; replace hsl := hide hsl
  replace hB := hB.more hg
  clear hg
  simp only [nrm]
  refine list_val (.pointer (some ⟨gd, 0, none⟩)) (by kernel_rfl) (by kernel_rfl) ?_
  simp only [nrm]
  refine list_val (.agg (stv h lg sl gd)) (by kernel_rfl) (by kernel_rfl) ?_
  simp only [nrm]
  refine list_valw (.pointer (some ⟨u3.heap.size, 0, none⟩)) (u3.alloc (.cells (stv h lg sl gd) 73 (0, 0))) (by kernel_rfl) (by kernel_rfl) ?_
  replace hB := hB.new (stv h lg sl gd) 73
  simp only [List.nil_append, List.cons_append] at hB
  generalize World.alloc _ _ = u4 at *
  generalize u3.heap.size = gs at *
  replace hB : Bl w [⟨gs, stv h lg sl gd, 73⟩] u4 := hB
  simp only [nrm]
  (refine wpList_step fun K hK => ?_; replace hK := hide hK; go_simp; refine unhide hK _ _ ?_; clear hK K)
  (refine wpList_step fun K hK => ?_; replace hK := hide hK; go_simp; refine unhide hK _ _ ?_; clear hK K)
  refine wpList_nil ?_
  have hZ : Hid (Onn n gd w (.returned (.tuple #[.pointer (some ⟨gs, 0, none⟩), .int .i64 0])) u4) := by
    refine ⟨gs, rfl, hB.own 0 (x := ⟨gs, stv h lg sl gd, 73⟩) rfl, ?_, hB.gr⟩
    rw [unhide hq2]
    exact (hB.get 0 (x := ⟨gs, stv h lg sl gd, 73⟩) rfl)
  replace hB := hide hB
  go_wp2_with fail
  rw [unhide hT]
  exact unhide hZ
theorem Chg.trans2 {F F' F'' : List Nat} {w u v : World} (h : Chg F F' w u) (k : Chg F' F'' u v) : Chg F F'' w v := by
  refine ⟨k.os.trans h.os, k.tape.trans h.tape, k.output.trans h.output, Nat.le_trans h.size k.size, fun i hi hn => ?_, fun i hi => ?_⟩
  · rw [k.block i (Nat.lt_of_lt_of_le hi h.size) (fun e => ?_)]
    · exact h.block i hi hn
    · rcases h.new i e with e | e
      · exact hn e
      · omega
  · rcases k.new i hi with e | e
    · exact h.new i e
    · exact .inr (Nat.le_trans h.size e)
theorem Lb.from_ {w : World} {a : Option Addr} {n c : Nat} {M : List Int} (h : Lb w a n c M) (k : Nat) (hk : k ≤ n) : Lb w (if c = k then a else a.map (·.add k)) (n - k) (c - k) (M.drop k) := by
  have hl := h.len
  have hc := h.cap
  have hm := h.max
  refine ⟨by rw [List.length_drop, hl], fun x hx => h.isB x (List.mem_of_mem_drop hx), ?_, by omega, by omega⟩
  by_cases e : c = k
  · exact .inl (List.drop_eq_nil_of_le (by omega))
  · rw [if_neg e]
    rcases h.sl with h1 | ⟨p, o, h1, h2⟩
    · left
      rw [h1]
      exact List.drop_nil
    · right
      refine ⟨p, o + k, ?_, h2.drop k⟩
      rw [h1, Option.map_some, Addr.add_mid]
def Far1 (F : List Nat) (w : World) (a : Option Addr) (M : List Int) : Prop := M = [] ∨ ∃ p, blkOf a = some p ∧ p < w.heap.size ∧ p ∉ F
theorem far1_of {F : List Nat} {w : World} {a : Option Addr} {n c : Nat} {M : List Int} (h : Lb w a n c M) (hf : M = [] ∨ ∀ i ∈ F, blkOf a ≠ some i) : Far1 F w a M := by
  by_cases he : M = []
  · exact .inl he
  · right
    rcases hf with hf | hf
    · exact absurd hf he
    · rcases h.sl with e | ⟨p, o, rfl, h2⟩
      · exact absurd e he
      · exact ⟨p, rfl, lt_of_cell (h2 0 (List.length_pos_iff.2 he)), fun e => hf p e rfl⟩
theorem far1_from {F : List Nat} {w v : World} {a : Option Addr} {n c : Nat} {M : List Int} (hb : Lb v a n c M) (hf : Far1 F w a M) (k : Nat) : Far1 F w (if c = k then a else a.map (·.add k)) (M.drop k) := by
  rcases hf with e | ⟨p, e1, e2, e3⟩
  · left
    rw [e]
    exact List.drop_nil
  · rcases hb.sl with e | ⟨q, o, rfl, _⟩
    · left
      rw [e]
      exact List.drop_nil
    · right
      refine ⟨p, ?_, e2, e3⟩
      split
      · exact e1
      · rw [Option.map_some, Addr.add_mid]
        exact e1
theorem Lb.chg {F F' : List Nat} {w v : World} {a : Option Addr} {n c : Nat} {M : List Int} (h : Lb w a n c M) (k : Chg F F' w v) (hf : M = [] ∨ ∃ p, blkOf a = some p ∧ p ∉ F) : Lb v a n c M := by
  refine ⟨h.len, h.isB, ?_, h.cap, h.max⟩
  rcases h.sl with e | ⟨p, o, rfl, h2⟩
  · exact .inl e
  · rcases hf with e | ⟨q, e, hq⟩
    · exact .inl e
    · have e2 : p = q := Option.some.inj e
      subst e2
      exact .inr ⟨p, o, rfl, fun j hj => k.cell (h2 j hj) hq⟩
theorem wrs_split (o : Nat) (M : List Int) (j K : Nat) (h : j < K) : ∃ r, wrs o M K = wrs o M j ++ (o + j, chk M j) :: r := by
  obtain ⟨d, rfl⟩ : ∃ d, K = j + 1 + d := ⟨K - j - 1, by omega⟩
  clear h
  induction d with
  | zero => exact ⟨[], wrs_succ o M j⟩
  | succ d ih =>
    obtain ⟨r, hr⟩ := ih
    refine ⟨r ++ [(o + (j + 1 + d), chk M (j + 1 + d))], ?_⟩
    rw [show j + 1 + (d + 1) = j + 1 + d + 1 from by omega, wrs_succ, hr, List.append_assoc]
    rfl
def layOps (o : Nat) (M : List Int) : List (Option (Nat × List Int)) := (wrs o M ((M.length + 63) / 64)).map some ++ [none]
theorem run_next {o : Nat} {M : List Int} {j : Nat} {D : Dk} (h : (Dk.runD ((wrs o M j).map some) D).2 = 0) : Dk.runD ((wrs o M (j + 1)).map some) D = (Dk.runD ((wrs o M j).map some) D).1.step (some (o + j, chk M j)) := by
  rw [wrs_succ, List.map_append, run_app, if_pos h]
  show Dk.runD [some (o + j, chk M j)] _ = _
  rw [Dk.runD, Dk.runD]
  split
  · rename_i h2
    rw [← h2]
  · rfl
theorem run_stop {o : Nat} {M : List Int} {j : Nat} {D : Dk} (hj : j < (M.length + 63) / 64) (h : (Dk.runD ((wrs o M j).map some) D).2 = 0) (h2 : ((Dk.runD ((wrs o M j).map some) D).1.step (some (o + j, chk M j))).2 ≠ 0) : Dk.runD (layOps o M) D = (Dk.runD ((wrs o M j).map some) D).1.step (some (o + j, chk M j)) := by
  obtain ⟨r, hr⟩ := wrs_split o M j _ hj
  unfold layOps
  rw [hr, List.map_append, List.append_assoc, run_app, if_pos h, List.map_cons, List.cons_append, Dk.runD, if_neg h2]
theorem run_last {o : Nat} {M : List Int} {D : Dk} (h : (Dk.runD ((wrs o M ((M.length + 63) / 64)).map some) D).2 = 0) : Dk.runD (layOps o M) D = (Dk.runD ((wrs o M ((M.length + 63) / 64)).map some) D).1.step none := by
  unfold layOps
  rw [run_app, if_pos h, Dk.runD, Dk.runD]
  split
  · rename_i h2
    rw [← h2]
  · rfl
theorem lay_chk (M : List Int) (j : Nat) : lay ZB 0 ((M.drop (64 * j)).take 64) = chk M j := by
  have hl : ((M.drop (64 * j)).take 64).length ≤ 64 := by rw [List.length_take]; omega
  have h := lay_zero [] ((M.drop (64 * j)).take 64) 64 hl
  exact h
structure LayS (F : List Nat) (g gd : Nat) (X : Array Value) (o m : Nat) (M : List Int) (D : Dk) (w : World) (j : Nat) (a : Option Addr) (n c : Nat) (v : World) : Prop where
  ls : ∃ F', Lies F' gd (Dk.runD ((wrs o M j).map some) D).1 v ∧ Chg F F' w v
  er : (Dk.runD ((wrs o M j).map some) D).2 = 0
  ok : (Dk.runD ((wrs o M j).map some) D).1.Ok (m + j)
  st : v.heap[g]? = some (.cells X 73 (0, 0))
  lb : Lb v a n c (M.drop (64 * j))
  fa : Far1 F w a (M.drop (64 * j))
set_option maxHeartbeats 4000000 in
theorem slay_ok (F : List Nat) (g gd m h lg sl : Nat) (D : Dk) (hD : D.Ok m) (w : World) (hL : Lies F gd D w) (hS : w.heap[g]? = some (.cells (stv h lg sl gd) 73 (0, 0))) (hg : g ∉ F) (o : Nat) (ho : o ≤ 100000) (M : List Int) (a : Option Addr) (n c : Nat) (hM : Lb w a n c M) (hMa : M = [] ∨ ∀ i ∈ F, blkOf a ≠ some i) (hn : n ≤ 100000) (hm : m ≤ 990000) : Calls Tryd.prog 51 #[P0 g, .int .i64 (o : Int), .slice a n c] w (Ch F gd (Dk.runD (layOps o M) D).1 (Dk.runD (layOps o M) D).2 w) := by
  obtain ⟨T, hT⟩ : ∃ T, T = Ch F gd (Dk.runD (layOps o M) D).1 (Dk.runD (layOps o M) D).2 w := ⟨_, rfl⟩
  rw [← hT]
  replace hT := hide hT
  have hlen := hM.len
  have hMB0 := hM.isB
  obtain ⟨SV, hSV⟩ : ∃ X, X = stv h lg sl gd := ⟨_, rfl⟩
  have hJ : LayS F g gd SV o m M D w 0 a n c w := ⟨⟨F, hL, (Gr.refl w).chg0 F⟩, rfl, hD, by rw [hSV]; exact hS, hM, far1_of hM hMa⟩
  obtain ⟨K, hK0⟩ : ∃ x, x = (n + 63) / 64 := ⟨_, rfl⟩
  have hgw := lt_of_block hS
  have hKb : K ≤ 2000 := by omega
  clear hS hM hMa
  replace hJ := hide hJ; replace hD := hide hD; replace hL := hide hL; replace hlen := hide hlen; replace hMB0 := hide hMB0; replace hSV := hide hSV; replace hK0 := hide hK0
  go_enter Tryd.func51, Tryd.ntmps51
  go_wp2_with fail
  go_loopw [1, 2] (fun i b wr => ∃ (j r : Nat) (a' : Option Addr) (c' : Nat), j ≤ K ∧ i = .int .i64 ((o + j : Nat) : Int) ∧ b = .slice a' r c' ∧ r = n - 64 * j ∧ Hid (LayS F g gd SV o m M D w j a' r c' wr)) (fun _ b _ => (match b with | .slice _ r _ => r | _ => 0))
  case atStart => exact ⟨0, n, a, c, by omega, rfl, rfl, by omega, hJ⟩
  case round =>
  clear hJ
  obtain ⟨j, r, a', c', hjK, rfl, rfl, hr, hJ⟩ := hrel
  have hK1 := unhide hK0
  by_cases hr0 : 0 < r
  · skip
    have rI : 0 < (r : Int) := by omega
    have hjlt : j < K := by omega
    clear hK1
    obtain ⟨oj, hoj⟩ : ∃ x, x = o + j := ⟨_, rfl⟩
    rw [← hoj]
    have i1 : IntKind.i64.wrap ((oj : Int) + 1) = (oj : Int) + 1 := by rw [IntKind.wrap_i64]; omega
    obtain ⟨q, hq⟩ : ∃ x, x = min 64 r := ⟨_, rfl⟩
    have hq1 : q ≤ r ∧ q ≤ 64 ∧ 0 < q := by omega
    have hqr : r - q = n - 64 * (j + 1) := by omega
    replace hr := hide hr; replace hq := hide hq; replace hqr := hide hqr; replace hoj := hide hoj
    have hB := Bl.nil wr
    replace hB := hide hB
    go_upto_region 3 with fail
    replace hB := unhide hB
    refine wp_region_lit ?_
    refine list_valw (.pointer (some ⟨wr.heap.size, 0, none⟩)) (wr.alloc (.cells (kc ZB) 50 (0, 0))) (by kernel_rfl) (by kernel_rfl) ?_
    replace hB := hB.new (kc ZB) 50
    simp only [List.nil_append, List.cons_append] at hB
    generalize World.alloc _ _ = v1 at *
    generalize wr.heap.size = gk at *
    replace hB : Bl wr [⟨gk, kc ZB, 50⟩] v1 := hB
    simp only [nrm]
    refine wpList_nil ?_
    replace hB := hide hB
    go_upto_region 4 with fail
    replace hB := unhide hB
    have hMB := hMB0
    refine wp_region_lit ?_
    refine list_val (.slice a' r c') (by kernel_rfl) (by kernel_rfl) ?_
    simp only [nrm]
    refine list_val (.slice (some ⟨gk, 0, none⟩) 64 64) (by kernel_rfl) (by kernel_rfl) ?_
    simp only [nrm]
    refine list_val (.slice a' r c') (by kernel_rfl) (by kernel_rfl) ?_
    simp only [nrm]
    have hsl := ((unhide hJ).lb.gr hB.gr).pre q hq1.1
    have hcl := (unhide hJ).lb.cap
    have hS1 : (M.drop (64 * j)).take q = (M.drop (64 * j)).take 64 := by
      have h1 := (unhide hJ).lb.len
      rw [unhide hq]
      by_cases h2 : r ≤ 64
      · rw [Nat.min_eq_right h2, List.take_of_length_le (by omega), List.take_of_length_le (by omega)]
      · rw [Nat.min_eq_left (by omega)]
    rw [hS1] at hsl
    have hsq := hsl.len
    refine wpList_plain rfl fun K_ hQ => ?_
    refine copy_wp (.tmp 15) (.tmp 16) rfl gk 0 64 64 a' r c' (by kernel_rfl) (by kernel_rfl) (ZB.map (Value.int .u8)) 50 (hB.get 0 (x := ⟨gk, kc ZB, 50⟩) rfl) ((M.drop (64 * j)).take 64) (by rw [hsq, unhide hq]; exact Nat.min_comm _ _) hsl.sl (by rw [hsq, List.length_map, ZB_len]; omega) ?_
    have hcell := laid (S := (M.drop (64 * j)).take 64) (o := 0) (hB.get 0 (x := ⟨gk, kc ZB, 50⟩) rfl) (by rw [hsq, ZB_len]; omega)
    rw [lay_chk] at hcell
    have hB2 := hB.but (setCells_bt (((M.drop (64 * j)).take 64).map (Value.int .u8)) v1 gk 0) 0 (x := ⟨gk, kc ZB, 50⟩) rfl rfl hcell
    simp only [List.set_cons_zero] at hB2
    have hck := chk_len M j
    have hckb := hide (chk_bb (fun x hx => by
      exact unhide hMB x hx) j : BB (chk M j))
    obtain ⟨CK, hCK⟩ : ∃ x, x = chk M j := ⟨_, rfl⟩
    rw [← hCK] at hck hckb hB2
    replace hCK := hide hCK
    generalize World.setCells _ _ _ _ = v2 at *
    rw [hsq]
    refine hQ _ _ ?_
    clear hQ K_ hcell hB hsl hsq hS1
    have hB : Bl wr [⟨gk, kc CK, 50⟩] v2 := hB2
    clear hB2
    simp only [nrm]
    obtain ⟨a2, ha2⟩ : ∃ x, x = (if c' = q then a' else a'.map (·.add q)) := ⟨_, rfl⟩
    obtain ⟨r2, hr2⟩ : ∃ x, x = r - q := ⟨_, rfl⟩
    obtain ⟨c2, hc2⟩ : ∃ x, x = c' - q := ⟨_, rfl⟩
    refine list_val (.slice a2 r2 c2) (by kernel_rfl) (by rw [ha2, hr2, hc2]; exact exec_from _ (.tmp 14) (.tmp 17) rfl a' r c' q (by kernel_rfl) (by kernel_rfl) hcl hq1.1) ?_
    replace ha2 := hide ha2; replace hr2 := hide hr2; replace hc2 := hide hc2
    simp only [nrm]
    (refine wpList_step fun K hK => ?_; replace hK := hide hK; go_simp; refine unhide hK _ _ ?_; clear hK K)
    refine wpList_nil ?_
    clear hcl
    replace hB := hide hB
    go_upto_region 5 with fail
    replace hB := unhide hB
    refine any_start (S := fun (v : World) => v.heap[g]? = some (.cells (stv h lg sl gd) 73 (0, 0)) ∧ v.heap[gk]? = some (.cells (kc CK) 50 (0, 0))) (by kernel_rfl) ?_
    replace hB := hB.drew
    generalize World.drew _ = x0 at *
    obtain ⟨F1, hLwr, hC0⟩ := (unhide hJ).ls
    have hOkJ := (unhide hJ).ok
    have hErJ := (unhide hJ).er
    obtain ⟨DJ, hDJ⟩ : ∃ x, x = (Dk.runD ((wrs o M j).map some) D).1 := ⟨_, rfl⟩
    rw [← hDJ] at hLwr hOkJ
    have hL1 := hLwr.gr hB.gr
    have hC1 := hC0.gr hB.gr
    have hS : (fun (v : World) => v.heap[g]? = some (.cells (stv h lg sl gd) 73 (0, 0)) ∧ v.heap[gk]? = some (.cells (kc CK) 50 (0, 0))) x0 := ⟨by rw [← unhide hSV]; exact hB.gr.blk (unhide hJ).st, hB.get 0 (x := ⟨gk, kc CK, 50⟩) rfl⟩
    replace hDJ := hide hDJ
    simp only [List.size_toArray, List.length_cons, List.length_nil, Array.replicate, List.replicate]
    refine any_take (i := 0) (v := (.pointer (some ⟨g, 0, none⟩))) #[false, false, false, false, false, false, false, false] rfl (by kernel_rfl) (by kernel_rfl) (by kernel_rfl) (by kernel_rfl) (fun _ _ _ h => h) (.inl ⟨by kernel_rfl, fun x_ hu => by kernel_rfl⟩) hS ?_
    simp only [nrm]
    refine any_take (i := 1) (v := (.pointer (some ⟨g, 0, none⟩))) #[true, false, false, false, false, false, false, false] rfl (by kernel_rfl) (by kernel_rfl) (by kernel_rfl) (by kernel_rfl) (fun _ _ _ h => h) (.inl ⟨by kernel_rfl, fun x_ hu => by kernel_rfl⟩) hS ?_
    simp only [nrm]
    refine any_take (i := 2) (v := (.pointer (some ⟨g, 3, none⟩))) #[true, true, false, false, false, false, false, false] rfl (by kernel_rfl) (by kernel_rfl) (by kernel_rfl) (by kernel_rfl) (fun _ _ _ h => h) (.inl ⟨by kernel_rfl, fun x_ hu => by kernel_rfl⟩) hS ?_
    simp only [nrm]
    refine any_take (i := 3) (v := (.pointer (some ⟨gd, 0, none⟩))) #[true, true, true, false, false, false, false, false] rfl (by kernel_rfl) (by kernel_rfl) (by kernel_rfl) (by kernel_rfl) (fun _ _ _ h => h) (.inl ⟨by kernel_rfl, fun x_ hu => exec_pd _ (.tmp 21) rfl g 3 (by kernel_rfl) (some ⟨gd, 0, none⟩) (cell_of hu.1 (i := 3) rfl)⟩) hS ?_
    simp only [nrm]
    refine any_take (i := 4) (v := (.int .i64 (oj : Int))) #[true, true, true, true, false, false, false, false] rfl (by kernel_rfl) (by kernel_rfl) (by kernel_rfl) (by kernel_rfl) (fun _ _ _ h => h) (.inl ⟨by kernel_rfl, fun x_ hu => by kernel_rfl⟩) hS ?_
    simp only [nrm]
    refine any_take (i := 5) (v := (.agg (kc CK))) #[true, true, true, true, true, false, false, false] rfl (by kernel_rfl) (by kernel_rfl) (by kernel_rfl) (by kernel_rfl) (fun _ _ _ h => h) (.inl ⟨by kernel_rfl, fun x_ hu => exec_arr _ 50 (.tmp 7) rfl gk (by kernel_rfl) (kc CK) 50 _ hu.2 Tryd.underlying50 rfl (by rw [Tryd.infoB, kc_size, hck])⟩) hS ?_
    simp only [nrm]
    refine any_one (i := 6) (by kernel_rfl) rfl (fun K_ hQ => ?_)
    refine step_callw (by kernel_rfl) 77 #[P0 gd, .int .i64 (oj : Int), .agg (kc CK)] (by kernel_rfl) ((dwrite_ok F1 gd (m + j) DJ hOkJ (by omega) (oj : Int) CK (unhide hckb) x0 hL1).mono ?_)
    rintro r v4 ⟨F2, rfl, hL2, hc2⟩
    refine ⟨_, rfl, ?_⟩
    obtain ⟨we, hwe⟩ : ∃ x : Int, x = DJ.writeE (oj : Int) := ⟨_, rfl⟩
    rw [← hwe]
    replace hwe := hide hwe
    have hgF1 : g ∉ F1 := fun e => by rcases hC1.new g e with e | e; exact hg e; omega
    have hkF1 : gk ∉ F1 := fun e => by have h1 := hLwr.lt gk e; have h2 := hB.own 0 (x := ⟨gk, kc CK, 50⟩) rfl; dsimp only at h2; omega
    replace hS : (fun (v : World) => v.heap[g]? = some (.cells (stv h lg sl gd) 73 (0, 0)) ∧ v.heap[gk]? = some (.cells (kc CK) 50 (0, 0))) v4 := ⟨hc2.blk hS.1 hgF1, hc2.blk hS.2 hkF1⟩
    refine hQ.out _ _ hS (fun _ => ?_)
    clear hQ K_
    simp only [nrm]
    refine any_one (i := 7) (by kernel_rfl) rfl (fun K_ hQ => ?_)
    replace hQ := hide hQ
    go_simp
    refine (unhide hQ).out _ _ hS (fun _ => ?_)
    clear hQ K_
    refine any_done (by kernel_rfl) ?_
    have hstep : Hid (DJ.step (some (o + j, chk M j)) = (DJ.writeD (oj : Int) CK, we)) := by
      show DJ.step (some (o + j, chk M j)) = _
      rw [unhide hCK, unhide hwe, unhide hoj]
      rfl
    have hfar : Hid (Far1 F w a' (M.drop (64 * j))) := (unhide hJ).fa
    have hlb0 : Hid (Lb x0 a' r c' (M.drop (64 * j))) := (unhide hJ).lb.gr hB.gr
    have hch4 : Hid (Chg F F2 w v4) := hC1.trans2 hc2
    have hlb4 : Hid (Lb v4 a' r c' (M.drop (64 * j))) := by
      refine (unhide hlb0).chg hc2 ?_
      rcases unhide hfar with e | ⟨p, e1, e2, e3⟩
      · exact .inl e
      · exact .inr ⟨p, e1, fun e => by rcases hC1.new p e with e | e; exact e3 e; omega⟩
    have hst4 : Hid (v4.heap[g]? = some (.cells SV 73 (0, 0))) := by show _ = _; rw [unhide hSV]; exact hS.1
    replace hL2 := hide hL2; replace hErJ := hide hErJ; replace hOkJ := hide hOkJ
    clear hS hB hLwr hC0 hL1 hC1 hgF1 hkF1 hc2 hlb0 hJ
    by_cases hw0 : we = 0
    · skip
      subst hw0
      have hJ2 : Hid (LayS F g gd SV o m M D w (j + 1) a2 r2 c2 v4) := by
        have e1 := run_next (unhide hErJ)
        have hs := unhide hstep
        rw [← unhide hDJ, hs] at e1
        have e2 : M.drop (64 * (j + 1)) = (M.drop (64 * j)).drop q := by
          rw [List.drop_drop]
          have h1 := (unhide hlb4).len
          by_cases h2 : r ≤ 64
          · rw [List.drop_eq_nil_of_le (by rw [List.length_drop] at h1; omega), List.drop_eq_nil_of_le (by rw [List.length_drop] at h1; have := unhide hq; omega)]
          · rw [show 64 * j + q = 64 * (j + 1) from by have := unhide hq; omega]
        refine ⟨⟨F2, by rw [e1]; exact unhide hL2, unhide hch4⟩, by rw [e1], ?_, unhide hst4, ?_, ?_⟩
        · rw [e1, show m + (j + 1) = m + j + 1 from by omega]
          exact (unhide hOkJ).write _ _ (unhide hckb)
        · rw [e2, unhide ha2, unhide hr2, unhide hc2]
          exact (unhide hlb4).from_ q hq1.1
        · rw [e2, unhide ha2]
          exact far1_from (unhide hlb4) (unhide hfar) q
      clear hlb4 hfar hstep hch4 hst4 hL2 hErJ hOkJ hwe
      go_wp2_with fail
      go_roundw
      case rel => exact ⟨j + 1, r2, a2, c2, by omega, by have := unhide hoj; go_num, rfl, by have := unhide hr2; have := unhide hqr; omega, hJ2⟩
      case measure => have := unhide hr2; dsimp only; omega
    have hZ : Hid (Ch F gd (Dk.runD (layOps o M) D).1 (Dk.runD (layOps o M) D).2 w (.returned (.int .i64 we)) v4) := by
      have hs := unhide hstep
      have e1 := run_stop (o := o) (M := M) (j := j) (D := D) (by rw [unhide hlen, ← unhide hK0]; exact hjlt) (unhide hErJ) (by rw [← unhide hDJ, hs]; exact hw0)
      rw [← unhide hDJ, hs] at e1
      rw [e1]
      exact ⟨F2, rfl, unhide hL2, unhide hch4⟩
    clear hlb4 hfar hstep hch4 hst4 hL2 hErJ hOkJ hwe
    go_wp2_with fail
    rw [unhide hT]
    exact unhide hZ
  have rI : ¬ 0 < (r : Int) := by omega
  have hjK2 : j = K := by omega
  clear hK1
  replace hjK2 := hide hjK2; replace hr := hide hr
  obtain ⟨F1, hL1, hC1⟩ := (unhide hJ).ls
  have hOkJ := (unhide hJ).ok
  have hErJ := (unhide hJ).er
  have hst := (unhide hJ).st
  rw [unhide hSV] at hst
  obtain ⟨DJ, hDJ⟩ : ∃ x, x = (Dk.runD ((wrs o M j).map some) D).1 := ⟨_, rfl⟩
  rw [← hDJ] at hL1 hOkJ
  replace hL1 := hide hL1; replace hC1 := hide hC1; replace hOkJ := hide hOkJ; replace hErJ := hide hErJ; replace hst := hide hst; replace hDJ := hide hDJ
  clear hJ
  go_upto_region 8 with fail
  refine wp_region_lit ?_
  refine list_val (.pointer (some ⟨g, 0, none⟩)) (by kernel_rfl) (by kernel_rfl) ?_
  simp only [nrm]
  refine list_val (.pointer (some ⟨g, 0, none⟩)) (by kernel_rfl) (by kernel_rfl) ?_
  simp only [nrm]
  refine list_val (.pointer (some ⟨g, 3, none⟩)) (by kernel_rfl) (by kernel_rfl) ?_
  simp only [nrm]
  refine list_val (.pointer (some ⟨gd, 0, none⟩)) (by kernel_rfl) (exec_pd _ (.tmp 31) rfl g 3 (by kernel_rfl) (some ⟨gd, 0, none⟩) (cell_of (unhide hst) (i := 3) rfl)) ?_
  simp only [nrm]
  refine list_call 78 #[P0 gd] (by kernel_rfl) (by kernel_rfl) ((dsync_ok F1 gd (m + j) DJ (unhide hOkJ) (by have := unhide hK0; omega) wr (unhide hL1)).mono ?_)
  rintro r9 v4 ⟨F2, rfl, hL2, hc2⟩
  have hZ : Hid (Ch F gd (Dk.runD (layOps o M) D).1 (Dk.runD (layOps o M) D).2 w (.returned (.int .i64 DJ.syncE)) v4) := by
    have hjj : j = (M.length + 63) / 64 := by rw [unhide hlen, ← unhide hK0]; exact unhide hjK2
    have e0 := unhide hErJ
    rw [hjj] at e0
    have e1 := run_last e0
    rw [← hjj, ← unhide hDJ] at e1
    rw [e1]
    exact ⟨F2, rfl, hL2, (unhide hC1).trans2 hc2⟩
  refine ⟨_, rfl, ?_⟩
  clear hL2 hc2
  generalize DJ.syncE = se at *
  simp only [nrm]
  (refine wpList_step fun K hK => ?_; replace hK := hide hK; go_simp; refine unhide hK _ _ ?_; clear hK K)
  refine wpList_nil ?_
  go_wp2_with fail
  rw [unhide hT]
  exact unhide hZ
end Go.Proofs.YtaoiejgjdmakjaaDoor
