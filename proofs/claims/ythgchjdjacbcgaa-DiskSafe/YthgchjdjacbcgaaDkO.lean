/-
  The laws' own helpers: what all sectors hold.
-/
import Derived.Test.YthgchjdjacbcgaaDkN
namespace Go.Proofs.Ythgchjdjacbcgaa
open Go.RowKit
set_option maxRecDepth 100000
set_option linter.unusedSimpArgs false
set_option linter.unusedVariables false
theorem exec_bb1 {a : Act} {o : Oper} (w : World) (x : Operand) (ho : o.op = .buildSlice 28 1 #[(0, x)]) (b : List Int) (hb : b.length = 64) (hx : a.eval x = .agg (kc b)) :
    (execOp a.eval o).run Try.prog w = .ok (.value (.slice (some ⟨w.heap.size, 0, none⟩) 1 1)) (w.alloc (.cells (kc b) 39 (0, 0))) := by
  obtain ⟨p0, p1, p2, p3, p4, p5, p6, p7, p8, p9, p10, p11, p12, p13, p14, p15, p16, p17, p18, p19, p20, p21, p22, p23, p24, p25, p26, p27, p28, p29, p30, p31, q0, q1, q2, q3, q4, q5, q6, q7, q8, q9, q10, q11, q12, q13, q14, q15, q16, q17, q18, q19, q20, q21, q22, q23, q24, q25, q26, q27, q28, q29, q30, q31, rfl⟩ := list64 b hb
  obtain ⟨i0, h1, h2, h3, h4⟩ := info_parts Try.infoBz
  have h := run_buildSlice (P := Try.prog) w 28 39 1 #[(0, .agg (kc ([p0, p1, p2, p3, p4, p5, p6, p7, p8, p9, p10, p11, p12, p13, p14, p15, p16, p17, p18, p19, p20, p21, p22, p23, p24, p25, p26, p27, p28, p29, p30, p31] ++ [q0, q1, q2, q3, q4, q5, q6, q7, q8, q9, q10, q11, q12, q13, q14, q15, q16, q17, q18, q19, q20, q21, q22, q23, q24, q25, q26, q27, q28, q29, q30, q31])))] (kc ([p0, p1, p2, p3, p4, p5, p6, p7, p8, p9, p10, p11, p12, p13, p14, p15, p16, p17, p18, p19, p20, p21, p22, p23, p24, p25, p26, p27, p28, p29, p30, p31] ++ [q0, q1, q2, q3, q4, q5, q6, q7, q8, q9, q10, q11, q12, q13, q14, q15, q16, q17, q18, q19, q20, q21, q22, q23, q24, q25, q26, q27, q28, q29, q30, q31])) i0 (.agg (kc ZB)) Try.underlying28 h1 h2 (by rw [h3]; decide) (by rw [h3]; decide) (by rw [h3]; kernel_rfl)
  unfold execOp
  simp only [ho, List.map_toArray, List.map_cons, List.map_nil, hx, Sem.run_bind, h, Result.andThen_ok, Sem.run_pure]
/-- what all sectors hold -/
def heldN (D : Dk) (n : Nat) : List (List Int) := (List.range n).map fun i : Nat => D.readB (i : Int)
def heldL (D : Dk) : List (List Int) := heldN D D.safe.length
theorem heldN_len (D : Dk) (n : Nat) : (heldN D n).length = n := by unfold heldN; simp
theorem heldN_succ (D : Dk) (n : Nat) : heldN D (n + 1) = heldN D n ++ [D.readB (n : Int)] := by unfold heldN; rw [List.range_succ, List.map_append]; rfl
theorem heldN_bb {D : Dk} {m : Nat} (h : D.Ok m) (n : Nat) : ∀ b ∈ heldN D n, BB b := by
  intro b hb
  unfold heldN at hb
  obtain ⟨i, _, rfl⟩ := List.mem_map.1 hb
  exact Dk.readB_bb h _
/-- what held answers -/
def Hld (D : Dk) (w : World) (r : Ending) (w' : World) : Prop := ∃ a c, r = .returned (.slice a D.safe.length c) ∧ Ls 64 w' a D.safe.length c ((heldL D).map bv) ∧ Fr2 w none a ∧ Gr w w'
theorem Or_.fr {k : Nat} {e : TypeId} {b : Nat} {w u : World} {a : Option Addr} {n c : Nat} {R : List (List Value)} (h : Or_ k e b u (.slice a n c) R) (hb : w.heap.size ≤ b) : Fr2 w none a := by
  rcases h.2.2 with ⟨h1, _⟩ | ⟨g_, _, _, h1, h2, _⟩
  · have e9 : a = none := by injection h1
    rw [e9]
    exact Fr2.none _ _
  · have e9 : a = Option.some ⟨g_, 0, none⟩ := by injection h1
    rw [e9]
    exact Fr2.new _ (Nat.le_trans hb h2)
set_option maxHeartbeats 4000000 in
theorem held_ok (F : List Nat) (gd m : Nat) (D : Dk) (hD : D.Ok m) (hm : m ≤ 1000000) (w : World) (hL : Lies F gd D w) : Calls Try.prog 24 #[P0 gd] w (Hld D w) := by
  obtain ⟨T, hT⟩ : ∃ T, T = Hld D w := ⟨_, rfl⟩
  rw [← hT]
  replace hT := hide hT
  obtain ⟨n, hn⟩ : ∃ n, n = D.safe.length := ⟨_, rfl⟩
  have hn512 : n ≤ 512 := by rw [hn]; exact hD.hi1
  replace hn := hide hn; replace hD := hide hD; replace hL := hide hL
  go_enter Try.func24, Try.ntmps24
  go_upto_region 2 with fail
  refine wp_region_lit ?_
  refine list_val (.pointer (some ⟨gd, 0, none⟩)) (by kernel_rfl) (by kernel_rfl) ?_
  simp only [Act.put, List.setIfInBounds_toArray, List.set_cons_zero, List.set_cons_succ, List.getElem_toArray, List.getElem_cons_zero, List.getElem_cons_succ]
  refine list_call 16 #[.pointer (some ⟨gd, 0, none⟩)] (by kernel_rfl) (by kernel_rfl) ((dlen_ok F gd m D (unhide hD) hm _ (unhide hL)).mono ?_)
  rintro r u ⟨rfl, hG⟩
  refine ⟨_, rfl, ?_⟩
  rw [← unhide hn]
  simp only [Act.put, List.setIfInBounds_toArray, List.set_cons_zero, List.set_cons_succ, List.getElem_toArray, List.getElem_cons_zero, List.getElem_cons_succ]
  refine list_val (.int .i64 0) (by kernel_rfl) (by kernel_rfl) ?_
  simp only [Act.put, List.setIfInBounds_toArray, List.set_cons_zero, List.set_cons_succ, List.getElem_toArray, List.getElem_cons_zero, List.getElem_cons_succ]
  refine wpList_nil ?_
  have hor : Hid (Or_ 64 39 w.heap.size u (.slice none 0 0) ((heldN D 0).map bv)) := ⟨(fun r hr => by have h9 : r ∈ ([] : List (List Value)) := hr; cases h9), rfl, .inl ⟨rfl, rfl⟩⟩
  replace hG := hide hG
  go_wp2_with fail
  go_loopw [3, 9] (fun v i wr => ∃ j : Nat, j ≤ n ∧ i = .int .i64 j ∧ Hid (Gr w wr) ∧ Hid (Or_ 64 39 w.heap.size wr v ((heldN D j).map bv))) (fun _ i _ => n - (intOf i).toNat)
  case atStart => exact ⟨0, by omega, rfl, hG, hor⟩
  case round =>
  clear hG hor
  obtain ⟨j, hj, rfl, hG, hor⟩ := hrel
  by_cases hjl : j < n
  · skip
    have jI : (j : Int) < (n : Int) := by omega
    obtain ⟨av, cv, hav, hlsv⟩ := (unhide hor).ls
    rw [List.length_map, heldN_len] at hav
    subst hav
    clear hlsv
    go_upto_region 5 with fail
    refine wp_region_lit ?_
    refine list_val (.pointer (some ⟨gd, 0, none⟩)) (by kernel_rfl) (by kernel_rfl) ?_
    simp only [Act.put, List.setIfInBounds_toArray, List.set_cons_zero, List.set_cons_succ, List.getElem_toArray, List.getElem_cons_zero, List.getElem_cons_succ]
    refine list_val (.int .i64 (j : Int)) (by kernel_rfl) (by kernel_rfl) ?_
    simp only [Act.put, List.setIfInBounds_toArray, List.set_cons_zero, List.set_cons_succ, List.getElem_toArray, List.getElem_cons_zero, List.getElem_cons_succ]
    refine list_call 17 #[.pointer (some ⟨gd, 0, none⟩), .int .i64 (j : Int)] (by kernel_rfl) (by kernel_rfl) ((dread_ok F gd m D (unhide hD) hm (j : Int) _ ((unhide hL).gr (unhide hG))).mono ?_)
    rintro r v1 ⟨rfl, hg⟩
    refine ⟨_, rfl, ?_⟩
    have hbb := Dk.readB_bb (unhide hD) (j : Int)
    have hsc := heldN_succ D j
    obtain ⟨b, hb⟩ : ∃ b, b = D.readB (j : Int) := ⟨_, rfl⟩
    generalize D.readE (j : Int) = e at *
    rw [← hb]
    rw [← hb] at hbb hsc
    have hbl := hbb.1
    have hB := (Bl.nil wr).more hg
    replace hb := hide hb; replace hsc := hide hsc
    clear hg
    simp only [Act.put, List.setIfInBounds_toArray, List.set_cons_zero, List.set_cons_succ, List.getElem_toArray, List.getElem_cons_zero, List.getElem_cons_succ]
    refine list_val (.tuple #[.agg (kc b), .int .i64 e]) (by kernel_rfl) (by kernel_rfl) ?_
    simp only [Act.put, List.setIfInBounds_toArray, List.set_cons_zero, List.set_cons_succ, List.getElem_toArray, List.getElem_cons_zero, List.getElem_cons_succ]
    refine list_val (.agg (kc b)) (by kernel_rfl) (by kernel_rfl) ?_
    simp only [Act.put, List.setIfInBounds_toArray, List.set_cons_zero, List.set_cons_succ, List.getElem_toArray, List.getElem_cons_zero, List.getElem_cons_succ]
    refine list_val (.int .i64 e) (by kernel_rfl) (by kernel_rfl) ?_
    simp only [Act.put, List.setIfInBounds_toArray, List.set_cons_zero, List.set_cons_succ, List.getElem_toArray, List.getElem_cons_zero, List.getElem_cons_succ]
    refine list_valw (.pointer (some ⟨v1.heap.size, 0, none⟩)) (v1.alloc (.cells (kc ZB) 39 (0, 0))) (by kernel_rfl) (by kernel_rfl) ?_
    replace hB := hB.new (kc ZB) 39
    simp only [List.nil_append, List.cons_append] at hB
    generalize World.alloc _ _ = v2 at *
    generalize v1.heap.size = g5 at *
    replace hB : Bl wr [⟨g5, kc ZB, 39⟩] v2 := hB
    simp only [Act.put, List.setIfInBounds_toArray, List.set_cons_zero, List.set_cons_succ, List.getElem_toArray, List.getElem_cons_zero, List.getElem_cons_succ]
    refine list_store 39 (.tmp 5) (.tmp 16) (g5) (kc b) 39 (kc ZB) (by kernel_rfl) rfl (by kernel_rfl) (by kernel_rfl) (hB.get 0 (x := ⟨g5, kc ZB, 39⟩) rfl) (by rw [Try.infoB, kc_size, hbl]) ((show (kc ZB).size = 64 from rfl).trans ((kc_size _).trans hbl).symm) (kc_one _) ?_
    replace hB := hB.set 0 (x := ⟨g5, kc ZB, 39⟩) rfl (kc b)
    simp only [List.set_cons_zero, List.set_cons_succ] at hB
    generalize World.setRow _ _ _ = v3 at *
    replace hB : Bl wr [⟨g5, kc b, 39⟩] v3 := hB
    simp only [Act.put, List.setIfInBounds_toArray, List.set_cons_zero, List.set_cons_succ, List.getElem_toArray, List.getElem_cons_zero, List.getElem_cons_succ]
    (refine wpList_step fun K hK => ?_; replace hK := hide hK; go_simp; refine unhide hK _ _ ?_; clear hK K)
    refine wpList_nil ?_
    replace hB := hide hB
    go_upto_region 6 with fail
    replace hB := unhide hB
    refine wp_region_lit ?_
    refine list_val (.slice av j cv) (by kernel_rfl) (by kernel_rfl) ?_
    simp only [Act.put, List.setIfInBounds_toArray, List.set_cons_zero, List.set_cons_succ, List.getElem_toArray, List.getElem_cons_zero, List.getElem_cons_succ]
    refine list_val (.agg (kc b)) (by kernel_rfl) (exec_arr _ 39 (.tmp 5) rfl g5 (by kernel_rfl) (kc b) 39 _ (hB.get 0 (x := ⟨g5, kc b, 39⟩) rfl) Try.underlying39 rfl (by rw [Try.infoB, kc_size, hbl])) ?_
    simp only [Act.put, List.setIfInBounds_toArray, List.set_cons_zero, List.set_cons_succ, List.getElem_toArray, List.getElem_cons_zero, List.getElem_cons_succ]
    refine list_valw (.slice (some ⟨v3.heap.size, 0, none⟩) 1 1) (v3.alloc (.cells (kc b) 39 (0, 0))) (by kernel_rfl) (exec_bb1 _ (.tmp 19) rfl b hbl (by kernel_rfl)) ?_
    have hls : Ls 64 (v3.alloc (.cells (kc b) 39 (0, 0))) (some ⟨v3.heap.size, 0, none⟩) 1 1 [bv b] := ⟨rfl, (by intro r hr; rw [List.mem_singleton] at hr; subst hr; rw [bv_len, hbl]), .inr ⟨v3.heap.size, 0, rfl, by simp only [List.flatten_cons, List.flatten_nil, List.append_nil]; exact range_row (blk_new _ _)⟩, Nat.le_refl _, by omega, fun p e => by have e3 := Option.some.inj e; rw [← e3, size_alloc]; show v3.heap.size < _; omega⟩
    have hGo := hB.gr.alloc (.cells (kc b) 39 (0, 0))
    generalize World.alloc _ _ = v4 at *
    generalize v3.heap.size = g6 at *
    simp only [Act.put, List.setIfInBounds_toArray, List.set_cons_zero, List.set_cons_succ, List.getElem_toArray, List.getElem_cons_zero, List.getElem_cons_succ]
    refine wpList_step fun K_ hQ => ?_
    rw [if_pos (by kernel_rfl)]
    refine app_rows lt_b (.tmp 18) (.tmp 20) rfl w.heap.size _ ((heldN D j).map bv) rfl ((unhide hor).gr hGo) (some ⟨g6, 0, none⟩) 1 1 [bv b] rfl hls (by intro r hr; rw [List.mem_singleton] at hr; subst hr; exact bv_one' _) (by rw [List.length_map, heldN_len]; omega) ((unhide hG).trans hGo).size ?_
    intro v5_ v5 hor5 hgr
    have hG5 := hide (grown_owned ((unhide hor).gr hGo).2 (Nat.le_refl _) ((unhide hG).trans hGo) hgr)
    have e9 : (heldN D j).map bv ++ [bv b] = (heldN D (j + 1)).map bv := by rw [unhide hsc, List.map_append]; rfl
    rw [e9] at hor5
    replace hor5 := hide hor5
    clear hgr hls hGo e9 hB
    refine hQ _ _ ?_
    clear hQ K_
    simp only [Act.put, List.setIfInBounds_toArray, List.set_cons_zero, List.set_cons_succ, List.getElem_toArray, List.getElem_cons_zero, List.getElem_cons_succ]
    (refine wpList_step fun K hK => ?_; replace hK := hide hK; go_simp; refine unhide hK _ _ ?_; clear hK K)
    refine wpList_nil ?_
    clear hG hor
    go_wp2_with fail
    go_roundw
    case rel => exact ⟨j + 1, by omega, by go_num, hG5, hor5⟩
    case measure => simp [intOf]; omega
  have jI : ¬ (j : Int) < (n : Int) := by omega
  have e : j = n := by omega
  rw [e] at hor
  obtain ⟨av, cv, hav, hls⟩ := (unhide hor).ls
  rw [List.length_map, heldN_len] at hav hls
  subst hav
  have hP : Hid (Hld D w (.returned (.slice av n cv)) wr) := by
    refine ⟨av, cv, by rw [unhide hn], ?_, (unhide hor).fr (Nat.le_refl _), unhide hG⟩
    unfold heldL
    rw [← unhide hn]
    exact hls
  clear hls hor hG
  go_wp2_with fail
  rw [unhide hT]
  exact unhide hP
end Go.Proofs.Ythgchjdjacbcgaa
