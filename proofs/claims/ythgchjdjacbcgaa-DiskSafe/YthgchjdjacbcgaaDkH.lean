/-
  The reference: Write.
-/
import Derived.Test.YthgchjdjacbcgaaDkG
import Derived.Great.BuildSlice
namespace Go.Proofs.Ythgchjdjacbcgaa
open Go.RowKit
set_option maxRecDepth 100000
set_option linter.unusedSimpArgs false
set_option linter.unusedVariables false
theorem list32 : ∀ (M : List Int), M.length = 32 → ∃ x0 x1 x2 x3 x4 x5 x6 x7 x8 x9 x10 x11 x12 x13 x14 x15 x16 x17 x18 x19 x20 x21 x22 x23 x24 x25 x26 x27 x28 x29 x30 x31, M = [x0, x1, x2, x3, x4, x5, x6, x7, x8, x9, x10, x11, x12, x13, x14, x15, x16, x17, x18, x19, x20, x21, x22, x23, x24, x25, x26, x27, x28, x29, x30, x31]
  | [x0, x1, x2, x3, x4, x5, x6, x7, x8, x9, x10, x11, x12, x13, x14, x15, x16, x17, x18, x19, x20, x21, x22, x23, x24, x25, x26, x27, x28, x29, x30, x31], _ => ⟨_, _, _, _, _, _, _, _, _, _, _, _, _, _, _, _, _, _, _, _, _, _, _, _, _, _, _, _, _, _, _, _, rfl⟩
theorem list64 (M : List Int) (h : M.length = 64) : ∃ p0 p1 p2 p3 p4 p5 p6 p7 p8 p9 p10 p11 p12 p13 p14 p15 p16 p17 p18 p19 p20 p21 p22 p23 p24 p25 p26 p27 p28 p29 p30 p31 q0 q1 q2 q3 q4 q5 q6 q7 q8 q9 q10 q11 q12 q13 q14 q15 q16 q17 q18 q19 q20 q21 q22 q23 q24 q25 q26 q27 q28 q29 q30 q31, M = ([p0, p1, p2, p3, p4, p5, p6, p7, p8, p9, p10, p11, p12, p13, p14, p15, p16, p17, p18, p19, p20, p21, p22, p23, p24, p25, p26, p27, p28, p29, p30, p31] ++ [q0, q1, q2, q3, q4, q5, q6, q7, q8, q9, q10, q11, q12, q13, q14, q15, q16, q17, q18, q19, q20, q21, q22, q23, q24, q25, q26, q27, q28, q29, q30, q31]) := by
  obtain ⟨p0, p1, p2, p3, p4, p5, p6, p7, p8, p9, p10, p11, p12, p13, p14, p15, p16, p17, p18, p19, p20, p21, p22, p23, p24, p25, p26, p27, p28, p29, p30, p31, hA⟩ := list32 (M.take 32) (by rw [List.length_take]; omega)
  obtain ⟨q0, q1, q2, q3, q4, q5, q6, q7, q8, q9, q10, q11, q12, q13, q14, q15, q16, q17, q18, q19, q20, q21, q22, q23, q24, q25, q26, q27, q28, q29, q30, q31, hB⟩ := list32 (M.drop 32) (by rw [List.length_drop]; omega)
  exact ⟨p0, p1, p2, p3, p4, p5, p6, p7, p8, p9, p10, p11, p12, p13, p14, p15, p16, p17, p18, p19, p20, p21, p22, p23, p24, p25, p26, p27, p28, p29, p30, p31, q0, q1, q2, q3, q4, q5, q6, q7, q8, q9, q10, q11, q12, q13, q14, q15, q16, q17, q18, q19, q20, q21, q22, q23, q24, q25, q26, q27, q28, q29, q30, q31, by rw [← hA, ← hB, List.take_append_drop]⟩
theorem exec_bw {a : Act} {o : Oper} (w : World) (x y : Operand) (ho : o.op = .build 73 #[(0, x), (1, y)]) (i : Nat) (b : List Int) (hb : b.length = 64) (hx : a.eval x = .int .i64 (i : Int)) (hy : a.eval y = .agg (kc b)) :
    (execOp a.eval o).run Try.prog w = .ok (.value (.agg (wv (i, b)).toArray)) w := by
  obtain ⟨p0, p1, p2, p3, p4, p5, p6, p7, p8, p9, p10, p11, p12, p13, p14, p15, p16, p17, p18, p19, p20, p21, p22, p23, p24, p25, p26, p27, p28, p29, p30, p31, q0, q1, q2, q3, q4, q5, q6, q7, q8, q9, q10, q11, q12, q13, q14, q15, q16, q17, q18, q19, q20, q21, q22, q23, q24, q25, q26, q27, q28, q29, q30, q31, rfl⟩ := list64 b hb
  have h := run_build (P := Try.prog) w 73 #[(0, .int .i64 (i : Int)), (1, .agg (kc ([p0, p1, p2, p3, p4, p5, p6, p7, p8, p9, p10, p11, p12, p13, p14, p15, p16, p17, p18, p19, p20, p21, p22, p23, p24, p25, p26, p27, p28, p29, p30, p31] ++ [q0, q1, q2, q3, q4, q5, q6, q7, q8, q9, q10, q11, q12, q13, q14, q15, q16, q17, q18, q19, q20, q21, q22, q23, q24, q25, q26, q27, q28, q29, q30, q31])))] ((wv (i, ([p0, p1, p2, p3, p4, p5, p6, p7, p8, p9, p10, p11, p12, p13, p14, p15, p16, p17, p18, p19, p20, p21, p22, p23, p24, p25, p26, p27, p28, p29, p30, p31] ++ [q0, q1, q2, q3, q4, q5, q6, q7, q8, q9, q10, q11, q12, q13, q14, q15, q16, q17, q18, q19, q20, q21, q22, q23, q24, q25, q26, q27, q28, q29, q30, q31]))).toArray) (by kernel_rfl)
  unfold execOp
  simp only [ho, List.map_toArray, List.map_cons, List.map_nil, hx, hy, Sem.run_bind, h, Result.andThen_ok, Sem.run_pure]
theorem exec_bs1 {a : Act} {o : Oper} (w : World) (x : Operand) (ho : o.op = .buildSlice 29 1 #[(0, x)]) (i : Nat) (b : List Int) (hb : b.length = 64) (hx : a.eval x = .agg (wv (i, b)).toArray) :
    (execOp a.eval o).run Try.prog w = .ok (.value (.slice (some ⟨w.heap.size, 0, none⟩) 1 1)) (w.alloc (.cells (wv (i, b)).toArray 73 (0, 0))) := by
  obtain ⟨p0, p1, p2, p3, p4, p5, p6, p7, p8, p9, p10, p11, p12, p13, p14, p15, p16, p17, p18, p19, p20, p21, p22, p23, p24, p25, p26, p27, p28, p29, p30, p31, q0, q1, q2, q3, q4, q5, q6, q7, q8, q9, q10, q11, q12, q13, q14, q15, q16, q17, q18, q19, q20, q21, q22, q23, q24, q25, q26, q27, q28, q29, q30, q31, rfl⟩ := list64 b hb
  obtain ⟨i0, h1, h2, h3, h4⟩ := info_parts Try.infoWz
  have h := run_buildSlice (P := Try.prog) w 29 73 1 #[(0, .agg (wv (i, ([p0, p1, p2, p3, p4, p5, p6, p7, p8, p9, p10, p11, p12, p13, p14, p15, p16, p17, p18, p19, p20, p21, p22, p23, p24, p25, p26, p27, p28, p29, p30, p31] ++ [q0, q1, q2, q3, q4, q5, q6, q7, q8, q9, q10, q11, q12, q13, q14, q15, q16, q17, q18, q19, q20, q21, q22, q23, q24, q25, q26, q27, q28, q29, q30, q31]))).toArray)] ((wv (i, ([p0, p1, p2, p3, p4, p5, p6, p7, p8, p9, p10, p11, p12, p13, p14, p15, p16, p17, p18, p19, p20, p21, p22, p23, p24, p25, p26, p27, p28, p29, p30, p31] ++ [q0, q1, q2, q3, q4, q5, q6, q7, q8, q9, q10, q11, q12, q13, q14, q15, q16, q17, q18, q19, q20, q21, q22, q23, q24, q25, q26, q27, q28, q29, q30, q31]))).toArray) i0 (.agg (wv (0, ZB)).toArray) Try.underlying29 h1 h2 (by rw [h3]; decide) (by rw [h3]; decide) (by rw [h3]; kernel_rfl)
  unfold execOp
  simp only [ho, List.map_toArray, List.map_cons, List.map_nil, hx, Sem.run_bind, h, Result.andThen_ok, Sem.run_pure]
/-- one write in a list of its own -/
def Ow (x : Nat × List Int) (u : World) (q : Value) : Prop := ∃ g, q = .slice (some ⟨g, 0, none⟩) 1 1 ∧ u.heap[g]? = some (.cells (wv x).toArray 73 (0, 0))
theorem Ow.gr {x : Nat × List Int} {u v : World} {q : Value} (h : Ow x u q) (g : Gr u v) : Ow x v q := by
  obtain ⟨p, h1, h2⟩ := h
  exact ⟨p, h1, g.blk h2⟩
theorem Ow.ls {x : Nat × List Int} {u : World} {q : Value} (h : Ow x u q) (hx : x.2.length = 64) : ∃ a, q = .slice a 1 1 ∧ Ls 65 u a 1 1 [wv x] := by
  obtain ⟨p, h1, h2⟩ := h
  refine ⟨_, h1, rfl, ?_, .inr ⟨p, 0, rfl, ?_⟩, Nat.le_refl _, by omega, fun p e => by have e3 := Option.some.inj e; rw [← e3]; exact lt_of_block h2⟩
  · intro r hr
    rw [List.mem_singleton] at hr
    subst hr
    rw [wv_len, hx]
  · simp only [List.flatten_cons, List.flatten_nil, List.append_nil]
    exact range_row h2
/-- an empty list of one's own has no cell -/
def Oe (b : Nat) (u : World) (q : Value) : Prop := ∃ g, q = .slice (some ⟨g, 0, none⟩) 0 0 ∧ b ≤ g ∧ u.heap[g]? = some (.cells #[] 73 (0, 0))
theorem Oe.gr {b : Nat} {u v : World} {q : Value} (h : Oe b u q) (k : Gr u v) : Oe b v q := by
  obtain ⟨g, h1, h2, h3⟩ := h
  exact ⟨g, h1, h2, k.blk h3⟩
theorem Oe.or {b : Nat} {u : World} {q : Value} (h : Oe b u q) : Or_ 65 73 b u q [] := by
  obtain ⟨g, rfl, h1, h2⟩ := h
  exact ⟨(fun r hr => by cases hr), rfl, .inr ⟨g, 0, #[], rfl, h1, h2, Nat.le_refl _, by unfold maxLen; omega, rfl, rfl⟩⟩
theorem Ow.grown {b : Nat} {x : Nat × List Int} {u v : World} {q r : Value} (h : Ow x u q) (e : Oe b u r) (k : u.grownBy v r.ownBlock) : Ow x v q := by
  obtain ⟨p, h1, h2⟩ := h
  obtain ⟨g, rfl, _, h4⟩ := e
  refine ⟨p, h1, ?_⟩
  rw [k.block p (lt_of_block h2) ?_]
  · exact h2
  · intro e
    have e2 : p = g := by simpa [Value.ownBlock] using e
    rw [e2, h4] at h2
    have h5 := Option.some.inj h2
    injection h5 with h6 _ _
    have h7 := congrArg Array.size h6
    simp [wv_len] at h7
set_option maxHeartbeats 4000000 in
theorem rwrite_ok (S : List (List Int)) (P : List (Nat × List Int)) (dd : Bool) (lf : Int) (os m : Nat) (hD : (Dk.mk S P dd lf os).Ok m) (hm : m ≤ 1000000) (sa : Option Addr) (sc : Nat) (pa : Option Addr) (pc : Nat) (i : Int) (b : List Int) (hb : BB b) (w : World) (hR : Rd w sa sc pa pc (Dk.mk S P dd lf os)) :
    Calls Try.prog 33 #[.agg ((Dk.mk S P dd lf os).v sa sc pa pc), .int .i64 i, .agg (kc b)] w (Rdk sa pa ((Dk.mk S P dd lf os).writeD i b) ((Dk.mk S P dd lf os).writeE i) w) := by
  obtain ⟨T, hT⟩ : ∃ T, T = Rdk sa pa ((Dk.mk S P dd lf os).writeD i b) ((Dk.mk S P dd lf os).writeE i) w := ⟨_, rfl⟩
  rw [← hT]
  replace hT := hide hT
  replace hR := hide hR
  obtain ⟨sn, hsn⟩ : ∃ n, n = S.length := ⟨_, rfl⟩
  obtain ⟨pn, hpn⟩ : ∃ n, n = P.length := ⟨_, rfl⟩
  have hs512 : sn ≤ 512 := by rw [hsn]; exact hD.hi1
  have hpm : pn ≤ m := by rw [hpn]; exact hD.num
  have hom : os ≤ m := hD.ops
  have hl1 : -1 ≤ lf := hD.lo
  have hl2 : lf < 9223372036854775808 := hD.hi
  obtain ⟨SD, hSD⟩ : ∃ X, X = dkv sa sn sc pa pn pc dd lf os := ⟨_, rfl⟩
  have e0 : (Dk.mk S P dd lf os).v sa sc pa pc = SD := by rw [hSD, hsn, hpn]; rfl
  rw [e0]
  clear e0
  replace hSD := hide hSD; replace hsn := hide hsn; replace hpn := hide hpn; replace hD := hide hD
  obtain ⟨SK, hSK⟩ : ∃ X, X = kc b := ⟨_, rfl⟩
  rw [← hSK]
  replace hSK := hide hSK
  have hbl := hb.1
  replace hb := hide hb
  go_enter Try.func33, Try.ntmps33
  go_upto_region 1 with fail
  have hB := ((((Bl.nil w).new SD 31).new SK 39).new #[.slice none 0 0, .slice none 0 0, .bool false, .int .i64 0, .int .i64 0] 31)
  simp only [size_alloc, List.nil_append, List.cons_append] at hB
  generalize World.alloc _ _ = u at *
  rw [unhide hSD, unhide hSK] at hB
  replace hB : Bl w [⟨w.heap.size, dkv sa sn sc pa pn pc dd lf os, 31⟩, ⟨w.heap.size + 1, kc b, 39⟩, ⟨w.heap.size + 1 + 1, dkv none 0 0 none 0 0 false 0 0, 31⟩] u := hB
  refine wp_region_lit ?_
  refine list_val (.pointer (some ⟨w.heap.size, 2, none⟩)) (by kernel_rfl) (by kernel_rfl) ?_
  simp only [Act.put, List.setIfInBounds_toArray, List.set_cons_zero, List.set_cons_succ, List.getElem_toArray, List.getElem_cons_zero, List.getElem_cons_succ]
  refine list_val (.bool dd) (by kernel_rfl) (exec_bool _ (.tmp 9) rfl (w.heap.size) 2 (by kernel_rfl) dd (cell_of (hB.get 0 (x := ⟨w.heap.size, dkv sa sn sc pa pn pc dd lf os, 31⟩) rfl) (i := 2) rfl)) ?_
  simp only [Act.put, List.setIfInBounds_toArray, List.set_cons_zero, List.set_cons_succ, List.getElem_toArray, List.getElem_cons_zero, List.getElem_cons_succ]
  refine wpList_nil ?_
  cases hdd : dd
  case true =>
    subst hdd
    replace hB := hide hB
    go_upto_region 2 with fail
    replace hB := unhide hB
    refine wp_region_lit ?_
    refine list_val (.agg (dkv sa sn sc pa pn pc true lf os)) (by kernel_rfl) (exec_arr _ 31 (.tmp 3) rfl (w.heap.size) (by kernel_rfl) (dkv sa sn sc pa pn pc true lf os) 31 _ (hB.get 0 (x := ⟨w.heap.size, dkv sa sn sc pa pn pc true lf os, 31⟩) rfl) Try.underlying31 rfl (by rw [Try.infoRD]; rfl)) ?_
    simp only [Act.put, List.setIfInBounds_toArray, List.set_cons_zero, List.set_cons_succ, List.getElem_toArray, List.getElem_cons_zero, List.getElem_cons_succ]
    refine list_store 31 (.tmp 6) (.tmp 11) (w.heap.size + 1 + 1) (dkv sa sn sc pa pn pc true lf os) 31 (dkv none 0 0 none 0 0 false 0 0) (by kernel_rfl) rfl (by kernel_rfl) (by kernel_rfl) (hB.get 2 (x := ⟨w.heap.size + 1 + 1, dkv none 0 0 none 0 0 false 0 0, 31⟩) rfl) (by rw [Try.infoRD]; rfl) rfl (dkv_one ..) ?_
    replace hB := hB.set 2 (x := ⟨w.heap.size + 1 + 1, dkv none 0 0 none 0 0 false 0 0, 31⟩) rfl (dkv sa sn sc pa pn pc true lf os)
    simp only [List.set_cons_zero, List.set_cons_succ] at hB
    generalize World.setRow _ _ _ = u9 at *
    replace hB : Bl w [⟨w.heap.size, dkv sa sn sc pa pn pc true lf os, 31⟩, ⟨w.heap.size + 1, kc b, 39⟩, ⟨w.heap.size + 1 + 1, dkv sa sn sc pa pn pc true lf os, 31⟩] u9 := hB
    simp only [Act.put, List.setIfInBounds_toArray, List.set_cons_zero, List.set_cons_succ, List.getElem_toArray, List.getElem_cons_zero, List.getElem_cons_succ]
    (refine wpList_step fun K hK => ?_; replace hK := hide hK; go_simp; refine unhide hK _ _ ?_; clear hK K)
    refine wpList_nil ?_
    have hE : (Dk.mk S P true lf os).writeD i b = (Dk.mk S P true lf os) ∧ (Dk.mk S P true lf os).writeE i = 7 := ⟨by simp [Dk.writeD], by simp [Dk.writeE]⟩
    replace hB := hide hB
    go_wp2_with fail
    replace hB := unhide hB
    rw [unhide hT]
    exact bodyPost_ret (v := .tuple #[.agg (dkv sa sn sc pa pn pc true lf os), .int .i64 7]) (results_cell_tmp Try.results33 _ _ (w.heap.size + 1 + 1) 31 (dkv sa sn sc pa pn pc true lf os) (0, 0) _ rfl (.int .i64 7) rfl (hB.get 2 (x := ⟨w.heap.size + 1 + 1, dkv sa sn sc pa pn pc true lf os, 31⟩) rfl) Try.underlying31 rfl (by rw [Try.infoRD]; rfl)) rfl (by
      rw [hE.1, hE.2]
      exact ⟨sa, sc, pa, pc, by rw [unhide hsn, unhide hpn]; rfl, (unhide hR).gr hB.gr, Fr2.refl _ _, Fr2.refl _ _, hB.gr⟩)
  case false =>
    subst hdd
    replace hB := hide hB
    go_upto_region 3 with fail
    replace hB := unhide hB
    by_cases hi0 : i < 0
    · skip
      refine wp_region_lit ?_
      refine list_val (.int .i64 i) (by kernel_rfl) (by kernel_rfl) ?_
      simp only [Act.put, List.setIfInBounds_toArray, List.set_cons_zero, List.set_cons_succ, List.getElem_toArray, List.getElem_cons_zero, List.getElem_cons_succ]
      refine list_val (.bool true) (by kernel_rfl) (by go_simp) ?_
      simp only [Act.put, List.setIfInBounds_toArray, List.set_cons_zero, List.set_cons_succ, List.getElem_toArray, List.getElem_cons_zero, List.getElem_cons_succ]
      refine list_val (.bool true) (by kernel_rfl) (by kernel_rfl) ?_
      simp only [Act.put, List.setIfInBounds_toArray, List.set_cons_zero, List.set_cons_succ, List.getElem_toArray, List.getElem_cons_zero, List.getElem_cons_succ]
      refine wpList_step fun K hK => ?_
      rw [if_neg (ne_true_of_eq_false (by kernel_rfl))]
      refine hK _ _ ?_
      clear hK K
      simp only [Act.put, List.setIfInBounds_toArray, List.set_cons_zero, List.set_cons_succ, List.getElem_toArray, List.getElem_cons_zero, List.getElem_cons_succ]
      refine wpList_step fun K hK => ?_
      rw [if_neg (ne_true_of_eq_false (by kernel_rfl))]
      refine hK _ _ ?_
      clear hK K
      simp only [Act.put, List.setIfInBounds_toArray, List.set_cons_zero, List.set_cons_succ, List.getElem_toArray, List.getElem_cons_zero, List.getElem_cons_succ]
      refine wpList_step fun K hK => ?_
      rw [if_neg (ne_true_of_eq_false (by kernel_rfl))]
      refine hK _ _ ?_
      clear hK K
      simp only [Act.put, List.setIfInBounds_toArray, List.set_cons_zero, List.set_cons_succ, List.getElem_toArray, List.getElem_cons_zero, List.getElem_cons_succ]
      refine wpList_step fun K hK => ?_
      rw [if_neg (ne_true_of_eq_false (by kernel_rfl))]
      refine hK _ _ ?_
      clear hK K
      simp only [Act.put, List.setIfInBounds_toArray, List.set_cons_zero, List.set_cons_succ, List.getElem_toArray, List.getElem_cons_zero, List.getElem_cons_succ]
      refine wpList_step fun K hK => ?_
      rw [if_neg (ne_true_of_eq_false (by kernel_rfl))]
      refine hK _ _ ?_
      clear hK K
      simp only [Act.put, List.setIfInBounds_toArray, List.set_cons_zero, List.set_cons_succ, List.getElem_toArray, List.getElem_cons_zero, List.getElem_cons_succ]
      refine list_val (.bool true) (by kernel_rfl) (by kernel_rfl) ?_
      simp only [Act.put, List.setIfInBounds_toArray, List.set_cons_zero, List.set_cons_succ, List.getElem_toArray, List.getElem_cons_zero, List.getElem_cons_succ]
      refine wpList_nil ?_
      have hnh : ¬ (Dk.mk S P false lf os).has i := by unfold Dk.has; omega
      replace hB := hide hB
      go_upto_region 4 with fail
      replace hB := unhide hB
      refine wp_region_lit ?_
      refine list_val (.agg (dkv sa sn sc pa pn pc false lf os)) (by kernel_rfl) (exec_arr _ 31 (.tmp 3) rfl (w.heap.size) (by kernel_rfl) (dkv sa sn sc pa pn pc false lf os) 31 _ (hB.get 0 (x := ⟨w.heap.size, dkv sa sn sc pa pn pc false lf os, 31⟩) rfl) Try.underlying31 rfl (by rw [Try.infoRD]; rfl)) ?_
      simp only [Act.put, List.setIfInBounds_toArray, List.set_cons_zero, List.set_cons_succ, List.getElem_toArray, List.getElem_cons_zero, List.getElem_cons_succ]
      refine list_store 31 (.tmp 6) (.tmp 21) (w.heap.size + 1 + 1) (dkv sa sn sc pa pn pc false lf os) 31 (dkv none 0 0 none 0 0 false 0 0) (by kernel_rfl) rfl (by kernel_rfl) (by kernel_rfl) (hB.get 2 (x := ⟨w.heap.size + 1 + 1, dkv none 0 0 none 0 0 false 0 0, 31⟩) rfl) (by rw [Try.infoRD]; rfl) rfl (dkv_one ..) ?_
      replace hB := hB.set 2 (x := ⟨w.heap.size + 1 + 1, dkv none 0 0 none 0 0 false 0 0, 31⟩) rfl (dkv sa sn sc pa pn pc false lf os)
      simp only [List.set_cons_zero, List.set_cons_succ] at hB
      generalize World.setRow _ _ _ = u9 at *
      replace hB : Bl w [⟨w.heap.size, dkv sa sn sc pa pn pc false lf os, 31⟩, ⟨w.heap.size + 1, kc b, 39⟩, ⟨w.heap.size + 1 + 1, dkv sa sn sc pa pn pc false lf os, 31⟩] u9 := hB
      simp only [Act.put, List.setIfInBounds_toArray, List.set_cons_zero, List.set_cons_succ, List.getElem_toArray, List.getElem_cons_zero, List.getElem_cons_succ]
      (refine wpList_step fun K hK => ?_; replace hK := hide hK; go_simp; refine unhide hK _ _ ?_; clear hK K)
      refine wpList_nil ?_
      have hE : (Dk.mk S P false lf os).writeD i b = (Dk.mk S P false lf os) ∧ (Dk.mk S P false lf os).writeE i = 2 := ⟨by simp [Dk.writeD, hnh], by simp [Dk.writeE, hnh]⟩
      replace hB := hide hB
      go_wp2_with fail
      replace hB := unhide hB
      rw [unhide hT]
      exact bodyPost_ret (v := .tuple #[.agg (dkv sa sn sc pa pn pc false lf os), .int .i64 2]) (results_cell_tmp Try.results33 _ _ (w.heap.size + 1 + 1) 31 (dkv sa sn sc pa pn pc false lf os) (0, 0) _ rfl (.int .i64 2) rfl (hB.get 2 (x := ⟨w.heap.size + 1 + 1, dkv sa sn sc pa pn pc false lf os, 31⟩) rfl) Try.underlying31 rfl (by rw [Try.infoRD]; rfl)) rfl (by
        rw [hE.1, hE.2]
        exact ⟨sa, sc, pa, pc, by rw [unhide hsn, unhide hpn]; rfl, (unhide hR).gr hB.gr, Fr2.refl _ _, Fr2.refl _ _, hB.gr⟩)
    by_cases hi1 : (sn : Int) ≤ i
    · skip
      refine wp_region_lit ?_
      refine list_val (.int .i64 i) (by kernel_rfl) (by kernel_rfl) ?_
      simp only [Act.put, List.setIfInBounds_toArray, List.set_cons_zero, List.set_cons_succ, List.getElem_toArray, List.getElem_cons_zero, List.getElem_cons_succ]
      refine list_val (.bool false) (by kernel_rfl) (by go_simp) ?_
      simp only [Act.put, List.setIfInBounds_toArray, List.set_cons_zero, List.set_cons_succ, List.getElem_toArray, List.getElem_cons_zero, List.getElem_cons_succ]
      refine list_val (.bool false) (by kernel_rfl) (by kernel_rfl) ?_
      simp only [Act.put, List.setIfInBounds_toArray, List.set_cons_zero, List.set_cons_succ, List.getElem_toArray, List.getElem_cons_zero, List.getElem_cons_succ]
      refine list_val (.int .i64 i) (by kernel_rfl) (by kernel_rfl) ?_
      simp only [Act.put, List.setIfInBounds_toArray, List.set_cons_zero, List.set_cons_succ, List.getElem_toArray, List.getElem_cons_zero, List.getElem_cons_succ]
      refine list_val (.pointer (some ⟨w.heap.size, 0, none⟩)) (by kernel_rfl) (by kernel_rfl) ?_
      simp only [Act.put, List.setIfInBounds_toArray, List.set_cons_zero, List.set_cons_succ, List.getElem_toArray, List.getElem_cons_zero, List.getElem_cons_succ]
      refine list_val (.slice sa sn sc) (by kernel_rfl) (exec_sb _ (.tmp 16) rfl (w.heap.size) 0 (by kernel_rfl) sa sn sc (cell_of (hB.get 0 (x := ⟨w.heap.size, dkv sa sn sc pa pn pc false lf os, 31⟩) rfl) (i := 0) rfl)) ?_
      simp only [Act.put, List.setIfInBounds_toArray, List.set_cons_zero, List.set_cons_succ, List.getElem_toArray, List.getElem_cons_zero, List.getElem_cons_succ]
      refine list_val (.int .i64 sn) (by kernel_rfl) (by kernel_rfl) ?_
      simp only [Act.put, List.setIfInBounds_toArray, List.set_cons_zero, List.set_cons_succ, List.getElem_toArray, List.getElem_cons_zero, List.getElem_cons_succ]
      refine list_val (.bool true) (by kernel_rfl) (by go_simp) ?_
      simp only [Act.put, List.setIfInBounds_toArray, List.set_cons_zero, List.set_cons_succ, List.getElem_toArray, List.getElem_cons_zero, List.getElem_cons_succ]
      refine list_val (.bool true) (by kernel_rfl) (by kernel_rfl) ?_
      simp only [Act.put, List.setIfInBounds_toArray, List.set_cons_zero, List.set_cons_succ, List.getElem_toArray, List.getElem_cons_zero, List.getElem_cons_succ]
      refine wpList_nil ?_
      have hnh : ¬ (Dk.mk S P false lf os).has i := by unfold Dk.has; show ¬ (0 ≤ i ∧ i < (S.length : Int)); rw [← unhide hsn]; omega
      replace hB := hide hB
      go_upto_region 4 with fail
      replace hB := unhide hB
      refine wp_region_lit ?_
      refine list_val (.agg (dkv sa sn sc pa pn pc false lf os)) (by kernel_rfl) (exec_arr _ 31 (.tmp 3) rfl (w.heap.size) (by kernel_rfl) (dkv sa sn sc pa pn pc false lf os) 31 _ (hB.get 0 (x := ⟨w.heap.size, dkv sa sn sc pa pn pc false lf os, 31⟩) rfl) Try.underlying31 rfl (by rw [Try.infoRD]; rfl)) ?_
      simp only [Act.put, List.setIfInBounds_toArray, List.set_cons_zero, List.set_cons_succ, List.getElem_toArray, List.getElem_cons_zero, List.getElem_cons_succ]
      refine list_store 31 (.tmp 6) (.tmp 21) (w.heap.size + 1 + 1) (dkv sa sn sc pa pn pc false lf os) 31 (dkv none 0 0 none 0 0 false 0 0) (by kernel_rfl) rfl (by kernel_rfl) (by kernel_rfl) (hB.get 2 (x := ⟨w.heap.size + 1 + 1, dkv none 0 0 none 0 0 false 0 0, 31⟩) rfl) (by rw [Try.infoRD]; rfl) rfl (dkv_one ..) ?_
      replace hB := hB.set 2 (x := ⟨w.heap.size + 1 + 1, dkv none 0 0 none 0 0 false 0 0, 31⟩) rfl (dkv sa sn sc pa pn pc false lf os)
      simp only [List.set_cons_zero, List.set_cons_succ] at hB
      generalize World.setRow _ _ _ = u9 at *
      replace hB : Bl w [⟨w.heap.size, dkv sa sn sc pa pn pc false lf os, 31⟩, ⟨w.heap.size + 1, kc b, 39⟩, ⟨w.heap.size + 1 + 1, dkv sa sn sc pa pn pc false lf os, 31⟩] u9 := hB
      simp only [Act.put, List.setIfInBounds_toArray, List.set_cons_zero, List.set_cons_succ, List.getElem_toArray, List.getElem_cons_zero, List.getElem_cons_succ]
      (refine wpList_step fun K hK => ?_; replace hK := hide hK; go_simp; refine unhide hK _ _ ?_; clear hK K)
      refine wpList_nil ?_
      have hE : (Dk.mk S P false lf os).writeD i b = (Dk.mk S P false lf os) ∧ (Dk.mk S P false lf os).writeE i = 2 := ⟨by simp [Dk.writeD, hnh], by simp [Dk.writeE, hnh]⟩
      replace hB := hide hB
      go_wp2_with fail
      replace hB := unhide hB
      rw [unhide hT]
      exact bodyPost_ret (v := .tuple #[.agg (dkv sa sn sc pa pn pc false lf os), .int .i64 2]) (results_cell_tmp Try.results33 _ _ (w.heap.size + 1 + 1) 31 (dkv sa sn sc pa pn pc false lf os) (0, 0) _ rfl (.int .i64 2) rfl (hB.get 2 (x := ⟨w.heap.size + 1 + 1, dkv sa sn sc pa pn pc false lf os, 31⟩) rfl) Try.underlying31 rfl (by rw [Try.infoRD]; rfl)) rfl (by
        rw [hE.1, hE.2]
        exact ⟨sa, sc, pa, pc, by rw [unhide hsn, unhide hpn]; rfl, (unhide hR).gr hB.gr, Fr2.refl _ _, Fr2.refl _ _, hB.gr⟩)
    refine wp_region_lit ?_
    refine list_val (.int .i64 i) (by kernel_rfl) (by kernel_rfl) ?_
    simp only [Act.put, List.setIfInBounds_toArray, List.set_cons_zero, List.set_cons_succ, List.getElem_toArray, List.getElem_cons_zero, List.getElem_cons_succ]
    refine list_val (.bool false) (by kernel_rfl) (by go_simp) ?_
    simp only [Act.put, List.setIfInBounds_toArray, List.set_cons_zero, List.set_cons_succ, List.getElem_toArray, List.getElem_cons_zero, List.getElem_cons_succ]
    refine list_val (.bool false) (by kernel_rfl) (by kernel_rfl) ?_
    simp only [Act.put, List.setIfInBounds_toArray, List.set_cons_zero, List.set_cons_succ, List.getElem_toArray, List.getElem_cons_zero, List.getElem_cons_succ]
    refine list_val (.int .i64 i) (by kernel_rfl) (by kernel_rfl) ?_
    simp only [Act.put, List.setIfInBounds_toArray, List.set_cons_zero, List.set_cons_succ, List.getElem_toArray, List.getElem_cons_zero, List.getElem_cons_succ]
    refine list_val (.pointer (some ⟨w.heap.size, 0, none⟩)) (by kernel_rfl) (by kernel_rfl) ?_
    simp only [Act.put, List.setIfInBounds_toArray, List.set_cons_zero, List.set_cons_succ, List.getElem_toArray, List.getElem_cons_zero, List.getElem_cons_succ]
    refine list_val (.slice sa sn sc) (by kernel_rfl) (exec_sb _ (.tmp 16) rfl (w.heap.size) 0 (by kernel_rfl) sa sn sc (cell_of (hB.get 0 (x := ⟨w.heap.size, dkv sa sn sc pa pn pc false lf os, 31⟩) rfl) (i := 0) rfl)) ?_
    simp only [Act.put, List.setIfInBounds_toArray, List.set_cons_zero, List.set_cons_succ, List.getElem_toArray, List.getElem_cons_zero, List.getElem_cons_succ]
    refine list_val (.int .i64 sn) (by kernel_rfl) (by kernel_rfl) ?_
    simp only [Act.put, List.setIfInBounds_toArray, List.set_cons_zero, List.set_cons_succ, List.getElem_toArray, List.getElem_cons_zero, List.getElem_cons_succ]
    refine list_val (.bool false) (by kernel_rfl) (by go_simp) ?_
    simp only [Act.put, List.setIfInBounds_toArray, List.set_cons_zero, List.set_cons_succ, List.getElem_toArray, List.getElem_cons_zero, List.getElem_cons_succ]
    refine list_val (.bool false) (by kernel_rfl) (by kernel_rfl) ?_
    simp only [Act.put, List.setIfInBounds_toArray, List.set_cons_zero, List.set_cons_succ, List.getElem_toArray, List.getElem_cons_zero, List.getElem_cons_succ]
    refine wpList_nil ?_
    have hhas : Hid ((Dk.mk S P false lf os).has i) := by show 0 ≤ i ∧ i < (S.length : Int); rw [← unhide hsn]; omega
    obtain ⟨k, rfl⟩ := Int.eq_ofNat_of_zero_le (show 0 ≤ i by omega)
    obtain ⟨dd2, lf2, os2, hdn⟩ := done_form S P false lf os
    have hD2 := (unhide hD).done
    rw [hdn] at hD2
    have hdv : (Dk.mk S P false lf os).doneD.v sa sc pa pc = dkv sa sn sc pa pn pc dd2 lf2 os2 := by rw [hdn, unhide hsn, unhide hpn]; rfl
    have hob : (Dk.mk S P false lf os).doneB = decide (lf ≠ 0) := rfl
    replace hdn := hide hdn; replace hD2 := hide hD2; replace hdv := hide hdv; replace hob := hide hob
    replace hB := hide hB
    go_upto_region 5 with fail
    replace hB := unhide hB
    refine wp_region_lit ?_
    refine list_val (.agg (dkv sa sn sc pa pn pc false lf os)) (by kernel_rfl) (exec_arr _ 31 (.tmp 3) rfl (w.heap.size) (by kernel_rfl) (dkv sa sn sc pa pn pc false lf os) 31 _ (hB.get 0 (x := ⟨w.heap.size, dkv sa sn sc pa pn pc false lf os, 31⟩) rfl) Try.underlying31 rfl (by rw [Try.infoRD]; rfl)) ?_
    simp only [Act.put, List.setIfInBounds_toArray, List.set_cons_zero, List.set_cons_succ, List.getElem_toArray, List.getElem_cons_zero, List.getElem_cons_succ]
    have e0 : dkv sa sn sc pa pn pc false lf os = (Dk.mk S P false lf os).v sa sc pa pc := by rw [unhide hsn, unhide hpn]; rfl
    rw [e0]
    refine list_call 47 #[.agg ((Dk.mk S P false lf os).v sa sc pa pc)] (by kernel_rfl) (by kernel_rfl) ((rdone_ok S P false lf os m (unhide hD) (by omega) sa sc pa pc _).mono ?_)
    rintro r v1 ⟨rfl, hg⟩
    refine ⟨_, rfl, ?_⟩
    rw [← e0, unhide hdv, unhide hob]
    clear e0
    obtain ⟨ok, hok⟩ : ∃ x, x = decide (lf ≠ 0) := ⟨_, rfl⟩
    rw [← hok]
    replace hok := hide hok
    replace hB := hB.more hg
    clear hg
    simp only [Act.put, List.setIfInBounds_toArray, List.set_cons_zero, List.set_cons_succ, List.getElem_toArray, List.getElem_cons_zero, List.getElem_cons_succ]
    refine list_val (.tuple #[.agg (dkv sa sn sc pa pn pc dd2 lf2 os2), .bool ok]) (by kernel_rfl) (by kernel_rfl) ?_
    simp only [Act.put, List.setIfInBounds_toArray, List.set_cons_zero, List.set_cons_succ, List.getElem_toArray, List.getElem_cons_zero, List.getElem_cons_succ]
    refine list_val (.agg (dkv sa sn sc pa pn pc dd2 lf2 os2)) (by kernel_rfl) (by kernel_rfl) ?_
    simp only [Act.put, List.setIfInBounds_toArray, List.set_cons_zero, List.set_cons_succ, List.getElem_toArray, List.getElem_cons_zero, List.getElem_cons_succ]
    refine list_val (.bool ok) (by kernel_rfl) (by kernel_rfl) ?_
    simp only [Act.put, List.setIfInBounds_toArray, List.set_cons_zero, List.set_cons_succ, List.getElem_toArray, List.getElem_cons_zero, List.getElem_cons_succ]
    refine list_store 31 (.tmp 3) (.tmp 25) (w.heap.size) (dkv sa sn sc pa pn pc dd2 lf2 os2) 31 (dkv sa sn sc pa pn pc false lf os) (by kernel_rfl) rfl (by kernel_rfl) (by kernel_rfl) (hB.get 0 (x := ⟨w.heap.size, dkv sa sn sc pa pn pc false lf os, 31⟩) rfl) (by rw [Try.infoRD]; rfl) rfl (dkv_one ..) ?_
    replace hB := hB.set 0 (x := ⟨w.heap.size, dkv sa sn sc pa pn pc false lf os, 31⟩) rfl (dkv sa sn sc pa pn pc dd2 lf2 os2)
    simp only [List.set_cons_zero, List.set_cons_succ] at hB
    generalize World.setRow _ _ _ = v2 at *
    replace hB : Bl w [⟨w.heap.size, dkv sa sn sc pa pn pc dd2 lf2 os2, 31⟩, ⟨w.heap.size + 1, kc b, 39⟩, ⟨w.heap.size + 1 + 1, dkv none 0 0 none 0 0 false 0 0, 31⟩] v2 := hB
    simp only [Act.put, List.setIfInBounds_toArray, List.set_cons_zero, List.set_cons_succ, List.getElem_toArray, List.getElem_cons_zero, List.getElem_cons_succ]
    (refine wpList_step fun K hK => ?_; replace hK := hide hK; go_simp; refine unhide hK _ _ ?_; clear hK K)
    refine wpList_nil ?_
    by_cases hl0 : lf = 0
    · skip
      have hok2 : ok = false := by rw [unhide hok]; simp [hl0]
      subst hok2
      replace hB := hide hB
      go_upto_region 6 with fail
      replace hB := unhide hB
      refine wp_region_lit ?_
      refine list_val (.bool false) (by kernel_rfl) (by kernel_rfl) ?_
      simp only [Act.put, List.setIfInBounds_toArray, List.set_cons_zero, List.set_cons_succ, List.getElem_toArray, List.getElem_cons_zero, List.getElem_cons_succ]
      refine list_val (.bool true) (by kernel_rfl) (by kernel_rfl) ?_
      simp only [Act.put, List.setIfInBounds_toArray, List.set_cons_zero, List.set_cons_succ, List.getElem_toArray, List.getElem_cons_zero, List.getElem_cons_succ]
      refine wpList_nil ?_
      replace hB := hide hB
      go_upto_region 7 with fail
      replace hB := unhide hB
      refine wp_region_lit ?_
      refine list_val (.agg (dkv sa sn sc pa pn pc dd2 lf2 os2)) (by kernel_rfl) (exec_arr _ 31 (.tmp 3) rfl (w.heap.size) (by kernel_rfl) (dkv sa sn sc pa pn pc dd2 lf2 os2) 31 _ (hB.get 0 (x := ⟨w.heap.size, dkv sa sn sc pa pn pc dd2 lf2 os2, 31⟩) rfl) Try.underlying31 rfl (by rw [Try.infoRD]; rfl)) ?_
      simp only [Act.put, List.setIfInBounds_toArray, List.set_cons_zero, List.set_cons_succ, List.getElem_toArray, List.getElem_cons_zero, List.getElem_cons_succ]
      refine list_store 31 (.tmp 6) (.tmp 29) (w.heap.size + 1 + 1) (dkv sa sn sc pa pn pc dd2 lf2 os2) 31 (dkv none 0 0 none 0 0 false 0 0) (by kernel_rfl) rfl (by kernel_rfl) (by kernel_rfl) (hB.get 2 (x := ⟨w.heap.size + 1 + 1, dkv none 0 0 none 0 0 false 0 0, 31⟩) rfl) (by rw [Try.infoRD]; rfl) rfl (dkv_one ..) ?_
      replace hB := hB.set 2 (x := ⟨w.heap.size + 1 + 1, dkv none 0 0 none 0 0 false 0 0, 31⟩) rfl (dkv sa sn sc pa pn pc dd2 lf2 os2)
      simp only [List.set_cons_zero, List.set_cons_succ] at hB
      generalize World.setRow _ _ _ = u9 at *
      replace hB : Bl w [⟨w.heap.size, dkv sa sn sc pa pn pc dd2 lf2 os2, 31⟩, ⟨w.heap.size + 1, kc b, 39⟩, ⟨w.heap.size + 1 + 1, dkv sa sn sc pa pn pc dd2 lf2 os2, 31⟩] u9 := hB
      simp only [Act.put, List.setIfInBounds_toArray, List.set_cons_zero, List.set_cons_succ, List.getElem_toArray, List.getElem_cons_zero, List.getElem_cons_succ]
      (refine wpList_step fun K hK => ?_; replace hK := hide hK; go_simp; refine unhide hK _ _ ?_; clear hK K)
      refine wpList_nil ?_
      have hE : (Dk.mk S P false lf os).writeD (k : Int) b = Dk.mk S P dd2 lf2 os2 ∧ (Dk.mk S P false lf os).writeE (k : Int) = 7 := ⟨by have h := unhide hhas; simp only [Dk.writeD, h, hl0, if_true, Bool.false_eq_true, if_false]; have h2 := unhide hdn; rw [hl0] at h2; rw [if_pos (by rw [hl0] at h; exact h)]; exact h2, by have h := unhide hhas; simp only [Dk.writeE, hl0, if_true, Bool.false_eq_true, if_false]; rw [hl0] at h; rw [if_pos h]⟩
      replace hB := hide hB
      go_wp2_with fail
      replace hB := unhide hB
      rw [unhide hT]
      exact bodyPost_ret (v := .tuple #[.agg (dkv sa sn sc pa pn pc dd2 lf2 os2), .int .i64 7]) (results_cell_tmp Try.results33 _ _ (w.heap.size + 1 + 1) 31 (dkv sa sn sc pa pn pc dd2 lf2 os2) (0, 0) _ rfl (.int .i64 7) rfl (hB.get 2 (x := ⟨w.heap.size + 1 + 1, dkv sa sn sc pa pn pc dd2 lf2 os2, 31⟩) rfl) Try.underlying31 rfl (by rw [Try.infoRD]; rfl)) rfl (by
        rw [hE.1, hE.2]
        exact ⟨sa, sc, pa, pc, by rw [unhide hsn, unhide hpn]; rfl, ⟨((unhide hR).gr hB.gr).sf, ((unhide hR).gr hB.gr).pn⟩, Fr2.refl _ _, Fr2.refl _ _, hB.gr⟩)
    have hok2 : ok = true := by rw [unhide hok]; simp [hl0]
    subst hok2
    replace hB := hide hB
    go_upto_region 6 with fail
    replace hB := unhide hB
    refine wp_region_lit ?_
    refine list_val (.bool true) (by kernel_rfl) (by kernel_rfl) ?_
    simp only [Act.put, List.setIfInBounds_toArray, List.set_cons_zero, List.set_cons_succ, List.getElem_toArray, List.getElem_cons_zero, List.getElem_cons_succ]
    refine list_val (.bool false) (by kernel_rfl) (by kernel_rfl) ?_
    simp only [Act.put, List.setIfInBounds_toArray, List.set_cons_zero, List.set_cons_succ, List.getElem_toArray, List.getElem_cons_zero, List.getElem_cons_succ]
    refine wpList_nil ?_
    replace hB := hide hB
    go_upto_region 8 with fail
    replace hB := unhide hB
    refine anyC_start 10 (fun v => Bl w [⟨w.heap.size, dkv sa sn sc pa pn pc dd2 lf2 os2, 31⟩, ⟨w.heap.size + 1, kc b, 39⟩, ⟨w.heap.size + 1 + 1, dkv none 0 0 none 0 0 false 0 0, 31⟩] v) (by kernel_rfl) ?_
    replace hB := hB.drew
    generalize World.drew _ = x0 at *
    simp only [List.size_toArray, List.length_cons, List.length_nil, Array.replicate, List.replicate]
    refine anyC_take (i := 1) (v := (.pointer (some ⟨w.heap.size, 1, none⟩))) (fun v => Bl w [⟨w.heap.size, dkv sa sn sc pa pn pc dd2 lf2 os2, 31⟩, ⟨w.heap.size + 1, kc b, 39⟩, ⟨w.heap.size + 1 + 1, dkv none 0 0 none 0 0 false 0 0, 31⟩] v) (fun _ h_ => h_) (.inr (by kernel_rfl)) rfl (by kernel_rfl) (by kernel_rfl) (by kernel_rfl) (by decide) (by kernel_rfl) (by decide) (fun _ _ _ h => h) (.inl ⟨by kernel_rfl, fun x_ hu => by kernel_rfl⟩) hB ?_
    simp only [Act.put, List.setIfInBounds_toArray, List.set_cons_zero, List.set_cons_succ, List.getElem_toArray, List.getElem_cons_zero, List.getElem_cons_succ]
    refine anyC_take (i := 2) (v := (.slice pa pn pc)) (fun v => Bl w [⟨w.heap.size, dkv sa sn sc pa pn pc dd2 lf2 os2, 31⟩, ⟨w.heap.size + 1, kc b, 39⟩, ⟨w.heap.size + 1 + 1, dkv none 0 0 none 0 0 false 0 0, 31⟩] v) (fun _ h_ => h_) (.inr (by kernel_rfl)) rfl (by kernel_rfl) (by kernel_rfl) (by kernel_rfl) (by decide) (by kernel_rfl) (by decide) (fun _ _ _ h => h) (.inl ⟨by kernel_rfl, fun x_ hu => exec_sw _ (.tmp 31) rfl (w.heap.size) 1 (by kernel_rfl) pa pn pc (cell_of (hu.get 0 (x := ⟨w.heap.size, dkv sa sn sc pa pn pc dd2 lf2 os2, 31⟩) rfl) (i := 1) rfl)⟩) hB ?_
    simp only [Act.put, List.setIfInBounds_toArray, List.set_cons_zero, List.set_cons_succ, List.getElem_toArray, List.getElem_cons_zero, List.getElem_cons_succ]
    refine anyC_take (i := 4) (v := (.int .i64 (k : Int))) (fun v => Bl w [⟨w.heap.size, dkv sa sn sc pa pn pc dd2 lf2 os2, 31⟩, ⟨w.heap.size + 1, kc b, 39⟩, ⟨w.heap.size + 1 + 1, dkv none 0 0 none 0 0 false 0 0, 31⟩] v) (fun _ h_ => h_) (.inr (by kernel_rfl)) rfl (by kernel_rfl) (by kernel_rfl) (by kernel_rfl) (by decide) (by kernel_rfl) (by decide) (fun _ _ _ h => h) (.inl ⟨by kernel_rfl, fun x_ hu => by kernel_rfl⟩) hB ?_
    simp only [Act.put, List.setIfInBounds_toArray, List.set_cons_zero, List.set_cons_succ, List.getElem_toArray, List.getElem_cons_zero, List.getElem_cons_succ]
    refine anyC_take (i := 5) (v := (.agg (kc b))) (fun v => Bl w [⟨w.heap.size, dkv sa sn sc pa pn pc dd2 lf2 os2, 31⟩, ⟨w.heap.size + 1, kc b, 39⟩, ⟨w.heap.size + 1 + 1, dkv none 0 0 none 0 0 false 0 0, 31⟩] v) (fun _ h_ => h_) (.inr (by kernel_rfl)) rfl (by kernel_rfl) (by kernel_rfl) (by kernel_rfl) (by decide) (by kernel_rfl) (by decide) (fun _ _ _ h => h) (.inl ⟨by kernel_rfl, fun x_ hu => exec_arr _ 39 (.tmp 5) rfl (w.heap.size + 1) (by kernel_rfl) (kc b) 39 _ (hu.get 1 (x := ⟨w.heap.size + 1, kc b, 39⟩) rfl) Try.underlying39 rfl (by rw [Try.infoB, kc_size, hbl])⟩) hB ?_
    simp only [Act.put, List.setIfInBounds_toArray, List.set_cons_zero, List.set_cons_succ, List.getElem_toArray, List.getElem_cons_zero, List.getElem_cons_succ]
    refine anyC_take (i := 6) (v := (.agg (wv (k, b)).toArray)) (fun v => Bl w [⟨w.heap.size, dkv sa sn sc pa pn pc dd2 lf2 os2, 31⟩, ⟨w.heap.size + 1, kc b, 39⟩, ⟨w.heap.size + 1 + 1, dkv none 0 0 none 0 0 false 0 0, 31⟩] v) (fun _ h_ => h_) (.inr (by kernel_rfl)) rfl (by kernel_rfl) (by kernel_rfl) (by kernel_rfl) (by decide) (by kernel_rfl) (by decide) (fun _ _ _ h => h) (.inl ⟨by kernel_rfl, fun x_ hu => exec_bw _ (.tmp 34) (.tmp 35) rfl k b hbl (by kernel_rfl) (by kernel_rfl)⟩) hB ?_
    simp only [Act.put, List.setIfInBounds_toArray, List.set_cons_zero, List.set_cons_succ, List.getElem_toArray, List.getElem_cons_zero, List.getElem_cons_succ]
    refine floatC_first (fun q u => Ow (k, b) u q) 37 (fun b_ => #[false, true, true, false, true, true, true, b_, false, false, false]) 7 0 false rfl rfl (fun _ g_ => hB.more g_) (by kernel_rfl) (fun b_ => by cases b_ <;> rfl) ?_ ?_
    all_goals simp only [fw1, Act.put, List.setIfInBounds_toArray, List.set_cons_zero, List.set_cons_succ, List.getElem_toArray, List.getElem_cons_zero, List.getElem_cons_succ]
    · intro q_ x_ hgx K_ hQ
      refine wpOp_step (o := _) rfl (fun K' hK' => ?_)
      replace hK' := hide hK'
      replace hQ := hide hQ
      refine step_val (.slice (some ⟨x_.heap.size, 0, none⟩) 1 1) (x_.alloc (.cells (wv (k, b)).toArray 73 (0, 0))) (by kernel_rfl) (exec_bs1 _ (.tmp 36) rfl k b hbl (by kernel_rfl)) ?_
      exact unhide hK' _ _ (unhide hQ _ _ ((Gr.refl _).alloc _) (⟨_, rfl, blk_new _ _⟩))
    intro b1_0 q1_0 x1_0 hg hTq hall
    replace hB := hB.more hg
    first | replace hOe := hOe.gr hg | skip
    first | replace hOr := hOr.gr hg | skip
    clear hall
    refine wpOp_step (o := _) rfl (fun K_ hQ => ?_)
    replace hQ := hide hQ
    refine step_val (.slice (some ⟨x1_0.heap.size, 0, none⟩) 0 0) (x1_0.alloc (.cells #[] 73 (0, 0))) (by kernel_rfl) (by kernel_rfl) ?_
    have hOe : Oe w.heap.size (x1_0.alloc (.cells #[] 73 (0, 0))) (.slice (some ⟨x1_0.heap.size, 0, none⟩) 0 0) := ⟨_, rfl, hB.gr.size, blk_new _ _⟩
    have hga := (Gr.refl x1_0).alloc (.cells #[] 73 (0, 0))
    replace hB := hB.more hga
    replace hTq := fun e_ => Ow.gr (hTq e_) hga
    clear hga
    generalize World.alloc _ _ = x5 at *
    generalize x1_0.heap.size = gz at *
    refine unhide hQ _ _ ⟨hB, ?_⟩
    clear hQ K_
    simp only [Act.put, List.setIfInBounds_toArray, List.set_cons_zero, List.set_cons_succ, List.getElem_toArray, List.getElem_cons_zero, List.getElem_cons_succ]
    refine floatC_again (fun q u => Ow (k, b) u q) 37 (fun b_ => #[true, true, true, false, true, true, true, b_, false, false, false]) 7 3 false (b := b1_0) (q := q1_0) rfl rfl hTq (fun _ g_ => hB.more g_) (by kernel_rfl) (fun b_ => by cases b_ <;> rfl) ?_ ?_
    all_goals simp only [fw1, Act.put, List.setIfInBounds_toArray, List.set_cons_zero, List.set_cons_succ, List.getElem_toArray, List.getElem_cons_zero, List.getElem_cons_succ]
    · intro q_ x_ hgx K_ hQ
      refine wpOp_step (o := _) rfl (fun K' hK' => ?_)
      replace hK' := hide hK'
      replace hQ := hide hQ
      refine step_val (.slice (some ⟨x_.heap.size, 0, none⟩) 1 1) (x_.alloc (.cells (wv (k, b)).toArray 73 (0, 0))) (by kernel_rfl) (exec_bs1 _ (.tmp 36) rfl k b hbl (by kernel_rfl)) ?_
      exact unhide hK' _ _ (unhide hQ _ _ ((Gr.refl _).alloc _) (⟨_, rfl, blk_new _ _⟩))
    clear hTq
    intro b1_3 q1_3 x1_3 hg hTq hall
    replace hB := hB.more hg
    first | replace hOe := hOe.gr hg | skip
    first | replace hOr := hOr.gr hg | skip
    clear hall
    refine wpOp_step (o := _) rfl (fun K_ hQ => ?_)
    replace hQ := hide hQ
    rw [if_pos (by kernel_rfl)]
    refine app_rows lt_w (.tmp 30) (.tmp 32) rfl w.heap.size _ [] rfl hOe.or pa pn pc (P.map wv) rfl (by have h := ((unhide hR).gr hB.gr).pn; rw [unhide hpn]; exact h) mapw_one (by simp only [List.length_nil, Nat.zero_add]; omega) hB.gr.size ?_
    intro v3_ x6 hOr hgr
    rw [List.nil_append] at hOr
    replace hTq := fun e_ => Ow.grown (hTq e_) hOe hgr
    replace hB := hB.grownR hOe.or (Nat.le_refl _) hgr (by intro y hy; simp only [List.mem_cons, List.not_mem_nil, or_false] at hy; rcases hy with rfl | rfl | rfl; (show (31 : Nat) ≠ 73; decide); (show (39 : Nat) ≠ 73; decide); (show (31 : Nat) ≠ 73; decide))
    clear hgr hOe
    refine unhide hQ _ _ ⟨hB, ?_⟩
    clear hQ K_
    simp only [Act.put, List.setIfInBounds_toArray, List.set_cons_zero, List.set_cons_succ, List.getElem_toArray, List.getElem_cons_zero, List.getElem_cons_succ]
    refine floatC_again (fun q u => Ow (k, b) u q) 37 (fun b_ => #[true, true, true, true, true, true, true, b_, false, false, false]) 7 8 true (b := b1_3) (q := q1_3) rfl rfl hTq (fun _ g_ => hB.more g_) (by kernel_rfl) (fun b_ => by cases b_ <;> rfl) ?_ ?_
    all_goals simp only [fw1, Act.put, List.setIfInBounds_toArray, List.set_cons_zero, List.set_cons_succ, List.getElem_toArray, List.getElem_cons_zero, List.getElem_cons_succ]
    · intro q_ x_ hgx K_ hQ
      refine wpOp_step (o := _) rfl (fun K' hK' => ?_)
      replace hK' := hide hK'
      replace hQ := hide hQ
      refine step_val (.slice (some ⟨x_.heap.size, 0, none⟩) 1 1) (x_.alloc (.cells (wv (k, b)).toArray 73 (0, 0))) (by kernel_rfl) (exec_bs1 _ (.tmp 36) rfl k b hbl (by kernel_rfl)) ?_
      exact unhide hK' _ _ (unhide hQ _ _ ((Gr.refl _).alloc _) (⟨_, rfl, blk_new _ _⟩))
    clear hTq
    intro b1_8 q1_8 x1_8 hg hTq hall
    replace hB := hB.more hg
    first | replace hOe := hOe.gr hg | skip
    first | replace hOr := hOr.gr hg | skip
    obtain rfl : b1_8 = true := hall (by trivial)
    replace hTq := hTq rfl
    clear hall
    refine wpOp_step (o := _) rfl (fun K_ hQ => ?_)
    replace hQ := hide hQ
    rw [if_pos (by kernel_rfl)]
    obtain ⟨aq, rfl, hlq⟩ := hTq.ls hbl
    refine app_rows lt_w (.tmp 33) (.tmp 37) rfl w.heap.size _ (P.map wv) rfl hOr aq 1 1 [wv (k, b)] rfl hlq (by intro r hr; rw [List.mem_singleton] at hr; subst hr; exact wv_one' _) (by rw [List.length_map, ← unhide hpn]; omega) hB.gr.size ?_
    intro v4_ x7 hOs hgr
    replace hB := hB.grownR hOr (Nat.le_refl _) hgr (by intro y hy; simp only [List.mem_cons, List.not_mem_nil, or_false] at hy; rcases hy with rfl | rfl | rfl; (show (31 : Nat) ≠ 73; decide); (show (39 : Nat) ≠ 73; decide); (show (31 : Nat) ≠ 73; decide))
    clear hgr hOr hlq
    obtain ⟨pb, pd, rfl, hls⟩ := hOs.ls
    have hfp : Fr2 w pa pb := by
      rcases hOs.2.2 with ⟨h1, _⟩ | ⟨g_, _, _, h1, h2, _⟩
      · have e9 : pb = none := by injection h1
        rw [e9]
        exact Fr2.none _ _
      · have e9 : pb = some ⟨g_, 0, none⟩ := by injection h1
        rw [e9]
        exact Fr2.new _ h2
    have hap : blkOf pb ≠ some w.heap.size ∧ blkOf pb ≠ some (w.heap.size + 1 + 1) := by
      rcases hOs.2.2 with ⟨h1, _⟩ | ⟨g_, _, cur_, h1, h2, h3, _⟩
      · have e9 : pb = none := by injection h1
        rw [e9]
        exact ⟨blkOf_none _, blkOf_none _⟩
      · have e9 : pb = some ⟨g_, 0, none⟩ := by injection h1
        have hq := hB.apart h3 (by intro y hy; simp only [List.mem_cons, List.not_mem_nil, or_false] at hy; rcases hy with rfl | rfl | rfl; (show (31 : Nat) ≠ 73; decide); (show (39 : Nat) ≠ 73; decide); (show (31 : Nat) ≠ 73; decide))
        rw [e9]
        refine ⟨fun e => hq ⟨w.heap.size, dkv sa sn sc pa pn pc dd2 lf2 os2, 31⟩ (by simp) ?_, fun e => hq ⟨w.heap.size + 1 + 1, dkv none 0 0 none 0 0 false 0 0, 31⟩ (by simp) ?_⟩
        · have : g_ = w.heap.size := by simpa [blkOf] using e
          exact this.symm
        · have : g_ = w.heap.size + 1 + 1 := by simpa [blkOf] using e
          exact this.symm
    have hpl : (P.map wv ++ [wv (k, b)]).length = pn + 1 := by rw [List.length_append, List.length_map, ← unhide hpn]; rfl
    rw [hpl] at hls ⊢
    obtain ⟨pm, hpm2⟩ : ∃ x, x = pn + 1 := ⟨_, rfl⟩
    rw [← hpm2] at hls ⊢
    replace hpm2 := hide hpm2
    clear hOs hpl
    refine unhide hQ _ _ ⟨hB, ?_⟩
    clear hQ K_
    simp only [Act.put, List.setIfInBounds_toArray, List.set_cons_zero, List.set_cons_succ, List.getElem_toArray, List.getElem_cons_zero, List.getElem_cons_succ]
    refine anyC_take (i := 9) (v := (.pointer (some ⟨w.heap.size, 1, none⟩))) (fun v => Bl w [⟨w.heap.size, dkv sa sn sc pa pn pc dd2 lf2 os2, 31⟩, ⟨w.heap.size + 1, kc b, 39⟩, ⟨w.heap.size + 1 + 1, dkv none 0 0 none 0 0 false 0 0, 31⟩] v) (fun _ h_ => h_) (.inr (by kernel_rfl)) rfl (by kernel_rfl) (by kernel_rfl) (by kernel_rfl) (by decide) (by kernel_rfl) (by decide) (fun _ _ _ h => h) (.inl ⟨by kernel_rfl, fun x_ hu => by kernel_rfl⟩) hB ?_
    simp only [Act.put, List.setIfInBounds_toArray, List.set_cons_zero, List.set_cons_succ, List.getElem_toArray, List.getElem_cons_zero, List.getElem_cons_succ]
    refine anyC_last (by kernel_rfl) rfl (fun K_ hQ => ?_)
    have c4 := cell_of (hB.get 0 (x := ⟨w.heap.size, dkv sa sn sc pa pn pc dd2 lf2 os2, 31⟩) rfl) (i := 1) rfl
    have fz := froz_of (i := 1) (hB.get 0 (x := ⟨w.heap.size, dkv sa sn sc pa pn pc dd2 lf2 os2, 31⟩) rfl)
    have hB2 := hB.cell 0 (x := ⟨w.heap.size, dkv sa sn sc pa pn pc dd2 lf2 os2, 31⟩) rfl 1 (.slice pb pm pd)
    simp only [List.set_cons_zero, List.set_cons_succ] at hB2
    replace hB2 : Bl w [⟨w.heap.size, dkv sa sn sc pb pm pd dd2 lf2 os2, 31⟩, ⟨w.heap.size + 1, kc b, 39⟩, ⟨w.heap.size + 1 + 1, dkv none 0 0 none 0 0 false 0 0, 31⟩] _ := hB2
    replace hls := hide (hls.bt (Bt.setCell x7 1 (.slice pb pm pd)) hap.1)
    replace hB2 := hide hB2
    clear hB
    dsimp only at c4 fz
    replace hQ := hide hQ
    go_simp
    refine (unhide hQ).out _ _ ?_
    clear hQ K_ c4 fz
    have hB := unhide hB2
    clear hB2
    generalize World.setCell _ _ _ = x8 at *
    refine any_done (by kernel_rfl) ?_
    replace hB := hide hB
    go_upto_region 9 with fail
    replace hB := unhide hB
    replace hls := unhide hls
    refine wp_region_lit ?_
    refine list_val (.agg (dkv sa sn sc pb pm pd dd2 lf2 os2)) (by kernel_rfl) (exec_arr _ 31 (.tmp 3) rfl (w.heap.size) (by kernel_rfl) (dkv sa sn sc pb pm pd dd2 lf2 os2) 31 _ (hB.get 0 (x := ⟨w.heap.size, dkv sa sn sc pb pm pd dd2 lf2 os2, 31⟩) rfl) Try.underlying31 rfl (by rw [Try.infoRD]; rfl)) ?_
    simp only [Act.put, List.setIfInBounds_toArray, List.set_cons_zero, List.set_cons_succ, List.getElem_toArray, List.getElem_cons_zero, List.getElem_cons_succ]
    replace hls := hls.bt ((Bt.refl (w.heap.size + 1 + 1) x8).row_self (dkv sa sn sc pb pm pd dd2 lf2 os2)) hap.2
    refine list_store 31 (.tmp 6) (.tmp 40) (w.heap.size + 1 + 1) (dkv sa sn sc pb pm pd dd2 lf2 os2) 31 (dkv none 0 0 none 0 0 false 0 0) (by kernel_rfl) rfl (by kernel_rfl) (by kernel_rfl) (hB.get 2 (x := ⟨w.heap.size + 1 + 1, dkv none 0 0 none 0 0 false 0 0, 31⟩) rfl) (by rw [Try.infoRD]; rfl) rfl (dkv_one ..) ?_
    replace hB := hB.set 2 (x := ⟨w.heap.size + 1 + 1, dkv none 0 0 none 0 0 false 0 0, 31⟩) rfl (dkv sa sn sc pb pm pd dd2 lf2 os2)
    simp only [List.set_cons_zero, List.set_cons_succ] at hB
    generalize World.setRow _ _ _ = x9 at *
    replace hB : Bl w [⟨w.heap.size, dkv sa sn sc pb pm pd dd2 lf2 os2, 31⟩, ⟨w.heap.size + 1, kc b, 39⟩, ⟨w.heap.size + 1 + 1, dkv sa sn sc pb pm pd dd2 lf2 os2, 31⟩] x9 := hB
    simp only [Act.put, List.setIfInBounds_toArray, List.set_cons_zero, List.set_cons_succ, List.getElem_toArray, List.getElem_cons_zero, List.getElem_cons_succ]
    (refine wpList_step fun K hK => ?_; replace hK := hide hK; go_simp; refine unhide hK _ _ ?_; clear hK K)
    refine wpList_nil ?_
    replace hls := hide hls
    have hE : (Dk.mk S P false lf os).writeD (k : Int) b = Dk.mk S (P ++ [(k, b)]) dd2 lf2 os2 ∧ (Dk.mk S P false lf os).writeE (k : Int) = 0 := by
      have h := unhide hhas
      constructor
      · simp only [Dk.writeD, h, hl0, if_true, Bool.false_eq_true, if_false, Int.toNat_natCast]
        rw [unhide hdn]
      · simp only [Dk.writeE, h, hl0, if_true, Bool.false_eq_true, if_false]
    replace hB := hide hB
    go_wp2_with fail
    replace hB := unhide hB
    rw [unhide hT]
    exact bodyPost_ret (v := .tuple #[.agg (dkv sa sn sc pb pm pd dd2 lf2 os2), .int .i64 0]) (results_cell_tmp Try.results33 _ _ (w.heap.size + 1 + 1) 31 (dkv sa sn sc pb pm pd dd2 lf2 os2) (0, 0) _ rfl (.int .i64 0) rfl (hB.get 2 (x := ⟨w.heap.size + 1 + 1, dkv sa sn sc pb pm pd dd2 lf2 os2, 31⟩) rfl) Try.underlying31 rfl (by rw [Try.infoRD]; rfl)) rfl (by
      rw [hE.1, hE.2]
      refine ⟨sa, sc, pb, pd, ?_, ⟨((unhide hR).gr hB.gr).sf, ?_⟩, Fr2.refl _ _, hfp, hB.gr⟩
      · have e2 : (Dk.mk S (P ++ [(k, b)]) dd2 lf2 os2).v sa sc pb pd = dkv sa sn sc pb pm pd dd2 lf2 os2 := by
          show dkv sa S.length sc pb (P ++ [(k, b)]).length pd dd2 lf2 os2 = _
          rw [List.length_append, ← unhide hsn, ← unhide hpn, unhide hpm2]
          rfl
        rw [e2]
      · show Ls 65 _ pb (P ++ [(k, b)]).length pd ((P ++ [(k, b)]).map wv)
        rw [List.length_append, ← unhide hpn, List.map_append]
        have h := unhide hls
        rw [unhide hpm2] at h
        exact h)
end Go.Proofs.Ythgchjdjacbcgaa
