/-
  The program: what is done and counted, Write, Sync.
-/
import Derived.Test.YthgchjdjacbcgaaPkE
namespace Go.Proofs.Ythgchjdjacbcgaa
open Go.RowKit
set_option maxRecDepth 100000
set_option linter.unusedSimpArgs false
set_option linter.unusedVariables false
theorem exec_pd {op : Oper} {a : Act} (w : World) (x : Operand) (ho : op.op = .load 24 x) (g i : Nat) (hx : a.eval x = .pointer (some ⟨g, i, none⟩)) (p : Option Addr) (hc : w.cell? ⟨g, i, none⟩ = some (.pointer p)) : (execOp a.eval op).run Try.prog w = .ok (.value (.pointer p)) w := by
  unfold execOp
  simp only [ho, hx, Instr.loadAt, Instr.sureAddr, Sem.run_bind, Sem.run_pure, Result.andThen_ok]
  go_simp
theorem exec_bpw {a : Act} {o : Oper} (w : World) (x y : Operand) (ho : o.op = .build 75 #[(0, x), (1, y)]) (i : Nat) (b : List Int) (hb : b.length = 64) (hx : a.eval x = .int .i64 (i : Int)) (hy : a.eval y = .agg (kc b)) :
    (execOp a.eval o).run Try.prog w = .ok (.value (.agg (wv (i, b)).toArray)) w := by
  obtain ⟨p0, p1, p2, p3, p4, p5, p6, p7, p8, p9, p10, p11, p12, p13, p14, p15, p16, p17, p18, p19, p20, p21, p22, p23, p24, p25, p26, p27, p28, p29, p30, p31, q0, q1, q2, q3, q4, q5, q6, q7, q8, q9, q10, q11, q12, q13, q14, q15, q16, q17, q18, q19, q20, q21, q22, q23, q24, q25, q26, q27, q28, q29, q30, q31, rfl⟩ := list64 b hb
  have h := run_build (P := Try.prog) w 75 #[(0, .int .i64 (i : Int)), (1, .agg (kc ([p0, p1, p2, p3, p4, p5, p6, p7, p8, p9, p10, p11, p12, p13, p14, p15, p16, p17, p18, p19, p20, p21, p22, p23, p24, p25, p26, p27, p28, p29, p30, p31] ++ [q0, q1, q2, q3, q4, q5, q6, q7, q8, q9, q10, q11, q12, q13, q14, q15, q16, q17, q18, q19, q20, q21, q22, q23, q24, q25, q26, q27, q28, q29, q30, q31])))] ((wv (i, ([p0, p1, p2, p3, p4, p5, p6, p7, p8, p9, p10, p11, p12, p13, p14, p15, p16, p17, p18, p19, p20, p21, p22, p23, p24, p25, p26, p27, p28, p29, p30, p31] ++ [q0, q1, q2, q3, q4, q5, q6, q7, q8, q9, q10, q11, q12, q13, q14, q15, q16, q17, q18, q19, q20, q21, q22, q23, q24, q25, q26, q27, q28, q29, q30, q31]))).toArray) (by kernel_rfl)
  unfold execOp
  simp only [ho, List.map_toArray, List.map_cons, List.map_nil, hx, hy, Sem.run_bind, h, Result.andThen_ok, Sem.run_pure]
theorem exec_bs1p {a : Act} {o : Oper} (w : World) (x : Operand) (ho : o.op = .buildSlice 65 1 #[(0, x)]) (i : Nat) (b : List Int) (hb : b.length = 64) (hx : a.eval x = .agg (wv (i, b)).toArray) :
    (execOp a.eval o).run Try.prog w = .ok (.value (.slice (some ⟨w.heap.size, 0, none⟩) 1 1)) (w.alloc (.cells (wv (i, b)).toArray 75 (0, 0))) := by
  obtain ⟨p0, p1, p2, p3, p4, p5, p6, p7, p8, p9, p10, p11, p12, p13, p14, p15, p16, p17, p18, p19, p20, p21, p22, p23, p24, p25, p26, p27, p28, p29, p30, p31, q0, q1, q2, q3, q4, q5, q6, q7, q8, q9, q10, q11, q12, q13, q14, q15, q16, q17, q18, q19, q20, q21, q22, q23, q24, q25, q26, q27, q28, q29, q30, q31, rfl⟩ := list64 b hb
  obtain ⟨i0, h1, h2, h3, h4⟩ := info_parts Try.infoPWz
  have h := run_buildSlice (P := Try.prog) w 65 75 1 #[(0, .agg (wv (i, ([p0, p1, p2, p3, p4, p5, p6, p7, p8, p9, p10, p11, p12, p13, p14, p15, p16, p17, p18, p19, p20, p21, p22, p23, p24, p25, p26, p27, p28, p29, p30, p31] ++ [q0, q1, q2, q3, q4, q5, q6, q7, q8, q9, q10, q11, q12, q13, q14, q15, q16, q17, q18, q19, q20, q21, q22, q23, q24, q25, q26, q27, q28, q29, q30, q31]))).toArray)] ((wv (i, ([p0, p1, p2, p3, p4, p5, p6, p7, p8, p9, p10, p11, p12, p13, p14, p15, p16, p17, p18, p19, p20, p21, p22, p23, p24, p25, p26, p27, p28, p29, p30, p31] ++ [q0, q1, q2, q3, q4, q5, q6, q7, q8, q9, q10, q11, q12, q13, q14, q15, q16, q17, q18, q19, q20, q21, q22, q23, q24, q25, q26, q27, q28, q29, q30, q31]))).toArray) i0 (.agg (wv (0, ZB)).toArray) Try.underlying65 h1 h2 (by rw [h3]; decide) (by rw [h3]; decide) (by rw [h3]; kernel_rfl)
  unfold execOp
  simp only [ho, List.map_toArray, List.map_cons, List.map_nil, hx, Sem.run_bind, h, Result.andThen_ok, Sem.run_pure]
/-- a row is put behind rows: they lie where they lay, or in what is new -/
theorem app_row1 {t e : TypeId} {k nb : Nat} (L : Lt t e k nb) {w : World} {o : Oper} {a : Act} {K : Act → World → Prop} {Q : Exit → Act → World → Prop} (s x : Operand)
    (ho : o.op = .call { callee := .builtin .append, args := #[s, x], argTypes := #[t, t] }) (v : Value) (R : List (List Value)) (hs : a.eval s = v) (hown : Or_ k e 0 w v R)
    (p q sc : Nat) (r : List Value) (hx : a.eval x = .slice (some ⟨p, q, none⟩) 1 sc) (hrow : r.length = k) (hat : w.rangeAt p q r) (h1 : ∀ u ∈ r, u.oneCell' = true) (hbig : ((R.length + 1) + (R.length + 1) / 4 + 192) * nb ≤ 281474976710656 ∧ R.length + 1 ≤ 4611686018427387904)
    (h : ∀ v' w', Or_ k e 0 w' v' (R ++ [r]) → w.grownBy w' v.ownBlock → (v'.ownBlock = v.ownBlock ∨ v'.ownBlock = some w.heap.size) → K (a.put o.dst v') w') : o.wp Try.prog a w K Q := by
  obtain ⟨i0, z0, hi, hz0, hz1, hz2, hz3⟩ := L.hi
  have hat2 : ∀ j u, r[j]? = some u → w.cell? ((⟨p, q, none⟩ : Addr).add j) = some u := fun j u hj => by rw [Addr.add_mid]; exact hat j u hj
  have hrl : r.length = 1 * k := by omega
  obtain ⟨v', w', hr, h2, h3, -⟩ := run_append_own_wide (P := Try.prog) w 0 t o.type e i0 z0 k nb L.ht hi hz0 hz1 hz2 hz3 L.hk v R.length _ hown.2 ⟨p, q, none⟩ 1 sc r hrl hat2 h1 (by unfold maxLen; omega) hbig.1 (Nat.zero_le _)
  have hwh : v'.ownBlock = v.ownBlock ∨ v'.ownBlock = some w.heap.size := by
    subst hz1 hz2
    rcases hown.2.2 with ⟨e1, e2⟩ | ⟨g, cap, cur, e1, hbg, hg, hnc, hcm, hcs, htake⟩
    · subst e1
      have hr2 := run_append_nil (P := Try.prog) w t o.type e i0 z0 L.ht hi hz0 ⟨p, q, none⟩ 1 sc r hrl hat2 (by omega) (by omega) (Nat.le_trans (Nat.mul_le_mul_right _ (by omega)) hbig.1)
      rw [hr2] at hr
      injection hr with hr _
      rw [← hr]
      exact .inr rfl
    · subst e1
      by_cases hroom : R.length + 1 ≤ cap
      · have hfit : R.length * i0.size + r.length ≤ cur.size := by rw [hrl, hcs, ← Nat.add_mul]; exact Nat.mul_le_mul_right _ hroom
        have hr2 := run_append_room (P := Try.prog) w t o.type e i0 L.ht hi g R.length cap cur hg ⟨p, q, none⟩ 1 sc r hrl hat2 h1 hroom hfit
        rw [hr2] at hr
        injection hr with hr _
        rw [← hr]
        exact .inl rfl
      · have hr2 := run_append_grow (P := Try.prog) w t o.type e i0 z0 L.ht hi hz0 ⟨g, 0, none⟩ R.length cap _ hown.2.1 (hown.2.cells (g := g) rfl) ⟨p, q, none⟩ 1 sc r hrl hat2 (by omega) (by omega) (growslice_fits_wide (by omega) hbig.1)
        rw [hr2] at hr
        injection hr with hr _
        rw [← hr]
        exact .inr rfl
  unfold Oper.wp execOp
  simp only [ho, resolve, invoke, builtin, Sem.run_bind, Sem.run_pure, Result.andThen_ok, List.map_toArray, List.map_cons, List.map_nil, hs, hx, hr]
  refine h v' w' ⟨?_, ?_⟩ h3 hwh
  · intro x hx
    rcases List.mem_append.1 hx with hx | hx
    · exact hown.1 x hx
    · rw [List.mem_singleton] at hx
      rw [hx]
      exact hrow
  · rw [List.length_append, List.flatten_append]
    simpa using h2
/-- what is written, behind what was pending -/
def Wr1 (g : Nat) (D : Dk) (k : Nat) (b : List Int) (sg sc : Nat) (C : List Value) (pa : Option Addr) (l : Int) (w w' : World) : Prop := ∃ pb pd, Pd g { D with pend := D.pend ++ [(k, b)] } w' sg sc C pb pd l ∧ Chg (pdF g sg pa) (pdF g sg pb) w w'
set_option maxHeartbeats 4000000 in
theorem write1_ok (g : Nat) (D : Dk) (sg sc : Nat) (C : List Value) (pa : Option Addr) (pc : Nat) (l : Int) (k b3 b4 b5 : Nat) (b : List Int) (hb : BB b) (m : Nat) (hD : D.Ok m) (hm : m ≤ 1000001) (w : World) (hP : Pd g D w sg sc C pa pc l) (h3 : w.heap[b3]? = some (.cells #[P0 g] 24 (0, 0))) (h4 : w.heap[b4]? = some (.cells #[.int .i64 (k : Int)] 3 (0, 0))) (h5 : w.heap[b5]? = some (.cells (kc b) 39 (0, 0))) : Calls Try.prog 46 #[.pointer (some ⟨b3, 0, none⟩), .pointer (some ⟨b4, 0, none⟩), .pointer (some ⟨b5, 0, none⟩)] w (fun r w' => r = .returned (.tuple #[]) ∧ Wr1 g D k b sg sc C pa l w w') := by
  obtain ⟨T, hT⟩ : ∃ T : Ending → World → Prop, T = fun r w' => r = .returned (.tuple #[]) ∧ Wr1 g D k b sg sc C pa l w w' := ⟨_, rfl⟩
  rw [← hT]
  replace hT := hide hT
  obtain ⟨dd, hdd⟩ : ∃ x, x = D.dead := ⟨_, rfl⟩
  obtain ⟨sn, hsn⟩ : ∃ n, n = D.safe.length := ⟨_, rfl⟩
  obtain ⟨pn, hpn⟩ : ∃ n, n = D.pend.length := ⟨_, rfl⟩
  obtain ⟨os, hos⟩ : ∃ n, n = D.ops := ⟨_, rfl⟩
  have hcl := hP.cel
  rw [← hdd, ← hsn, ← hpn, ← hos] at hcl
  replace hdd := hide hdd; replace hsn := hide hsn; replace hpn := hide hpn; replace hos := hide hos; replace hcl := hide hcl; replace hP := hide hP
  have hpm : pn ≤ 1000001 := by rw [unhide hpn]; exact Nat.le_trans hD.num hm
  have hpo := (unhide hP).pnd
  have hbl := hb.1
  have hS : (fun (v : World) => v.heap[g]? = some (.cells (pdv (some ⟨sg, 0, none⟩) sn sc pa pn pc l os dd) 67 (0, 0)) ∧ v.heap[b3]? = some (.cells #[P0 g] 24 (0, 0)) ∧ v.heap[b4]? = some (.cells #[.int .i64 (k : Int)] 3 (0, 0)) ∧ v.heap[b5]? = some (.cells (kc b) 39 (0, 0))) w := ⟨unhide hcl, h3, h4, h5⟩
  replace hS := hide hS; replace hpo := hide hpo; replace hD := hide hD; replace hb := hide hb
  clear h3 h4 h5
  go_enter Try.func46, Try.ntmps46
  go_upto_region 0 with fail
  replace hS := unhide hS
  refine anyC_start 12 (fun (v : World) => v.heap[g]? = some (.cells (pdv (some ⟨sg, 0, none⟩) sn sc pa pn pc l os dd) 67 (0, 0)) ∧ v.heap[b3]? = some (.cells #[P0 g] 24 (0, 0)) ∧ v.heap[b4]? = some (.cells #[.int .i64 (k : Int)] 3 (0, 0)) ∧ v.heap[b5]? = some (.cells (kc b) 39 (0, 0))) (by kernel_rfl) ?_
  have hG := (Gr.refl w).drew
  replace hS : (fun (v : World) => v.heap[g]? = some (.cells (pdv (some ⟨sg, 0, none⟩) sn sc pa pn pc l os dd) 67 (0, 0)) ∧ v.heap[b3]? = some (.cells #[P0 g] 24 (0, 0)) ∧ v.heap[b4]? = some (.cells #[.int .i64 (k : Int)] 3 (0, 0)) ∧ v.heap[b5]? = some (.cells (kc b) 39 (0, 0))) _ := ⟨hG.blk hS.1, hG.blk hS.2.1, hG.blk hS.2.2.1, hG.blk hS.2.2.2⟩
  generalize World.drew _ = x0 at *
  simp only [List.size_toArray, List.length_cons, List.length_nil, Array.replicate, List.replicate]
  refine anyC_take (i := 0) (v := (.pointer (some ⟨g, 0, none⟩))) (fun (v : World) => v.heap[g]? = some (.cells (pdv (some ⟨sg, 0, none⟩) sn sc pa pn pc l os dd) 67 (0, 0)) ∧ v.heap[b3]? = some (.cells #[P0 g] 24 (0, 0)) ∧ v.heap[b4]? = some (.cells #[.int .i64 (k : Int)] 3 (0, 0)) ∧ v.heap[b5]? = some (.cells (kc b) 39 (0, 0))) (fun _ h_ => h_) (.inr (by kernel_rfl)) rfl (by kernel_rfl) (by kernel_rfl) (by kernel_rfl) (by decide) (by kernel_rfl) (by decide) (fun _ _ _ h => h) (.inl ⟨by kernel_rfl, fun x_ hu => exec_pd _ (.tmp 0) rfl b3 0 (by kernel_rfl) (some ⟨g, 0, none⟩) (cell_of hu.2.1 (i := 0) rfl)⟩) hS ?_
  simp only [Act.put, List.setIfInBounds_toArray, List.set_cons_zero, List.set_cons_succ, List.getElem_toArray, List.getElem_cons_zero, List.getElem_cons_succ]
  refine anyC_take (i := 1) (v := (.pointer (some ⟨g, 0, none⟩))) (fun (v : World) => v.heap[g]? = some (.cells (pdv (some ⟨sg, 0, none⟩) sn sc pa pn pc l os dd) 67 (0, 0)) ∧ v.heap[b3]? = some (.cells #[P0 g] 24 (0, 0)) ∧ v.heap[b4]? = some (.cells #[.int .i64 (k : Int)] 3 (0, 0)) ∧ v.heap[b5]? = some (.cells (kc b) 39 (0, 0))) (fun _ h_ => h_) (.inr (by kernel_rfl)) rfl (by kernel_rfl) (by kernel_rfl) (by kernel_rfl) (by decide) (by kernel_rfl) (by decide) (fun _ _ _ h => h) (.inl ⟨by kernel_rfl, fun x_ hu => exec_pd _ (.tmp 0) rfl b3 0 (by kernel_rfl) (some ⟨g, 0, none⟩) (cell_of hu.2.1 (i := 0) rfl)⟩) hS ?_
  simp only [Act.put, List.setIfInBounds_toArray, List.set_cons_zero, List.set_cons_succ, List.getElem_toArray, List.getElem_cons_zero, List.getElem_cons_succ]
  refine anyC_take (i := 2) (v := (.pointer (some ⟨g, 0, none⟩))) (fun (v : World) => v.heap[g]? = some (.cells (pdv (some ⟨sg, 0, none⟩) sn sc pa pn pc l os dd) 67 (0, 0)) ∧ v.heap[b3]? = some (.cells #[P0 g] 24 (0, 0)) ∧ v.heap[b4]? = some (.cells #[.int .i64 (k : Int)] 3 (0, 0)) ∧ v.heap[b5]? = some (.cells (kc b) 39 (0, 0))) (fun _ h_ => h_) (.inr (by kernel_rfl)) rfl (by kernel_rfl) (by kernel_rfl) (by kernel_rfl) (by decide) (by kernel_rfl) (by decide) (fun _ _ _ h => h) (.inl ⟨by kernel_rfl, fun x_ hu => by kernel_rfl⟩) hS ?_
  simp only [Act.put, List.setIfInBounds_toArray, List.set_cons_zero, List.set_cons_succ, List.getElem_toArray, List.getElem_cons_zero, List.getElem_cons_succ]
  refine anyC_take (i := 3) (v := (.pointer (some ⟨g, 1, none⟩))) (fun (v : World) => v.heap[g]? = some (.cells (pdv (some ⟨sg, 0, none⟩) sn sc pa pn pc l os dd) 67 (0, 0)) ∧ v.heap[b3]? = some (.cells #[P0 g] 24 (0, 0)) ∧ v.heap[b4]? = some (.cells #[.int .i64 (k : Int)] 3 (0, 0)) ∧ v.heap[b5]? = some (.cells (kc b) 39 (0, 0))) (fun _ h_ => h_) (.inr (by kernel_rfl)) rfl (by kernel_rfl) (by kernel_rfl) (by kernel_rfl) (by decide) (by kernel_rfl) (by decide) (fun _ _ _ h => h) (.inl ⟨by kernel_rfl, fun x_ hu => by kernel_rfl⟩) hS ?_
  simp only [Act.put, List.setIfInBounds_toArray, List.set_cons_zero, List.set_cons_succ, List.getElem_toArray, List.getElem_cons_zero, List.getElem_cons_succ]
  refine anyC_take (i := 4) (v := (.slice pa pn pc)) (fun (v : World) => v.heap[g]? = some (.cells (pdv (some ⟨sg, 0, none⟩) sn sc pa pn pc l os dd) 67 (0, 0)) ∧ v.heap[b3]? = some (.cells #[P0 g] 24 (0, 0)) ∧ v.heap[b4]? = some (.cells #[.int .i64 (k : Int)] 3 (0, 0)) ∧ v.heap[b5]? = some (.cells (kc b) 39 (0, 0))) (fun _ h_ => h_) (.inr (by kernel_rfl)) rfl (by kernel_rfl) (by kernel_rfl) (by kernel_rfl) (by decide) (by kernel_rfl) (by decide) (fun _ _ _ h => h) (.inl ⟨by kernel_rfl, fun x_ hu => exec_spw _ (.tmp 6) rfl g 1 (by kernel_rfl) pa pn pc (cell_of hu.1 (i := 1) rfl)⟩) hS ?_
  simp only [Act.put, List.setIfInBounds_toArray, List.set_cons_zero, List.set_cons_succ, List.getElem_toArray, List.getElem_cons_zero, List.getElem_cons_succ]
  refine anyC_take (i := 5) (v := (.int .i64 (k : Int))) (fun (v : World) => v.heap[g]? = some (.cells (pdv (some ⟨sg, 0, none⟩) sn sc pa pn pc l os dd) 67 (0, 0)) ∧ v.heap[b3]? = some (.cells #[P0 g] 24 (0, 0)) ∧ v.heap[b4]? = some (.cells #[.int .i64 (k : Int)] 3 (0, 0)) ∧ v.heap[b5]? = some (.cells (kc b) 39 (0, 0))) (fun _ h_ => h_) (.inr (by kernel_rfl)) rfl (by kernel_rfl) (by kernel_rfl) (by kernel_rfl) (by decide) (by kernel_rfl) (by decide) (fun _ _ _ h => h) (.inl ⟨by kernel_rfl, fun x_ hu => exec_i64 _ (.tmp 1) rfl b4 0 (by kernel_rfl) _ (cell_of hu.2.2.1 (i := 0) rfl)⟩) hS ?_
  simp only [Act.put, List.setIfInBounds_toArray, List.set_cons_zero, List.set_cons_succ, List.getElem_toArray, List.getElem_cons_zero, List.getElem_cons_succ]
  refine anyC_take (i := 6) (v := (.agg (kc b))) (fun (v : World) => v.heap[g]? = some (.cells (pdv (some ⟨sg, 0, none⟩) sn sc pa pn pc l os dd) 67 (0, 0)) ∧ v.heap[b3]? = some (.cells #[P0 g] 24 (0, 0)) ∧ v.heap[b4]? = some (.cells #[.int .i64 (k : Int)] 3 (0, 0)) ∧ v.heap[b5]? = some (.cells (kc b) 39 (0, 0))) (fun _ h_ => h_) (.inr (by kernel_rfl)) rfl (by kernel_rfl) (by kernel_rfl) (by kernel_rfl) (by decide) (by kernel_rfl) (by decide) (fun _ _ _ h => h) (.inl ⟨by kernel_rfl, fun x_ hu => exec_arr _ 39 (.tmp 2) rfl b5 (by kernel_rfl) (kc b) 39 _ hu.2.2.2 Try.underlying39 rfl (by rw [Try.infoB, kc_size, hbl])⟩) hS ?_
  simp only [Act.put, List.setIfInBounds_toArray, List.set_cons_zero, List.set_cons_succ, List.getElem_toArray, List.getElem_cons_zero, List.getElem_cons_succ]
  refine anyC_take (i := 7) (v := (.agg (wv (k, b)).toArray)) (fun (v : World) => v.heap[g]? = some (.cells (pdv (some ⟨sg, 0, none⟩) sn sc pa pn pc l os dd) 67 (0, 0)) ∧ v.heap[b3]? = some (.cells #[P0 g] 24 (0, 0)) ∧ v.heap[b4]? = some (.cells #[.int .i64 (k : Int)] 3 (0, 0)) ∧ v.heap[b5]? = some (.cells (kc b) 39 (0, 0))) (fun _ h_ => h_) (.inr (by kernel_rfl)) rfl (by kernel_rfl) (by kernel_rfl) (by kernel_rfl) (by decide) (by kernel_rfl) (by decide) (fun _ _ _ h => h) (.inl ⟨by kernel_rfl, fun x_ hu => exec_bpw _ (.tmp 8) (.tmp 9) rfl k b hbl (by kernel_rfl) (by kernel_rfl)⟩) hS ?_
  simp only [Act.put, List.setIfInBounds_toArray, List.set_cons_zero, List.set_cons_succ, List.getElem_toArray, List.getElem_cons_zero, List.getElem_cons_succ]
  refine anyC_one (i := 8) (by kernel_rfl) rfl (fun K_ hQ => ?_)
  refine step_val (.slice (some ⟨x0.heap.size, 0, none⟩) 1 1) (x0.alloc (.cells (wv (k, b)).toArray 75 (0, 0))) (by kernel_rfl) (exec_bs1p _ (.tmp 10) rfl k b hbl (by kernel_rfl)) ?_
  have hga := (Gr.refl x0).alloc (.cells (wv (k, b)).toArray 75 (0, 0))
  have hnb := blk_new x0 (.cells (wv (k, b)).toArray 75 (0, 0))
  replace hS : (fun (v : World) => v.heap[g]? = some (.cells (pdv (some ⟨sg, 0, none⟩) sn sc pa pn pc l os dd) 67 (0, 0)) ∧ v.heap[b3]? = some (.cells #[P0 g] 24 (0, 0)) ∧ v.heap[b4]? = some (.cells #[.int .i64 (k : Int)] 3 (0, 0)) ∧ v.heap[b5]? = some (.cells (kc b) 39 (0, 0))) _ := ⟨hga.blk hS.1, hga.blk hS.2.1, hga.blk hS.2.2.1, hga.blk hS.2.2.2⟩
  replace hG := hG.trans hga
  clear hga
  generalize World.alloc _ _ = x1 at *
  generalize x0.heap.size = gz at *
  refine hQ.out _ _ hS (fun _ => ?_)
  clear hQ K_
  simp only [Act.put, List.setIfInBounds_toArray, List.set_cons_zero, List.set_cons_succ, List.getElem_toArray, List.getElem_cons_zero, List.getElem_cons_succ]
  refine anyC_one (i := 9) (by kernel_rfl) rfl (fun K_ hQ => ?_)
  rw [if_pos (by kernel_rfl)]
  refine app_row1 lt_pw (.tmp 7) (.tmp 11) rfl (.slice pa pn pc) (D.pend.map wv) rfl (by have h := (unhide hpo).gr hG; rw [← unhide hpn] at h; exact h) gz 0 1 (wv (k, b)) rfl (by rw [wv_len, hbl]) (fun j x hj => cell_of hnb (by rw [Nat.zero_add, List.getElem?_toArray]; exact hj)) (wv_one' _) (by rw [List.length_map, ← unhide hpn]; omega) ?_
  intro v4_ x2 hOs hgr hwh
  have hno : ∀ (c : Array Value) (t : TypeId) (q : Nat), t ≠ 75 → x1.heap[q]? = some (.cells c t (0, 0)) → x2.heap[q]? = some (.cells c t (0, 0)) := fun c t q ht hq => by
    rw [hgr.block q (lt_of_block hq) (fun e => ?_)]
    · exact hq
    · have e2 : blkOf pa = some q := by
        cases pa with
        | none => simp [Value.ownBlock] at e
        | some a_ => simpa [Value.ownBlock, blkOf] using e.symm
      obtain ⟨cur, hc⟩ := or_blk_lt ((unhide hpo).gr hG) e2
      rw [hq] at hc
      have := Option.some.inj hc
      injection this with _ h6 _
      exact ht h6
  replace hS : (fun (v : World) => v.heap[g]? = some (.cells (pdv (some ⟨sg, 0, none⟩) sn sc pa pn pc l os dd) 67 (0, 0)) ∧ v.heap[b3]? = some (.cells #[P0 g] 24 (0, 0)) ∧ v.heap[b4]? = some (.cells #[.int .i64 (k : Int)] 3 (0, 0)) ∧ v.heap[b5]? = some (.cells (kc b) 39 (0, 0))) _ := ⟨hno _ _ _ (by decide) hS.1, hno _ _ _ (by decide) hS.2.1, hno _ _ _ (by decide) hS.2.2.1, hno _ _ _ (by decide) hS.2.2.2⟩
  have hsg := hno _ _ _ (by decide) (hG.blk (unhide hP).saf)
  obtain ⟨pb, pd, rfl, -⟩ := hOs.ls
  have hpl : (D.pend.map wv ++ [wv (k, b)]).length = pn + 1 := by rw [List.length_append, List.length_map, ← unhide hpn]; rfl
  rw [hpl] at hOs hwh ⊢
  obtain ⟨pm, hpm2⟩ : ∃ x, x = pn + 1 := ⟨_, rfl⟩
  rw [← hpm2] at hOs hwh ⊢
  have hch : Chg (pdF g sg pa) (pdF g sg pb) w x2 := by
    have hbo : ∀ (z : Option Addr) (n c q : Nat), (Value.slice z n c).ownBlock = some q ↔ blkOf z = some q := fun z n c q => by cases z <;> simp [Value.ownBlock, blkOf]
    refine ⟨hgr.os.trans hG.os, hgr.tape.trans hG.tape, hgr.output.trans hG.output, Nat.le_trans hG.size hgr.size, fun i hi hn => ?_, fun i hi => ?_⟩
    · rw [hgr.block i (Nat.lt_of_lt_of_le hi hG.size) (fun e => hn (mem_pdF.2 (.inr (.inr ((hbo ..).1 e.symm)))))]
      exact hG.block i hi
    · rcases mem_pdF.1 hi with hi | hi | hi
      · exact .inl (mem_pdF.2 (.inl hi))
      · exact .inl (mem_pdF.2 (.inr (.inl hi)))
      · rcases hwh with h | h
        · exact .inl (mem_pdF.2 (.inr (.inr ((hbo ..).1 (h ▸ (hbo pb pm pd i).2 hi)))))
        · have h9 := (hbo ..).1 h
          rw [hi] at h9
          have := Option.some.inj h9
          exact .inr (by have := hG.size; omega)
  replace hpm2 := hide hpm2; replace hch := hide hch
  clear hgr hwh hpl hno hG hnb
  refine hQ.out _ _ hS (fun _ => ?_)
  clear hQ K_
  simp only [Act.put, List.setIfInBounds_toArray, List.set_cons_zero, List.set_cons_succ, List.getElem_toArray, List.getElem_cons_zero, List.getElem_cons_succ]
  refine anyC_take (i := 10) (v := (.pointer (some ⟨g, 0, none⟩))) (fun _ => True) (fun _ _ => trivial) (.inl (fun _ => trivial)) rfl (by kernel_rfl) (by kernel_rfl) (by kernel_rfl) (by decide) (by kernel_rfl) (by decide) (fun _ _ _ h => h) (.inl ⟨by kernel_rfl, fun x_ hu => by kernel_rfl⟩) hS ?_
  simp only [Act.put, List.setIfInBounds_toArray, List.set_cons_zero, List.set_cons_succ, List.getElem_toArray, List.getElem_cons_zero, List.getElem_cons_succ]
  refine anyC_take (i := 11) (v := (.pointer (some ⟨g, 1, none⟩))) (fun (v : World) => v.heap[g]? = some (.cells (pdv (some ⟨sg, 0, none⟩) sn sc pa pn pc l os dd) 67 (0, 0)) ∧ v.heap[b3]? = some (.cells #[P0 g] 24 (0, 0)) ∧ v.heap[b4]? = some (.cells #[.int .i64 (k : Int)] 3 (0, 0)) ∧ v.heap[b5]? = some (.cells (kc b) 39 (0, 0))) (fun _ h_ => h_) (.inr (by kernel_rfl)) rfl (by kernel_rfl) (by kernel_rfl) (by kernel_rfl) (by decide) (by kernel_rfl) (by decide) (fun _ _ _ h => h) (.inl ⟨by kernel_rfl, fun x_ hu => by kernel_rfl⟩) hS ?_
  simp only [Act.put, List.setIfInBounds_toArray, List.set_cons_zero, List.set_cons_succ, List.getElem_toArray, List.getElem_cons_zero, List.getElem_cons_succ]
  refine anyC_last (by kernel_rfl) rfl (fun K_ hQ => ?_)
  have c4 := cell_of hS.1 (i := 1) rfl
  have fz := froz_of (i := 1) hS.1
  have hB2 : Hid ((x2.setCell ⟨g, 1, none⟩ (.slice pb pm pd)).heap[g]? = some (.cells (pdv (some ⟨sg, 0, none⟩) sn sc pb pm pd l os dd) 67 (0, 0))) := setCells_heap [.slice pb pm pd] x2 g 1 [.slice (some ⟨sg, 0, none⟩) sn sc, .slice pa pn pc, .int .i64 l, .int .i64 (os : Int), .bool dd] 67 hS.1
  have hbt : Bt g x2 (x2.setCell ⟨g, 1, none⟩ (.slice pb pm pd)) := Bt.setCell x2 1 (.slice pb pm pd)
  replace hsg := hide (hbt.blk hsg (unhide hP).sg_ne.symm)
  replace hOs := hide (or_bt hOs hS.1 (show (67 : TypeId) ≠ 75 by decide) hbt)
  replace hbt := hide hbt
  clear hS
  replace hQ := hide hQ
  go_simp
  refine (unhide hQ).out _ _ ?_
  clear hQ K_ c4 fz
  generalize World.setCell _ _ _ = x3 at *
  refine any_done (by kernel_rfl) ?_
  have hZ : Hid (Wr1 g D k b sg sc C pa l w x3) := by
    refine ⟨pb, pd, ⟨?_, unhide hsg, (unhide hP).cov, (unhide hP).len, (unhide hP).cap, (unhide hP).max, ?_, (unhide hP).lf⟩, ?_⟩
    · show x3.heap[g]? = some (.cells (pdv (some ⟨sg, 0, none⟩) D.safe.length sc pb (D.pend ++ [(k, b)]).length pd l D.ops D.dead) _ (0, 0))
      rw [List.length_append, ← unhide hsn, ← unhide hpn, ← unhide hos, ← unhide hdd, List.length_singleton, ← unhide hpm2]
      exact unhide hB2
    · show Or_ 65 75 0 x3 (.slice pb (D.pend ++ [(k, b)]).length pd) ((D.pend ++ [(k, b)]).map wv)
      rw [List.length_append, ← unhide hpn, List.length_singleton, ← unhide hpm2, List.map_append]
      exact unhide hOs
    · have hc := unhide hch
      have hb2 := unhide hbt
      exact ⟨hb2.os.trans hc.os, hb2.tape.trans hc.tape, hb2.output.trans hc.output, Nat.le_trans hc.size hb2.size, fun i hi hn => (hb2.block i (Nat.lt_of_lt_of_le hi hc.size) (fun e => hn (mem_pdF.2 (.inl e)))).trans (hc.block i hi hn), hc.new⟩
  go_wp2_with fail
  rw [unhide hT]
  exact bodyPost_end (results_none Try.results46 _ _ _) rfl ⟨rfl, unhide hZ⟩
end Go.Proofs.Ythgchjdjacbcgaa
