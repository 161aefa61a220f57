/-
  FieldChains: the walk, for whatever keys and steps.
-/
import Derived.Test.YtjncnmhigikdoaaBackMath
import Derived.Test.YtjncnmhigikdoaaFerm
import Derived.Test.YtjncnmhigikdoaaRegs
import Derived.Test.YtjncnmhigikdoaaElems
import Derived.Test.YtjncnmhigikdoaaRefD
import Derived.Test.YtjncnmhigikdoaaSumsWalk
import Derived.Test.YtjncnmhigikdoaaAssign3
import Derived.Test.YtjncnmhigikdoaaAssign4
namespace Go.Proofs.Ytjncnmhigikdoaa
open Go.RowKit
set_option maxRecDepth 100000
set_option linter.unusedSimpArgs false
attribute [local go_sem ↓] Go.wp_at_zero Go.wp_at_succ

/-- a list of bytes that came in -/
def BL2 (w : World) (sp : Option Addr) (n : Nat) (l : List Int) : Prop := l.length = n ∧ (∀ x ∈ l, 0 ≤ x ∧ x < 256) ∧ (0 < n → ∃ b off, sp = some ⟨b, off, none⟩ ∧ ∀ i, i < n → w.cell? ⟨b, off + i, none⟩ = some (.int .u8 (l.getD i 0)))

/-- the two numbers, and what the reference has of them -/
def CH (w v : World) (g1 g2 g3 g4 : Nat) (X Y : Int) (a0 a1 a2 a3 a4 b0 b1 b2 b3 b4 : Int) : Prop := Gr w v ∧ v.heap[g1]? = some (.cells #[.int .u64 a0, .int .u64 a1, .int .u64 a2, .int .u64 a3, .int .u64 a4] 29 (0, 0)) ∧ v.heap[g2]? = some (.cells #[.int .u64 b0, .int .u64 b1, .int .u64 b2, .int .u64 b3, .int .u64 b4] 29 (0, 0)) ∧ KB v g3 (digs (X % pp) 32) ∧ KB v g4 (digs (Y % pp) 32) ∧ Rep X a0 a1 a2 a3 a4 ∧ Rep Y b0 b1 b2 b3 b4
/-- they lie apart -/
def Ap (w : World) (g1 g2 g3 g4 : Nat) : Prop := w.heap.size ≤ g1 ∧ w.heap.size ≤ g2 ∧ w.heap.size ≤ g3 ∧ w.heap.size ≤ g4 ∧ g1 ≠ g2 ∧ g3 ≠ g4 ∧ g1 ≠ g3 ∧ g1 ≠ g4 ∧ g2 ≠ g3 ∧ g2 ≠ g4
theorem CH.setA {w v u : World} {g1 g2 g3 g4 : Nat} {X Y a0 a1 a2 a3 a4 b0 b1 b2 b3 b4 : Int} (h : CH w v g1 g2 g3 g4 X Y a0 a1 a2 a3 a4 b0 b1 b2 b3 b4) (k : Gr v.drew u) (ap : Ap w g1 g2 g3 g4) (Z z0 z1 z2 z3 z4 : Int) (hz : Rep Z z0 z1 z2 z3 z4) :
    CH w ((u.setRow g1 #[.int .u64 z0, .int .u64 z1, .int .u64 z2, .int .u64 z3, .int .u64 z4]).setRow g3 (kc (digs (Z % pp) 32))) g1 g2 g3 g4 Z Y z0 z1 z2 z3 z4 b0 b1 b2 b3 b4 := by
  obtain ⟨h1, h2, h3, h4, h5, h6, h7⟩ := h
  obtain ⟨q1, q2, q3, q4, q5, q6, q7, q8, q9, q10⟩ := ap
  have kg : Gr w u := h1.drew.trans k
  refine ⟨below_setRow (below_setRow kg q1 _) q3 _, ?_, ?_, ?_, ?_, hz, h7⟩
  · exact (setRow_other _ _ _ _ q7).trans (setRow_heap _ _ _ _ _ _ (k.blk h2))
  · exact (setRow_other _ _ _ _ q9).trans ((setRow_other _ _ _ _ (Ne.symm q5)).trans (k.blk h3))
  · exact setRow_heap _ _ _ _ _ _ ((setRow_other _ _ _ _ (Ne.symm q7)).trans (k.blk h4))
  · exact (setRow_other _ _ _ _ (Ne.symm q6)).trans ((setRow_other _ _ _ _ (Ne.symm q8)).trans (k.blk h5))
theorem CH.setB {w v u : World} {g1 g2 g3 g4 : Nat} {X Y a0 a1 a2 a3 a4 b0 b1 b2 b3 b4 : Int} (h : CH w v g1 g2 g3 g4 X Y a0 a1 a2 a3 a4 b0 b1 b2 b3 b4) (k : Gr v.drew u) (ap : Ap w g1 g2 g3 g4) (Z z0 z1 z2 z3 z4 : Int) (hz : Rep Z z0 z1 z2 z3 z4) :
    CH w ((u.setRow g2 #[.int .u64 z0, .int .u64 z1, .int .u64 z2, .int .u64 z3, .int .u64 z4]).setRow g4 (kc (digs (Z % pp) 32))) g1 g2 g3 g4 X Z a0 a1 a2 a3 a4 z0 z1 z2 z3 z4 := by
  obtain ⟨h1, h2, h3, h4, h5, h6, h7⟩ := h
  obtain ⟨q1, q2, q3, q4, q5, q6, q7, q8, q9, q10⟩ := ap
  have kg : Gr w u := h1.drew.trans k
  refine ⟨below_setRow (below_setRow kg q2 _) q4 _, ?_, ?_, ?_, ?_, h6, hz⟩
  · exact (setRow_other _ _ _ _ q8).trans ((setRow_other _ _ _ _ q5).trans (k.blk h2))
  · exact (setRow_other _ _ _ _ q10).trans (setRow_heap _ _ _ _ _ _ (k.blk h3))
  · exact (setRow_other _ _ _ _ q6).trans ((setRow_other _ _ _ _ (Ne.symm q9)).trans (k.blk h4))
  · exact setRow_heap _ _ _ _ _ _ ((setRow_other _ _ _ _ (Ne.symm q10)).trans (k.blk h5))
theorem kb_elem {v : World} {g g' : Nat} {n : Int} {cs : Array Value} (h : v.heap[g]? = some (.cells cs 29 (0, 0))) (k : KB v g' (digs n 32)) : g ≠ g' := by
  intro e
  subst e
  unfold KB at k
  rw [k] at h
  simp at h
theorem step_value {P : Program} {ops : Array Oper} {o : Oper} {a : Act} {w : World} {K : Act → World → Prop} {Q : Exit → Act → World → Prop} {E : Prop} (hw : Region.wanted o (yielded ops a.tmps) = true)
    (v : Value) (hrun : (execOp a.eval o).run P w = .ok (.value v) w) (h : K (a.put o.dst v) w) :
    if Region.wanted o (yielded ops a.tmps) = true then Oper.wp P o a w K Q else E := by
  rw [if_pos hw]
  unfold Oper.wp
  rw [hrun, Oper.upon_value]
  exact h
theorem emod_bd (X : Int) : 0 ≤ X % pp ∧ X % pp < pp := ⟨Int.emod_nonneg _ (by decide), Int.emod_lt_of_pos _ (by decide)⟩
theorem emod_top (X : Int) : 0 ≤ X % pp ∧ X % pp < 115792089237316195423570985008687907853269984665640564039457584007913129639936 := by
  have := emod_bd X
  have h : pp < 115792089237316195423570985008687907853269984665640564039457584007913129639936 := by decide
  omega

set_option maxHeartbeats 8000000 in
theorem chains_any (n m : Int) (hn : 0 ≤ n ∧ n < 115792089237316195423570985008687907853269984665640564039457584007913129639936) (hm : 0 ≤ m ∧ m < 115792089237316195423570985008687907853269984665640564039457584007913129639936) (w : World) (sp : Option Addr) (ln cp : Nat) (l : List Int) (hln : ln ≤ maxLen) (hbl : BL2 w sp ln l) :
    Calls Try.prog 8 #[.agg (kc (digs n 32)), .agg (kc (digs m 32)), .slice sp ln cp] w (fun r w' => r = .returned (.bool true) ∧ Gr w w') := by
  unfold maxLen at hln
  have hmx := hide (made_ok n hn)
  have hmy := hide (made_ok m hm)
  replace hbl := hide hbl
  obtain ⟨LX, hLX⟩ : ∃ L, L = (digs n 32).map (Value.int .u8) := ⟨_, rfl⟩
  have eX : kc (digs n 32) = LX.toArray := by rw [hLX]; rfl
  have kX : Hid (KeyIs LX n) := hide ⟨hn.1, hLX⟩
  have HiX : Hid ((Try.prog.info? 23).map (·.size) = some LX.length) := hide (by rw [Try.infoKey, hLX, List.length_map, digs_len])
  have hN0 : Hid (0 ≤ n % 57896044618658097711785492504343953926634992332820282019728792003956564819968) := hide (by omega)
  rw [eX]
  rw [eX] at hmx
  clear hLX eX
  generalize hNe : n % 57896044618658097711785492504343953926634992332820282019728792003956564819968 = N at hN0 hmx
  replace hNe := hide hNe
  obtain ⟨LY, hLY⟩ : ∃ L, L = (digs m 32).map (Value.int .u8) := ⟨_, rfl⟩
  have eY : kc (digs m 32) = LY.toArray := by rw [hLY]; rfl
  have kY : Hid (KeyIs LY m) := hide ⟨hm.1, hLY⟩
  have HiY : Hid ((Try.prog.info? 23).map (·.size) = some LY.length) := hide (by rw [Try.infoKey, hLY, List.length_map, digs_len])
  have hM0 : Hid (0 ≤ m % 57896044618658097711785492504343953926634992332820282019728792003956564819968) := hide (by omega)
  rw [eY]
  rw [eY] at hmy
  clear hLY eY
  generalize hMe : m % 57896044618658097711785492504343953926634992332820282019728792003956564819968 = M at hM0 hmy
  replace hMe := hide hMe
  obtain ⟨V, hVe⟩ : ∃ V, V = N % pp := ⟨_, rfl⟩
  obtain ⟨U, hUe⟩ : ∃ U, U = M % pp := ⟨_, rfl⟩
  rw [← hVe] at hmx
  rw [← hUe] at hmy
  replace hVe := hide hVe
  replace hUe := hide hUe
  clear hn hm
  go_enter Try.func8, Try.ntmps8
  go_upto_region 3 with (go_at_call 9; refine (wakes_at' _).mono ?_; rintro r w1 ⟨rfl, hg⟩; have hG := hide (Gr.trans (((Gr.refl w).alloc _).alloc _) hg); have hX := hide (hg.blk (((Gr.refl _).alloc _).blk (blk_new w _))); have hY : Hid (w1.heap[w.heap.size + 1]? = some (.cells LY.toArray 23 (0, 0))) := by rw [← size_alloc w (.cells LX.toArray 23 (0, 0))]; exact hide (hg.blk (blk_new _ _)))
  refine wp_region_held_drew (S := fun v => Gr w1.drew v) (by kernel_rfl) (Gr.refl _) (fun hHeld => ?_)
  refine wpAnyH_take (i := 0) (v := .agg LX.toArray) rfl (by kernel_rfl) (by kernel_rfl) (by kernel_rfl) (fun _ _ _ h => h) (.inl ⟨by kernel_rfl, fun u hu => exec_row u 23 (.tmp 3) rfl w.heap.size 0 (by kernel_rfl) LX (.array 32 5) (range_row (hu.blk (unhide hX))) Try.underlying23 rfl (unhide HiX)⟩) (by assumption) ?_
  simp only [Act.put, List.setIfInBounds_toArray, List.set_cons_zero, List.set_cons_succ, List.getElem_toArray, List.getElem_cons_zero, List.getElem_cons_succ]
  refine wpAnyH_take (i := 2) (v := .agg LY.toArray) rfl (by kernel_rfl) (by kernel_rfl) (by kernel_rfl) (fun _ _ _ h => h) (.inl ⟨by kernel_rfl, fun u hu => exec_row u 23 (.tmp 4) rfl (w.heap.size + 1) 0 (by kernel_rfl) LY (.array 32 5) (range_row (hu.blk (unhide hY))) Try.underlying23 rfl (unhide HiY)⟩) (by assumption) ?_
  simp only [Act.put, List.setIfInBounds_toArray, List.set_cons_zero, List.set_cons_succ, List.getElem_toArray, List.getElem_cons_zero, List.getElem_cons_succ]
  refine define2 w1.drew _ (fun b1 b2 b3 b4 b5 b6 => #[true, b1, true, b2, b3, b4, b5, b6]) (EC N) (EC M) 5 5 29 29 #[.int .u64 0, .int .u64 0, .int .u64 0, .int .u64 0, .int .u64 0] #[.int .u64 0, .int .u64 0, .int .u64 0, .int .u64 0, .int .u64 0] 1 3 4 5 6 7
    (by first | rfl | decide +kernel) (by first | rfl | decide +kernel) EC.size EC.size (by kernel_rfl) (fun _ _ _ _ _ _ => ⟨rfl, rfl, rfl, rfl, rfl, rfl⟩) ?_ ?_ ?_ ?_ ?_ ?_ ?_ _ _ _ _ (by decide +kernel) (d2_start _ _ 16 18 7 8 _ _ _ _ _ _ _ _ _ rfl (Gr.refl _))
  all_goals simp only [fr2, Act.put, List.setIfInBounds_toArray, List.set_cons_zero, List.set_cons_succ, List.getElem_toArray, List.getElem_cons_zero, List.getElem_cons_succ]
  · intro v1 v2 q1 q2 u K hu hK
    refine wpOp_step (o := _) rfl (fun K' hK' => ?_)
    replace hK' := hide hK'
    replace hK := hide hK
    go_simp
    refine (from_L _ _ (by assumption) _).mono ?_
    rintro r w2 ⟨y0, y1, y2, y3, y4, rfl, hB, hg⟩
    rw [unhide hNe] at hB
    exact unhide hK' _ _ (unhide hK _ _ ⟨y0, y1, y2, y3, y4, rfl, hB⟩ hg)
  · intro v1 v2 q1 q2 u K hu hK
    refine wpOp_step (o := _) rfl (fun K' hK' => ?_)
    replace hK' := hide hK'
    replace hK := hide hK
    go_simp
    refine (from_L _ _ (by assumption) _).mono ?_
    rintro r w2 ⟨y0, y1, y2, y3, y4, rfl, hB, hg⟩
    rw [unhide hMe] at hB
    exact unhide hK' _ _ (unhide hK _ _ ⟨y0, y1, y2, y3, y4, rfl, hB⟩ hg)
  · intro v1 v2 q1 q2 u K hK
    refine wpOp_step (o := _) rfl (fun K' hK' => ?_)
    replace hK' := hide hK'
    replace hK := hide hK
    go_simp
    exact unhide hK' _ _ (unhide hK)
  · intro v1 v2 q1 q2 u K hK
    refine wpOp_step (o := _) rfl (fun K' hK' => ?_)
    replace hK' := hide hK'
    replace hK := hide hK
    go_simp
    exact unhide hK' _ _ (unhide hK)
  · intro c v2 g q2 u o K hb ho hc hK
    refine wpOp_step (o := _) rfl (fun K' hK' => ?_)
    rw [if_pos (by kernel_rfl)]
    simp only [Go.wp_at_zero, Go.wp_at_succ]
    exact wp_store_row 29 (.tmp 7) (.tmp 16) rfl g c (by kernel_rfl) (by kernel_rfl) 29 o hb (by rw [Try.infoElem, hc.size]) (by rw [ho, hc.size]) hc.one (hK' _ _ hK)
  · intro v1 c q1 g u o K hb ho hc hK
    refine wpOp_step (o := _) rfl (fun K' hK' => ?_)
    rw [if_pos (by kernel_rfl)]
    simp only [Go.wp_at_zero, Go.wp_at_succ]
    exact wp_store_row 29 (.tmp 8) (.tmp 18) rfl g c (by kernel_rfl) (by kernel_rfl) 29 o hb (by rw [Try.infoElem, hc.size]) (by rw [ho, hc.size]) hc.one (hK' _ _ hK)
  rintro c1 c2 g1 g2 u hgu ⟨a0, a1, a2, a3, a4, rfl, hA⟩ ⟨b0, b1, b2, b3, b4, rfl, hB⟩ hz1 hz2 hne hb1 hb2
  have hG0 := hide (unhide hG).drew
  replace hG := hide (((unhide hG).drew).trans hgu)
  replace hX := hide (((Gr.refl _).drew.trans hgu).blk (unhide hX))
  replace hY := hide (((Gr.refl _).drew.trans hgu).blk (unhide hY))
  replace hb1 := hide hb1
  replace hb2 := hide hb2
  have hzz1 : w.heap.size ≤ g1 := Nat.le_trans (unhide hG0).size hz1
  have hzz2 : w.heap.size ≤ g2 := Nat.le_trans (unhide hG0).size hz2
  clear hgu hz1 hz2 hg hHeld kX kY hNe hMe hG0
  go_upto_region 4 with fail
  refine wp_region_held_drew (S := fun v => Gr u.drew v) (by kernel_rfl) (Gr.refl _) (fun hHeld => ?_)
  refine wpAnyH_take (i := 0) (v := .agg LX.toArray) rfl (by kernel_rfl) (by kernel_rfl) (by kernel_rfl) (fun _ _ _ h => h) (.inl ⟨by kernel_rfl, fun u hu => exec_row u 23 (.tmp 3) rfl w.heap.size 0 (by kernel_rfl) LX (.array 32 5) (range_row (hu.blk (unhide hX))) Try.underlying23 rfl (unhide HiX)⟩) (by assumption) ?_
  simp only [Act.put, List.setIfInBounds_toArray, List.set_cons_zero, List.set_cons_succ, List.getElem_toArray, List.getElem_cons_zero, List.getElem_cons_succ]
  refine wpAnyH_take (i := 2) (v := .agg LY.toArray) rfl (by kernel_rfl) (by kernel_rfl) (by kernel_rfl) (fun _ _ _ h => h) (.inl ⟨by kernel_rfl, fun u hu => exec_row u 23 (.tmp 4) rfl (w.heap.size + 1) 0 (by kernel_rfl) LY (.array 32 5) (range_row (hu.blk (unhide hY))) Try.underlying23 rfl (unhide HiY)⟩) (by assumption) ?_
  simp only [Act.put, List.setIfInBounds_toArray, List.set_cons_zero, List.set_cons_succ, List.getElem_toArray, List.getElem_cons_zero, List.getElem_cons_succ]
  refine define2 u.drew _ (fun b1 b2 b3 b4 b5 b6 => #[true, b1, true, b2, b3, b4, b5, b6]) (fun c => c = kc (digs V 32)) (fun c => c = kc (digs U 32)) 32 32 23 23 (List.replicate 32 (Value.int .u8 0)).toArray (List.replicate 32 (Value.int .u8 0)).toArray 1 3 4 5 6 7
    (by first | rfl | decide +kernel) (by first | rfl | decide +kernel) (fun c h => by rw [h, kc_size, digs_len]) (fun c h => by rw [h, kc_size, digs_len]) (by kernel_rfl) (fun _ _ _ _ _ _ => ⟨rfl, rfl, rfl, rfl, rfl, rfl⟩) ?_ ?_ ?_ ?_ ?_ ?_ ?_ _ _ _ _ (by decide +kernel) (d2_start _ _ 20 22 9 10 _ _ _ _ _ _ _ _ _ rfl (Gr.refl _))
  all_goals simp only [fr2, Act.put, List.setIfInBounds_toArray, List.set_cons_zero, List.set_cons_succ, List.getElem_toArray, List.getElem_cons_zero, List.getElem_cons_succ]
  · intro v1 v2 q1 q2 u K hu hK
    refine wpOp_step (o := _) rfl (fun K' hK' => ?_)
    replace hK' := hide hK'
    replace hK := hide hK
    go_simp
    refine (unhide hmx _).mono ?_
    rintro r w2 ⟨rfl, hg⟩
    exact unhide hK' _ _ (unhide hK _ _ rfl hg)
  · intro v1 v2 q1 q2 u K hu hK
    refine wpOp_step (o := _) rfl (fun K' hK' => ?_)
    replace hK' := hide hK'
    replace hK := hide hK
    go_simp
    refine (unhide hmy _).mono ?_
    rintro r w2 ⟨rfl, hg⟩
    exact unhide hK' _ _ (unhide hK _ _ rfl hg)
  · intro v1 v2 q1 q2 u K hK
    refine wpOp_step (o := _) rfl (fun K' hK' => ?_)
    replace hK' := hide hK'
    replace hK := hide hK
    go_simp
    exact unhide hK' _ _ (unhide hK)
  · intro v1 v2 q1 q2 u K hK
    refine wpOp_step (o := _) rfl (fun K' hK' => ?_)
    replace hK' := hide hK'
    replace hK := hide hK
    go_simp
    exact unhide hK' _ _ (unhide hK)
  · intro c v2 g q2 u o K hb ho hc hK
    refine wpOp_step (o := _) rfl (fun K' hK' => ?_)
    rw [if_pos (by kernel_rfl)]
    simp only [Go.wp_at_zero, Go.wp_at_succ]
    exact wp_store_row 23 (.tmp 9) (.tmp 20) rfl g c (by kernel_rfl) (by kernel_rfl) 23 o hb (by rw [Try.infoKey, (show c.size = 32 by rw [hc, kc_size, digs_len])]) (by rw [ho, (show c.size = 32 by rw [hc, kc_size, digs_len])]) (by rw [hc]; exact kc_one _) (hK' _ _ hK)
  · intro v1 c q1 g u o K hb ho hc hK
    refine wpOp_step (o := _) rfl (fun K' hK' => ?_)
    rw [if_pos (by kernel_rfl)]
    simp only [Go.wp_at_zero, Go.wp_at_succ]
    exact wp_store_row 23 (.tmp 10) (.tmp 22) rfl g c (by kernel_rfl) (by kernel_rfl) 23 o hb (by rw [Try.infoKey, (show c.size = 32 by rw [hc, kc_size, digs_len])]) (by rw [ho, (show c.size = 32 by rw [hc, kc_size, digs_len])]) (by rw [hc]; exact kc_one _) (hK' _ _ hK)
  rintro c1 c2 g3 g4 v hgv rfl rfl hz1 hz2 hne2 hb3 hb4
  have hzz3 : w.heap.size ≤ g3 := Nat.le_trans (unhide hG).size hz1
  have hzz4 : w.heap.size ≤ g4 := Nat.le_trans (unhide hG).size hz2
  replace hG := hide (((unhide hG).drew).trans hgv)
  replace hb1 := hide (((Gr.refl _).drew.trans hgv).blk (unhide hb1))
  replace hb2 := hide (((Gr.refl _).drew.trans hgv).blk (unhide hb2))
  replace hb3 := hide hb3
  replace hb4 := hide hb4
  clear hgv hz1 hz2 hX hY hHeld HiX HiY hmx hmy
  have hCH : Hid (CH w v g1 g2 g3 g4 N M a0 a1 a2 a3 a4 b0 b1 b2 b3 b4) := hide ⟨unhide hG, unhide hb1, unhide hb2, by rw [← unhide hVe]; exact unhide hb3, by rw [← unhide hUe]; exact unhide hb4, unhide hA, unhide hB⟩
  have hAp : Hid (Ap w g1 g2 g3 g4) := hide ⟨hzz1, hzz2, hzz3, hzz4, hne, hne2, kb_elem (unhide hb1) (unhide hCH).2.2.2.1, kb_elem (unhide hb1) (unhide hCH).2.2.2.2.1, kb_elem (unhide hb2) (unhide hCH).2.2.2.1, kb_elem (unhide hb2) (unhide hCH).2.2.2.2.1⟩
  clear hzz1 hzz2 hzz3 hzz4 hne hne2 hb1 hb2 hb3 hb4 hA hB hG hVe hUe hN0 hM0
  go_wp2_with fail
  go_loopw [25] (fun ix wr => ∃ k : Nat, ∃ X Y x0 x1 x2 x3 x4 y0 y1 y2 y3 y4 : Int, k ≤ ln ∧ ix = .int .i64 k ∧ Hid (CH w wr g1 g2 g3 g4 X Y x0 x1 x2 x3 x4 y0 y1 y2 y3 y4)) (fun ix _ => ln - (intOf ix).toNat)
  case atStart => exact ⟨0, N, M, a0, a1, a2, a3, a4, b0, b1, b2, b3, b4, by omega, rfl, hCH⟩
  case round =>
  clear hCH
  obtain ⟨k, X, Y, x0, x1, x2, x3, x4, y0, y1, y2, y3, y4, hk, rfl, hC⟩ := hrel
  have hX := hide (unhide hC).2.2.2.2.2.1
  have hY := hide (unhide hC).2.2.2.2.2.2
  have hb1 := hide (unhide hC).2.1
  have hb2 := hide (unhide hC).2.2.1
  have hb3 := hide (unhide hC).2.2.2.1
  have hb4 := hide (unhide hC).2.2.2.2.1
  have bX := hide (emod_bd X)
  have bY := hide (emod_bd Y)
  have tX := hide (emod_top X)
  have tY := hide (emod_top Y)
  obtain ⟨P, hP⟩ : ∃ P, P = X % pp := ⟨_, rfl⟩
  obtain ⟨Q, hQ⟩ : ∃ Q, Q = Y % pp := ⟨_, rfl⟩
  rw [← hP] at bX tX hb3
  rw [← hQ] at bY tY hb4
  replace hP := hide hP
  replace hQ := hide hQ
  by_cases hkl : k < ln
  · obtain ⟨b, off, rfl, hcs⟩ := (unhide hbl).2.2 (by omega)
    have cs := (unhide hC).1.cell (hcs k hkl)
    have hsb := (unhide hbl).2.1 (l.getD k 0) (by rw [List.getD_eq_getElem?_getD, List.getElem?_eq_getElem (by have := (unhide hbl).1; omega)]; exact List.getElem_mem _)
    generalize l.getD k 0 = s at *
    by_cases h60 : k = 60
    · subst h60
      go_upto_region 20 with fail
      refine wp_region_held_drew (S := fun x => Gr wr.drew x) (by kernel_rfl) (Gr.refl _) (fun hS0 => ?_)
      refine wpAnyH_take (i := 0) (v := (.agg #[.int .u64 x0, .int .u64 x1, .int .u64 x2, .int .u64 x3, .int .u64 x4])) rfl (by kernel_rfl) (by kernel_rfl) (by kernel_rfl) (fun _ _ _ h => h) (.inl ⟨by kernel_rfl, fun u hu => exec_row u 29 (.tmp 7) rfl g1 0 (by kernel_rfl) [.int .u64 x0, .int .u64 x1, .int .u64 x2, .int .u64 x3, .int .u64 x4] _ (range_row (hu.blk (unhide hb1))) Try.underlying29 rfl Try.infoElem⟩) hS0 ?_
      simp only [Act.put, List.setIfInBounds_toArray, List.set_cons_zero, List.set_cons_succ, List.getElem_toArray, List.getElem_cons_zero, List.getElem_cons_succ]
      refine wpAnyH_take (i := 2) (v := (.agg (kc (digs P 32)))) rfl (by kernel_rfl) (by kernel_rfl) (by kernel_rfl) (fun _ _ _ h => h) (.inl ⟨by kernel_rfl, fun u hu => exec_row u 23 (.tmp 9) rfl g3 0 (by kernel_rfl) ((digs P 32).map (Value.int .u8)) (.array 32 5) (range_row (hu.blk (unhide hb3))) Try.underlying23 rfl (by rw [Try.infoKey, List.length_map, digs_len])⟩) hS0 ?_
      simp only [Act.put, List.setIfInBounds_toArray, List.set_cons_zero, List.set_cons_succ, List.getElem_toArray, List.getElem_cons_zero, List.getElem_cons_succ]
      refine wpAnyH_ready (rs := [1]) (by kernel_rfl) (by simp) (AllReadyH.cons (o := _) rfl (fun K hK => ?_) AllReadyH.nil)
      refine step_callw (by kernel_rfl) 13 #[(.agg #[.int .u64 x0, .int .u64 x1, .int .u64 x2, .int .u64 x3, .int .u64 x4])] (by kernel_rfl) ((bytes_at _ _ _ _ _ _ (by assumption) _).mono ?_)
      rintro r w1_ ⟨rfl, hg⟩
      rw [← unhide hP]
      refine ⟨_, rfl, ?_⟩
      have hS1_ : Gr wr.drew w1_ := Gr.trans hS0 hg
      clear hg
      refine hK.out _ _ hS1_ (fun _ => ?_)
      clear hK K
      simp only [Act.put, List.setIfInBounds_toArray, List.set_cons_zero, List.set_cons_succ, List.getElem_toArray, List.getElem_cons_zero, List.getElem_cons_succ]
      refine wpAnyH_take (i := 3) (v := (.bool true)) rfl (by kernel_rfl) (by kernel_rfl) (by kernel_rfl) (fun _ _ _ h => h) (.inl ⟨by kernel_rfl, fun u hu => by have e := key_same P; go_simp⟩) hS1_ ?_
      simp only [Act.put, List.setIfInBounds_toArray, List.set_cons_zero, List.set_cons_succ, List.getElem_toArray, List.getElem_cons_zero, List.getElem_cons_succ]
      refine wpAnyH_take (i := 4) (v := (.bool true)) rfl (by kernel_rfl) (by kernel_rfl) (by kernel_rfl) (fun _ _ _ h => h) (.inl ⟨by kernel_rfl, fun u hu => by kernel_rfl⟩) hS1_ ?_
      simp only [Act.put, List.setIfInBounds_toArray, List.set_cons_zero, List.set_cons_succ, List.getElem_toArray, List.getElem_cons_zero, List.getElem_cons_succ]
      refine wpAnyH_take (i := 5) (v := (.agg #[.int .u64 y0, .int .u64 y1, .int .u64 y2, .int .u64 y3, .int .u64 y4])) rfl (by kernel_rfl) (by kernel_rfl) (by kernel_rfl) (fun _ _ _ h => h) (.inl ⟨by kernel_rfl, fun u hu => exec_row u 29 (.tmp 8) rfl g2 0 (by kernel_rfl) [.int .u64 y0, .int .u64 y1, .int .u64 y2, .int .u64 y3, .int .u64 y4] _ (range_row (hu.blk (unhide hb2))) Try.underlying29 rfl Try.infoElem⟩) hS1_ ?_
      simp only [Act.put, List.setIfInBounds_toArray, List.set_cons_zero, List.set_cons_succ, List.getElem_toArray, List.getElem_cons_zero, List.getElem_cons_succ]
      refine wpAnyH_take (i := 7) (v := (.agg (kc (digs Q 32)))) rfl (by kernel_rfl) (by kernel_rfl) (by kernel_rfl) (fun _ _ _ h => h) (.inl ⟨by kernel_rfl, fun u hu => exec_row u 23 (.tmp 10) rfl g4 0 (by kernel_rfl) ((digs Q 32).map (Value.int .u8)) (.array 32 5) (range_row (hu.blk (unhide hb4))) Try.underlying23 rfl (by rw [Try.infoKey, List.length_map, digs_len])⟩) hS1_ ?_
      simp only [Act.put, List.setIfInBounds_toArray, List.set_cons_zero, List.set_cons_succ, List.getElem_toArray, List.getElem_cons_zero, List.getElem_cons_succ]
      refine wpAnyH_ready (rs := [6]) (by kernel_rfl) (by simp) (AllReadyH.cons (o := _) rfl (fun K hK => ?_) AllReadyH.nil)
      refine step_callw (by kernel_rfl) 13 #[(.agg #[.int .u64 y0, .int .u64 y1, .int .u64 y2, .int .u64 y3, .int .u64 y4])] (by kernel_rfl) ((bytes_at _ _ _ _ _ _ (by assumption) _).mono ?_)
      rintro r w2_ ⟨rfl, hg⟩
      rw [← unhide hQ]
      refine ⟨_, rfl, ?_⟩
      have hS2_ : Gr wr.drew w2_ := Gr.trans hS1_ hg
      clear hg
      refine hK.out _ _ hS2_ (fun _ => ?_)
      clear hK K
      simp only [Act.put, List.setIfInBounds_toArray, List.set_cons_zero, List.set_cons_succ, List.getElem_toArray, List.getElem_cons_zero, List.getElem_cons_succ]
      refine wpAnyH_take (i := 8) (v := (.bool true)) rfl (by kernel_rfl) (by kernel_rfl) (by kernel_rfl) (fun _ _ _ h => h) (.inl ⟨by kernel_rfl, fun u hu => by have e := key_same Q; go_simp⟩) hS2_ ?_
      simp only [Act.put, List.setIfInBounds_toArray, List.set_cons_zero, List.set_cons_succ, List.getElem_toArray, List.getElem_cons_zero, List.getElem_cons_succ]
      refine wpAnyH_take (i := 9) (v := (.bool true)) rfl (by kernel_rfl) (by kernel_rfl) (by kernel_rfl) (fun _ _ _ h => h) (.inl ⟨by kernel_rfl, fun u hu => by kernel_rfl⟩) hS2_ ?_
      simp only [Act.put, List.setIfInBounds_toArray, List.set_cons_zero, List.set_cons_succ, List.getElem_toArray, List.getElem_cons_zero, List.getElem_cons_succ]
      refine wpAnyH_ready (rs := [10]) (by kernel_rfl) (by simp) (AllReadyH.cons (o := _) rfl (fun K hK => ?_) AllReadyH.nil)
      go_simp
      refine hK.out _ _ hS2_ (fun _ => ?_)
      clear hK K
      refine wpAnyH_done (by kernel_rfl) ?_ _
      go_wp2_with fail
      refine bodyPost_ret (v := .bool true) ?_ rfl ?_
      · simp [results, Try.results8, go_sem]
      · exact ⟨rfl, (unhide hC).1.trans (((Gr.refl _).drew).trans hS2_)⟩
    · have t0 : Hid ((0 : Int) ≤ 0 ∧ (0 : Int) < 115792089237316195423570985008687907853269984665640564039457584007913129639936) := hide (by omega)
      have h60b : ((k : Int) == 60) = false := by simp; omega
      rcases (show s % 5 = 0 ∨ s % 5 = 1 ∨ s % 5 = 2 ∨ s % 5 = 3 ∨ s % 5 = 4 by omega) with hs5 | hs5 | hs5 | hs5 | hs5
      · have hsc := hs5
        go_upto_region 12 with fail
        refine wp_region_held_drew (S := fun _ => True) (by kernel_rfl) trivial (fun _ => ?_)
        refine assign4 wr.drew _ (fun b1 b2 b3 b4 b5 b6 b7 b8 => #[b1, b2, b5, b3, b4, b6, b7, b8]) (fun b1 b2 _ _ => b1 && b2) (fun _ _ b3 b4 => b3 && b4) (.agg #[.int .u64 x0, .int .u64 x1, .int .u64 x2, .int .u64 x3, .int .u64 x4]) (.agg #[.int .u64 y0, .int .u64 y1, .int .u64 y2, .int .u64 y3, .int .u64 y4]) (.agg (kc (digs P 32))) (.agg (kc (digs Q 32))) (EC (X + Y)) (fun c => c = kc (digs ((X + Y) % pp) 32)) g1 g3 0 1 3 4 2 5 6 7 (by kernel_rfl) (fun _ _ _ _ _ _ _ _ => ⟨rfl, rfl, rfl, rfl, rfl, rfl, rfl, rfl⟩) ?_ ?_ ?_ ?_ ?_ ?_ ?_ ?_ ?_ _ _ _ _ (by decide +kernel) (a4_start _ _ _ _ 42 43 45 46 44 47 _ _ _ _ _ _ _ _ _ _ _ rfl (Gr.refl _))
        all_goals simp only [fa4, Act.put, List.setIfInBounds_toArray, List.set_cons_zero, List.set_cons_succ, List.getElem_toArray, List.getElem_cons_zero, List.getElem_cons_succ]
        · intro l1 l2 l3 l4 x y u K hu hK
          refine wpOp_step (o := _) rfl (fun K' hK' => ?_)
          rw [if_pos (by kernel_rfl)]
          (try simp only [Go.wp_at_zero, Go.wp_at_succ])
          refine wp_load_mid 29 (.tmp 7) rfl g1 0 (by kernel_rfl) [.int .u64 x0, .int .u64 x1, .int .u64 x2, .int .u64 x3, .int .u64 x4] _ (range_row (hu.blk (unhide hb1))) Try.underlying29 rfl Try.infoElem ?_
          simp only [Act.put, List.setIfInBounds_toArray, List.set_cons_zero, List.set_cons_succ, List.getElem_toArray, List.getElem_cons_zero, List.getElem_cons_succ]
          exact hK' _ _ hK
        · intro l1 l2 l3 l4 x y u K hu hK
          refine wpOp_step (o := _) rfl (fun K' hK' => ?_)
          rw [if_pos (by kernel_rfl)]
          (try simp only [Go.wp_at_zero, Go.wp_at_succ])
          refine wp_load_mid 29 (.tmp 8) rfl g2 0 (by kernel_rfl) [.int .u64 y0, .int .u64 y1, .int .u64 y2, .int .u64 y3, .int .u64 y4] _ (range_row (hu.blk (unhide hb2))) Try.underlying29 rfl Try.infoElem ?_
          simp only [Act.put, List.setIfInBounds_toArray, List.set_cons_zero, List.set_cons_succ, List.getElem_toArray, List.getElem_cons_zero, List.getElem_cons_succ]
          exact hK' _ _ hK
        · intro l1 l2 l3 l4 x y u K hu hK
          refine wpOp_step (o := _) rfl (fun K' hK' => ?_)
          rw [if_pos (by kernel_rfl)]
          (try simp only [Go.wp_at_zero, Go.wp_at_succ])
          refine wp_load_mid 23 (.tmp 9) rfl g3 0 (by kernel_rfl) ((digs P 32).map (Value.int .u8)) _ (range_row (hu.blk (unhide hb3))) Try.underlying23 rfl (by rw [Try.infoKey, List.length_map, digs_len]) ?_
          simp only [Act.put, List.setIfInBounds_toArray, List.set_cons_zero, List.set_cons_succ, List.getElem_toArray, List.getElem_cons_zero, List.getElem_cons_succ]
          exact hK' _ _ hK
        · intro l1 l2 l3 l4 x y u K hu hK
          refine wpOp_step (o := _) rfl (fun K' hK' => ?_)
          rw [if_pos (by kernel_rfl)]
          (try simp only [Go.wp_at_zero, Go.wp_at_succ])
          refine wp_load_mid 23 (.tmp 10) rfl g4 0 (by kernel_rfl) ((digs Q 32).map (Value.int .u8)) _ (range_row (hu.blk (unhide hb4))) Try.underlying23 rfl (by rw [Try.infoKey, List.length_map, digs_len]) ?_
          simp only [Act.put, List.setIfInBounds_toArray, List.set_cons_zero, List.set_cons_succ, List.getElem_toArray, List.getElem_cons_zero, List.getElem_cons_succ]
          exact hK' _ _ hK
        · intro b1 b2 b3 b4 l1 l2 l3 l4 x y u K hm h1 h2 h3 h4 hu hK
          obtain ⟨rfl, rfl⟩ := Bool.and_eq_true_iff.1 hm
          obtain rfl := h1 rfl
          obtain rfl := h2 rfl
          refine wpOp_step (o := _) rfl (fun K' hK' => ?_)
          refine step_callw (by kernel_rfl) 17 #[(.agg #[.int .u64 x0, .int .u64 x1, .int .u64 x2, .int .u64 x3, .int .u64 x4]), (.agg #[.int .u64 y0, .int .u64 y1, .int .u64 y2, .int .u64 y3, .int .u64 y4])] (by kernel_rfl) ((add_at _ _ _ _ _ _ _ _ _ _ _ _ (by assumption) (by assumption) _).mono ?_)
          rintro r w2 ⟨z0, z1, z2, z3, z4, rfl, hZ, hg⟩
          refine ⟨_, rfl, ?_⟩
          simp only [Act.put, List.setIfInBounds_toArray, List.set_cons_zero, List.set_cons_succ, List.getElem_toArray, List.getElem_cons_zero, List.getElem_cons_succ]
          exact hK' _ _ (hK _ _ ⟨z0, z1, z2, z3, z4, rfl, hZ⟩ hg)
        · intro b1 b2 b3 b4 l1 l2 l3 l4 x y u K hm h1 h2 h3 h4 hu hK
          obtain ⟨rfl, rfl⟩ := Bool.and_eq_true_iff.1 hm
          obtain rfl := h3 rfl
          obtain rfl := h4 rfl
          refine wpOp_step (o := _) rfl (fun K' hK' => ?_)
          refine step_callw (by kernel_rfl) 18 #[(.agg (kc (digs P 32))), (.agg (kc (digs Q 32)))] (by kernel_rfl) ((radd_ok P Q _ (unhide tX) (unhide tY)).mono ?_)
          rintro r w2 ⟨rfl, hg⟩
          refine ⟨_, rfl, ?_⟩
          simp only [Act.put, List.setIfInBounds_toArray, List.set_cons_zero, List.set_cons_succ, List.getElem_toArray, List.getElem_cons_zero, List.getElem_cons_succ]
          exact hK' _ _ (hK _ _ (by rw [unhide hP, unhide hQ, ← Int.add_emod]) hg)
        · intro l1 l2 l3 l4 d y u K hu hd hK
          refine wpOp_step (o := _) rfl (fun K' hK' => ?_)
          rw [if_pos (by kernel_rfl)]
          simp only [Go.wp_at_zero, Go.wp_at_succ]
          refine wp_store_row 29 (.tmp 7) (.tmp 44) rfl g1 d (by kernel_rfl) (by kernel_rfl) 29 _ (hu.blk (unhide hb1)) (by rw [Try.infoElem, hd.size]) (by rw [hd.size]; rfl) hd.one ?_
          simp only [Act.put, List.setIfInBounds_toArray, List.set_cons_zero, List.set_cons_succ, List.getElem_toArray, List.getElem_cons_zero, List.getElem_cons_succ]
          exact hK' _ _ hK
        · intro l1 l2 l3 l4 d1 d2 u K hu hd1 hd2 hK
          refine wpOp_step (o := _) rfl (fun K' hK' => ?_)
          rw [if_pos (by kernel_rfl)]
          simp only [Go.wp_at_zero, Go.wp_at_succ]
          refine wp_store_row 23 (.tmp 9) (.tmp 47) rfl g3 d2 (by kernel_rfl) (by kernel_rfl) 23 _ ((setRow_other _ _ _ _ (kb_elem (unhide hb1) (unhide hb3)).symm).trans (hu.blk (unhide hb3))) (by rw [Try.infoKey, show d2.size = 32 by rw [hd2, kc_size, digs_len]]) (by rw [hd2, kc_size, kc_size, digs_len, digs_len]) (by rw [hd2]; exact kc_one _) ?_
          simp only [Act.put, List.setIfInBounds_toArray, List.set_cons_zero, List.set_cons_succ, List.getElem_toArray, List.getElem_cons_zero, List.getElem_cons_succ]
          exact hK' _ _ hK
        rintro d1 d2 u hu ⟨z0, z1, z2, z3, z4, rfl, hZ⟩ rfl
        have hC2 := hide ((unhide hC).setA hu (unhide hAp) (X + Y) z0 z1 z2 z3 z4 (unhide hZ))
        clear hC hb1 hb2 hb3 hb4 hu
        generalize World.setRow _ _ _ = v2 at *
        go_wp2_with fail
        go_roundw
        case rel => exact ⟨k + 1, (X + Y), Y, z0, z1, z2, z3, z4, y0, y1, y2, y3, y4, by omega, by go_num, hC2⟩
        case measure => simp [intOf]; omega
      · have hsc := hs5
        go_upto_region 14 with fail
        refine wp_region_held_drew (S := fun _ => True) (by kernel_rfl) trivial (fun _ => ?_)
        refine assign4 wr.drew _ (fun b1 b2 b3 b4 b5 b6 b7 b8 => #[b1, b2, b5, b3, b4, b6, b7, b8]) (fun b1 b2 _ _ => b1 && b2) (fun _ _ b3 b4 => b3 && b4) (.agg #[.int .u64 y0, .int .u64 y1, .int .u64 y2, .int .u64 y3, .int .u64 y4]) (.agg #[.int .u64 x0, .int .u64 x1, .int .u64 x2, .int .u64 x3, .int .u64 x4]) (.agg (kc (digs Q 32))) (.agg (kc (digs P 32))) (EC (Y - X)) (fun c => c = kc (digs ((Y - X) % pp) 32)) g1 g3 0 1 3 4 2 5 6 7 (by kernel_rfl) (fun _ _ _ _ _ _ _ _ => ⟨rfl, rfl, rfl, rfl, rfl, rfl, rfl, rfl⟩) ?_ ?_ ?_ ?_ ?_ ?_ ?_ ?_ ?_ _ _ _ _ (by decide +kernel) (a4_start _ _ _ _ 50 51 53 54 52 55 _ _ _ _ _ _ _ _ _ _ _ rfl (Gr.refl _))
        all_goals simp only [fa4, Act.put, List.setIfInBounds_toArray, List.set_cons_zero, List.set_cons_succ, List.getElem_toArray, List.getElem_cons_zero, List.getElem_cons_succ]
        · intro l1 l2 l3 l4 x y u K hu hK
          refine wpOp_step (o := _) rfl (fun K' hK' => ?_)
          rw [if_pos (by kernel_rfl)]
          (try simp only [Go.wp_at_zero, Go.wp_at_succ])
          refine wp_load_mid 29 (.tmp 8) rfl g2 0 (by kernel_rfl) [.int .u64 y0, .int .u64 y1, .int .u64 y2, .int .u64 y3, .int .u64 y4] _ (range_row (hu.blk (unhide hb2))) Try.underlying29 rfl Try.infoElem ?_
          simp only [Act.put, List.setIfInBounds_toArray, List.set_cons_zero, List.set_cons_succ, List.getElem_toArray, List.getElem_cons_zero, List.getElem_cons_succ]
          exact hK' _ _ hK
        · intro l1 l2 l3 l4 x y u K hu hK
          refine wpOp_step (o := _) rfl (fun K' hK' => ?_)
          rw [if_pos (by kernel_rfl)]
          (try simp only [Go.wp_at_zero, Go.wp_at_succ])
          refine wp_load_mid 29 (.tmp 7) rfl g1 0 (by kernel_rfl) [.int .u64 x0, .int .u64 x1, .int .u64 x2, .int .u64 x3, .int .u64 x4] _ (range_row (hu.blk (unhide hb1))) Try.underlying29 rfl Try.infoElem ?_
          simp only [Act.put, List.setIfInBounds_toArray, List.set_cons_zero, List.set_cons_succ, List.getElem_toArray, List.getElem_cons_zero, List.getElem_cons_succ]
          exact hK' _ _ hK
        · intro l1 l2 l3 l4 x y u K hu hK
          refine wpOp_step (o := _) rfl (fun K' hK' => ?_)
          rw [if_pos (by kernel_rfl)]
          (try simp only [Go.wp_at_zero, Go.wp_at_succ])
          refine wp_load_mid 23 (.tmp 10) rfl g4 0 (by kernel_rfl) ((digs Q 32).map (Value.int .u8)) _ (range_row (hu.blk (unhide hb4))) Try.underlying23 rfl (by rw [Try.infoKey, List.length_map, digs_len]) ?_
          simp only [Act.put, List.setIfInBounds_toArray, List.set_cons_zero, List.set_cons_succ, List.getElem_toArray, List.getElem_cons_zero, List.getElem_cons_succ]
          exact hK' _ _ hK
        · intro l1 l2 l3 l4 x y u K hu hK
          refine wpOp_step (o := _) rfl (fun K' hK' => ?_)
          rw [if_pos (by kernel_rfl)]
          (try simp only [Go.wp_at_zero, Go.wp_at_succ])
          refine wp_load_mid 23 (.tmp 9) rfl g3 0 (by kernel_rfl) ((digs P 32).map (Value.int .u8)) _ (range_row (hu.blk (unhide hb3))) Try.underlying23 rfl (by rw [Try.infoKey, List.length_map, digs_len]) ?_
          simp only [Act.put, List.setIfInBounds_toArray, List.set_cons_zero, List.set_cons_succ, List.getElem_toArray, List.getElem_cons_zero, List.getElem_cons_succ]
          exact hK' _ _ hK
        · intro b1 b2 b3 b4 l1 l2 l3 l4 x y u K hm h1 h2 h3 h4 hu hK
          obtain ⟨rfl, rfl⟩ := Bool.and_eq_true_iff.1 hm
          obtain rfl := h1 rfl
          obtain rfl := h2 rfl
          refine wpOp_step (o := _) rfl (fun K' hK' => ?_)
          refine step_callw (by kernel_rfl) 19 #[(.agg #[.int .u64 y0, .int .u64 y1, .int .u64 y2, .int .u64 y3, .int .u64 y4]), (.agg #[.int .u64 x0, .int .u64 x1, .int .u64 x2, .int .u64 x3, .int .u64 x4])] (by kernel_rfl) ((sub_at _ _ _ _ _ _ _ _ _ _ _ _ (by assumption) (by assumption) _).mono ?_)
          rintro r w2 ⟨z0, z1, z2, z3, z4, rfl, hZ, hg⟩
          refine ⟨_, rfl, ?_⟩
          simp only [Act.put, List.setIfInBounds_toArray, List.set_cons_zero, List.set_cons_succ, List.getElem_toArray, List.getElem_cons_zero, List.getElem_cons_succ]
          exact hK' _ _ (hK _ _ ⟨z0, z1, z2, z3, z4, rfl, hZ⟩ hg)
        · intro b1 b2 b3 b4 l1 l2 l3 l4 x y u K hm h1 h2 h3 h4 hu hK
          obtain ⟨rfl, rfl⟩ := Bool.and_eq_true_iff.1 hm
          obtain rfl := h3 rfl
          obtain rfl := h4 rfl
          refine wpOp_step (o := _) rfl (fun K' hK' => ?_)
          refine step_callw (by kernel_rfl) 20 #[(.agg (kc (digs Q 32))), (.agg (kc (digs P 32)))] (by kernel_rfl) ((rsub_ok Q P _ (unhide tY) (unhide bX)).mono ?_)
          rintro r w2 ⟨rfl, hg⟩
          refine ⟨_, rfl, ?_⟩
          simp only [Act.put, List.setIfInBounds_toArray, List.set_cons_zero, List.set_cons_succ, List.getElem_toArray, List.getElem_cons_zero, List.getElem_cons_succ]
          exact hK' _ _ (hK _ _ (by rw [unhide hP, unhide hQ, ← Int.sub_emod]) hg)
        · intro l1 l2 l3 l4 d y u K hu hd hK
          refine wpOp_step (o := _) rfl (fun K' hK' => ?_)
          rw [if_pos (by kernel_rfl)]
          simp only [Go.wp_at_zero, Go.wp_at_succ]
          refine wp_store_row 29 (.tmp 7) (.tmp 52) rfl g1 d (by kernel_rfl) (by kernel_rfl) 29 _ (hu.blk (unhide hb1)) (by rw [Try.infoElem, hd.size]) (by rw [hd.size]; rfl) hd.one ?_
          simp only [Act.put, List.setIfInBounds_toArray, List.set_cons_zero, List.set_cons_succ, List.getElem_toArray, List.getElem_cons_zero, List.getElem_cons_succ]
          exact hK' _ _ hK
        · intro l1 l2 l3 l4 d1 d2 u K hu hd1 hd2 hK
          refine wpOp_step (o := _) rfl (fun K' hK' => ?_)
          rw [if_pos (by kernel_rfl)]
          simp only [Go.wp_at_zero, Go.wp_at_succ]
          refine wp_store_row 23 (.tmp 9) (.tmp 55) rfl g3 d2 (by kernel_rfl) (by kernel_rfl) 23 _ ((setRow_other _ _ _ _ (kb_elem (unhide hb1) (unhide hb3)).symm).trans (hu.blk (unhide hb3))) (by rw [Try.infoKey, show d2.size = 32 by rw [hd2, kc_size, digs_len]]) (by rw [hd2, kc_size, kc_size, digs_len, digs_len]) (by rw [hd2]; exact kc_one _) ?_
          simp only [Act.put, List.setIfInBounds_toArray, List.set_cons_zero, List.set_cons_succ, List.getElem_toArray, List.getElem_cons_zero, List.getElem_cons_succ]
          exact hK' _ _ hK
        rintro d1 d2 u hu ⟨z0, z1, z2, z3, z4, rfl, hZ⟩ rfl
        have hC2 := hide ((unhide hC).setA hu (unhide hAp) (Y - X) z0 z1 z2 z3 z4 (unhide hZ))
        clear hC hb1 hb2 hb3 hb4 hu
        generalize World.setRow _ _ _ = v2 at *
        go_wp2_with fail
        go_roundw
        case rel => exact ⟨k + 1, (Y - X), Y, z0, z1, z2, z3, z4, y0, y1, y2, y3, y4, by omega, by go_num, hC2⟩
        case measure => simp [intOf]; omega
      · have hsc := hs5
        go_upto_region 16 with fail
        refine wp_region_held_drew (S := fun _ => True) (by kernel_rfl) trivial (fun _ => ?_)
        refine assign3 wr.drew _ (fun b1 b2 b3 b4 b5 b6 b7 => #[b1, b4, b2, b3, b5, b6, b7]) (fun b1 _ _ => b1) (fun _ b2 b3 => b2 && b3) (.agg #[.int .u64 x0, .int .u64 x1, .int .u64 x2, .int .u64 x3, .int .u64 x4]) (.agg (kc (digs 0 32))) (.agg (kc (digs P 32))) (EC (0 - X)) (fun c => c = kc (digs ((0 - X) % pp) 32)) g2 g4 0 2 3 1 4 5 6 (by kernel_rfl) (fun _ _ _ _ _ _ _ => ⟨rfl, rfl, rfl, rfl, rfl, rfl, rfl⟩) ?_ ?_ ?_ ?_ ?_ ?_ ?_ ?_ _ _ _ _ (by decide +kernel) (a3_start _ _ _ _ 58 60 61 59 62 _ _ _ _ _ _ _ _ _ _ rfl (Gr.refl _))
        all_goals simp only [fa3, Act.put, List.setIfInBounds_toArray, List.set_cons_zero, List.set_cons_succ, List.getElem_toArray, List.getElem_cons_zero, List.getElem_cons_succ]
        · intro l1 l2 l3 x y u K hu hK
          refine wpOp_step (o := _) rfl (fun K' hK' => ?_)
          rw [if_pos (by kernel_rfl)]
          (try simp only [Go.wp_at_zero, Go.wp_at_succ])
          refine wp_load_mid 29 (.tmp 7) rfl g1 0 (by kernel_rfl) [.int .u64 x0, .int .u64 x1, .int .u64 x2, .int .u64 x3, .int .u64 x4] _ (range_row (hu.blk (unhide hb1))) Try.underlying29 rfl Try.infoElem ?_
          simp only [Act.put, List.setIfInBounds_toArray, List.set_cons_zero, List.set_cons_succ, List.getElem_toArray, List.getElem_cons_zero, List.getElem_cons_succ]
          exact hK' _ _ hK
        · intro l1 l2 l3 x y u K hu hK
          refine wpOp_step (o := _) rfl (fun K' hK' => ?_)
          refine step_value (by kernel_rfl) (.agg (kc (digs 0 32))) (by kernel_rfl) ?_
          simp only [Act.put, List.setIfInBounds_toArray, List.set_cons_zero, List.set_cons_succ, List.getElem_toArray, List.getElem_cons_zero, List.getElem_cons_succ]
          exact hK' _ _ hK
        · intro l1 l2 l3 x y u K hu hK
          refine wpOp_step (o := _) rfl (fun K' hK' => ?_)
          rw [if_pos (by kernel_rfl)]
          (try simp only [Go.wp_at_zero, Go.wp_at_succ])
          refine wp_load_mid 23 (.tmp 9) rfl g3 0 (by kernel_rfl) ((digs P 32).map (Value.int .u8)) _ (range_row (hu.blk (unhide hb3))) Try.underlying23 rfl (by rw [Try.infoKey, List.length_map, digs_len]) ?_
          simp only [Act.put, List.setIfInBounds_toArray, List.set_cons_zero, List.set_cons_succ, List.getElem_toArray, List.getElem_cons_zero, List.getElem_cons_succ]
          exact hK' _ _ hK
        · intro b1 b2 b3 l1 l2 l3 x y u K hm h1 h2 h3 hu hK
          have hm2 : b1 = true := hm
          subst hm2
          obtain rfl := h1 rfl
          refine wpOp_step (o := _) rfl (fun K' hK' => ?_)
          refine step_callw (by kernel_rfl) 21 #[(.agg #[.int .u64 x0, .int .u64 x1, .int .u64 x2, .int .u64 x3, .int .u64 x4])] (by kernel_rfl) ((neg_at _ _ _ _ _ _ (by assumption) _).mono ?_)
          rintro r w2 ⟨z0, z1, z2, z3, z4, rfl, hZ, hg⟩
          refine ⟨_, rfl, ?_⟩
          simp only [Act.put, List.setIfInBounds_toArray, List.set_cons_zero, List.set_cons_succ, List.getElem_toArray, List.getElem_cons_zero, List.getElem_cons_succ]
          exact hK' _ _ (hK _ _ ⟨z0, z1, z2, z3, z4, rfl, hZ⟩ hg)
        · intro b1 b2 b3 l1 l2 l3 x y u K hm h1 h2 h3 hu hK
          obtain ⟨rfl, rfl⟩ := Bool.and_eq_true_iff.1 hm
          obtain rfl := h2 rfl
          obtain rfl := h3 rfl
          refine wpOp_step (o := _) rfl (fun K' hK' => ?_)
          refine step_callw (by kernel_rfl) 20 #[(.agg (kc (digs 0 32))), (.agg (kc (digs P 32)))] (by kernel_rfl) ((rsub_ok 0 P _ (unhide t0) (unhide bX)).mono ?_)
          rintro r w2 ⟨rfl, hg⟩
          refine ⟨_, rfl, ?_⟩
          simp only [Act.put, List.setIfInBounds_toArray, List.set_cons_zero, List.set_cons_succ, List.getElem_toArray, List.getElem_cons_zero, List.getElem_cons_succ]
          exact hK' _ _ (hK _ _ (by rw [unhide hP, Int.sub_emod, Int.emod_emod, ← Int.sub_emod]) hg)
        · intro l1 l2 l3 d y u K hu hd hK
          refine wpOp_step (o := _) rfl (fun K' hK' => ?_)
          rw [if_pos (by kernel_rfl)]
          simp only [Go.wp_at_zero, Go.wp_at_succ]
          refine wp_store_row 29 (.tmp 8) (.tmp 59) rfl g2 d (by kernel_rfl) (by kernel_rfl) 29 _ (hu.blk (unhide hb2)) (by rw [Try.infoElem, hd.size]) (by rw [hd.size]; rfl) hd.one ?_
          simp only [Act.put, List.setIfInBounds_toArray, List.set_cons_zero, List.set_cons_succ, List.getElem_toArray, List.getElem_cons_zero, List.getElem_cons_succ]
          exact hK' _ _ hK
        · intro l1 l2 l3 d1 d2 u K hu hd1 hd2 hK
          refine wpOp_step (o := _) rfl (fun K' hK' => ?_)
          rw [if_pos (by kernel_rfl)]
          simp only [Go.wp_at_zero, Go.wp_at_succ]
          refine wp_store_row 23 (.tmp 10) (.tmp 62) rfl g4 d2 (by kernel_rfl) (by kernel_rfl) 23 _ ((setRow_other _ _ _ _ (kb_elem (unhide hb2) (unhide hb4)).symm).trans (hu.blk (unhide hb4))) (by rw [Try.infoKey, show d2.size = 32 by rw [hd2, kc_size, digs_len]]) (by rw [hd2, kc_size, kc_size, digs_len, digs_len]) (by rw [hd2]; exact kc_one _) ?_
          simp only [Act.put, List.setIfInBounds_toArray, List.set_cons_zero, List.set_cons_succ, List.getElem_toArray, List.getElem_cons_zero, List.getElem_cons_succ]
          exact hK' _ _ hK
        rintro d1 d2 u hu ⟨z0, z1, z2, z3, z4, rfl, hZ⟩ rfl
        have hC2 := hide ((unhide hC).setB hu (unhide hAp) (0 - X) z0 z1 z2 z3 z4 (unhide hZ))
        clear hC hb1 hb2 hb3 hb4 hu
        generalize World.setRow _ _ _ = v2 at *
        go_wp2_with fail
        go_roundw
        case rel => exact ⟨k + 1, X, (0 - X), x0, x1, x2, x3, x4, z0, z1, z2, z3, z4, by omega, by go_num, hC2⟩
        case measure => simp [intOf]; omega
      · have hsc := hs5
        go_upto_region 18 with fail
        refine wp_region_held_drew (S := fun _ => True) (by kernel_rfl) trivial (fun _ => ?_)
        refine assign4 wr.drew _ (fun b1 b2 b3 b4 b5 b6 b7 b8 => #[b1, b2, b5, b3, b4, b6, b7, b8]) (fun b1 b2 _ _ => b1 && b2) (fun _ _ b3 b4 => b3 && b4) (.agg #[.int .u64 y0, .int .u64 y1, .int .u64 y2, .int .u64 y3, .int .u64 y4]) (.agg #[.int .u64 x0, .int .u64 x1, .int .u64 x2, .int .u64 x3, .int .u64 x4]) (.agg (kc (digs Q 32))) (.agg (kc (digs P 32))) (EC (Y - X)) (fun c => c = kc (digs ((Y - X) % pp) 32)) g2 g4 0 1 3 4 2 5 6 7 (by kernel_rfl) (fun _ _ _ _ _ _ _ _ => ⟨rfl, rfl, rfl, rfl, rfl, rfl, rfl, rfl⟩) ?_ ?_ ?_ ?_ ?_ ?_ ?_ ?_ ?_ _ _ _ _ (by decide +kernel) (a4_start _ _ _ _ 65 66 68 69 67 70 _ _ _ _ _ _ _ _ _ _ _ rfl (Gr.refl _))
        all_goals simp only [fa4, Act.put, List.setIfInBounds_toArray, List.set_cons_zero, List.set_cons_succ, List.getElem_toArray, List.getElem_cons_zero, List.getElem_cons_succ]
        · intro l1 l2 l3 l4 x y u K hu hK
          refine wpOp_step (o := _) rfl (fun K' hK' => ?_)
          rw [if_pos (by kernel_rfl)]
          (try simp only [Go.wp_at_zero, Go.wp_at_succ])
          refine wp_load_mid 29 (.tmp 8) rfl g2 0 (by kernel_rfl) [.int .u64 y0, .int .u64 y1, .int .u64 y2, .int .u64 y3, .int .u64 y4] _ (range_row (hu.blk (unhide hb2))) Try.underlying29 rfl Try.infoElem ?_
          simp only [Act.put, List.setIfInBounds_toArray, List.set_cons_zero, List.set_cons_succ, List.getElem_toArray, List.getElem_cons_zero, List.getElem_cons_succ]
          exact hK' _ _ hK
        · intro l1 l2 l3 l4 x y u K hu hK
          refine wpOp_step (o := _) rfl (fun K' hK' => ?_)
          rw [if_pos (by kernel_rfl)]
          (try simp only [Go.wp_at_zero, Go.wp_at_succ])
          refine wp_load_mid 29 (.tmp 7) rfl g1 0 (by kernel_rfl) [.int .u64 x0, .int .u64 x1, .int .u64 x2, .int .u64 x3, .int .u64 x4] _ (range_row (hu.blk (unhide hb1))) Try.underlying29 rfl Try.infoElem ?_
          simp only [Act.put, List.setIfInBounds_toArray, List.set_cons_zero, List.set_cons_succ, List.getElem_toArray, List.getElem_cons_zero, List.getElem_cons_succ]
          exact hK' _ _ hK
        · intro l1 l2 l3 l4 x y u K hu hK
          refine wpOp_step (o := _) rfl (fun K' hK' => ?_)
          rw [if_pos (by kernel_rfl)]
          (try simp only [Go.wp_at_zero, Go.wp_at_succ])
          refine wp_load_mid 23 (.tmp 10) rfl g4 0 (by kernel_rfl) ((digs Q 32).map (Value.int .u8)) _ (range_row (hu.blk (unhide hb4))) Try.underlying23 rfl (by rw [Try.infoKey, List.length_map, digs_len]) ?_
          simp only [Act.put, List.setIfInBounds_toArray, List.set_cons_zero, List.set_cons_succ, List.getElem_toArray, List.getElem_cons_zero, List.getElem_cons_succ]
          exact hK' _ _ hK
        · intro l1 l2 l3 l4 x y u K hu hK
          refine wpOp_step (o := _) rfl (fun K' hK' => ?_)
          rw [if_pos (by kernel_rfl)]
          (try simp only [Go.wp_at_zero, Go.wp_at_succ])
          refine wp_load_mid 23 (.tmp 9) rfl g3 0 (by kernel_rfl) ((digs P 32).map (Value.int .u8)) _ (range_row (hu.blk (unhide hb3))) Try.underlying23 rfl (by rw [Try.infoKey, List.length_map, digs_len]) ?_
          simp only [Act.put, List.setIfInBounds_toArray, List.set_cons_zero, List.set_cons_succ, List.getElem_toArray, List.getElem_cons_zero, List.getElem_cons_succ]
          exact hK' _ _ hK
        · intro b1 b2 b3 b4 l1 l2 l3 l4 x y u K hm h1 h2 h3 h4 hu hK
          obtain ⟨rfl, rfl⟩ := Bool.and_eq_true_iff.1 hm
          obtain rfl := h1 rfl
          obtain rfl := h2 rfl
          refine wpOp_step (o := _) rfl (fun K' hK' => ?_)
          refine step_callw (by kernel_rfl) 19 #[(.agg #[.int .u64 y0, .int .u64 y1, .int .u64 y2, .int .u64 y3, .int .u64 y4]), (.agg #[.int .u64 x0, .int .u64 x1, .int .u64 x2, .int .u64 x3, .int .u64 x4])] (by kernel_rfl) ((sub_at _ _ _ _ _ _ _ _ _ _ _ _ (by assumption) (by assumption) _).mono ?_)
          rintro r w2 ⟨z0, z1, z2, z3, z4, rfl, hZ, hg⟩
          refine ⟨_, rfl, ?_⟩
          simp only [Act.put, List.setIfInBounds_toArray, List.set_cons_zero, List.set_cons_succ, List.getElem_toArray, List.getElem_cons_zero, List.getElem_cons_succ]
          exact hK' _ _ (hK _ _ ⟨z0, z1, z2, z3, z4, rfl, hZ⟩ hg)
        · intro b1 b2 b3 b4 l1 l2 l3 l4 x y u K hm h1 h2 h3 h4 hu hK
          obtain ⟨rfl, rfl⟩ := Bool.and_eq_true_iff.1 hm
          obtain rfl := h3 rfl
          obtain rfl := h4 rfl
          refine wpOp_step (o := _) rfl (fun K' hK' => ?_)
          refine step_callw (by kernel_rfl) 20 #[(.agg (kc (digs Q 32))), (.agg (kc (digs P 32)))] (by kernel_rfl) ((rsub_ok Q P _ (unhide tY) (unhide bX)).mono ?_)
          rintro r w2 ⟨rfl, hg⟩
          refine ⟨_, rfl, ?_⟩
          simp only [Act.put, List.setIfInBounds_toArray, List.set_cons_zero, List.set_cons_succ, List.getElem_toArray, List.getElem_cons_zero, List.getElem_cons_succ]
          exact hK' _ _ (hK _ _ (by rw [unhide hP, unhide hQ, ← Int.sub_emod]) hg)
        · intro l1 l2 l3 l4 d y u K hu hd hK
          refine wpOp_step (o := _) rfl (fun K' hK' => ?_)
          rw [if_pos (by kernel_rfl)]
          simp only [Go.wp_at_zero, Go.wp_at_succ]
          refine wp_store_row 29 (.tmp 8) (.tmp 67) rfl g2 d (by kernel_rfl) (by kernel_rfl) 29 _ (hu.blk (unhide hb2)) (by rw [Try.infoElem, hd.size]) (by rw [hd.size]; rfl) hd.one ?_
          simp only [Act.put, List.setIfInBounds_toArray, List.set_cons_zero, List.set_cons_succ, List.getElem_toArray, List.getElem_cons_zero, List.getElem_cons_succ]
          exact hK' _ _ hK
        · intro l1 l2 l3 l4 d1 d2 u K hu hd1 hd2 hK
          refine wpOp_step (o := _) rfl (fun K' hK' => ?_)
          rw [if_pos (by kernel_rfl)]
          simp only [Go.wp_at_zero, Go.wp_at_succ]
          refine wp_store_row 23 (.tmp 10) (.tmp 70) rfl g4 d2 (by kernel_rfl) (by kernel_rfl) 23 _ ((setRow_other _ _ _ _ (kb_elem (unhide hb2) (unhide hb4)).symm).trans (hu.blk (unhide hb4))) (by rw [Try.infoKey, show d2.size = 32 by rw [hd2, kc_size, digs_len]]) (by rw [hd2, kc_size, kc_size, digs_len, digs_len]) (by rw [hd2]; exact kc_one _) ?_
          simp only [Act.put, List.setIfInBounds_toArray, List.set_cons_zero, List.set_cons_succ, List.getElem_toArray, List.getElem_cons_zero, List.getElem_cons_succ]
          exact hK' _ _ hK
        rintro d1 d2 u hu ⟨z0, z1, z2, z3, z4, rfl, hZ⟩ rfl
        have hC2 := hide ((unhide hC).setB hu (unhide hAp) (Y - X) z0 z1 z2 z3 z4 (unhide hZ))
        clear hC hb1 hb2 hb3 hb4 hu
        generalize World.setRow _ _ _ = v2 at *
        go_wp2_with fail
        go_roundw
        case rel => exact ⟨k + 1, X, (Y - X), x0, x1, x2, x3, x4, z0, z1, z2, z3, z4, by omega, by go_num, hC2⟩
        case measure => simp [intOf]; omega
      · have hsc := hs5
        go_upto_region 10 with fail
        refine wp_region_held_drew (S := fun _ => True) (by kernel_rfl) trivial (fun _ => ?_)
        refine assign4 wr.drew _ (fun b1 b2 b3 b4 b5 b6 b7 b8 => #[b1, b2, b5, b3, b4, b6, b7, b8]) (fun b1 b2 _ _ => b1 && b2) (fun _ _ b3 b4 => b3 && b4) (.agg #[.int .u64 x0, .int .u64 x1, .int .u64 x2, .int .u64 x3, .int .u64 x4]) (.agg #[.int .u64 y0, .int .u64 y1, .int .u64 y2, .int .u64 y3, .int .u64 y4]) (.agg (kc (digs P 32))) (.agg (kc (digs Q 32))) (EC (X * Y)) (fun c => c = kc (digs ((X * Y) % pp) 32)) g1 g3 0 1 3 4 2 5 6 7 (by kernel_rfl) (fun _ _ _ _ _ _ _ _ => ⟨rfl, rfl, rfl, rfl, rfl, rfl, rfl, rfl⟩) ?_ ?_ ?_ ?_ ?_ ?_ ?_ ?_ ?_ _ _ _ _ (by decide +kernel) (a4_start _ _ _ _ 34 35 37 38 36 39 _ _ _ _ _ _ _ _ _ _ _ rfl (Gr.refl _))
        all_goals simp only [fa4, Act.put, List.setIfInBounds_toArray, List.set_cons_zero, List.set_cons_succ, List.getElem_toArray, List.getElem_cons_zero, List.getElem_cons_succ]
        · intro l1 l2 l3 l4 x y u K hu hK
          refine wpOp_step (o := _) rfl (fun K' hK' => ?_)
          rw [if_pos (by kernel_rfl)]
          (try simp only [Go.wp_at_zero, Go.wp_at_succ])
          refine wp_load_mid 29 (.tmp 7) rfl g1 0 (by kernel_rfl) [.int .u64 x0, .int .u64 x1, .int .u64 x2, .int .u64 x3, .int .u64 x4] _ (range_row (hu.blk (unhide hb1))) Try.underlying29 rfl Try.infoElem ?_
          simp only [Act.put, List.setIfInBounds_toArray, List.set_cons_zero, List.set_cons_succ, List.getElem_toArray, List.getElem_cons_zero, List.getElem_cons_succ]
          exact hK' _ _ hK
        · intro l1 l2 l3 l4 x y u K hu hK
          refine wpOp_step (o := _) rfl (fun K' hK' => ?_)
          rw [if_pos (by kernel_rfl)]
          (try simp only [Go.wp_at_zero, Go.wp_at_succ])
          refine wp_load_mid 29 (.tmp 8) rfl g2 0 (by kernel_rfl) [.int .u64 y0, .int .u64 y1, .int .u64 y2, .int .u64 y3, .int .u64 y4] _ (range_row (hu.blk (unhide hb2))) Try.underlying29 rfl Try.infoElem ?_
          simp only [Act.put, List.setIfInBounds_toArray, List.set_cons_zero, List.set_cons_succ, List.getElem_toArray, List.getElem_cons_zero, List.getElem_cons_succ]
          exact hK' _ _ hK
        · intro l1 l2 l3 l4 x y u K hu hK
          refine wpOp_step (o := _) rfl (fun K' hK' => ?_)
          rw [if_pos (by kernel_rfl)]
          (try simp only [Go.wp_at_zero, Go.wp_at_succ])
          refine wp_load_mid 23 (.tmp 9) rfl g3 0 (by kernel_rfl) ((digs P 32).map (Value.int .u8)) _ (range_row (hu.blk (unhide hb3))) Try.underlying23 rfl (by rw [Try.infoKey, List.length_map, digs_len]) ?_
          simp only [Act.put, List.setIfInBounds_toArray, List.set_cons_zero, List.set_cons_succ, List.getElem_toArray, List.getElem_cons_zero, List.getElem_cons_succ]
          exact hK' _ _ hK
        · intro l1 l2 l3 l4 x y u K hu hK
          refine wpOp_step (o := _) rfl (fun K' hK' => ?_)
          rw [if_pos (by kernel_rfl)]
          (try simp only [Go.wp_at_zero, Go.wp_at_succ])
          refine wp_load_mid 23 (.tmp 10) rfl g4 0 (by kernel_rfl) ((digs Q 32).map (Value.int .u8)) _ (range_row (hu.blk (unhide hb4))) Try.underlying23 rfl (by rw [Try.infoKey, List.length_map, digs_len]) ?_
          simp only [Act.put, List.setIfInBounds_toArray, List.set_cons_zero, List.set_cons_succ, List.getElem_toArray, List.getElem_cons_zero, List.getElem_cons_succ]
          exact hK' _ _ hK
        · intro b1 b2 b3 b4 l1 l2 l3 l4 x y u K hm h1 h2 h3 h4 hu hK
          obtain ⟨rfl, rfl⟩ := Bool.and_eq_true_iff.1 hm
          obtain rfl := h1 rfl
          obtain rfl := h2 rfl
          refine wpOp_step (o := _) rfl (fun K' hK' => ?_)
          refine step_callw (by kernel_rfl) 22 #[(.agg #[.int .u64 x0, .int .u64 x1, .int .u64 x2, .int .u64 x3, .int .u64 x4]), (.agg #[.int .u64 y0, .int .u64 y1, .int .u64 y2, .int .u64 y3, .int .u64 y4])] (by kernel_rfl) ((mul_at _ _ _ _ _ _ _ _ _ _ _ _ (by assumption) (by assumption) _).mono ?_)
          rintro r w2 ⟨z0, z1, z2, z3, z4, rfl, hZ, hg⟩
          refine ⟨_, rfl, ?_⟩
          simp only [Act.put, List.setIfInBounds_toArray, List.set_cons_zero, List.set_cons_succ, List.getElem_toArray, List.getElem_cons_zero, List.getElem_cons_succ]
          exact hK' _ _ (hK _ _ ⟨z0, z1, z2, z3, z4, rfl, hZ⟩ hg)
        · intro b1 b2 b3 b4 l1 l2 l3 l4 x y u K hm h1 h2 h3 h4 hu hK
          obtain ⟨rfl, rfl⟩ := Bool.and_eq_true_iff.1 hm
          obtain rfl := h3 rfl
          obtain rfl := h4 rfl
          refine wpOp_step (o := _) rfl (fun K' hK' => ?_)
          refine step_callw (by kernel_rfl) 23 #[(.agg (kc (digs P 32))), (.agg (kc (digs Q 32)))] (by kernel_rfl) ((rmul_ok P Q _ (unhide tX) (unhide tY)).mono ?_)
          rintro r w2 ⟨rfl, hg⟩
          refine ⟨_, rfl, ?_⟩
          simp only [Act.put, List.setIfInBounds_toArray, List.set_cons_zero, List.set_cons_succ, List.getElem_toArray, List.getElem_cons_zero, List.getElem_cons_succ]
          exact hK' _ _ (hK _ _ (by rw [unhide hP, unhide hQ, ← Int.mul_emod]) hg)
        · intro l1 l2 l3 l4 d y u K hu hd hK
          refine wpOp_step (o := _) rfl (fun K' hK' => ?_)
          rw [if_pos (by kernel_rfl)]
          simp only [Go.wp_at_zero, Go.wp_at_succ]
          refine wp_store_row 29 (.tmp 7) (.tmp 36) rfl g1 d (by kernel_rfl) (by kernel_rfl) 29 _ (hu.blk (unhide hb1)) (by rw [Try.infoElem, hd.size]) (by rw [hd.size]; rfl) hd.one ?_
          simp only [Act.put, List.setIfInBounds_toArray, List.set_cons_zero, List.set_cons_succ, List.getElem_toArray, List.getElem_cons_zero, List.getElem_cons_succ]
          exact hK' _ _ hK
        · intro l1 l2 l3 l4 d1 d2 u K hu hd1 hd2 hK
          refine wpOp_step (o := _) rfl (fun K' hK' => ?_)
          rw [if_pos (by kernel_rfl)]
          simp only [Go.wp_at_zero, Go.wp_at_succ]
          refine wp_store_row 23 (.tmp 9) (.tmp 39) rfl g3 d2 (by kernel_rfl) (by kernel_rfl) 23 _ ((setRow_other _ _ _ _ (kb_elem (unhide hb1) (unhide hb3)).symm).trans (hu.blk (unhide hb3))) (by rw [Try.infoKey, show d2.size = 32 by rw [hd2, kc_size, digs_len]]) (by rw [hd2, kc_size, kc_size, digs_len, digs_len]) (by rw [hd2]; exact kc_one _) ?_
          simp only [Act.put, List.setIfInBounds_toArray, List.set_cons_zero, List.set_cons_succ, List.getElem_toArray, List.getElem_cons_zero, List.getElem_cons_succ]
          exact hK' _ _ hK
        rintro d1 d2 u hu ⟨z0, z1, z2, z3, z4, rfl, hZ⟩ rfl
        have hC2 := hide ((unhide hC).setA hu (unhide hAp) (X * Y) z0 z1 z2 z3 z4 (unhide hZ))
        clear hC hb1 hb2 hb3 hb4 hu
        generalize World.setRow _ _ _ = v2 at *
        go_wp2_with fail
        go_roundw
        case rel => exact ⟨k + 1, (X * Y), Y, z0, z1, z2, z3, z4, y0, y1, y2, y3, y4, by omega, by go_num, hC2⟩
        case measure => simp [intOf]; omega
  · have ekl : k = ln := by omega
    subst ekl
    go_upto_region 20 with fail
    refine wp_region_held_drew (S := fun x => Gr wr.drew x) (by kernel_rfl) (Gr.refl _) (fun hS0 => ?_)
    refine wpAnyH_take (i := 0) (v := (.agg #[.int .u64 x0, .int .u64 x1, .int .u64 x2, .int .u64 x3, .int .u64 x4])) rfl (by kernel_rfl) (by kernel_rfl) (by kernel_rfl) (fun _ _ _ h => h) (.inl ⟨by kernel_rfl, fun u hu => exec_row u 29 (.tmp 7) rfl g1 0 (by kernel_rfl) [.int .u64 x0, .int .u64 x1, .int .u64 x2, .int .u64 x3, .int .u64 x4] _ (range_row (hu.blk (unhide hb1))) Try.underlying29 rfl Try.infoElem⟩) hS0 ?_
    simp only [Act.put, List.setIfInBounds_toArray, List.set_cons_zero, List.set_cons_succ, List.getElem_toArray, List.getElem_cons_zero, List.getElem_cons_succ]
    refine wpAnyH_take (i := 2) (v := (.agg (kc (digs P 32)))) rfl (by kernel_rfl) (by kernel_rfl) (by kernel_rfl) (fun _ _ _ h => h) (.inl ⟨by kernel_rfl, fun u hu => exec_row u 23 (.tmp 9) rfl g3 0 (by kernel_rfl) ((digs P 32).map (Value.int .u8)) (.array 32 5) (range_row (hu.blk (unhide hb3))) Try.underlying23 rfl (by rw [Try.infoKey, List.length_map, digs_len])⟩) hS0 ?_
    simp only [Act.put, List.setIfInBounds_toArray, List.set_cons_zero, List.set_cons_succ, List.getElem_toArray, List.getElem_cons_zero, List.getElem_cons_succ]
    refine wpAnyH_ready (rs := [1]) (by kernel_rfl) (by simp) (AllReadyH.cons (o := _) rfl (fun K hK => ?_) AllReadyH.nil)
    refine step_callw (by kernel_rfl) 13 #[(.agg #[.int .u64 x0, .int .u64 x1, .int .u64 x2, .int .u64 x3, .int .u64 x4])] (by kernel_rfl) ((bytes_at _ _ _ _ _ _ (by assumption) _).mono ?_)
    rintro r w1_ ⟨rfl, hg⟩
    rw [← unhide hP]
    refine ⟨_, rfl, ?_⟩
    have hS1_ : Gr wr.drew w1_ := Gr.trans hS0 hg
    clear hg
    refine hK.out _ _ hS1_ (fun _ => ?_)
    clear hK K
    simp only [Act.put, List.setIfInBounds_toArray, List.set_cons_zero, List.set_cons_succ, List.getElem_toArray, List.getElem_cons_zero, List.getElem_cons_succ]
    refine wpAnyH_take (i := 3) (v := (.bool true)) rfl (by kernel_rfl) (by kernel_rfl) (by kernel_rfl) (fun _ _ _ h => h) (.inl ⟨by kernel_rfl, fun u hu => by have e := key_same P; go_simp⟩) hS1_ ?_
    simp only [Act.put, List.setIfInBounds_toArray, List.set_cons_zero, List.set_cons_succ, List.getElem_toArray, List.getElem_cons_zero, List.getElem_cons_succ]
    refine wpAnyH_take (i := 4) (v := (.bool true)) rfl (by kernel_rfl) (by kernel_rfl) (by kernel_rfl) (fun _ _ _ h => h) (.inl ⟨by kernel_rfl, fun u hu => by kernel_rfl⟩) hS1_ ?_
    simp only [Act.put, List.setIfInBounds_toArray, List.set_cons_zero, List.set_cons_succ, List.getElem_toArray, List.getElem_cons_zero, List.getElem_cons_succ]
    refine wpAnyH_take (i := 5) (v := (.agg #[.int .u64 y0, .int .u64 y1, .int .u64 y2, .int .u64 y3, .int .u64 y4])) rfl (by kernel_rfl) (by kernel_rfl) (by kernel_rfl) (fun _ _ _ h => h) (.inl ⟨by kernel_rfl, fun u hu => exec_row u 29 (.tmp 8) rfl g2 0 (by kernel_rfl) [.int .u64 y0, .int .u64 y1, .int .u64 y2, .int .u64 y3, .int .u64 y4] _ (range_row (hu.blk (unhide hb2))) Try.underlying29 rfl Try.infoElem⟩) hS1_ ?_
    simp only [Act.put, List.setIfInBounds_toArray, List.set_cons_zero, List.set_cons_succ, List.getElem_toArray, List.getElem_cons_zero, List.getElem_cons_succ]
    refine wpAnyH_take (i := 7) (v := (.agg (kc (digs Q 32)))) rfl (by kernel_rfl) (by kernel_rfl) (by kernel_rfl) (fun _ _ _ h => h) (.inl ⟨by kernel_rfl, fun u hu => exec_row u 23 (.tmp 10) rfl g4 0 (by kernel_rfl) ((digs Q 32).map (Value.int .u8)) (.array 32 5) (range_row (hu.blk (unhide hb4))) Try.underlying23 rfl (by rw [Try.infoKey, List.length_map, digs_len])⟩) hS1_ ?_
    simp only [Act.put, List.setIfInBounds_toArray, List.set_cons_zero, List.set_cons_succ, List.getElem_toArray, List.getElem_cons_zero, List.getElem_cons_succ]
    refine wpAnyH_ready (rs := [6]) (by kernel_rfl) (by simp) (AllReadyH.cons (o := _) rfl (fun K hK => ?_) AllReadyH.nil)
    refine step_callw (by kernel_rfl) 13 #[(.agg #[.int .u64 y0, .int .u64 y1, .int .u64 y2, .int .u64 y3, .int .u64 y4])] (by kernel_rfl) ((bytes_at _ _ _ _ _ _ (by assumption) _).mono ?_)
    rintro r w2_ ⟨rfl, hg⟩
    rw [← unhide hQ]
    refine ⟨_, rfl, ?_⟩
    have hS2_ : Gr wr.drew w2_ := Gr.trans hS1_ hg
    clear hg
    refine hK.out _ _ hS2_ (fun _ => ?_)
    clear hK K
    simp only [Act.put, List.setIfInBounds_toArray, List.set_cons_zero, List.set_cons_succ, List.getElem_toArray, List.getElem_cons_zero, List.getElem_cons_succ]
    refine wpAnyH_take (i := 8) (v := (.bool true)) rfl (by kernel_rfl) (by kernel_rfl) (by kernel_rfl) (fun _ _ _ h => h) (.inl ⟨by kernel_rfl, fun u hu => by have e := key_same Q; go_simp⟩) hS2_ ?_
    simp only [Act.put, List.setIfInBounds_toArray, List.set_cons_zero, List.set_cons_succ, List.getElem_toArray, List.getElem_cons_zero, List.getElem_cons_succ]
    refine wpAnyH_take (i := 9) (v := (.bool true)) rfl (by kernel_rfl) (by kernel_rfl) (by kernel_rfl) (fun _ _ _ h => h) (.inl ⟨by kernel_rfl, fun u hu => by kernel_rfl⟩) hS2_ ?_
    simp only [Act.put, List.setIfInBounds_toArray, List.set_cons_zero, List.set_cons_succ, List.getElem_toArray, List.getElem_cons_zero, List.getElem_cons_succ]
    refine wpAnyH_ready (rs := [10]) (by kernel_rfl) (by simp) (AllReadyH.cons (o := _) rfl (fun K hK => ?_) AllReadyH.nil)
    go_simp
    refine hK.out _ _ hS2_ (fun _ => ?_)
    clear hK K
    refine wpAnyH_done (by kernel_rfl) ?_ _
    go_wp2_with fail
    refine bodyPost_ret (v := .bool true) ?_ rfl ?_
    · simp [results, Try.results8, go_sem]
    · exact ⟨rfl, (unhide hC).1.trans (((Gr.refl _).drew).trans hS2_)⟩
end Go.Proofs.Ytjncnmhigikdoaa
