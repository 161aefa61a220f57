/-
  The laws' own helpers: a disk to which ops were done; does the layer do anything?
-/
import Derived.Test.YthgchjdjacbcgaaDkO
namespace Go.Proofs.Ythgchjdjacbcgaa
open Go.RowKit
set_option maxRecDepth 100000
set_option linter.unusedSimpArgs false
set_option linter.unusedVariables false
/-- a disk of six to which the first j of the ops were done that read, write or sync -/
def wrn (l : List Opl) : Nat → Dk
  | 0 => dk0 6
  | j + 1 => if (l.getD j op0).k < 3 then (wrn l j).opD (l.getD j op0) else wrn l j
theorem op0_ok : op0.Ok := ⟨by decide, by decide, by decide, by decide, by decide, by decide, by decide⟩
theorem getD_ok {l : List Opl} (h : ∀ o ∈ l, o.Ok) (j : Nat) : (l.getD j op0).Ok := by
  rcases Nat.lt_or_ge j l.length with hj | hj
  · exact h _ (mem_of_getD hj)
  · rw [List.getD_eq_getElem?_getD, List.getElem?_eq_none hj]
    exact op0_ok
theorem wrn_ok {l : List Opl} (h : ∀ o ∈ l, o.Ok) : ∀ j, (wrn l j).Ok j
  | 0 => dk0_ok 6 (by omega) (by omega)
  | j + 1 => by
    unfold wrn
    split
    · exact (wrn_ok h j).op _ (getD_ok h j)
    · exact (wrn_ok h j).up (by omega)
def wornD (l : List Opl) : Dk := wrn (l.take 120) (l.take 120).length
theorem opv_zero : opv op0 none 0 0 = #[.int .i64 0, .int .i64 0, .int .u8 0, .slice none 0 0] := rfl
theorem opv_one (o : Opl) (ka : Option Addr) (kn kp : Nat) : (opv o ka kn kp).all (·.oneCell') = true := by unfold opv; simp [Value.oneCell']
theorem exec_lop {op : Oper} {a : Act} (w : World) (x : Operand) (ho : op.op = .load 37 x) (p o : Nat) (hx : a.eval x = .pointer (some ⟨p, o, none⟩)) (q : Opl) (ka : Option Addr) (kn kp : Nat) (h : w.rangeAt p o (opv q ka kn kp).toList) :
    (execOp a.eval op).run Try.prog w = .ok (.value (.agg (opv q ka kn kp))) w := by
  have h1 := exec_row (P := Try.prog) w 37 x ho p o hx (opv q ka kn kp).toList _ h Try.underlying37 rfl (by rw [Try.infoO]; rfl)
  simpa using h1
theorem Chg.newF {F F' : List Nat} {w u v : World} (k : Chg F F' u v) (hs : w.heap.size ≤ u.heap.size) (hF : ∀ i ∈ F, w.heap.size ≤ i) : ∀ i ∈ F', w.heap.size ≤ i := fun i hi => by
  rcases k.new i hi with h | h
  · exact hF i h
  · omega
/-- what worn answers -/
def Wrn (D : Dk) (w : World) (r : Ending) (w' : World) : Prop := ∃ g F, r = .returned (P0 g) ∧ Lies F g D w' ∧ (∀ i ∈ F, w.heap.size ≤ i) ∧ Gr w w'
set_option maxHeartbeats 4000000 in
theorem worn_ok (l : List Opl) (a : Option Addr) (n c : Nat) (w : World) (hl : Los w a n c l) : Calls Try.prog 23 #[.slice a n c] w (Wrn (wornD l) w) := by
  obtain ⟨T, hT⟩ : ∃ T, T = Wrn (wornD l) w := ⟨_, rfl⟩
  rw [← hT]
  replace hT := hide hT
  have hcap := hl.cap
  replace hl := hide hl
  go_enter Try.func23, Try.ntmps23
  go_upto_region 1 with fail
  refine wp_region_lit ?_
  refine list_call 10 #[.int .i64 6] (by kernel_rfl) (by kernel_rfl) ((dnew_ok 6 _).mono ?_)
  intro r u h6
  unfold Dne at h6
  rw [if_pos (by decide)] at h6
  obtain ⟨g, F, rfl, hL, hF, hG⟩ := h6
  replace hL : Lies F g (dk0 6) u := hL
  refine ⟨_, rfl, ?_⟩
  simp only [Act.put, List.setIfInBounds_toArray, List.set_cons_zero, List.set_cons_succ, List.getElem_toArray, List.getElem_cons_zero, List.getElem_cons_succ]
  refine list_val (.tuple #[.pointer (some ⟨g, 0, none⟩), .int .i64 0]) (by kernel_rfl) (by kernel_rfl) ?_
  simp only [Act.put, List.setIfInBounds_toArray, List.set_cons_zero, List.set_cons_succ, List.getElem_toArray, List.getElem_cons_zero, List.getElem_cons_succ]
  refine list_val (.pointer (some ⟨g, 0, none⟩)) (by kernel_rfl) (by kernel_rfl) ?_
  simp only [Act.put, List.setIfInBounds_toArray, List.set_cons_zero, List.set_cons_succ, List.getElem_toArray, List.getElem_cons_zero, List.getElem_cons_succ]
  refine list_val (.int .i64 0) (by kernel_rfl) (by kernel_rfl) ?_
  simp only [Act.put, List.setIfInBounds_toArray, List.set_cons_zero, List.set_cons_succ, List.getElem_toArray, List.getElem_cons_zero, List.getElem_cons_succ]
  (refine wpList_step fun K hK => ?_; replace hK := hide hK; go_simp; refine unhide hK _ _ ?_; clear hK K)
  (refine wpList_step fun K hK => ?_; replace hK := hide hK; go_simp; refine unhide hK _ _ ?_; clear hK K)
  refine wpList_nil ?_
  replace hL := hide hL; replace hG := hide hG
  go_upto_region 4 with fail
  refine wp_region_lit ?_
  refine list_val (.slice a n c) (by kernel_rfl) (by kernel_rfl) ?_
  simp only [Act.put, List.setIfInBounds_toArray, List.set_cons_zero, List.set_cons_succ, List.getElem_toArray, List.getElem_cons_zero, List.getElem_cons_succ]
  refine list_call 12 #[.slice a n c] (by kernel_rfl) (by kernel_rfl) ((few_ok a n c hcap _).mono ?_)
  rintro r u_ ⟨m, rfl, hm, hu⟩
  refine ⟨_, rfl, ?_⟩
  replace hu := hu.symm
  subst hu
  have hlf := hide ((unhide hl).few hm)
  have hm120 : m ≤ 120 := by omega
  replace hm := hide hm
  simp only [Act.put, List.setIfInBounds_toArray, List.set_cons_zero, List.set_cons_succ, List.getElem_toArray, List.getElem_cons_zero, List.getElem_cons_succ]
  refine list_val (.int .i64 m) (by kernel_rfl) (by kernel_rfl) ?_
  simp only [Act.put, List.setIfInBounds_toArray, List.set_cons_zero, List.set_cons_succ, List.getElem_toArray, List.getElem_cons_zero, List.getElem_cons_succ]
  refine list_val (.int .i64 0) (by kernel_rfl) (by kernel_rfl) ?_
  simp only [Act.put, List.setIfInBounds_toArray, List.set_cons_zero, List.set_cons_succ, List.getElem_toArray, List.getElem_cons_zero, List.getElem_cons_succ]
  refine wpList_nil ?_
  obtain ⟨l2, hl2⟩ : ∃ x, x = l.take 120 := ⟨_, rfl⟩
  rw [← hl2] at hlf
  have hok := hide (unhide hlf).ok
  have hlen : Hid (l2.length = m) := (unhide hlf).len
  have hL0 : Hid (∃ F, Lies F g (wrn l2 0) u ∧ ∀ i ∈ F, w.heap.size ≤ i) := ⟨F, unhide hL, hF⟩
  replace hl2 := hide hl2
  clear hL hF
  go_wp2_with fail
  go_loopw [20] (fun i wr => ∃ j : Nat, j ≤ m ∧ i = .int .i64 j ∧ Hid (Gr w wr) ∧ Hid (∃ F, Lies F g (wrn l2 j) wr ∧ ∀ i ∈ F, w.heap.size ≤ i)) (fun i _ => m - (intOf i).toNat)
  case atStart => exact ⟨0, by omega, rfl, hG, hL0⟩
  case round =>
  clear hG hL0
  obtain ⟨j, hj, rfl, hG, hLj⟩ := hrel
  by_cases hjl : j < m
  · skip
    have jI : (j : Int) < (m : Int) := by omega
    obtain ⟨p, o, ka, kn, kp, rfl, hrw, hkp, hqo⟩ := (unhide hlf).at_ j hjl
    have hsc : Hid (wrn l2 (j + 1) = if (l2.getD j op0).k < 3 then (wrn l2 j).opD (l2.getD j op0) else wrn l2 j) := rfl
    generalize l2.getD j op0 = q at *
    have hDk := hide (wrn_ok (unhide hok) j)
    obtain ⟨F, hL, hF⟩ := unhide hLj
    clear hLj
    replace hrw := hide hrw; replace hkp := hide hkp; replace hqo := hide hqo; replace hL := hide hL
    go_upto_region 6 with fail
    have hB := Bl.nil wr
    refine wp_region_lit ?_
    refine list_val (.pointer (some ⟨p, o + 4 * j, none⟩)) (by kernel_rfl) (exec_io _ (.tmp 18) (.tmp 20) rfl p o m c j rfl rfl hjl) ?_
    simp only [Act.put, List.setIfInBounds_toArray, List.set_cons_zero, List.set_cons_succ, List.getElem_toArray, List.getElem_cons_zero, List.getElem_cons_succ]
    refine list_val (.agg (opv q ka kn kp)) (by kernel_rfl) (exec_lop _ (.tmp 22) rfl p (o + 4 * j) (by kernel_rfl) q ka kn kp (range_gr (unhide hrw) (unhide hG))) ?_
    simp only [Act.put, List.setIfInBounds_toArray, List.set_cons_zero, List.set_cons_succ, List.getElem_toArray, List.getElem_cons_zero, List.getElem_cons_succ]
    refine list_valw (.pointer (some ⟨wr.heap.size, 0, none⟩)) (wr.alloc (.cells (opv op0 none 0 0) 37 (0, 0))) (by kernel_rfl) (by kernel_rfl) ?_
    replace hB := hB.new (opv op0 none 0 0) 37
    simp only [List.nil_append, List.cons_append] at hB
    generalize World.alloc _ _ = v1 at *
    generalize wr.heap.size = go at *
    replace hB : Bl wr [⟨go, opv op0 none 0 0, 37⟩] v1 := hB
    simp only [Act.put, List.setIfInBounds_toArray, List.set_cons_zero, List.set_cons_succ, List.getElem_toArray, List.getElem_cons_zero, List.getElem_cons_succ]
    refine list_store 37 (.tmp 6) (.tmp 23) go (opv q ka kn kp) 37 (opv op0 none 0 0) (by kernel_rfl) rfl (by kernel_rfl) (by kernel_rfl) (hB.get 0 (x := ⟨go, opv op0 none 0 0, 37⟩) rfl) (by rw [Try.infoO]; rfl) rfl (opv_one ..) ?_
    replace hB := hB.set 0 (x := ⟨go, opv op0 none 0 0, 37⟩) rfl (opv q ka kn kp)
    simp only [List.set_cons_zero, List.set_cons_succ] at hB
    generalize World.setRow _ _ _ = v2 at *
    replace hB : Bl wr [⟨go, opv q ka kn kp, 37⟩] v2 := hB
    simp only [Act.put, List.setIfInBounds_toArray, List.set_cons_zero, List.set_cons_succ, List.getElem_toArray, List.getElem_cons_zero, List.getElem_cons_succ]
    refine wpList_nil ?_
    replace hB := hide hB
    go_upto_region 7 with fail
    replace hB := unhide hB
    by_cases hk3 : q.k < 3
    · skip
      refine wp_region_lit ?_
      refine list_val (.agg (opv q ka kn kp)) (by kernel_rfl) (exec_arr _ 37 (.tmp 6) rfl go (by kernel_rfl) (opv q ka kn kp) 37 _ (hB.get 0 (x := ⟨go, opv q ka kn kp, 37⟩) rfl) Try.underlying37 rfl (by rw [Try.infoO]; rfl)) ?_
      simp only [Act.put, List.setIfInBounds_toArray, List.set_cons_zero, List.set_cons_succ, List.getElem_toArray, List.getElem_cons_zero, List.getElem_cons_succ]
      refine list_call 29 #[.agg (opv q ka kn kp)] (by kernel_rfl) (by kernel_rfl) ((kind_ok q (unhide hqo) ka kn kp _).mono ?_)
      rintro r v3 ⟨rfl, hg⟩
      refine ⟨_, rfl, ?_⟩
      replace hB := hB.more hg
      obtain ⟨kk, hkk⟩ : ∃ kk, kk = q.k := ⟨_, rfl⟩
      rw [← hkk]
      replace hkk := hide hkk
      clear hg
      simp only [Act.put, List.setIfInBounds_toArray, List.set_cons_zero, List.set_cons_succ, List.getElem_toArray, List.getElem_cons_zero, List.getElem_cons_succ]
      refine list_val (.bool true) (by kernel_rfl) (by have h0 : kk < 3 := (by have h7 := unhide hkk; omega); have h : (kk : Int) < 3 := (by omega); go_simp) ?_
      simp only [Act.put, List.setIfInBounds_toArray, List.set_cons_zero, List.set_cons_succ, List.getElem_toArray, List.getElem_cons_zero, List.getElem_cons_succ]
      refine wpList_nil ?_
      replace hk3 := hide hk3
      replace hB := hide hB
      go_upto_region 8 with fail
      replace hB := unhide hB
      refine wp_region_lit ?_
      refine list_val (.pointer (some ⟨g, 0, none⟩)) (by kernel_rfl) (by kernel_rfl) ?_
      simp only [Act.put, List.setIfInBounds_toArray, List.set_cons_zero, List.set_cons_succ, List.getElem_toArray, List.getElem_cons_zero, List.getElem_cons_succ]
      refine list_val (.agg (opv q ka kn kp)) (by kernel_rfl) (exec_arr _ 37 (.tmp 6) rfl go (by kernel_rfl) (opv q ka kn kp) 37 _ (hB.get 0 (x := ⟨go, opv q ka kn kp, 37⟩) rfl) Try.underlying37 rfl (by rw [Try.infoO]; rfl)) ?_
      simp only [Act.put, List.setIfInBounds_toArray, List.set_cons_zero, List.set_cons_succ, List.getElem_toArray, List.getElem_cons_zero, List.getElem_cons_succ]
      refine list_call 13 #[.pointer (some ⟨g, 0, none⟩), .agg (opv q ka kn kp)] (by kernel_rfl) (by kernel_rfl) ((does_ok F g j (wrn l2 j) (unhide hDk) (by omega) q (unhide hqo) ka kn kp _ ((unhide hL).gr hB.gr) ((unhide hkp).gr ((unhide hG).trans hB.gr))).mono ?_)
      rintro r v4 ⟨F1, rfl, hL1, hch⟩
      refine ⟨_, rfl, ?_⟩
      have hG1 := hide (Chg.own ((unhide hG).trans hB.gr) hch hF)
      have hF1 := hch.newF ((unhide hG).trans hB.gr).size hF
      have hL2 : Hid (∃ F, Lies F g (wrn l2 (j + 1)) v4 ∧ ∀ i ∈ F, w.heap.size ≤ i) := ⟨F1, by rw [unhide hsc, if_pos (unhide hk3)]; exact hL1, hF1⟩
      clear hB hG hL hF hF1 hL1 hch
      simp only [Act.put, List.setIfInBounds_toArray, List.set_cons_zero, List.set_cons_succ, List.getElem_toArray, List.getElem_cons_zero, List.getElem_cons_succ]
      refine wpList_nil ?_
      go_wp2_with fail
      go_roundw
      case rel => exact ⟨j + 1, by omega, by go_num, hG1, hL2⟩
      case measure => simp [intOf]; omega
    refine wp_region_lit ?_
    refine list_val (.agg (opv q ka kn kp)) (by kernel_rfl) (exec_arr _ 37 (.tmp 6) rfl go (by kernel_rfl) (opv q ka kn kp) 37 _ (hB.get 0 (x := ⟨go, opv q ka kn kp, 37⟩) rfl) Try.underlying37 rfl (by rw [Try.infoO]; rfl)) ?_
    simp only [Act.put, List.setIfInBounds_toArray, List.set_cons_zero, List.set_cons_succ, List.getElem_toArray, List.getElem_cons_zero, List.getElem_cons_succ]
    refine list_call 29 #[.agg (opv q ka kn kp)] (by kernel_rfl) (by kernel_rfl) ((kind_ok q (unhide hqo) ka kn kp _).mono ?_)
    rintro r v3 ⟨rfl, hg⟩
    refine ⟨_, rfl, ?_⟩
    replace hB := hB.more hg
    obtain ⟨kk, hkk⟩ : ∃ kk, kk = q.k := ⟨_, rfl⟩
    rw [← hkk]
    replace hkk := hide hkk
    clear hg
    simp only [Act.put, List.setIfInBounds_toArray, List.set_cons_zero, List.set_cons_succ, List.getElem_toArray, List.getElem_cons_zero, List.getElem_cons_succ]
    refine list_val (.bool false) (by kernel_rfl) (by have h0 : ¬ kk < 3 := (by have h7 := unhide hkk; omega); have h : ¬ (kk : Int) < 3 := (by omega); go_simp) ?_
    simp only [Act.put, List.setIfInBounds_toArray, List.set_cons_zero, List.set_cons_succ, List.getElem_toArray, List.getElem_cons_zero, List.getElem_cons_succ]
    refine wpList_nil ?_
    have hL2 : Hid (∃ F, Lies F g (wrn l2 (j + 1)) v3 ∧ ∀ i ∈ F, w.heap.size ≤ i) := ⟨F, by rw [unhide hsc, if_neg hk3]; exact (unhide hL).gr hB.gr, hF⟩
    have hG1 := hide ((unhide hG).trans hB.gr)
    clear hB hG hL hF hk3
    go_wp2_with fail
    go_roundw
    case rel => exact ⟨j + 1, by omega, by go_num, hG1, hL2⟩
    case measure => simp [intOf]; omega
  have jI : ¬ (j : Int) < (m : Int) := by omega
  have hP : Hid (Wrn (wornD l) w (.returned (P0 g)) wr) := by
    obtain ⟨F, h1, h2⟩ := unhide hLj
    refine ⟨g, F, rfl, ?_, h2, unhide hG⟩
    unfold wornD
    rw [← unhide hl2, unhide hlen, show m = j by omega]
    exact h1
  clear hLj hG
  go_wp2_with fail
  rw [unhide hT]
  exact unhide hP
def Woke (w : World) (r : Ending) (w' : World) : Prop := r = .returned (.bool true) ∧ Gr w w'
def B7 : List Int := 7 :: List.replicate 63 0
theorem B7_bb : BB B7 := ⟨rfl, fun x hx => by
  rcases List.mem_cons.1 hx with rfl | h
  · omega
  · have := List.eq_of_mem_replicate h; omega⟩
def dk7 : Dk := (dk0 2).writeD 1 B7
theorem dk7_is : (dk0 2).writeE 1 = 0 ∧ dk7.readB 1 = B7 ∧ dk7.readE 1 = 0 ∧ dk7.pend.length = 1 ∧ dk7.safe.length = 2 := by decide +kernel
set_option maxHeartbeats 4000000 in
theorem wakes_ok (w : World) : Calls Try.prog 9 #[] w (Woke w) := by
  obtain ⟨T, hT⟩ : ∃ T, T = Woke w := ⟨_, rfl⟩
  rw [← hT]
  replace hT := hide hT
  go_enter Try.func9, Try.ntmps9
  go_upto_region 1 with fail
  refine wp_region_lit ?_
  refine list_call 10 #[.int .i64 2] (by kernel_rfl) (by kernel_rfl) ((dnew_ok 2 _).mono ?_)
  intro r u h6
  unfold Dne at h6
  rw [if_pos (by decide)] at h6
  obtain ⟨g, F, rfl, hL, hF, hG⟩ := h6
  replace hL : Lies F g (dk0 2) u := hL
  have hD0 := dk0_ok 2 (by omega) (by omega)
  have hD7 : dk7.Ok 1 := hD0.write 1 B7 B7_bb
  refine ⟨_, rfl, ?_⟩
  simp only [Act.put, List.setIfInBounds_toArray, List.set_cons_zero, List.set_cons_succ, List.getElem_toArray, List.getElem_cons_zero, List.getElem_cons_succ]
  refine list_val (.tuple #[.pointer (some ⟨g, 0, none⟩), .int .i64 0]) (by kernel_rfl) (by kernel_rfl) ?_
  simp only [Act.put, List.setIfInBounds_toArray, List.set_cons_zero, List.set_cons_succ, List.getElem_toArray, List.getElem_cons_zero, List.getElem_cons_succ]
  refine list_val (.pointer (some ⟨g, 0, none⟩)) (by kernel_rfl) (by kernel_rfl) ?_
  simp only [Act.put, List.setIfInBounds_toArray, List.set_cons_zero, List.set_cons_succ, List.getElem_toArray, List.getElem_cons_zero, List.getElem_cons_succ]
  refine list_val (.int .i64 0) (by kernel_rfl) (by kernel_rfl) ?_
  simp only [Act.put, List.setIfInBounds_toArray, List.set_cons_zero, List.set_cons_succ, List.getElem_toArray, List.getElem_cons_zero, List.getElem_cons_succ]
  (refine wpList_step fun K hK => ?_; replace hK := hide hK; go_simp; refine unhide hK _ _ ?_; clear hK K)
  (refine wpList_step fun K hK => ?_; replace hK := hide hK; go_simp; refine unhide hK _ _ ?_; clear hK K)
  refine wpList_nil ?_
  replace hL := hide hL; replace hG := hide hG; replace hD7 := hide hD7; replace hD0 := hide hD0
  go_upto_region 2 with fail
  refine wp_region_lit ?_
  refine list_val (.int .i64 0) (by kernel_rfl) (by kernel_rfl) ?_
  simp only [Act.put, List.setIfInBounds_toArray, List.set_cons_zero, List.set_cons_succ, List.getElem_toArray, List.getElem_cons_zero, List.getElem_cons_succ]
  refine list_val (.bool false) (by kernel_rfl) (by kernel_rfl) ?_
  simp only [Act.put, List.setIfInBounds_toArray, List.set_cons_zero, List.set_cons_succ, List.getElem_toArray, List.getElem_cons_zero, List.getElem_cons_succ]
  refine list_val (.bool false) (by kernel_rfl) (by kernel_rfl) ?_
  simp only [Act.put, List.setIfInBounds_toArray, List.set_cons_zero, List.set_cons_succ, List.getElem_toArray, List.getElem_cons_zero, List.getElem_cons_succ]
  refine list_val (.pointer (some ⟨g, 0, none⟩)) (by kernel_rfl) (by kernel_rfl) ?_
  simp only [Act.put, List.setIfInBounds_toArray, List.set_cons_zero, List.set_cons_succ, List.getElem_toArray, List.getElem_cons_zero, List.getElem_cons_succ]
  refine list_val (.bool false) (by kernel_rfl) (by kernel_rfl) ?_
  simp only [Act.put, List.setIfInBounds_toArray, List.set_cons_zero, List.set_cons_succ, List.getElem_toArray, List.getElem_cons_zero, List.getElem_cons_succ]
  refine list_val (.bool false) (by kernel_rfl) (by kernel_rfl) ?_
  simp only [Act.put, List.setIfInBounds_toArray, List.set_cons_zero, List.set_cons_succ, List.getElem_toArray, List.getElem_cons_zero, List.getElem_cons_succ]
  refine list_val (.bool false) (by kernel_rfl) (by kernel_rfl) ?_
  simp only [Act.put, List.setIfInBounds_toArray, List.set_cons_zero, List.set_cons_succ, List.getElem_toArray, List.getElem_cons_zero, List.getElem_cons_succ]
  refine list_val (.pointer (some ⟨g, 0, none⟩)) (by kernel_rfl) (by kernel_rfl) ?_
  simp only [Act.put, List.setIfInBounds_toArray, List.set_cons_zero, List.set_cons_succ, List.getElem_toArray, List.getElem_cons_zero, List.getElem_cons_succ]
  refine list_val (.agg (kc B7)) (by kernel_rfl) (by kernel_rfl) ?_
  simp only [Act.put, List.setIfInBounds_toArray, List.set_cons_zero, List.set_cons_succ, List.getElem_toArray, List.getElem_cons_zero, List.getElem_cons_succ]
  refine list_call 31 #[.pointer (some ⟨g, 0, none⟩), .int .i64 1, .agg (kc B7)] (by kernel_rfl) (by kernel_rfl) ((dwrite_ok F g 0 (dk0 2) (unhide hD0) (by omega) 1 B7 B7_bb _ (unhide hL)).mono ?_)
  rintro r u2 ⟨F1, rfl, hL1, hch⟩
  refine ⟨_, rfl, ?_⟩
  rw [dk7_is.1]
  have hG1 := hide (Chg.own (unhide hG) hch hF)
  replace hL1 : Lies F1 g dk7 u2 := hL1
  clear hL hG hch hF
  simp only [Act.put, List.setIfInBounds_toArray, List.set_cons_zero, List.set_cons_succ, List.getElem_toArray, List.getElem_cons_zero, List.getElem_cons_succ]
  refine list_val (.bool false) (by kernel_rfl) (by kernel_rfl) ?_
  simp only [Act.put, List.setIfInBounds_toArray, List.set_cons_zero, List.set_cons_succ, List.getElem_toArray, List.getElem_cons_zero, List.getElem_cons_succ]
  refine list_val (.bool false) (by kernel_rfl) (by kernel_rfl) ?_
  simp only [Act.put, List.setIfInBounds_toArray, List.set_cons_zero, List.set_cons_succ, List.getElem_toArray, List.getElem_cons_zero, List.getElem_cons_succ]
  refine wpList_nil ?_
  replace hL1 := hide hL1
  go_upto_region 4 with fail
  have hB := Bl.nil u2
  refine wp_region_lit ?_
  refine list_val (.pointer (some ⟨g, 0, none⟩)) (by kernel_rfl) (by kernel_rfl) ?_
  simp only [Act.put, List.setIfInBounds_toArray, List.set_cons_zero, List.set_cons_succ, List.getElem_toArray, List.getElem_cons_zero, List.getElem_cons_succ]
  refine list_call 17 #[.pointer (some ⟨g, 0, none⟩), .int .i64 1] (by kernel_rfl) (by kernel_rfl) ((dread_ok F1 g 1 dk7 (unhide hD7) (by omega) 1 _ (unhide hL1)).mono ?_)
  rintro r u3 ⟨rfl, hg⟩
  refine ⟨_, rfl, ?_⟩
  rw [dk7_is.2.1, dk7_is.2.2.1]
  replace hB := hB.more hg
  clear hg
  simp only [Act.put, List.setIfInBounds_toArray, List.set_cons_zero, List.set_cons_succ, List.getElem_toArray, List.getElem_cons_zero, List.getElem_cons_succ]
  refine list_val (.tuple #[.agg (kc B7), .int .i64 0]) (by kernel_rfl) (by kernel_rfl) ?_
  simp only [Act.put, List.setIfInBounds_toArray, List.set_cons_zero, List.set_cons_succ, List.getElem_toArray, List.getElem_cons_zero, List.getElem_cons_succ]
  refine list_val (.agg (kc B7)) (by kernel_rfl) (by kernel_rfl) ?_
  simp only [Act.put, List.setIfInBounds_toArray, List.set_cons_zero, List.set_cons_succ, List.getElem_toArray, List.getElem_cons_zero, List.getElem_cons_succ]
  refine list_val (.int .i64 0) (by kernel_rfl) (by kernel_rfl) ?_
  simp only [Act.put, List.setIfInBounds_toArray, List.set_cons_zero, List.set_cons_succ, List.getElem_toArray, List.getElem_cons_zero, List.getElem_cons_succ]
  refine list_valw (.pointer (some ⟨u3.heap.size, 0, none⟩)) (u3.alloc (.cells (kc ZB) 39 (0, 0))) (by kernel_rfl) (by kernel_rfl) ?_
  replace hB := hB.new (kc ZB) 39
  simp only [List.nil_append, List.cons_append] at hB
  generalize World.alloc _ _ = u4 at *
  generalize u3.heap.size = gb at *
  replace hB : Bl u2 [⟨gb, kc ZB, 39⟩] u4 := hB
  simp only [Act.put, List.setIfInBounds_toArray, List.set_cons_zero, List.set_cons_succ, List.getElem_toArray, List.getElem_cons_zero, List.getElem_cons_succ]
  refine list_store 39 (.tmp 3) (.tmp 23) (gb) (kc B7) 39 (kc ZB) (by kernel_rfl) rfl (by kernel_rfl) (by kernel_rfl) (hB.get 0 (x := ⟨gb, kc ZB, 39⟩) rfl) (by rw [Try.infoB, kc_size, B7_bb.1]) ((show (kc ZB).size = 64 from rfl).trans ((kc_size _).trans B7_bb.1).symm) (kc_one _) ?_
  replace hB := hB.set 0 (x := ⟨gb, kc ZB, 39⟩) rfl (kc B7)
  simp only [List.set_cons_zero, List.set_cons_succ] at hB
  generalize World.setRow _ _ _ = u5 at *
  replace hB : Bl u2 [⟨gb, kc B7, 39⟩] u5 := hB
  simp only [Act.put, List.setIfInBounds_toArray, List.set_cons_zero, List.set_cons_succ, List.getElem_toArray, List.getElem_cons_zero, List.getElem_cons_succ]
  (refine wpList_step fun K hK => ?_; replace hK := hide hK; go_simp; refine unhide hK _ _ ?_; clear hK K)
  refine wpList_nil ?_
  replace hB := hide hB
  go_upto_region 5 with fail
  replace hB := unhide hB
  refine wp_region_lit ?_
  refine list_val (.int .i64 0) (by kernel_rfl) (by kernel_rfl) ?_
  simp only [Act.put, List.setIfInBounds_toArray, List.set_cons_zero, List.set_cons_succ, List.getElem_toArray, List.getElem_cons_zero, List.getElem_cons_succ]
  refine list_val (.bool true) (by kernel_rfl) (by kernel_rfl) ?_
  simp only [Act.put, List.setIfInBounds_toArray, List.set_cons_zero, List.set_cons_succ, List.getElem_toArray, List.getElem_cons_zero, List.getElem_cons_succ]
  refine list_val (.bool true) (by kernel_rfl) (by kernel_rfl) ?_
  simp only [Act.put, List.setIfInBounds_toArray, List.set_cons_zero, List.set_cons_succ, List.getElem_toArray, List.getElem_cons_zero, List.getElem_cons_succ]
  refine list_val (.pointer (some ⟨gb, 0, none⟩)) (by kernel_rfl) (by kernel_rfl) ?_
  simp only [Act.put, List.setIfInBounds_toArray, List.set_cons_zero, List.set_cons_succ, List.getElem_toArray, List.getElem_cons_zero, List.getElem_cons_succ]
  refine list_val (.int .u8 7) (by kernel_rfl) (exec_b _ (.tmp 28) rfl gb 0 (by kernel_rfl) 7 (cell_of (hB.get 0 (x := ⟨gb, kc B7, 39⟩) rfl) (i := 0) rfl)) ?_
  simp only [Act.put, List.setIfInBounds_toArray, List.set_cons_zero, List.set_cons_succ, List.getElem_toArray, List.getElem_cons_zero, List.getElem_cons_succ]
  refine list_val (.bool true) (by kernel_rfl) (by kernel_rfl) ?_
  simp only [Act.put, List.setIfInBounds_toArray, List.set_cons_zero, List.set_cons_succ, List.getElem_toArray, List.getElem_cons_zero, List.getElem_cons_succ]
  refine list_val (.bool true) (by kernel_rfl) (by kernel_rfl) ?_
  simp only [Act.put, List.setIfInBounds_toArray, List.set_cons_zero, List.set_cons_succ, List.getElem_toArray, List.getElem_cons_zero, List.getElem_cons_succ]
  refine list_val (.bool true) (by kernel_rfl) (by kernel_rfl) ?_
  simp only [Act.put, List.setIfInBounds_toArray, List.set_cons_zero, List.set_cons_succ, List.getElem_toArray, List.getElem_cons_zero, List.getElem_cons_succ]
  refine list_val (.pointer (some ⟨g, 0, none⟩)) (by kernel_rfl) (by kernel_rfl) ?_
  simp only [Act.put, List.setIfInBounds_toArray, List.set_cons_zero, List.set_cons_succ, List.getElem_toArray, List.getElem_cons_zero, List.getElem_cons_succ]
  refine list_call 20 #[.pointer (some ⟨g, 0, none⟩)] (by kernel_rfl) (by kernel_rfl) ((dpending_ok F1 g 1 dk7 (unhide hD7) (by omega) _ ((unhide hL1).gr hB.gr)).mono ?_)
  rintro r u6 ⟨vp, rfl, hOr, hg⟩
  refine ⟨_, rfl, ?_⟩
  replace hB := hB.more hg
  obtain ⟨pv, cv, rfl, _⟩ := hOr.ls
  have e1 : (iv (dk7.pend.map fun x => (x.1 : Int))).length = 1 := by rw [iv_len, List.length_map]; exact dk7_is.2.2.2.1
  rw [e1]
  clear hOr hg e1
  simp only [Act.put, List.setIfInBounds_toArray, List.set_cons_zero, List.set_cons_succ, List.getElem_toArray, List.getElem_cons_zero, List.getElem_cons_succ]
  refine list_val (.int .i64 1) (by kernel_rfl) (by kernel_rfl) ?_
  simp only [Act.put, List.setIfInBounds_toArray, List.set_cons_zero, List.set_cons_succ, List.getElem_toArray, List.getElem_cons_zero, List.getElem_cons_succ]
  refine list_val (.bool true) (by kernel_rfl) (by kernel_rfl) ?_
  simp only [Act.put, List.setIfInBounds_toArray, List.set_cons_zero, List.set_cons_succ, List.getElem_toArray, List.getElem_cons_zero, List.getElem_cons_succ]
  refine list_val (.bool true) (by kernel_rfl) (by kernel_rfl) ?_
  simp only [Act.put, List.setIfInBounds_toArray, List.set_cons_zero, List.set_cons_succ, List.getElem_toArray, List.getElem_cons_zero, List.getElem_cons_succ]
  refine list_val (.bool true) (by kernel_rfl) (by kernel_rfl) ?_
  simp only [Act.put, List.setIfInBounds_toArray, List.set_cons_zero, List.set_cons_succ, List.getElem_toArray, List.getElem_cons_zero, List.getElem_cons_succ]
  refine list_val (.pointer (some ⟨g, 0, none⟩)) (by kernel_rfl) (by kernel_rfl) ?_
  simp only [Act.put, List.setIfInBounds_toArray, List.set_cons_zero, List.set_cons_succ, List.getElem_toArray, List.getElem_cons_zero, List.getElem_cons_succ]
  refine list_call 16 #[.pointer (some ⟨g, 0, none⟩)] (by kernel_rfl) (by kernel_rfl) ((dlen_ok F1 g 1 dk7 (unhide hD7) (by omega) _ ((unhide hL1).gr hB.gr)).mono ?_)
  rintro r u7 ⟨rfl, hg⟩
  refine ⟨_, rfl, ?_⟩
  replace hB := hB.more hg
  rw [dk7_is.2.2.2.2]
  clear hg
  simp only [Act.put, List.setIfInBounds_toArray, List.set_cons_zero, List.set_cons_succ, List.getElem_toArray, List.getElem_cons_zero, List.getElem_cons_succ]
  refine list_val (.bool true) (by kernel_rfl) (by kernel_rfl) ?_
  simp only [Act.put, List.setIfInBounds_toArray, List.set_cons_zero, List.set_cons_succ, List.getElem_toArray, List.getElem_cons_zero, List.getElem_cons_succ]
  refine list_val (.bool true) (by kernel_rfl) (by kernel_rfl) ?_
  simp only [Act.put, List.setIfInBounds_toArray, List.set_cons_zero, List.set_cons_succ, List.getElem_toArray, List.getElem_cons_zero, List.getElem_cons_succ]
  (refine wpList_step fun K hK => ?_; replace hK := hide hK; go_simp; refine unhide hK _ _ ?_; clear hK K)
  refine wpList_nil ?_
  have hP : Hid (Gr w _) := (unhide hG1).trans hB.gr
  clear hB hG1
  go_wp2_with fail
  rw [unhide hT]
  exact ⟨rfl, unhide hP⟩
end Go.Proofs.Ythgchjdjacbcgaa
