/-
  Of layer 12: what the proof leans on.
-/
import Derived.Test.YtaoiejgjdmakjaaDoorDoesK2
namespace Go.Proofs.YtaoiejgjdmakjaaDoor
open Go.RowKit
set_option maxRecDepth 100000
set_option linter.unusedSimpArgs false
set_option linter.unusedVariables false
def Dne (n : Int) (w : World) (r : Ending) (w' : World) : Prop := if 1 ≤ n ∧ n ≤ 512 then ∃ g F, r = .returned (.tuple #[.pointer (some ⟨g, 0, none⟩), .int .i64 0]) ∧ Lies F g (dk0 n.toNat) w' ∧ (∀ i ∈ F, w.heap.size ≤ i) ∧ Gr w w' else r = .returned (.tuple #[.pointer none, .int .i64 2]) ∧ Gr w w'
theorem rep_flat (n : Nat) : ((List.replicate n ZB).map bv).flatten = (List.replicate (n * 64) (0 : Int)).map (Value.int .u8) := by
  rw [List.map_replicate, List.map_replicate, show bv ZB = List.replicate 64 (Value.int .u8 0) from by unfold bv ZB; rw [List.map_replicate]]
  rw [List.flatten_replicate_replicate]
set_option maxHeartbeats 4000000 in
theorem dnew_ok (n : Int) (w : World) : Calls Tryd.prog 29 #[.int .i64 n] w (Dne n w) := by
  obtain ⟨T, hT⟩ : ∃ T, T = Dne n w := ⟨_, rfl⟩
  rw [← hT]
  replace hT := hide hT
  go_enter Tryd.func29, Tryd.ntmps29
  go_upto_region 1 with fail
  by_cases h1 : n < 1
  · skip
    refine wp_region_lit ?_
    refine list_val (.int .i64 n) (by kernel_rfl) (by kernel_rfl) ?_
    simp only [nrm]
    refine list_val (.bool true) (by kernel_rfl) (by go_simp) ?_
    simp only [nrm]
    refine list_val (.bool true) (by kernel_rfl) (by kernel_rfl) ?_
    simp only [nrm]
    refine wpList_step fun K hK => ?_
    rw [if_neg (ne_true_of_eq_false (by kernel_rfl))]
    refine hK _ _ ?_
    clear hK K
    simp only [nrm]
    refine wpList_step fun K hK => ?_
    rw [if_neg (ne_true_of_eq_false (by kernel_rfl))]
    refine hK _ _ ?_
    clear hK K
    simp only [nrm]
    refine list_val (.bool true) (by kernel_rfl) (by kernel_rfl) ?_
    simp only [nrm]
    refine wpList_nil ?_
    have hZ : Hid (Dne n w (.returned (.tuple #[.pointer none, .int .i64 2])) w) := by
      show Dne n w _ w
      unfold Dne
      rw [if_neg (by omega)]
      exact ⟨rfl, Gr.refl w⟩
    go_wp2_with fail
    rw [unhide hT]
    exact unhide hZ
  by_cases h2 : 512 < n
  · skip
    refine wp_region_lit ?_
    refine list_val (.int .i64 n) (by kernel_rfl) (by kernel_rfl) ?_
    simp only [nrm]
    refine list_val (.bool false) (by kernel_rfl) (by go_simp) ?_
    simp only [nrm]
    refine list_val (.bool false) (by kernel_rfl) (by kernel_rfl) ?_
    simp only [nrm]
    refine list_val (.int .i64 n) (by kernel_rfl) (by kernel_rfl) ?_
    simp only [nrm]
    refine list_val (.bool true) (by kernel_rfl) (by go_simp) ?_
    simp only [nrm]
    refine list_val (.bool true) (by kernel_rfl) (by kernel_rfl) ?_
    simp only [nrm]
    refine wpList_nil ?_
    have hZ : Hid (Dne n w (.returned (.tuple #[.pointer none, .int .i64 2])) w) := by
      show Dne n w _ w
      unfold Dne
      rw [if_neg (by omega)]
      exact ⟨rfl, Gr.refl w⟩
    go_wp2_with fail
    rw [unhide hT]
    exact unhide hZ
  refine wp_region_lit ?_
  refine list_val (.int .i64 n) (by kernel_rfl) (by kernel_rfl) ?_
  simp only [nrm]
  refine list_val (.bool false) (by kernel_rfl) (by go_simp) ?_
  simp only [nrm]
  refine list_val (.bool false) (by kernel_rfl) (by kernel_rfl) ?_
  simp only [nrm]
  refine list_val (.int .i64 n) (by kernel_rfl) (by kernel_rfl) ?_
  simp only [nrm]
  refine list_val (.bool false) (by kernel_rfl) (by go_simp) ?_
  simp only [nrm]
  refine list_val (.bool false) (by kernel_rfl) (by kernel_rfl) ?_
  simp only [nrm]
  refine wpList_nil ?_
  obtain ⟨k, rfl⟩ := Int.eq_ofNat_of_zero_le (show 0 ≤ n by omega)
  have hB := Bl.nil w
  replace hB := hide hB
  go_upto_region 3 with fail
  replace hB := unhide hB
  refine wp_region_lit ?_
  refine list_val (.int .i64 (k : Int)) (by kernel_rfl) (by kernel_rfl) ?_
  simp only [nrm]
  refine make_blocks w rfl (.tmp 10) (.tmp 10) rfl k rfl rfl (by omega) ?_
  simp only [nrm]
  replace hB := hB.new (kc (List.replicate (k * 64) 0)) 50
  simp only [List.nil_append, List.cons_append] at hB
  generalize World.alloc _ _ = u1 at *
  refine list_val (.agg (pdv (some ⟨w.heap.size, 0, none⟩) k k none 0 0 (-1) 0 false)) (by kernel_rfl) (by kernel_rfl) ?_
  simp only [nrm]
  refine list_valw (.pointer (some ⟨u1.heap.size, 0, none⟩)) (u1.alloc (.cells (pdv (some ⟨w.heap.size, 0, none⟩) k k none 0 0 (-1) 0 false) 92 (0, 0))) (by kernel_rfl) (by kernel_rfl) ?_
  replace hB := hB.new (pdv (some ⟨w.heap.size, 0, none⟩) k k none 0 0 (-1) 0 false) 92
  simp only [List.nil_append, List.cons_append] at hB
  generalize World.alloc _ _ = u2 at *
  generalize u1.heap.size = gd at *
  replace hB : Bl w [⟨w.heap.size, kc (List.replicate (k * 64) 0), 50⟩, ⟨gd, pdv (some ⟨w.heap.size, 0, none⟩) k k none 0 0 (-1) 0 false, 92⟩] u2 := hB
  simp only [nrm]
  (refine wpList_step fun K hK => ?_; replace hK := hide hK; go_simp; refine unhide hK _ _ ?_; clear hK K)
  (refine wpList_step fun K hK => ?_; replace hK := hide hK; go_simp; refine unhide hK _ _ ?_; clear hK K)
  refine wpList_nil ?_
  have hZ : Hid (Dne (k : Int) w (.returned (.tuple #[.pointer (some ⟨gd, 0, none⟩), .int .i64 0])) u2) := by
    show Dne (k : Int) w _ u2
    unfold Dne
    rw [if_pos (by omega)]
    have hk : k ≤ 512 := by omega
    refine ⟨gd, pdF gd w.heap.size none, rfl, ⟨w.heap.size, k, (List.replicate (k * 64) (0 : Int)).map (Value.int .u8), none, 0, -1, ⟨?_, ?_, ?_, ?_, ?_, ?_, ?_, Lf.refl _ (by show (-9223372036854775808 : Int) ≤ -1; omega)⟩, rfl⟩, ?_, hB.gr⟩
    · show u2.heap[gd]? = some (.cells (pdv (some ⟨w.heap.size, 0, none⟩) (List.replicate k ZB).length k none 0 0 (-1) 0 false) _ (0, 0))
      rw [List.length_replicate]
      exact hB.get 1 (x := ⟨gd, pdv (some ⟨w.heap.size, 0, none⟩) k k none 0 0 (-1) 0 false, 92⟩) rfl
    · exact hB.get 0 (x := ⟨w.heap.size, kc (List.replicate (k * 64) 0), 50⟩) rfl
    · show Cov _ ((List.replicate k ZB).map bv).flatten
      rw [rep_flat]
      exact fun q x hq => hq
    · rw [List.length_map, List.length_replicate]
    · show (List.replicate k ZB).length ≤ k
      rw [List.length_replicate]
      exact Nat.le_refl _
    · unfold maxLen; omega
    · exact ⟨(fun r hr => by cases hr), rfl, .inl ⟨rfl, rfl⟩⟩
    · intro i hi
      rcases mem_pdF.1 hi with hi | hi | hi
      · rw [hi]
        exact hB.own 1 (x := ⟨gd, pdv (some ⟨w.heap.size, 0, none⟩) k k none 0 0 (-1) 0 false, 92⟩) rfl
      · rw [hi]
        exact Nat.le_refl _
      · cases hi
  replace hB := hide hB
  go_wp2_with fail
  rw [unhide hT]
  exact unhide hZ
set_option maxHeartbeats 4000000 in
theorem dread_p (g : Nat) (D : Dk) (sg sc : Nat) (C : List Value) (pa : Option Addr) (pc : Nat) (l : Int) (i : Int) (m : Nat) (hD : D.Ok m) (hm : m ≤ 1000000) (w : World) (hP : Pd g D w sg sc C pa pc l) : Calls Tryd.prog 45 #[P0 g, .int .i64 i] w (Rrd (D.readB i) (D.readE i) w) := by
  obtain ⟨T, hT⟩ : ∃ T, T = Rrd (D.readB i) (D.readE i) w := ⟨_, rfl⟩
  rw [← hT]
  replace hT := hide hT
  obtain ⟨dd, hdd⟩ : ∃ x, x = D.dead := ⟨_, rfl⟩
  obtain ⟨sn, hsn⟩ : ∃ n, n = D.safe.length := ⟨_, rfl⟩
  obtain ⟨pn, hpn⟩ : ∃ n, n = D.pend.length := ⟨_, rfl⟩
  obtain ⟨os, hos⟩ : ∃ n, n = D.ops := ⟨_, rfl⟩
  have hcl := hP.cel
  rw [← hdd, ← hsn, ← hpn, ← hos] at hcl
  replace hdd := hide hdd; replace hsn := hide hsn; replace hpn := hide hpn; replace hos := hide hos; replace hcl := hide hcl; replace hP := hide hP
  have hs512 : sn ≤ 512 := by rw [unhide hsn]; exact hD.hi1
  have hpm : pn ≤ 1000000 := by rw [unhide hpn]; exact Nat.le_trans hD.num hm
  replace hD := hide hD
  go_enter Tryd.func45, Tryd.ntmps45
  go_upto_region 1 with fail
  have hB := ((Bl.nil w).new #[.int .u8 0, .int .u8 0, .int .u8 0, .int .u8 0, .int .u8 0, .int .u8 0, .int .u8 0, .int .u8 0, .int .u8 0, .int .u8 0, .int .u8 0, .int .u8 0, .int .u8 0, .int .u8 0, .int .u8 0, .int .u8 0, .int .u8 0, .int .u8 0, .int .u8 0, .int .u8 0, .int .u8 0, .int .u8 0, .int .u8 0, .int .u8 0, .int .u8 0, .int .u8 0, .int .u8 0, .int .u8 0, .int .u8 0, .int .u8 0, .int .u8 0, .int .u8 0, .int .u8 0, .int .u8 0, .int .u8 0, .int .u8 0, .int .u8 0, .int .u8 0, .int .u8 0, .int .u8 0, .int .u8 0, .int .u8 0, .int .u8 0, .int .u8 0, .int .u8 0, .int .u8 0, .int .u8 0, .int .u8 0, .int .u8 0, .int .u8 0, .int .u8 0, .int .u8 0, .int .u8 0, .int .u8 0, .int .u8 0, .int .u8 0, .int .u8 0, .int .u8 0, .int .u8 0, .int .u8 0, .int .u8 0, .int .u8 0, .int .u8 0, .int .u8 0] 50)
  simp only [size_alloc, List.nil_append, List.cons_append] at hB
  generalize World.alloc _ _ = u at *
  replace hB : Bl w [⟨w.heap.size, kc ZB, 50⟩] u := hB
  refine wp_region_lit ?_
  refine list_val (.pointer (some ⟨g, 0, none⟩)) (by kernel_rfl) (by kernel_rfl) ?_
  simp only [nrm]
  refine list_val (.int .i64 i) (by kernel_rfl) (by kernel_rfl) ?_
  simp only [nrm]
  refine list_call 71 #[.pointer (some ⟨g, 0, none⟩), .int .i64 i] (by kernel_rfl) (by kernel_rfl) ((reach_ok g D sg sc C pa pc l i _ ((unhide hP).gr hB.gr)).mono ?_)
  rintro r u1 ⟨rfl, hG⟩
  refine ⟨_, rfl, ?_⟩
  obtain ⟨pe, hpe⟩ : ∃ x : Int, x = D.readE i := ⟨_, rfl⟩
  rw [← hpe]
  replace hpe := hide hpe
  replace hB := hB.more hG
  clear hG
  simp only [nrm]
  (refine wpList_step fun K hK => ?_; replace hK := hide hK; go_simp; refine unhide hK _ _ ?_; clear hK K)
  refine wpList_nil ?_
  have hcase : (pe = 7 ∧ D.readB i = ZB) ∨ (pe = 2 ∧ D.readB i = ZB) ∨ (pe = 0 ∧ D.has i ∧ D.dead = false) := by
    rw [unhide hpe]
    unfold Dk.readE Dk.readB
    cases D.dead
    · by_cases h : D.has i
      · exact .inr (.inr (by simp [h]))
      · exact .inr (.inl (by simp [h]))
    · exact .inl (by simp)
  rcases hcase with ⟨rfl, hzb⟩ | ⟨rfl, hzb⟩ | ⟨rfl, hhas, hnd⟩
  · skip
    replace hzb := hide hzb
    replace hB := hide hB
    go_upto_region 3 with fail
    replace hB := unhide hB
    refine wp_region_lit ?_
    refine list_val (.agg (kc ZB)) (by kernel_rfl) (by kernel_rfl) ?_
    simp only [nrm]
    refine list_val (.int .i64 7) (by kernel_rfl) (by kernel_rfl) ?_
    simp only [nrm]
    refine list_store 50 (.tmp 4) (.tmp 13) (w.heap.size) (kc ZB) 50 (kc ZB) (by kernel_rfl) rfl (by kernel_rfl) (by kernel_rfl) (hB.get 0 (x := ⟨w.heap.size, kc ZB, 50⟩) rfl) (by rw [Tryd.infoB, kc_size, ZB_len]) ((show (kc ZB).size = 64 from rfl).trans ((kc_size _).trans ZB_len).symm) (kc_one _) ?_
    replace hB := hB.set 0 (x := ⟨w.heap.size, kc ZB, 50⟩) rfl (kc ZB)
    simp only [List.set_cons_zero, List.set_cons_succ] at hB
    generalize World.setRow _ _ _ = u9 at *
    replace hB : Bl w [⟨w.heap.size, kc ZB, 50⟩] u9 := hB
    simp only [nrm]
    (refine wpList_step fun K hK => ?_; replace hK := hide hK; go_simp; refine unhide hK _ _ ?_; clear hK K)
    refine wpList_nil ?_
    have hE : D.readB i = ZB ∧ D.readE i = 7 := ⟨unhide hzb, (unhide hpe).symm⟩
    replace hB := hide hB
    go_wp2_with fail
    replace hB := unhide hB
    rw [unhide hT]
    exact bodyPost_ret (v := .tuple #[.agg (kc ZB), .int .i64 7]) (results_cell_tmp Tryd.results45 _ _ (w.heap.size) 50 (kc ZB) (0, 0) _ rfl (.int .i64 7) rfl (hB.get 0 (x := ⟨w.heap.size, kc ZB, 50⟩) rfl) Tryd.underlying50 rfl ((by rw [Tryd.infoB]; rfl))) rfl (⟨by rw [hE.1, hE.2], hB.gr⟩)
  · skip
    replace hzb := hide hzb
    replace hB := hide hB
    go_upto_region 3 with fail
    replace hB := unhide hB
    refine wp_region_lit ?_
    refine list_val (.agg (kc ZB)) (by kernel_rfl) (by kernel_rfl) ?_
    simp only [nrm]
    refine list_val (.int .i64 2) (by kernel_rfl) (by kernel_rfl) ?_
    simp only [nrm]
    refine list_store 50 (.tmp 4) (.tmp 13) (w.heap.size) (kc ZB) 50 (kc ZB) (by kernel_rfl) rfl (by kernel_rfl) (by kernel_rfl) (hB.get 0 (x := ⟨w.heap.size, kc ZB, 50⟩) rfl) (by rw [Tryd.infoB, kc_size, ZB_len]) ((show (kc ZB).size = 64 from rfl).trans ((kc_size _).trans ZB_len).symm) (kc_one _) ?_
    replace hB := hB.set 0 (x := ⟨w.heap.size, kc ZB, 50⟩) rfl (kc ZB)
    simp only [List.set_cons_zero, List.set_cons_succ] at hB
    generalize World.setRow _ _ _ = u9 at *
    replace hB : Bl w [⟨w.heap.size, kc ZB, 50⟩] u9 := hB
    simp only [nrm]
    (refine wpList_step fun K hK => ?_; replace hK := hide hK; go_simp; refine unhide hK _ _ ?_; clear hK K)
    refine wpList_nil ?_
    have hE : D.readB i = ZB ∧ D.readE i = 2 := ⟨unhide hzb, (unhide hpe).symm⟩
    replace hB := hide hB
    go_wp2_with fail
    replace hB := unhide hB
    rw [unhide hT]
    exact bodyPost_ret (v := .tuple #[.agg (kc ZB), .int .i64 2]) (results_cell_tmp Tryd.results45 _ _ (w.heap.size) 50 (kc ZB) (0, 0) _ rfl (.int .i64 2) rfl (hB.get 0 (x := ⟨w.heap.size, kc ZB, 50⟩) rfl) Tryd.underlying50 rfl ((by rw [Tryd.infoB]; rfl))) rfl (⟨by rw [hE.1, hE.2], hB.gr⟩)
  have hkn0 : 0 ≤ i ∧ i < (D.safe.length : Int) := hhas
  rw [← unhide hsn] at hkn0
  obtain ⟨k, rfl⟩ := Int.eq_ofNat_of_zero_le hkn0.1
  have hkn : k < sn := by omega
  have kI : (k : Int) < (sn : Int) := by omega
  have hfin : Hid (D.readB (k : Int) = curL D.safe D.pend k pn) := by
    show D.readB (k : Int) = _
    unfold Dk.readB Dk.cur
    rw [hnd, if_pos hhas, Int.toNat_natCast, unhide hpn]
    rfl
  clear hkn0 hhas hnd
  replace hB := hide hB
  go_upto_region 4 with fail
  replace hB := unhide hB
  obtain ⟨q0, hq0⟩ : ∃ q : Int, q = (pn : Int) - 1 := ⟨_, rfl⟩
  have hq1 : IntKind.i64.wrap ((pn : Int) - 1) = q0 := by rw [IntKind.wrap_i64]; omega
  refine wp_region_lit ?_
  refine list_val (.pointer (some ⟨g, 0, none⟩)) (by kernel_rfl) (by kernel_rfl) ?_
  simp only [nrm]
  refine list_val (.pointer (some ⟨g, 0, none⟩)) (by kernel_rfl) (by kernel_rfl) ?_
  simp only [nrm]
  refine list_val (.pointer (some ⟨g, 1, none⟩)) (by kernel_rfl) (by kernel_rfl) ?_
  simp only [nrm]
  refine list_val (.slice pa pn pc) (by kernel_rfl) (exec_spw _ (.tmp 17) rfl g 1 (by kernel_rfl) pa pn pc (cell_of (hB.gr.blk (unhide hcl)) (i := 1) rfl)) ?_
  simp only [nrm]
  refine list_val (.int .i64 pn) (by kernel_rfl) (by kernel_rfl) ?_
  simp only [nrm]
  refine list_val (.int .i64 q0) (by kernel_rfl) (by go_simp) ?_
  simp only [nrm]
  (refine wpList_step fun K hK => ?_; replace hK := hide hK; go_simp; refine unhide hK _ _ ?_; clear hK K)
  refine wpList_nil ?_
  clear hq1
  replace hB := hide hB
  go_wp2_with fail
  go_loopw [7] (fun i wr => ∃ j : Nat, ∃ q : Int, j ≤ pn ∧ i = .int .i64 q ∧ q = (j : Int) - 1 ∧ Hid (D.readB (k : Int) = curL D.safe D.pend k j) ∧ Hid (Bl w [⟨w.heap.size, kc ZB, 50⟩] wr)) (fun i _ => (intOf i + 1).toNat)
  case atStart => exact ⟨pn, q0, Nat.le_refl _, by rw [hq0], hq0, hfin, hB⟩
  case round =>
  clear hB hfin hq0 q0
  obtain ⟨j, q, hj, rfl, hq, hcj, hB⟩ := hrel
  rcases j with _ | j
  · skip
    obtain rfl : q = -1 := by omega
    clear hq
    obtain ⟨b0, hb⟩ : ∃ b, b = D.safe.getD k [] := ⟨_, rfl⟩
    have hrow := ((unhide hP).sls (unhide hD)).at_ k (by rw [← unhide hsn]; exact hkn)
    obtain ⟨p_, o_, he, hrow⟩ := hrow
    have e1 : sg = p_ ∧ 0 = o_ := by
      have := Option.some.inj he
      injection this with h1 h2 h3
      exact ⟨h1, h2⟩
    obtain ⟨rfl, rfl⟩ := e1
    clear he
    rw [getD_map bv D.safe k [] [] (by rw [← unhide hsn]; exact hkn), ← hb] at hrow
    have hb0 : BB b0 := by rw [hb]; exact (unhide hD).blk _ (mem_of_getD (by rw [← unhide hsn]; exact hkn))
    have hl0 := hb0.1
    have hcb : Hid (D.readB (k : Int) = b0) := by rw [hb]; exact unhide hcj
    replace hrow := hide hrow; replace hb := hide hb; replace hb0 := hide hb0
    replace hB := hide hB
    go_upto_region 9 with fail
    replace hB := unhide hB
    refine wp_region_lit ?_
    refine list_val (.pointer (some ⟨g, 0, none⟩)) (by kernel_rfl) (by kernel_rfl) ?_
    simp only [nrm]
    refine list_val (.pointer (some ⟨g, 0, none⟩)) (by kernel_rfl) (by kernel_rfl) ?_
    simp only [nrm]
    refine list_val (.pointer (some ⟨g, 0, none⟩)) (by kernel_rfl) (by kernel_rfl) ?_
    simp only [nrm]
    refine list_val (.slice (some ⟨sg, 0, none⟩) sn sc) (by kernel_rfl) (exec_sb _ (.tmp 45) rfl g 0 (by kernel_rfl) (some ⟨sg, 0, none⟩) sn sc (cell_of (hB.gr.blk (unhide hcl)) (i := 0) rfl)) ?_
    simp only [nrm]
    refine list_val (.int .i64 (k : Int)) (by kernel_rfl) (by kernel_rfl) ?_
    simp only [nrm]
    refine list_val (.pointer (some ⟨sg, 0 + 64 * k, none⟩)) (by kernel_rfl) (exec_ib _ (.tmp 46) (.tmp 47) rfl sg 0 sn sc k rfl rfl hkn) ?_
    simp only [nrm]
    refine list_val (.agg (kc b0)) (by kernel_rfl) (exec_row _ 50 (.tmp 48) rfl sg (0 + 64 * k) (by kernel_rfl) (bv b0) _ (range_gr (unhide hrow) hB.gr) Tryd.underlying50 rfl (by rw [Tryd.infoB, bv_len, hl0])) ?_
    simp only [nrm]
    refine list_store 50 (.tmp 4) (.tmp 49) (w.heap.size) (kc b0) 50 (kc ZB) (by kernel_rfl) rfl (by kernel_rfl) (by kernel_rfl) (hB.get 0 (x := ⟨w.heap.size, kc ZB, 50⟩) rfl) (by rw [Tryd.infoB, kc_size, hl0]) ((show (kc ZB).size = 64 from rfl).trans ((kc_size _).trans hl0).symm) (kc_one _) ?_
    replace hB := hB.set 0 (x := ⟨w.heap.size, kc ZB, 50⟩) rfl (kc b0)
    simp only [List.set_cons_zero, List.set_cons_succ] at hB
    generalize World.setRow _ _ _ = u9 at *
    replace hB : Bl w [⟨w.heap.size, kc b0, 50⟩] u9 := hB
    simp only [nrm]
    (refine wpList_step fun K hK => ?_; replace hK := hide hK; go_simp; refine unhide hK _ _ ?_; clear hK K)
    refine wpList_nil ?_
    replace hB := hide hB
    go_wp2_with fail
    replace hB := unhide hB
    rw [unhide hT]
    exact bodyPost_ret (v := .tuple #[.agg (kc b0), .int .i64 0]) (results_cell_tmp Tryd.results45 _ _ (w.heap.size) 50 (kc b0) (0, 0) _ rfl (.int .i64 0) rfl (hB.get 0 (x := ⟨w.heap.size, kc b0, 50⟩) rfl) Tryd.underlying50 rfl ((by rw [Tryd.infoB, kc_size, hl0]))) rfl (⟨by rw [unhide hcb, ← unhide hpe], hB.gr⟩)
  obtain rfl : q = (j : Int) := by omega
  clear hq
  have hjl : j < pn := by omega
  obtain ⟨p2, o2, rfl, hrw⟩ := (unhide hP).pls.at_ j (by rw [← unhide hpn]; exact hjl)
  rw [getD_map wv D.pend j (0, []) [] (by rw [← unhide hpn]; exact hjl)] at hrw
  have hx := (unhide hD).pnd _ (mem_of_getD (d := (0, [])) (by rw [← unhide hpn]; exact hjl))
  have hnx : Hid (curL D.safe D.pend k (j + 1) = if (D.pend.getD j (0, [])).1 = k then (D.pend.getD j (0, [])).2 else curL D.safe D.pend k j) := rfl
  obtain ⟨⟨ai, ab⟩, hab⟩ : ∃ x, x = D.pend.getD j (0, []) := ⟨_, rfl⟩
  rw [← hab] at hrw hx hnx
  have hal : ab.length = 64 := hx.2.1
  have hwl : (wv (ai, ab)).length = 65 := by rw [wv_len, hal]
  have hwr0 : Hid (wr.cell? ⟨p2, o2 + 65 * j, none⟩ = some (.int .i64 (ai : Int))) := by
    have h := hrw 0 (.int .i64 (ai : Int)) rfl
    exact (unhide hB).gr.cell h
  replace hab := hide hab; replace hx := hide hx; replace hrw := hide hrw
  have j0 : 0 ≤ (j : Int) := by omega
  have jI : (j : Int) < (pn : Int) := by omega
  replace hB := hide hB
  go_upto_region 7 with fail
  replace hB := unhide hB
  by_cases hak : ai = k
  · skip
    have aI : (ai : Int) = (k : Int) := by omega
    replace hak := hide hak
    refine wp_region_lit ?_
    refine list_val (.pointer (some ⟨g, 0, none⟩)) (by kernel_rfl) (by kernel_rfl) ?_
    simp only [nrm]
    refine list_val (.pointer (some ⟨g, 0, none⟩)) (by kernel_rfl) (by kernel_rfl) ?_
    simp only [nrm]
    refine list_val (.pointer (some ⟨g, 1, none⟩)) (by kernel_rfl) (by kernel_rfl) ?_
    simp only [nrm]
    refine list_val (.slice (some ⟨p2, o2, none⟩) pn pc) (by kernel_rfl) (exec_spw _ (.tmp 27) rfl g 1 (by kernel_rfl) (some ⟨p2, o2, none⟩) pn pc (cell_of (hB.gr.blk (unhide hcl)) (i := 1) rfl)) ?_
    simp only [nrm]
    refine list_val (.int .i64 (j : Int)) (by kernel_rfl) (by kernel_rfl) ?_
    simp only [nrm]
    refine list_val (.pointer (some ⟨p2, o2 + 65 * j, none⟩)) (by kernel_rfl) (exec_ipw _ (.tmp 28) (.tmp 29) rfl p2 o2 pn pc j rfl rfl hjl) ?_
    simp only [nrm]
    refine list_val (.pointer (some ⟨p2, o2 + 65 * j, none⟩)) (by kernel_rfl) (by kernel_rfl) ?_
    simp only [nrm]
    refine list_val (.int .i64 (ai : Int)) (by kernel_rfl) (exec_i64 _ (.tmp 31) rfl p2 (o2 + 65 * j) (by kernel_rfl) _ (unhide hwr0)) ?_
    simp only [nrm]
    refine list_val (.int .i64 (k : Int)) (by kernel_rfl) (by kernel_rfl) ?_
    simp only [nrm]
    refine list_val (.bool true) (by kernel_rfl) (by go_simp) ?_
    simp only [nrm]
    refine wpList_nil ?_
    replace hB := hide hB
    go_upto_region 8 with fail
    replace hB := unhide hB
    refine wp_region_lit ?_
    refine list_val (.pointer (some ⟨g, 0, none⟩)) (by kernel_rfl) (by kernel_rfl) ?_
    simp only [nrm]
    refine list_val (.pointer (some ⟨g, 0, none⟩)) (by kernel_rfl) (by kernel_rfl) ?_
    simp only [nrm]
    refine list_val (.pointer (some ⟨g, 1, none⟩)) (by kernel_rfl) (by kernel_rfl) ?_
    simp only [nrm]
    refine list_val (.slice (some ⟨p2, o2, none⟩) pn pc) (by kernel_rfl) (exec_spw _ (.tmp 37) rfl g 1 (by kernel_rfl) (some ⟨p2, o2, none⟩) pn pc (cell_of (hB.gr.blk (unhide hcl)) (i := 1) rfl)) ?_
    simp only [nrm]
    refine list_val (.int .i64 (j : Int)) (by kernel_rfl) (by kernel_rfl) ?_
    simp only [nrm]
    refine list_val (.pointer (some ⟨p2, o2 + 65 * j, none⟩)) (by kernel_rfl) (exec_ipw _ (.tmp 38) (.tmp 39) rfl p2 o2 pn pc j rfl rfl hjl) ?_
    simp only [nrm]
    refine list_val (.pointer (some ⟨p2, o2 + 65 * j + 1, none⟩)) (by kernel_rfl) (by kernel_rfl) ?_
    simp only [nrm]
    refine list_val (.agg (kc ab)) (by kernel_rfl) (exec_row _ 50 (.tmp 41) rfl p2 (o2 + 65 * j + 1) (by kernel_rfl) (bv ab) _ (fun q_ v_ hq => by rw [Nat.add_assoc, Nat.add_comm 1 q_]; exact hB.gr.cell (unhide hrw (q_ + 1) v_ (by unfold wv; rw [List.getElem?_cons_succ]; exact hq))) Tryd.underlying50 rfl (by rw [Tryd.infoB, bv_len, hal])) ?_
    simp only [nrm]
    refine list_store 50 (.tmp 4) (.tmp 42) (w.heap.size) (kc ab) 50 (kc ZB) (by kernel_rfl) rfl (by kernel_rfl) (by kernel_rfl) (hB.get 0 (x := ⟨w.heap.size, kc ZB, 50⟩) rfl) (by rw [Tryd.infoB, kc_size, hal]) ((show (kc ZB).size = 64 from rfl).trans ((kc_size _).trans hal).symm) (kc_one _) ?_
    replace hB := hB.set 0 (x := ⟨w.heap.size, kc ZB, 50⟩) rfl (kc ab)
    simp only [List.set_cons_zero, List.set_cons_succ] at hB
    generalize World.setRow _ _ _ = u9 at *
    replace hB : Bl w [⟨w.heap.size, kc ab, 50⟩] u9 := hB
    simp only [nrm]
    (refine wpList_step fun K hK => ?_; replace hK := hide hK; go_simp; refine unhide hK _ _ ?_; clear hK K)
    refine wpList_nil ?_
    have hE : D.readB (k : Int) = ab := by rw [unhide hcj, unhide hnx, if_pos (unhide hak)]
    replace hB := hide hB
    go_wp2_with fail
    replace hB := unhide hB
    rw [unhide hT]
    exact bodyPost_ret (v := .tuple #[.agg (kc ab), .int .i64 0]) (results_cell_tmp Tryd.results45 _ _ (w.heap.size) 50 (kc ab) (0, 0) _ rfl (.int .i64 0) rfl (hB.get 0 (x := ⟨w.heap.size, kc ab, 50⟩) rfl) Tryd.underlying50 rfl ((by rw [Tryd.infoB, kc_size, hal]))) rfl (⟨by rw [hE, ← unhide hpe], hB.gr⟩)
  have aI : ¬ (ai : Int) = (k : Int) := by omega
  replace hak := hide hak
  refine wp_region_lit ?_
  refine list_val (.pointer (some ⟨g, 0, none⟩)) (by kernel_rfl) (by kernel_rfl) ?_
  simp only [nrm]
  refine list_val (.pointer (some ⟨g, 0, none⟩)) (by kernel_rfl) (by kernel_rfl) ?_
  simp only [nrm]
  refine list_val (.pointer (some ⟨g, 1, none⟩)) (by kernel_rfl) (by kernel_rfl) ?_
  simp only [nrm]
  refine list_val (.slice (some ⟨p2, o2, none⟩) pn pc) (by kernel_rfl) (exec_spw _ (.tmp 27) rfl g 1 (by kernel_rfl) (some ⟨p2, o2, none⟩) pn pc (cell_of (hB.gr.blk (unhide hcl)) (i := 1) rfl)) ?_
  simp only [nrm]
  refine list_val (.int .i64 (j : Int)) (by kernel_rfl) (by kernel_rfl) ?_
  simp only [nrm]
  refine list_val (.pointer (some ⟨p2, o2 + 65 * j, none⟩)) (by kernel_rfl) (exec_ipw _ (.tmp 28) (.tmp 29) rfl p2 o2 pn pc j rfl rfl hjl) ?_
  simp only [nrm]
  refine list_val (.pointer (some ⟨p2, o2 + 65 * j, none⟩)) (by kernel_rfl) (by kernel_rfl) ?_
  simp only [nrm]
  refine list_val (.int .i64 (ai : Int)) (by kernel_rfl) (exec_i64 _ (.tmp 31) rfl p2 (o2 + 65 * j) (by kernel_rfl) _ (unhide hwr0)) ?_
  simp only [nrm]
  refine list_val (.int .i64 (k : Int)) (by kernel_rfl) (by kernel_rfl) ?_
  simp only [nrm]
  refine list_val (.bool false) (by kernel_rfl) (by go_simp) ?_
  simp only [nrm]
  refine wpList_nil ?_
  have hcj2 : Hid (D.readB (k : Int) = curL D.safe D.pend k j) := by
    show D.readB (k : Int) = _
    rw [unhide hcj, unhide hnx, if_neg (unhide hak)]
  obtain ⟨q9, hq9⟩ : ∃ q : Int, q = (j : Int) - 1 := ⟨_, rfl⟩
  have hq8 : IntKind.i64.wrap ((j : Int) - 1) = q9 := by rw [IntKind.wrap_i64]; omega
  replace hB := hide hB
  go_wp2_with fail
  go_roundw
  case rel => exact ⟨j, q9, by omega, by rw [hq9], hq9, hcj2, hB⟩
  case measure => simp [intOf] <;> omega
theorem dread_ok (F : List Nat) (g m : Nat) (D : Dk) (hD : D.Ok m) (hm : m ≤ 1000000) (i : Int) (w : World) (h : Lies F g D w) : Calls Tryd.prog 45 #[P0 g, .int .i64 i] w (Rrd (D.readB i) (D.readE i) w) := by
  obtain ⟨sg, sc, C, pa, pc, l, h, rfl⟩ := h
  exact dread_p g D sg sc C pa pc l i m hD hm w h
def tk (L : List Int) (j n : Nat) : List Int := L.take j ++ List.replicate (n - j) 0
theorem or_bt {k : Nat} {e : TypeId} {b : Nat} {u u' : World} {v : Value} {R : List (List Value)} (h : Or_ k e b u v R) {g : Nat} {c : Array Value} {t : TypeId} (hg : u.heap[g]? = some (.cells c t (0, 0))) (ht : t ≠ e) (hk : Bt g u u') : Or_ k e b u' v R := by
  refine ⟨h.1, h.2.1, ?_⟩
  rcases h.2.2 with h1 | ⟨p, cap, cur, h1, h2, h3, h4⟩
  · exact .inl h1
  · exact .inr ⟨p, cap, cur, h1, h2, hk.blk h3 (ty_ne h3 hg (Ne.symm ht)), h4⟩
theorem range_chg {F F' : List Nat} {w v : World} {p o : Nat} {L : List Value} (h : w.rangeAt p o L) (k : Chg F F' w v) (hp : p ∉ F) : v.rangeAt p o L := fun j x hj => k.cell (h j x hj) hp
def Stl (g : Nat) (D : Dk) (sg sc : Nat) (l : Int) (w : World) (r : Ending) (w' : World) : Prop := r = .returned (.tuple #[]) ∧ ∃ C', Pd g D w' sg sc C' none 0 l ∧ Chg [g, sg] [g, sg] w w'
set_option maxHeartbeats 4000000 in
theorem settle_c (g : Nat) (D : Dk) (sg sc : Nat) (C : List Value) (pa : Option Addr) (pc : Nat) (l : Int) (keep : List Bool) (kb : Nat) (m : Nat) (hD : D.Ok m) (hm : m ≤ 1000001) (w : World) (hP : Pd g D w sg sc C pa pc l) (hC : ∀ (v : World), Chg [g, sg] [g, sg] w v → ∀ j : Nat, j < D.pend.length → Calls Tryd.prog 69 #[.int .i64 (j : Int), .pointer (some ⟨kb, 0, none⟩)] v (Vl (.bool (keep.getD j false)) v)) : Calls Tryd.prog 68 #[P0 g, .func (.func 69) #[] #[.pointer (some ⟨kb, 0, none⟩)]] w (Stl g (D.live keep) sg sc l w) := by
  obtain ⟨T, hT⟩ : ∃ T, T = Stl g (D.live keep) sg sc l w := ⟨_, rfl⟩
  rw [← hT]
  replace hT := hide hT
  obtain ⟨S, hS⟩ : ∃ x, x = D.safe := ⟨_, rfl⟩
  obtain ⟨P, hPp⟩ : ∃ x, x = D.pend := ⟨_, rfl⟩
  obtain ⟨dd, hdd⟩ : ∃ x, x = D.dead := ⟨_, rfl⟩
  obtain ⟨sn, hsn⟩ : ∃ n, n = D.safe.length := ⟨_, rfl⟩
  obtain ⟨pn, hpn⟩ : ∃ n, n = D.pend.length := ⟨_, rfl⟩
  obtain ⟨os, hos⟩ : ∃ n, n = D.ops := ⟨_, rfl⟩
  have hcl := hP.cel
  rw [← hdd, ← hsn, ← hpn, ← hos] at hcl
  replace hdd := hide hdd; replace hsn := hide hsn; replace hpn := hide hpn; replace hos := hide hos; replace hcl := hide hcl; replace hP := hide hP
  have hpm : pn ≤ 1000001 := by rw [unhide hpn]; exact Nat.le_trans hD.num hm
  have hs512 : sn ≤ 512 := by rw [unhide hsn]; exact hD.hi1
  have hB := (unhide hP).two (F := [g, sg]) (by simp) (by simp)
  rw [← unhide hdd, ← unhide hsn, ← unhide hpn, ← unhide hos] at hB
  have hCl := (unhide hP).len
  have hsc : sn ≤ sc := by rw [unhide hsn]; exact (unhide hP).cap
  have hCov : Cov C (S.map bv).flatten := by rw [hS]; exact (unhide hP).cov
  have hlsn : Hid (S.length = sn) := by show S.length = sn; rw [hS, unhide hsn]
  have hlpn : Hid (P.length = pn) := by show P.length = pn; rw [hPp, unhide hpn]
  have hDS : Hid (∀ b ∈ S, BB b) := by show ∀ b ∈ S, BB b; rw [hS]; exact hD.blk
  have hDP : Hid (∀ x ∈ P, x.1 < S.length ∧ BB x.2) := by show ∀ x ∈ P, x.1 < S.length ∧ BB x.2; rw [hS, hPp]; exact hD.pnd
  have hls : Hid (Ls 65 w pa pn pc (P.map wv)) := by show Ls 65 w pa pn pc (P.map wv); rw [hPp, unhide hpn]; exact (unhide hP).pls
  have hpf : Hid (∀ i, blkOf pa = some i → i ∉ [g, sg]) := fun i hi => by have := (unhide hP).pg_ne hi; simp [this.1, this.2]
  rw [← unhide hpn] at hC
  replace hD := hide hD; replace hB := hide hB; replace hC := hide hC; replace hS := hide hS; replace hPp := hide hPp
  go_enter Tryd.func68, Tryd.ntmps68
  go_upto_region 0 with fail
  replace hB := unhide hB
  refine wp_region_lit ?_
  refine list_val (.pointer (some ⟨g, 0, none⟩)) (by kernel_rfl) (by kernel_rfl) ?_
  simp only [nrm]
  refine list_val (.pointer (some ⟨g, 0, none⟩)) (by kernel_rfl) (by kernel_rfl) ?_
  simp only [nrm]
  refine list_val (.pointer (some ⟨g, 1, none⟩)) (by kernel_rfl) (by kernel_rfl) ?_
  simp only [nrm]
  refine list_val (.slice pa pn pc) (by kernel_rfl) (exec_spw _ (.tmp 8) rfl g 1 (by kernel_rfl) pa pn pc (cell_of (hB.get 0 (x := ⟨g, pdv (some ⟨sg, 0, none⟩) sn sc pa pn pc l os dd, 92⟩) rfl) (i := 1) rfl)) ?_
  simp only [nrm]
  refine list_val (.int .i64 pn) (by kernel_rfl) (by kernel_rfl) ?_
  simp only [nrm]
  refine list_val (.int .i64 0) (by kernel_rfl) (by kernel_rfl) ?_
  simp only [nrm]
  refine wpList_nil ?_
  have hscx : sn * 64 ≤ sc * 64 := Nat.mul_le_mul_right _ hsc
  obtain ⟨cz, hcz⟩ : ∃ z, z = sc * 64 := ⟨_, rfl⟩
  rw [← hcz] at hCl hscx
  replace hcz := hide hcz
  replace hCov : Hid (Cov C ((liv S P keep 0).map bv).flatten) := hCov
  replace hB := hide hB
  go_wp2_with fail
  go_loopw [11] (fun i wr => ∃ j : Nat, ∃ C : List Value, j ≤ pn ∧ i = .int .i64 j ∧ C.length = cz ∧ Hid (Cov C ((liv S P keep j).map bv).flatten) ∧ Hid (Bc [g, sg] w [⟨g, pdv (some ⟨sg, 0, none⟩) sn sc pa pn pc l os dd, 92⟩, ⟨sg, C.toArray, 50⟩] wr)) (fun i _ => pn - (intOf i).toNat)
  case atStart => exact ⟨0, C, by omega, rfl, hCl, hCov, hB⟩
  case round =>
  clear hB hCov hCl
  obtain ⟨j, C2, hj, rfl, hCl, hCov, hB⟩ := hrel
  by_cases hjl : j < pn
  · skip
    obtain ⟨p2, o2, rfl, hrw⟩ := (unhide hls).at_ j hjl
    rw [getD_map wv P j (0, []) [] (by rw [unhide hlpn]; exact hjl)] at hrw
    have hx := unhide hDP _ (mem_of_getD (d := (0, [])) (by rw [unhide hlpn]; exact hjl))
    have hnx : Hid (liv S P keep (j + 1) = if keep.getD j false then (liv S P keep j).set (P.getD j (0, [])).1 (P.getD j (0, [])).2 else liv S P keep j) := rfl
    obtain ⟨⟨ai, ab⟩, hab⟩ : ∃ x, x = P.getD j (0, []) := ⟨_, rfl⟩
    rw [← hab] at hrw hx hnx
    have hal : ab.length = 64 := hx.2.1
    have hai : ai < sn := by rw [← unhide hlsn]; exact hx.1
    have hwl : (wv (ai, ab)).length = 65 := by rw [wv_len, hal]
    have hlb : Hid (∀ b ∈ liv S P keep j, BB b) := liv_bb (unhide hDS) (fun x hx => (unhide hDP x hx).2) keep j (by rw [unhide hlpn]; exact hj)
    have hp2 : p2 ∉ [g, sg] := unhide hpf p2 rfl
    replace hab := hide hab; replace hx := hide hx; replace hrw := hide hrw; replace hp2 := hide hp2
    have jI : (j : Int) < (pn : Int) := by omega
    go_upto_region 2 with fail
    replace hB := unhide hB
    refine wp_region_lit ?_
    refine list_val (.int .i64 j) (by kernel_rfl) (by kernel_rfl) ?_
    simp only [nrm]
    refine list_val (.pointer (some ⟨p2, o2 + 65 * j, none⟩)) (by kernel_rfl) (exec_ipw _ (.tmp 9) (.tmp 11) rfl p2 o2 pn pc j rfl rfl hjl) ?_
    simp only [nrm]
    refine list_val (.agg ((wv (ai, ab)).toArray)) (by kernel_rfl) (exec_row _ 117 (.tmp 14) rfl p2 (o2 + 65 * j) (by kernel_rfl) (wv (ai, ab)) _ (range_chg (unhide hrw) hB.chg (unhide hp2)) Tryd.underlying117 rfl (by rw [Tryd.infoPW, hwl])) ?_
    simp only [nrm]
    refine list_valw (.pointer (some ⟨wr.heap.size, 0, none⟩)) (wr.alloc (.cells ((wv (0, ZB)).toArray) 117 (0, 0))) (by kernel_rfl) (by kernel_rfl) ?_
    replace hB := hB.new ((wv (0, ZB)).toArray) 117
    simp only [List.nil_append, List.cons_append] at hB
    generalize World.alloc _ _ = v1 at *
    generalize wr.heap.size = g8 at *
    replace hB : Bc [g, sg] w [⟨g, pdv (some ⟨sg, 0, none⟩) sn sc (some ⟨p2, o2, none⟩) pn pc l os dd, 92⟩, ⟨sg, C2.toArray, 50⟩, ⟨g8, (wv (0, ZB)).toArray, 117⟩] v1 := hB
    simp only [nrm]
    (refine wpList_step fun K hK => ?_; replace hK := hide hK; go_simp; refine unhide hK _ _ ?_; clear hK K)
    refine list_store 117 (.tmp 5) (.tmp 15) g8 ((wv (ai, ab)).toArray) 117 ((wv (0, ZB)).toArray) (by kernel_rfl) rfl (by kernel_rfl) (by kernel_rfl) (hB.get 2 (x := ⟨g8, (wv (0, ZB)).toArray, 117⟩) rfl) (by rw [Tryd.infoPW, List.size_toArray, hwl]) ((show ((wv (0, ZB)).toArray).size = 65 from rfl).trans (by rw [List.size_toArray, hwl])) (wv_one _) ?_
    replace hB := hB.set 2 (x := ⟨g8, (wv (0, ZB)).toArray, 117⟩) rfl ((wv (ai, ab)).toArray)
    simp only [List.set_cons_zero, List.set_cons_succ] at hB
    generalize World.setRow _ _ _ = v2 at *
    replace hB : Bc [g, sg] w [⟨g, pdv (some ⟨sg, 0, none⟩) sn sc (some ⟨p2, o2, none⟩) pn pc l os dd, 92⟩, ⟨sg, C2.toArray, 50⟩, ⟨g8, (wv (ai, ab)).toArray, 117⟩] v2 := hB
    simp only [nrm]
    refine wpList_nil ?_
    replace hB := hide hB
    go_upto_region 3 with fail
    replace hB := unhide hB
    refine wp_region_lit ?_
    refine list_val (.func (.func 69) #[] #[.pointer (some ⟨kb, 0, none⟩)]) (by kernel_rfl) (by kernel_rfl) ?_
    simp only [nrm]
    refine list_val (.int .i64 j) (by kernel_rfl) (by kernel_rfl) ?_
    simp only [nrm]
    refine list_call 69 #[.int .i64 (j : Int), .pointer (some ⟨kb, 0, none⟩)] (by kernel_rfl) (by kernel_rfl) ((unhide hC _ hB.chg j hjl).mono ?_)
    rintro r v3 ⟨rfl, hG⟩
    refine ⟨_, rfl, ?_⟩
    replace hB := hB.more hG
    clear hG
    obtain ⟨kb_, hkb⟩ : ∃ x, x = keep.getD j false := ⟨_, rfl⟩
    rw [← hkb]
    replace hkb := hide hkb
    simp only [nrm]
    refine wpList_nil ?_
    cases kb_
    case false =>
      have hB3 : Hid (Bc [g, sg] w [⟨g, pdv (some ⟨sg, 0, none⟩) sn sc (some ⟨p2, o2, none⟩) pn pc l os dd, 92⟩, ⟨sg, C2.toArray, 50⟩] _) := Bc.left (M := [⟨g8, (wv (ai, ab)).toArray, 117⟩]) hB
      clear hB
      go_wp2_with fail
      go_roundw
      case rel => exact ⟨j + 1, C2, by omega, by go_num, hCl, (by show Cov C2 ((liv S P keep (j + 1)).map bv).flatten; rw [unhide hnx, ← unhide hkb]; exact unhide hCov), hB3⟩
      case measure => simp [intOf]; omega
    case true =>
      go_upto_region 4 with fail
      replace hB := hB
      refine anyC_start 9 (fun v => Bc [g, sg] w [⟨g, pdv (some ⟨sg, 0, none⟩) sn sc (some ⟨p2, o2, none⟩) pn pc l os dd, 92⟩, ⟨sg, C2.toArray, 50⟩, ⟨g8, (wv (ai, ab)).toArray, 117⟩] v) (by kernel_rfl) ?_
      replace hB := hB.drew
      generalize World.drew _ = x0 at *
      simp only [List.size_toArray, List.length_cons, List.length_nil, Array.replicate, List.replicate]
      refine anyC_take (i := 0) (v := (.pointer (some ⟨g, 0, none⟩))) (fun v => Bc [g, sg] w [⟨g, pdv (some ⟨sg, 0, none⟩) sn sc (some ⟨p2, o2, none⟩) pn pc l os dd, 92⟩, ⟨sg, C2.toArray, 50⟩, ⟨g8, (wv (ai, ab)).toArray, 117⟩] v) (fun _ h_ => h_) (.inr (by kernel_rfl)) rfl (by kernel_rfl) (by kernel_rfl) (by kernel_rfl) (by decide) (by kernel_rfl) (by decide) (fun _ _ _ h => h) (.inl ⟨by kernel_rfl, fun x_ hu => by kernel_rfl⟩) hB ?_
      simp only [nrm]
      refine anyC_take (i := 1) (v := (.pointer (some ⟨g, 0, none⟩))) (fun v => Bc [g, sg] w [⟨g, pdv (some ⟨sg, 0, none⟩) sn sc (some ⟨p2, o2, none⟩) pn pc l os dd, 92⟩, ⟨sg, C2.toArray, 50⟩, ⟨g8, (wv (ai, ab)).toArray, 117⟩] v) (fun _ h_ => h_) (.inr (by kernel_rfl)) rfl (by kernel_rfl) (by kernel_rfl) (by kernel_rfl) (by decide) (by kernel_rfl) (by decide) (fun _ _ _ h => h) (.inl ⟨by kernel_rfl, fun x_ hu => by kernel_rfl⟩) hB ?_
      simp only [nrm]
      refine anyC_take (i := 2) (v := (.pointer (some ⟨g, 0, none⟩))) (fun v => Bc [g, sg] w [⟨g, pdv (some ⟨sg, 0, none⟩) sn sc (some ⟨p2, o2, none⟩) pn pc l os dd, 92⟩, ⟨sg, C2.toArray, 50⟩, ⟨g8, (wv (ai, ab)).toArray, 117⟩] v) (fun _ h_ => h_) (.inr (by kernel_rfl)) rfl (by kernel_rfl) (by kernel_rfl) (by kernel_rfl) (by decide) (by kernel_rfl) (by decide) (fun _ _ _ h => h) (.inl ⟨by kernel_rfl, fun x_ hu => by kernel_rfl⟩) hB ?_
      simp only [nrm]
      refine anyC_take (i := 3) (v := (.slice (some ⟨sg, 0, none⟩) sn sc)) (fun v => Bc [g, sg] w [⟨g, pdv (some ⟨sg, 0, none⟩) sn sc (some ⟨p2, o2, none⟩) pn pc l os dd, 92⟩, ⟨sg, C2.toArray, 50⟩, ⟨g8, (wv (ai, ab)).toArray, 117⟩] v) (fun _ h_ => h_) (.inr (by kernel_rfl)) rfl (by kernel_rfl) (by kernel_rfl) (by kernel_rfl) (by decide) (by kernel_rfl) (by decide) (fun _ _ _ h => h) (.inl ⟨by kernel_rfl, fun x_ hu => exec_sb _ (.tmp 21) rfl g 0 (by kernel_rfl) (some ⟨sg, 0, none⟩) sn sc (cell_of (hu.get 0 (x := ⟨g, pdv (some ⟨sg, 0, none⟩) sn sc (some ⟨p2, o2, none⟩) pn pc l os dd, 92⟩) rfl) (i := 0) rfl)⟩) hB ?_
      simp only [nrm]
      refine anyC_take (i := 4) (v := (.pointer (some ⟨g8, 0, none⟩))) (fun v => Bc [g, sg] w [⟨g, pdv (some ⟨sg, 0, none⟩) sn sc (some ⟨p2, o2, none⟩) pn pc l os dd, 92⟩, ⟨sg, C2.toArray, 50⟩, ⟨g8, (wv (ai, ab)).toArray, 117⟩] v) (fun _ h_ => h_) (.inr (by kernel_rfl)) rfl (by kernel_rfl) (by kernel_rfl) (by kernel_rfl) (by decide) (by kernel_rfl) (by decide) (fun _ _ _ h => h) (.inl ⟨by kernel_rfl, fun x_ hu => by kernel_rfl⟩) hB ?_
      simp only [nrm]
      refine anyC_take (i := 5) (v := (.int .i64 (ai : Int))) (fun v => Bc [g, sg] w [⟨g, pdv (some ⟨sg, 0, none⟩) sn sc (some ⟨p2, o2, none⟩) pn pc l os dd, 92⟩, ⟨sg, C2.toArray, 50⟩, ⟨g8, (wv (ai, ab)).toArray, 117⟩] v) (fun _ h_ => h_) (.inr (by kernel_rfl)) rfl (by kernel_rfl) (by kernel_rfl) (by kernel_rfl) (by decide) (by kernel_rfl) (by decide) (fun _ _ _ h => h) (.inl ⟨by kernel_rfl, fun x_ hu => exec_i64 _ (.tmp 23) rfl g8 0 (by kernel_rfl) _ (cell_of (hu.get 2 (x := ⟨g8, (wv (ai, ab)).toArray, 117⟩) rfl) (i := 0) rfl)⟩) hB ?_
      simp only [nrm]
      refine anyC_take (i := 6) (v := (.pointer (some ⟨g8, 1, none⟩))) (fun v => Bc [g, sg] w [⟨g, pdv (some ⟨sg, 0, none⟩) sn sc (some ⟨p2, o2, none⟩) pn pc l os dd, 92⟩, ⟨sg, C2.toArray, 50⟩, ⟨g8, (wv (ai, ab)).toArray, 117⟩] v) (fun _ h_ => h_) (.inr (by kernel_rfl)) rfl (by kernel_rfl) (by kernel_rfl) (by kernel_rfl) (by decide) (by kernel_rfl) (by decide) (fun _ _ _ h => h) (.inl ⟨by kernel_rfl, fun x_ hu => by kernel_rfl⟩) hB ?_
      simp only [nrm]
      refine anyC_take (i := 7) (v := (.agg (kc ab))) (fun v => Bc [g, sg] w [⟨g, pdv (some ⟨sg, 0, none⟩) sn sc (some ⟨p2, o2, none⟩) pn pc l os dd, 92⟩, ⟨sg, C2.toArray, 50⟩, ⟨g8, (wv (ai, ab)).toArray, 117⟩] v) (fun _ h_ => h_) (.inr (by kernel_rfl)) rfl (by kernel_rfl) (by kernel_rfl) (by kernel_rfl) (by decide) (by kernel_rfl) (by decide) (fun _ _ _ h => h) (.inl ⟨by kernel_rfl, fun x_ hu => exec_row _ 50 (.tmp 25) rfl g8 1 (by kernel_rfl) (bv ab) _ (fun q_ v_ hq => cell_of (hu.get 2 (x := ⟨g8, (wv (ai, ab)).toArray, 117⟩) rfl) (by unfold wv; rw [List.getElem?_toArray, Nat.add_comm, List.getElem?_cons_succ]; exact hq)) Tryd.underlying50 rfl (by rw [Tryd.infoB, bv_len, hal])⟩) hB ?_
      simp only [nrm]
      refine anyC_take (i := 8) (v := (.pointer (some ⟨sg, 0 + 64 * ai, none⟩))) (fun v => Bc [g, sg] w [⟨g, pdv (some ⟨sg, 0, none⟩) sn sc (some ⟨p2, o2, none⟩) pn pc l os dd, 92⟩, ⟨sg, C2.toArray, 50⟩, ⟨g8, (wv (ai, ab)).toArray, 117⟩] v) (fun _ h_ => h_) (.inr (by kernel_rfl)) rfl (by kernel_rfl) (by kernel_rfl) (by kernel_rfl) (by decide) (by kernel_rfl) (by decide) (fun _ _ _ h => h) (.inl ⟨by kernel_rfl, fun x_ hu => exec_ib _ (.tmp 22) (.tmp 24) rfl sg 0 sn sc ai rfl rfl hai⟩) hB ?_
      simp only [nrm]
      refine anyC_last (by kernel_rfl) rfl (fun K_ hQ => ?_)
      have hli : ai < (liv S P keep j).length := by rw [liv_len, unhide hlsn]; exact hai
      have hC3 : Hid (Cov (sp C2 (64 * ai) (bv ab)) ((liv S P keep (j + 1)).map bv).flatten) := by
        show Cov _ ((liv S P keep (j + 1)).map bv).flatten
        rw [unhide hnx, ← unhide hkb]
        have h := cov_set 64 (by omega) C2 ((liv S P keep j).map bv) (bv_rows (unhide hlb)) ai (by rw [List.length_map]; exact hli) (bv ab) (by rw [bv_len, hal]) (by rw [List.length_map, liv_len, unhide hlsn, hCl]; exact hscx) (unhide hCov)
        rw [← List.map_set] at h
        exact h
      have hgC := (hB.get 1 (x := ⟨sg, C2.toArray, 50⟩) rfl)
      dsimp only at hgC
      refine list_store_mid 50 (.tmp 27) (.tmp 26) sg (0 + 64 * ai) (kc ab) (by kernel_rfl) rfl (by kernel_rfl) (by kernel_rfl) (there_of hgC (by rw [kc_size, hal, hCl, Nat.zero_add]; omega)) (by rw [Tryd.infoB, kc_size, hal]) (kc_one _) ?_
      refine hQ.out _ _ ?_
      clear hQ K_
      have hbs := setCells_bt ((kc ab).toList) x0 sg (0 + 64 * ai)
      have hcl2 := setCells_heap ((kc ab).toList) x0 sg (0 + 64 * ai) C2 50 hgC
      have e9 : (kc ab).toList = bv ab := by unfold kc bv; simp
      rw [e9, Nat.zero_add] at hcl2 hbs
      rw [e9, Nat.zero_add]
      have hB4 := hB.but hbs 1 (x := ⟨sg, C2.toArray, 50⟩) rfl rfl hcl2
      simp only [List.set_cons_zero, List.set_cons_succ] at hB4
      clear hB hcl2 hbs hgC e9
      generalize World.setCells _ _ _ _ = v9 at *
      have hB := hB4
      clear hB4
      simp only [nrm]
      refine any_done (by kernel_rfl) ?_
      have hB3 : Hid (Bc [g, sg] w [⟨g, pdv (some ⟨sg, 0, none⟩) sn sc (some ⟨p2, o2, none⟩) pn pc l os dd, 92⟩, ⟨sg, (sp C2 (64 * ai) (bv ab)).toArray, 50⟩] _) := Bc.left (M := [⟨g8, (wv (ai, ab)).toArray, 117⟩]) hB
      clear hB
      go_wp2_with fail
      go_roundw
      case rel => exact ⟨j + 1, (sp C2 (64 * ai) (bv ab)), by omega, by go_num, by rw [sp_length]; exact hCl, hC3, hB3⟩
      case measure => simp [intOf]; omega
  have jI : ¬ (j : Int) < (pn : Int) := by omega
  have e : j = P.length := by rw [unhide hlpn]; omega
  go_upto_region 6 with fail
  replace hB := unhide hB
  refine wp_region_lit ?_
  refine list_val (.pointer (some ⟨g, 0, none⟩)) (by kernel_rfl) (by kernel_rfl) ?_
  simp only [nrm]
  refine list_val (.pointer (some ⟨g, 0, none⟩)) (by kernel_rfl) (by kernel_rfl) ?_
  simp only [nrm]
  refine list_val (.pointer (some ⟨g, 1, none⟩)) (by kernel_rfl) (by kernel_rfl) ?_
  simp only [nrm]
  have c4 := cell_of (hB.get 0 (x := ⟨g, pdv (some ⟨sg, 0, none⟩) sn sc pa pn pc l os dd, 92⟩) rfl) (i := 1) rfl
  have fz := froz_of (i := 1) (hB.get 0 (x := ⟨g, pdv (some ⟨sg, 0, none⟩) sn sc pa pn pc l os dd, 92⟩) rfl)
  have hB2 := hB.cell 0 (x := ⟨g, pdv (some ⟨sg, 0, none⟩) sn sc pa pn pc l os dd, 92⟩) rfl 1 (.slice none 0 0)
  simp only [List.set_cons_zero, List.set_cons_succ] at hB2
  replace hB2 : Bc [g, sg] w [⟨g, pdv (some ⟨sg, 0, none⟩) sn sc none 0 0 l os dd, 92⟩, ⟨sg, C2.toArray, 50⟩] _ := hB2
  clear hB
  replace hB2 := hide hB2
  dsimp only at c4 fz
  (refine wpList_step fun K hK => ?_; replace hK := hide hK; go_simp; refine unhide hK _ _ ?_; clear hK K)
  clear c4 fz
  have hB := unhide hB2
  clear hB2
  generalize World.setCell _ _ _ = v4 at *
  refine wpList_nil ?_
  have hZ : Hid (Stl g (D.live keep) sg sc l w (.returned (.tuple #[])) v4) := by
    have hl : (liv S P keep P.length).length = sn := by rw [liv_len, unhide hlsn]
    have hd1 : (D.live keep).safe = liv S P keep P.length := by
      show liv D.safe D.pend keep D.pend.length = _
      rw [unhide hS, unhide hPp]
    refine ⟨rfl, C2, ⟨?_, ?_, ?_, ?_, ?_, (unhide hP).max, ?_, (unhide hP).lf⟩, hB.chg⟩
    · rw [hd1, hl]
      show v4.heap[g]? = some (.cells (pdv (some ⟨sg, 0, none⟩) sn sc none 0 0 l D.ops D.dead) _ (0, 0))
      rw [← unhide hos, ← unhide hdd]
      exact (hB.get 0 (x := ⟨g, pdv (some ⟨sg, 0, none⟩) sn sc none 0 0 l os dd, 92⟩) rfl)
    · exact (hB.get 1 (x := ⟨sg, C2.toArray, 50⟩) rfl)
    · rw [hd1, ← e]
      exact unhide hCov
    · rw [hCl]
      exact unhide hcz
    · rw [hd1, hl]
      exact hsc
    · exact ⟨(fun r hr => by cases hr), rfl, .inl ⟨rfl, rfl⟩⟩
  replace hB := hide hB
  go_wp2_with fail
  rw [unhide hT]
  exact bodyPost_end (results_none Tryd.results68 _ _ _) rfl (unhide hZ)
set_option maxHeartbeats 4000000 in
theorem settle_s (g : Nat) (D : Dk) (sg sc : Nat) (C : List Value) (pa : Option Addr) (pc : Nat) (l : Int) (keep : List Bool) (m : Nat) (hD : D.Ok m) (hm : m ≤ 1000001) (w : World) (hP : Pd g D w sg sc C pa pc l) (hC : ∀ (v : World), Chg [g, sg] [g, sg] w v → ∀ j : Nat, j < D.pend.length → Calls Tryd.prog 92 #[.int .i64 (j : Int)] v (Vl (.bool (keep.getD j false)) v)) : Calls Tryd.prog 68 #[P0 g, .func (.func 92) #[] #[]] w (Stl g (D.live keep) sg sc l w) := by
  obtain ⟨T, hT⟩ : ∃ T, T = Stl g (D.live keep) sg sc l w := ⟨_, rfl⟩
  rw [← hT]
  replace hT := hide hT
  obtain ⟨S, hS⟩ : ∃ x, x = D.safe := ⟨_, rfl⟩
  obtain ⟨P, hPp⟩ : ∃ x, x = D.pend := ⟨_, rfl⟩
  obtain ⟨dd, hdd⟩ : ∃ x, x = D.dead := ⟨_, rfl⟩
  obtain ⟨sn, hsn⟩ : ∃ n, n = D.safe.length := ⟨_, rfl⟩
  obtain ⟨pn, hpn⟩ : ∃ n, n = D.pend.length := ⟨_, rfl⟩
  obtain ⟨os, hos⟩ : ∃ n, n = D.ops := ⟨_, rfl⟩
  have hcl := hP.cel
  rw [← hdd, ← hsn, ← hpn, ← hos] at hcl
  replace hdd := hide hdd; replace hsn := hide hsn; replace hpn := hide hpn; replace hos := hide hos; replace hcl := hide hcl; replace hP := hide hP
  have hpm : pn ≤ 1000001 := by rw [unhide hpn]; exact Nat.le_trans hD.num hm
  have hs512 : sn ≤ 512 := by rw [unhide hsn]; exact hD.hi1
  have hB := (unhide hP).two (F := [g, sg]) (by simp) (by simp)
  rw [← unhide hdd, ← unhide hsn, ← unhide hpn, ← unhide hos] at hB
  have hCl := (unhide hP).len
  have hsc : sn ≤ sc := by rw [unhide hsn]; exact (unhide hP).cap
  have hCov : Cov C (S.map bv).flatten := by rw [hS]; exact (unhide hP).cov
  have hlsn : Hid (S.length = sn) := by show S.length = sn; rw [hS, unhide hsn]
  have hlpn : Hid (P.length = pn) := by show P.length = pn; rw [hPp, unhide hpn]
  have hDS : Hid (∀ b ∈ S, BB b) := by show ∀ b ∈ S, BB b; rw [hS]; exact hD.blk
  have hDP : Hid (∀ x ∈ P, x.1 < S.length ∧ BB x.2) := by show ∀ x ∈ P, x.1 < S.length ∧ BB x.2; rw [hS, hPp]; exact hD.pnd
  have hls : Hid (Ls 65 w pa pn pc (P.map wv)) := by show Ls 65 w pa pn pc (P.map wv); rw [hPp, unhide hpn]; exact (unhide hP).pls
  have hpf : Hid (∀ i, blkOf pa = some i → i ∉ [g, sg]) := fun i hi => by have := (unhide hP).pg_ne hi; simp [this.1, this.2]
  rw [← unhide hpn] at hC
  replace hD := hide hD; replace hB := hide hB; replace hC := hide hC; replace hS := hide hS; replace hPp := hide hPp
  go_enter Tryd.func68, Tryd.ntmps68
  go_upto_region 0 with fail
  replace hB := unhide hB
  refine wp_region_lit ?_
  refine list_val (.pointer (some ⟨g, 0, none⟩)) (by kernel_rfl) (by kernel_rfl) ?_
  simp only [nrm]
  refine list_val (.pointer (some ⟨g, 0, none⟩)) (by kernel_rfl) (by kernel_rfl) ?_
  simp only [nrm]
  refine list_val (.pointer (some ⟨g, 1, none⟩)) (by kernel_rfl) (by kernel_rfl) ?_
  simp only [nrm]
  refine list_val (.slice pa pn pc) (by kernel_rfl) (exec_spw _ (.tmp 8) rfl g 1 (by kernel_rfl) pa pn pc (cell_of (hB.get 0 (x := ⟨g, pdv (some ⟨sg, 0, none⟩) sn sc pa pn pc l os dd, 92⟩) rfl) (i := 1) rfl)) ?_
  simp only [nrm]
  refine list_val (.int .i64 pn) (by kernel_rfl) (by kernel_rfl) ?_
  simp only [nrm]
  refine list_val (.int .i64 0) (by kernel_rfl) (by kernel_rfl) ?_
  simp only [nrm]
  refine wpList_nil ?_
  have hscx : sn * 64 ≤ sc * 64 := Nat.mul_le_mul_right _ hsc
  obtain ⟨cz, hcz⟩ : ∃ z, z = sc * 64 := ⟨_, rfl⟩
  rw [← hcz] at hCl hscx
  replace hcz := hide hcz
  replace hCov : Hid (Cov C ((liv S P keep 0).map bv).flatten) := hCov
  replace hB := hide hB
  go_wp2_with fail
  go_loopw [11] (fun i wr => ∃ j : Nat, ∃ C : List Value, j ≤ pn ∧ i = .int .i64 j ∧ C.length = cz ∧ Hid (Cov C ((liv S P keep j).map bv).flatten) ∧ Hid (Bc [g, sg] w [⟨g, pdv (some ⟨sg, 0, none⟩) sn sc pa pn pc l os dd, 92⟩, ⟨sg, C.toArray, 50⟩] wr)) (fun i _ => pn - (intOf i).toNat)
  case atStart => exact ⟨0, C, by omega, rfl, hCl, hCov, hB⟩
  case round =>
  clear hB hCov hCl
  obtain ⟨j, C2, hj, rfl, hCl, hCov, hB⟩ := hrel
  by_cases hjl : j < pn
  · skip
    obtain ⟨p2, o2, rfl, hrw⟩ := (unhide hls).at_ j hjl
    rw [getD_map wv P j (0, []) [] (by rw [unhide hlpn]; exact hjl)] at hrw
    have hx := unhide hDP _ (mem_of_getD (d := (0, [])) (by rw [unhide hlpn]; exact hjl))
    have hnx : Hid (liv S P keep (j + 1) = if keep.getD j false then (liv S P keep j).set (P.getD j (0, [])).1 (P.getD j (0, [])).2 else liv S P keep j) := rfl
    obtain ⟨⟨ai, ab⟩, hab⟩ : ∃ x, x = P.getD j (0, []) := ⟨_, rfl⟩
    rw [← hab] at hrw hx hnx
    have hal : ab.length = 64 := hx.2.1
    have hai : ai < sn := by rw [← unhide hlsn]; exact hx.1
    have hwl : (wv (ai, ab)).length = 65 := by rw [wv_len, hal]
    have hlb : Hid (∀ b ∈ liv S P keep j, BB b) := liv_bb (unhide hDS) (fun x hx => (unhide hDP x hx).2) keep j (by rw [unhide hlpn]; exact hj)
    have hp2 : p2 ∉ [g, sg] := unhide hpf p2 rfl
    replace hab := hide hab; replace hx := hide hx; replace hrw := hide hrw; replace hp2 := hide hp2
    have jI : (j : Int) < (pn : Int) := by omega
    go_upto_region 2 with fail
    replace hB := unhide hB
    refine wp_region_lit ?_
    refine list_val (.int .i64 j) (by kernel_rfl) (by kernel_rfl) ?_
    simp only [nrm]
    refine list_val (.pointer (some ⟨p2, o2 + 65 * j, none⟩)) (by kernel_rfl) (exec_ipw _ (.tmp 9) (.tmp 11) rfl p2 o2 pn pc j rfl rfl hjl) ?_
    simp only [nrm]
    refine list_val (.agg ((wv (ai, ab)).toArray)) (by kernel_rfl) (exec_row _ 117 (.tmp 14) rfl p2 (o2 + 65 * j) (by kernel_rfl) (wv (ai, ab)) _ (range_chg (unhide hrw) hB.chg (unhide hp2)) Tryd.underlying117 rfl (by rw [Tryd.infoPW, hwl])) ?_
    simp only [nrm]
    refine list_valw (.pointer (some ⟨wr.heap.size, 0, none⟩)) (wr.alloc (.cells ((wv (0, ZB)).toArray) 117 (0, 0))) (by kernel_rfl) (by kernel_rfl) ?_
    replace hB := hB.new ((wv (0, ZB)).toArray) 117
    simp only [List.nil_append, List.cons_append] at hB
    generalize World.alloc _ _ = v1 at *
    generalize wr.heap.size = g8 at *
    replace hB : Bc [g, sg] w [⟨g, pdv (some ⟨sg, 0, none⟩) sn sc (some ⟨p2, o2, none⟩) pn pc l os dd, 92⟩, ⟨sg, C2.toArray, 50⟩, ⟨g8, (wv (0, ZB)).toArray, 117⟩] v1 := hB
    simp only [nrm]
    (refine wpList_step fun K hK => ?_; replace hK := hide hK; go_simp; refine unhide hK _ _ ?_; clear hK K)
    refine list_store 117 (.tmp 5) (.tmp 15) g8 ((wv (ai, ab)).toArray) 117 ((wv (0, ZB)).toArray) (by kernel_rfl) rfl (by kernel_rfl) (by kernel_rfl) (hB.get 2 (x := ⟨g8, (wv (0, ZB)).toArray, 117⟩) rfl) (by rw [Tryd.infoPW, List.size_toArray, hwl]) ((show ((wv (0, ZB)).toArray).size = 65 from rfl).trans (by rw [List.size_toArray, hwl])) (wv_one _) ?_
    replace hB := hB.set 2 (x := ⟨g8, (wv (0, ZB)).toArray, 117⟩) rfl ((wv (ai, ab)).toArray)
    simp only [List.set_cons_zero, List.set_cons_succ] at hB
    generalize World.setRow _ _ _ = v2 at *
    replace hB : Bc [g, sg] w [⟨g, pdv (some ⟨sg, 0, none⟩) sn sc (some ⟨p2, o2, none⟩) pn pc l os dd, 92⟩, ⟨sg, C2.toArray, 50⟩, ⟨g8, (wv (ai, ab)).toArray, 117⟩] v2 := hB
    simp only [nrm]
    refine wpList_nil ?_
    replace hB := hide hB
    go_upto_region 3 with fail
    replace hB := unhide hB
    refine wp_region_lit ?_
    refine list_val (.func (.func 92) #[] #[]) (by kernel_rfl) (by kernel_rfl) ?_
    simp only [nrm]
    refine list_val (.int .i64 j) (by kernel_rfl) (by kernel_rfl) ?_
    simp only [nrm]
    refine list_call 92 #[.int .i64 (j : Int)] (by kernel_rfl) (by kernel_rfl) ((unhide hC _ hB.chg j hjl).mono ?_)
    rintro r v3 ⟨rfl, hG⟩
    refine ⟨_, rfl, ?_⟩
    replace hB := hB.more hG
    clear hG
    obtain ⟨kb_, hkb⟩ : ∃ x, x = keep.getD j false := ⟨_, rfl⟩
    rw [← hkb]
    replace hkb := hide hkb
    simp only [nrm]
    refine wpList_nil ?_
    cases kb_
    case false =>
      have hB3 : Hid (Bc [g, sg] w [⟨g, pdv (some ⟨sg, 0, none⟩) sn sc (some ⟨p2, o2, none⟩) pn pc l os dd, 92⟩, ⟨sg, C2.toArray, 50⟩] _) := Bc.left (M := [⟨g8, (wv (ai, ab)).toArray, 117⟩]) hB
      clear hB
      go_wp2_with fail
      go_roundw
      case rel => exact ⟨j + 1, C2, by omega, by go_num, hCl, (by show Cov C2 ((liv S P keep (j + 1)).map bv).flatten; rw [unhide hnx, ← unhide hkb]; exact unhide hCov), hB3⟩
      case measure => simp [intOf]; omega
    case true =>
      go_upto_region 4 with fail
      replace hB := hB
      refine anyC_start 9 (fun v => Bc [g, sg] w [⟨g, pdv (some ⟨sg, 0, none⟩) sn sc (some ⟨p2, o2, none⟩) pn pc l os dd, 92⟩, ⟨sg, C2.toArray, 50⟩, ⟨g8, (wv (ai, ab)).toArray, 117⟩] v) (by kernel_rfl) ?_
      replace hB := hB.drew
      generalize World.drew _ = x0 at *
      simp only [List.size_toArray, List.length_cons, List.length_nil, Array.replicate, List.replicate]
      refine anyC_take (i := 0) (v := (.pointer (some ⟨g, 0, none⟩))) (fun v => Bc [g, sg] w [⟨g, pdv (some ⟨sg, 0, none⟩) sn sc (some ⟨p2, o2, none⟩) pn pc l os dd, 92⟩, ⟨sg, C2.toArray, 50⟩, ⟨g8, (wv (ai, ab)).toArray, 117⟩] v) (fun _ h_ => h_) (.inr (by kernel_rfl)) rfl (by kernel_rfl) (by kernel_rfl) (by kernel_rfl) (by decide) (by kernel_rfl) (by decide) (fun _ _ _ h => h) (.inl ⟨by kernel_rfl, fun x_ hu => by kernel_rfl⟩) hB ?_
      simp only [nrm]
      refine anyC_take (i := 1) (v := (.pointer (some ⟨g, 0, none⟩))) (fun v => Bc [g, sg] w [⟨g, pdv (some ⟨sg, 0, none⟩) sn sc (some ⟨p2, o2, none⟩) pn pc l os dd, 92⟩, ⟨sg, C2.toArray, 50⟩, ⟨g8, (wv (ai, ab)).toArray, 117⟩] v) (fun _ h_ => h_) (.inr (by kernel_rfl)) rfl (by kernel_rfl) (by kernel_rfl) (by kernel_rfl) (by decide) (by kernel_rfl) (by decide) (fun _ _ _ h => h) (.inl ⟨by kernel_rfl, fun x_ hu => by kernel_rfl⟩) hB ?_
      simp only [nrm]
      refine anyC_take (i := 2) (v := (.pointer (some ⟨g, 0, none⟩))) (fun v => Bc [g, sg] w [⟨g, pdv (some ⟨sg, 0, none⟩) sn sc (some ⟨p2, o2, none⟩) pn pc l os dd, 92⟩, ⟨sg, C2.toArray, 50⟩, ⟨g8, (wv (ai, ab)).toArray, 117⟩] v) (fun _ h_ => h_) (.inr (by kernel_rfl)) rfl (by kernel_rfl) (by kernel_rfl) (by kernel_rfl) (by decide) (by kernel_rfl) (by decide) (fun _ _ _ h => h) (.inl ⟨by kernel_rfl, fun x_ hu => by kernel_rfl⟩) hB ?_
      simp only [nrm]
      refine anyC_take (i := 3) (v := (.slice (some ⟨sg, 0, none⟩) sn sc)) (fun v => Bc [g, sg] w [⟨g, pdv (some ⟨sg, 0, none⟩) sn sc (some ⟨p2, o2, none⟩) pn pc l os dd, 92⟩, ⟨sg, C2.toArray, 50⟩, ⟨g8, (wv (ai, ab)).toArray, 117⟩] v) (fun _ h_ => h_) (.inr (by kernel_rfl)) rfl (by kernel_rfl) (by kernel_rfl) (by kernel_rfl) (by decide) (by kernel_rfl) (by decide) (fun _ _ _ h => h) (.inl ⟨by kernel_rfl, fun x_ hu => exec_sb _ (.tmp 21) rfl g 0 (by kernel_rfl) (some ⟨sg, 0, none⟩) sn sc (cell_of (hu.get 0 (x := ⟨g, pdv (some ⟨sg, 0, none⟩) sn sc (some ⟨p2, o2, none⟩) pn pc l os dd, 92⟩) rfl) (i := 0) rfl)⟩) hB ?_
      simp only [nrm]
      refine anyC_take (i := 4) (v := (.pointer (some ⟨g8, 0, none⟩))) (fun v => Bc [g, sg] w [⟨g, pdv (some ⟨sg, 0, none⟩) sn sc (some ⟨p2, o2, none⟩) pn pc l os dd, 92⟩, ⟨sg, C2.toArray, 50⟩, ⟨g8, (wv (ai, ab)).toArray, 117⟩] v) (fun _ h_ => h_) (.inr (by kernel_rfl)) rfl (by kernel_rfl) (by kernel_rfl) (by kernel_rfl) (by decide) (by kernel_rfl) (by decide) (fun _ _ _ h => h) (.inl ⟨by kernel_rfl, fun x_ hu => by kernel_rfl⟩) hB ?_
      simp only [nrm]
      refine anyC_take (i := 5) (v := (.int .i64 (ai : Int))) (fun v => Bc [g, sg] w [⟨g, pdv (some ⟨sg, 0, none⟩) sn sc (some ⟨p2, o2, none⟩) pn pc l os dd, 92⟩, ⟨sg, C2.toArray, 50⟩, ⟨g8, (wv (ai, ab)).toArray, 117⟩] v) (fun _ h_ => h_) (.inr (by kernel_rfl)) rfl (by kernel_rfl) (by kernel_rfl) (by kernel_rfl) (by decide) (by kernel_rfl) (by decide) (fun _ _ _ h => h) (.inl ⟨by kernel_rfl, fun x_ hu => exec_i64 _ (.tmp 23) rfl g8 0 (by kernel_rfl) _ (cell_of (hu.get 2 (x := ⟨g8, (wv (ai, ab)).toArray, 117⟩) rfl) (i := 0) rfl)⟩) hB ?_
      simp only [nrm]
      refine anyC_take (i := 6) (v := (.pointer (some ⟨g8, 1, none⟩))) (fun v => Bc [g, sg] w [⟨g, pdv (some ⟨sg, 0, none⟩) sn sc (some ⟨p2, o2, none⟩) pn pc l os dd, 92⟩, ⟨sg, C2.toArray, 50⟩, ⟨g8, (wv (ai, ab)).toArray, 117⟩] v) (fun _ h_ => h_) (.inr (by kernel_rfl)) rfl (by kernel_rfl) (by kernel_rfl) (by kernel_rfl) (by decide) (by kernel_rfl) (by decide) (fun _ _ _ h => h) (.inl ⟨by kernel_rfl, fun x_ hu => by kernel_rfl⟩) hB ?_
      simp only [nrm]
      refine anyC_take (i := 7) (v := (.agg (kc ab))) (fun v => Bc [g, sg] w [⟨g, pdv (some ⟨sg, 0, none⟩) sn sc (some ⟨p2, o2, none⟩) pn pc l os dd, 92⟩, ⟨sg, C2.toArray, 50⟩, ⟨g8, (wv (ai, ab)).toArray, 117⟩] v) (fun _ h_ => h_) (.inr (by kernel_rfl)) rfl (by kernel_rfl) (by kernel_rfl) (by kernel_rfl) (by decide) (by kernel_rfl) (by decide) (fun _ _ _ h => h) (.inl ⟨by kernel_rfl, fun x_ hu => exec_row _ 50 (.tmp 25) rfl g8 1 (by kernel_rfl) (bv ab) _ (fun q_ v_ hq => cell_of (hu.get 2 (x := ⟨g8, (wv (ai, ab)).toArray, 117⟩) rfl) (by unfold wv; rw [List.getElem?_toArray, Nat.add_comm, List.getElem?_cons_succ]; exact hq)) Tryd.underlying50 rfl (by rw [Tryd.infoB, bv_len, hal])⟩) hB ?_
      simp only [nrm]
      refine anyC_take (i := 8) (v := (.pointer (some ⟨sg, 0 + 64 * ai, none⟩))) (fun v => Bc [g, sg] w [⟨g, pdv (some ⟨sg, 0, none⟩) sn sc (some ⟨p2, o2, none⟩) pn pc l os dd, 92⟩, ⟨sg, C2.toArray, 50⟩, ⟨g8, (wv (ai, ab)).toArray, 117⟩] v) (fun _ h_ => h_) (.inr (by kernel_rfl)) rfl (by kernel_rfl) (by kernel_rfl) (by kernel_rfl) (by decide) (by kernel_rfl) (by decide) (fun _ _ _ h => h) (.inl ⟨by kernel_rfl, fun x_ hu => exec_ib _ (.tmp 22) (.tmp 24) rfl sg 0 sn sc ai rfl rfl hai⟩) hB ?_
      simp only [nrm]
      refine anyC_last (by kernel_rfl) rfl (fun K_ hQ => ?_)
      have hli : ai < (liv S P keep j).length := by rw [liv_len, unhide hlsn]; exact hai
      have hC3 : Hid (Cov (sp C2 (64 * ai) (bv ab)) ((liv S P keep (j + 1)).map bv).flatten) := by
        show Cov _ ((liv S P keep (j + 1)).map bv).flatten
        rw [unhide hnx, ← unhide hkb]
        have h := cov_set 64 (by omega) C2 ((liv S P keep j).map bv) (bv_rows (unhide hlb)) ai (by rw [List.length_map]; exact hli) (bv ab) (by rw [bv_len, hal]) (by rw [List.length_map, liv_len, unhide hlsn, hCl]; exact hscx) (unhide hCov)
        rw [← List.map_set] at h
        exact h
      have hgC := (hB.get 1 (x := ⟨sg, C2.toArray, 50⟩) rfl)
      dsimp only at hgC
      refine list_store_mid 50 (.tmp 27) (.tmp 26) sg (0 + 64 * ai) (kc ab) (by kernel_rfl) rfl (by kernel_rfl) (by kernel_rfl) (there_of hgC (by rw [kc_size, hal, hCl, Nat.zero_add]; omega)) (by rw [Tryd.infoB, kc_size, hal]) (kc_one _) ?_
      refine hQ.out _ _ ?_
      clear hQ K_
      have hbs := setCells_bt ((kc ab).toList) x0 sg (0 + 64 * ai)
      have hcl2 := setCells_heap ((kc ab).toList) x0 sg (0 + 64 * ai) C2 50 hgC
      have e9 : (kc ab).toList = bv ab := by unfold kc bv; simp
      rw [e9, Nat.zero_add] at hcl2 hbs
      rw [e9, Nat.zero_add]
      have hB4 := hB.but hbs 1 (x := ⟨sg, C2.toArray, 50⟩) rfl rfl hcl2
      simp only [List.set_cons_zero, List.set_cons_succ] at hB4
      clear hB hcl2 hbs hgC e9
      generalize World.setCells _ _ _ _ = v9 at *
      have hB := hB4
      clear hB4
      simp only [nrm]
      refine any_done (by kernel_rfl) ?_
      have hB3 : Hid (Bc [g, sg] w [⟨g, pdv (some ⟨sg, 0, none⟩) sn sc (some ⟨p2, o2, none⟩) pn pc l os dd, 92⟩, ⟨sg, (sp C2 (64 * ai) (bv ab)).toArray, 50⟩] _) := Bc.left (M := [⟨g8, (wv (ai, ab)).toArray, 117⟩]) hB
      clear hB
      go_wp2_with fail
      go_roundw
      case rel => exact ⟨j + 1, (sp C2 (64 * ai) (bv ab)), by omega, by go_num, by rw [sp_length]; exact hCl, hC3, hB3⟩
      case measure => simp [intOf]; omega
  have jI : ¬ (j : Int) < (pn : Int) := by omega
  have e : j = P.length := by rw [unhide hlpn]; omega
  go_upto_region 6 with fail
  replace hB := unhide hB
  refine wp_region_lit ?_
  refine list_val (.pointer (some ⟨g, 0, none⟩)) (by kernel_rfl) (by kernel_rfl) ?_
  simp only [nrm]
  refine list_val (.pointer (some ⟨g, 0, none⟩)) (by kernel_rfl) (by kernel_rfl) ?_
  simp only [nrm]
  refine list_val (.pointer (some ⟨g, 1, none⟩)) (by kernel_rfl) (by kernel_rfl) ?_
  simp only [nrm]
  have c4 := cell_of (hB.get 0 (x := ⟨g, pdv (some ⟨sg, 0, none⟩) sn sc pa pn pc l os dd, 92⟩) rfl) (i := 1) rfl
  have fz := froz_of (i := 1) (hB.get 0 (x := ⟨g, pdv (some ⟨sg, 0, none⟩) sn sc pa pn pc l os dd, 92⟩) rfl)
  have hB2 := hB.cell 0 (x := ⟨g, pdv (some ⟨sg, 0, none⟩) sn sc pa pn pc l os dd, 92⟩) rfl 1 (.slice none 0 0)
  simp only [List.set_cons_zero, List.set_cons_succ] at hB2
  replace hB2 : Bc [g, sg] w [⟨g, pdv (some ⟨sg, 0, none⟩) sn sc none 0 0 l os dd, 92⟩, ⟨sg, C2.toArray, 50⟩] _ := hB2
  clear hB
  replace hB2 := hide hB2
  dsimp only at c4 fz
  (refine wpList_step fun K hK => ?_; replace hK := hide hK; go_simp; refine unhide hK _ _ ?_; clear hK K)
  clear c4 fz
  have hB := unhide hB2
  clear hB2
  generalize World.setCell _ _ _ = v4 at *
  refine wpList_nil ?_
  have hZ : Hid (Stl g (D.live keep) sg sc l w (.returned (.tuple #[])) v4) := by
    have hl : (liv S P keep P.length).length = sn := by rw [liv_len, unhide hlsn]
    have hd1 : (D.live keep).safe = liv S P keep P.length := by
      show liv D.safe D.pend keep D.pend.length = _
      rw [unhide hS, unhide hPp]
    refine ⟨rfl, C2, ⟨?_, ?_, ?_, ?_, ?_, (unhide hP).max, ?_, (unhide hP).lf⟩, hB.chg⟩
    · rw [hd1, hl]
      show v4.heap[g]? = some (.cells (pdv (some ⟨sg, 0, none⟩) sn sc none 0 0 l D.ops D.dead) _ (0, 0))
      rw [← unhide hos, ← unhide hdd]
      exact (hB.get 0 (x := ⟨g, pdv (some ⟨sg, 0, none⟩) sn sc none 0 0 l os dd, 92⟩) rfl)
    · exact (hB.get 1 (x := ⟨sg, C2.toArray, 50⟩) rfl)
    · rw [hd1, ← e]
      exact unhide hCov
    · rw [hCl]
      exact unhide hcz
    · rw [hd1, hl]
      exact hsc
    · exact ⟨(fun r hr => by cases hr), rfl, .inl ⟨rfl, rfl⟩⟩
  replace hB := hide hB
  go_wp2_with fail
  rw [unhide hT]
  exact bodyPost_end (results_none Tryd.results68 _ _ _) rfl (unhide hZ)
theorem sync11_ok (j : Nat) (w : World) : Calls Tryd.prog 92 #[.int .i64 (j : Int)] w (Vl (.bool true) w) := by
  obtain ⟨T, hT⟩ : ∃ T, T = Vl (.bool true) w := ⟨_, rfl⟩
  rw [← hT]
  replace hT := hide hT
  go_enter Tryd.func92, Tryd.ntmps92
  go_wp2_with fail
  rw [unhide hT]
  exact ⟨rfl, Gr.refl w⟩
theorem exec_pd {op : Oper} {a : Act} (w : World) (x : Operand) (ho : op.op = .load 24 x) (g i : Nat) (hx : a.eval x = .pointer (some ⟨g, i, none⟩)) (p : Option Addr) (hc : w.cell? ⟨g, i, none⟩ = some (.pointer p)) : (execOp a.eval op).run Tryd.prog w = .ok (.value (.pointer p)) w := by
  unfold execOp
  simp only [ho, hx, Instr.loadAt, Instr.sureAddr, Sem.run_bind, Sem.run_pure, Result.andThen_ok]
  go_simp
theorem exec_bpw {a : Act} {o : Oper} (w : World) (x y : Operand) (ho : o.op = .build 117 #[(0, x), (1, y)]) (i : Nat) (b : List Int) (hb : b.length = 64) (hx : a.eval x = .int .i64 (i : Int)) (hy : a.eval y = .agg (kc b)) :
    (execOp a.eval o).run Tryd.prog w = .ok (.value (.agg (wv (i, b)).toArray)) w := by
  obtain ⟨p0, p1, p2, p3, p4, p5, p6, p7, p8, p9, p10, p11, p12, p13, p14, p15, p16, p17, p18, p19, p20, p21, p22, p23, p24, p25, p26, p27, p28, p29, p30, p31, q0, q1, q2, q3, q4, q5, q6, q7, q8, q9, q10, q11, q12, q13, q14, q15, q16, q17, q18, q19, q20, q21, q22, q23, q24, q25, q26, q27, q28, q29, q30, q31, rfl⟩ := list64 b hb
  have h := run_build (P := Tryd.prog) w 117 #[(0, .int .i64 (i : Int)), (1, .agg (kc ([p0, p1, p2, p3, p4, p5, p6, p7, p8, p9, p10, p11, p12, p13, p14, p15, p16, p17, p18, p19, p20, p21, p22, p23, p24, p25, p26, p27, p28, p29, p30, p31] ++ [q0, q1, q2, q3, q4, q5, q6, q7, q8, q9, q10, q11, q12, q13, q14, q15, q16, q17, q18, q19, q20, q21, q22, q23, q24, q25, q26, q27, q28, q29, q30, q31])))] ((wv (i, ([p0, p1, p2, p3, p4, p5, p6, p7, p8, p9, p10, p11, p12, p13, p14, p15, p16, p17, p18, p19, p20, p21, p22, p23, p24, p25, p26, p27, p28, p29, p30, p31] ++ [q0, q1, q2, q3, q4, q5, q6, q7, q8, q9, q10, q11, q12, q13, q14, q15, q16, q17, q18, q19, q20, q21, q22, q23, q24, q25, q26, q27, q28, q29, q30, q31]))).toArray) (by kernel_rfl)
  unfold execOp
  simp only [ho, List.map_toArray, List.map_cons, List.map_nil, hx, hy, Sem.run_bind, h, Result.andThen_ok, Sem.run_pure]
theorem exec_bs1p {a : Act} {o : Oper} (w : World) (x : Operand) (ho : o.op = .buildSlice 90 1 #[(0, x)]) (i : Nat) (b : List Int) (hb : b.length = 64) (hx : a.eval x = .agg (wv (i, b)).toArray) :
    (execOp a.eval o).run Tryd.prog w = .ok (.value (.slice (some ⟨w.heap.size, 0, none⟩) 1 1)) (w.alloc (.cells (wv (i, b)).toArray 117 (0, 0))) := by
  obtain ⟨p0, p1, p2, p3, p4, p5, p6, p7, p8, p9, p10, p11, p12, p13, p14, p15, p16, p17, p18, p19, p20, p21, p22, p23, p24, p25, p26, p27, p28, p29, p30, p31, q0, q1, q2, q3, q4, q5, q6, q7, q8, q9, q10, q11, q12, q13, q14, q15, q16, q17, q18, q19, q20, q21, q22, q23, q24, q25, q26, q27, q28, q29, q30, q31, rfl⟩ := list64 b hb
  obtain ⟨i0, h1, h2, h3, h4⟩ := info_parts Tryd.infoPWz
  have h := run_buildSlice (P := Tryd.prog) w 90 117 1 #[(0, .agg (wv (i, ([p0, p1, p2, p3, p4, p5, p6, p7, p8, p9, p10, p11, p12, p13, p14, p15, p16, p17, p18, p19, p20, p21, p22, p23, p24, p25, p26, p27, p28, p29, p30, p31] ++ [q0, q1, q2, q3, q4, q5, q6, q7, q8, q9, q10, q11, q12, q13, q14, q15, q16, q17, q18, q19, q20, q21, q22, q23, q24, q25, q26, q27, q28, q29, q30, q31]))).toArray)] ((wv (i, ([p0, p1, p2, p3, p4, p5, p6, p7, p8, p9, p10, p11, p12, p13, p14, p15, p16, p17, p18, p19, p20, p21, p22, p23, p24, p25, p26, p27, p28, p29, p30, p31] ++ [q0, q1, q2, q3, q4, q5, q6, q7, q8, q9, q10, q11, q12, q13, q14, q15, q16, q17, q18, q19, q20, q21, q22, q23, q24, q25, q26, q27, q28, q29, q30, q31]))).toArray) i0 (.agg (wv (0, ZB)).toArray) Tryd.underlying90 h1 h2 (by rw [h3]; decide) (by rw [h3]; decide) (by rw [h3]; kernel_rfl)
  unfold execOp
  simp only [ho, List.map_toArray, List.map_cons, List.map_nil, hx, Sem.run_bind, h, Result.andThen_ok, Sem.run_pure]
theorem app_row1 {t e : TypeId} {k nb : Nat} (L : Lt t e k nb) {w : World} {o : Oper} {a : Act} {K : Act → World → Prop} {Q : Exit → Act → World → Prop} (s x : Operand)
    (ho : o.op = .call { callee := .builtin .append, args := #[s, x], argTypes := #[t, t] }) (v : Value) (R : List (List Value)) (hs : a.eval s = v) (hown : Or_ k e 0 w v R)
    (p q sc : Nat) (r : List Value) (hx : a.eval x = .slice (some ⟨p, q, none⟩) 1 sc) (hrow : r.length = k) (hat : w.rangeAt p q r) (h1 : ∀ u ∈ r, u.oneCell' = true) (hbig : ((R.length + 1) + (R.length + 1) / 4 + 192) * nb ≤ 281474976710656 ∧ R.length + 1 ≤ 4611686018427387904)
    (h : ∀ v' w', Or_ k e 0 w' v' (R ++ [r]) → w.grownBy w' v.ownBlock → (v'.ownBlock = v.ownBlock ∨ v'.ownBlock = some w.heap.size) → K (a.put o.dst v') w') : o.wp Tryd.prog a w K Q := by
  obtain ⟨i0, z0, hi, hz0, hz1, hz2, hz3⟩ := L.hi
  have hat2 : ∀ j u, r[j]? = some u → w.cell? ((⟨p, q, none⟩ : Addr).add j) = some u := fun j u hj => by rw [Addr.add_mid]; exact hat j u hj
  have hrl : r.length = 1 * k := by omega
  obtain ⟨v', w', hr, h2, h3, -⟩ := run_append_own_wide (P := Tryd.prog) w 0 t o.type e i0 z0 k nb L.ht hi hz0 hz1 hz2 hz3 L.hk v R.length _ hown.2 ⟨p, q, none⟩ 1 sc r hrl hat2 h1 (by unfold maxLen; omega) hbig.1 (Nat.zero_le _)
  have hwh : v'.ownBlock = v.ownBlock ∨ v'.ownBlock = some w.heap.size := by
    subst hz1 hz2
    rcases hown.2.2 with ⟨e1, e2⟩ | ⟨g, cap, cur, e1, hbg, hg, hnc, hcm, hcs, htake⟩
    · subst e1
      have hr2 := run_append_nil (P := Tryd.prog) w t o.type e i0 z0 L.ht hi hz0 ⟨p, q, none⟩ 1 sc r hrl hat2 (by omega) (by omega) (Nat.le_trans (Nat.mul_le_mul_right _ (by omega)) hbig.1)
      rw [hr2] at hr
      injection hr with hr _
      rw [← hr]
      exact .inr rfl
    · subst e1
      by_cases hroom : R.length + 1 ≤ cap
      · have hfit : R.length * i0.size + r.length ≤ cur.size := by rw [hrl, hcs, ← Nat.add_mul]; exact Nat.mul_le_mul_right _ hroom
        have hr2 := run_append_room (P := Tryd.prog) w t o.type e i0 L.ht hi g R.length cap cur hg ⟨p, q, none⟩ 1 sc r hrl hat2 h1 hroom hfit
        rw [hr2] at hr
        injection hr with hr _
        rw [← hr]
        exact .inl rfl
      · have hr2 := run_append_grow (P := Tryd.prog) w t o.type e i0 z0 L.ht hi hz0 ⟨g, 0, none⟩ R.length cap _ hown.2.1 (hown.2.cells (g := g) rfl) ⟨p, q, none⟩ 1 sc r hrl hat2 (by omega) (by omega) (growslice_fits_wide (by omega) hbig.1)
        rw [hr2] at hr
        injection hr with hr _
        rw [← hr]
        exact .inr rfl
  unfold Oper.wp execOp
  simp only [ho, resolve, invoke, builtin, Sem.run_bind, Sem.run_pure, Result.andThen_ok, List.map_toArray, List.map_cons, List.map_nil, hs, hx, hr]
  refine h v' w' ⟨?_, ?_⟩ h3 hwh
  · intro x hx
    rcases List.mem_append.1 hx with hx | hx
    · exact hown.1 x hx
    · rw [List.mem_singleton] at hx
      rw [hx]
      exact hrow
  · rw [List.length_append, List.flatten_append]
    simpa using h2
def Wr1 (g : Nat) (D : Dk) (k : Nat) (b : List Int) (sg sc : Nat) (C : List Value) (pa : Option Addr) (l : Int) (w w' : World) : Prop := ∃ pb pd, Pd g { D with pend := D.pend ++ [(k, b)] } w' sg sc C pb pd l ∧ Chg (pdF g sg pa) (pdF g sg pb) w w'
set_option maxHeartbeats 4000000 in
theorem write1_ok (g : Nat) (D : Dk) (sg sc : Nat) (C : List Value) (pa : Option Addr) (pc : Nat) (l : Int) (k b3 b4 b5 : Nat) (b : List Int) (hb : BB b) (m : Nat) (hD : D.Ok m) (hm : m ≤ 1000001) (w : World) (hP : Pd g D w sg sc C pa pc l) (h3 : w.heap[b3]? = some (.cells #[P0 g] 24 (0, 0))) (h4 : w.heap[b4]? = some (.cells #[.int .i64 (k : Int)] 3 (0, 0))) (h5 : w.heap[b5]? = some (.cells (kc b) 50 (0, 0))) : Calls Tryd.prog 90 #[.pointer (some ⟨b3, 0, none⟩), .pointer (some ⟨b4, 0, none⟩), .pointer (some ⟨b5, 0, none⟩)] w (fun r w' => r = .returned (.tuple #[]) ∧ Wr1 g D k b sg sc C pa l w w') := by
  obtain ⟨T, hT⟩ : ∃ T : Ending → World → Prop, T = fun r w' => r = .returned (.tuple #[]) ∧ Wr1 g D k b sg sc C pa l w w' := ⟨_, rfl⟩
  rw [← hT]
  replace hT := hide hT
  obtain ⟨dd, hdd⟩ : ∃ x, x = D.dead := ⟨_, rfl⟩
  obtain ⟨sn, hsn⟩ : ∃ n, n = D.safe.length := ⟨_, rfl⟩
  obtain ⟨pn, hpn⟩ : ∃ n, n = D.pend.length := ⟨_, rfl⟩
  obtain ⟨os, hos⟩ : ∃ n, n = D.ops := ⟨_, rfl⟩
  have hcl := hP.cel
  rw [← hdd, ← hsn, ← hpn, ← hos] at hcl
  replace hdd := hide hdd; replace hsn := hide hsn; replace hpn := hide hpn; replace hos := hide hos; replace hcl := hide hcl; replace hP := hide hP
  have hpm : pn ≤ 1000001 := by rw [unhide hpn]; exact Nat.le_trans hD.num hm
  have hpo := (unhide hP).pnd
  have hbl := hb.1
  have hS : (fun (v : World) => v.heap[g]? = some (.cells (pdv (some ⟨sg, 0, none⟩) sn sc pa pn pc l os dd) 92 (0, 0)) ∧ v.heap[b3]? = some (.cells #[P0 g] 24 (0, 0)) ∧ v.heap[b4]? = some (.cells #[.int .i64 (k : Int)] 3 (0, 0)) ∧ v.heap[b5]? = some (.cells (kc b) 50 (0, 0))) w := ⟨unhide hcl, h3, h4, h5⟩
  replace hS := hide hS; replace hpo := hide hpo; replace hD := hide hD; replace hb := hide hb
  clear h3 h4 h5
  go_enter Tryd.func90, Tryd.ntmps90
  go_upto_region 0 with fail
  replace hS := unhide hS
  refine anyC_start 12 (fun (v : World) => v.heap[g]? = some (.cells (pdv (some ⟨sg, 0, none⟩) sn sc pa pn pc l os dd) 92 (0, 0)) ∧ v.heap[b3]? = some (.cells #[P0 g] 24 (0, 0)) ∧ v.heap[b4]? = some (.cells #[.int .i64 (k : Int)] 3 (0, 0)) ∧ v.heap[b5]? = some (.cells (kc b) 50 (0, 0))) (by kernel_rfl) ?_
  have hG := (Gr.refl w).drew
  replace hS : (fun (v : World) => v.heap[g]? = some (.cells (pdv (some ⟨sg, 0, none⟩) sn sc pa pn pc l os dd) 92 (0, 0)) ∧ v.heap[b3]? = some (.cells #[P0 g] 24 (0, 0)) ∧ v.heap[b4]? = some (.cells #[.int .i64 (k : Int)] 3 (0, 0)) ∧ v.heap[b5]? = some (.cells (kc b) 50 (0, 0))) _ := ⟨hG.blk hS.1, hG.blk hS.2.1, hG.blk hS.2.2.1, hG.blk hS.2.2.2⟩
  generalize World.drew _ = x0 at *
  simp only [List.size_toArray, List.length_cons, List.length_nil, Array.replicate, List.replicate]
  refine anyC_take (i := 0) (v := (.pointer (some ⟨g, 0, none⟩))) (fun (v : World) => v.heap[g]? = some (.cells (pdv (some ⟨sg, 0, none⟩) sn sc pa pn pc l os dd) 92 (0, 0)) ∧ v.heap[b3]? = some (.cells #[P0 g] 24 (0, 0)) ∧ v.heap[b4]? = some (.cells #[.int .i64 (k : Int)] 3 (0, 0)) ∧ v.heap[b5]? = some (.cells (kc b) 50 (0, 0))) (fun _ h_ => h_) (.inr (by kernel_rfl)) rfl (by kernel_rfl) (by kernel_rfl) (by kernel_rfl) (by decide) (by kernel_rfl) (by decide) (fun _ _ _ h => h) (.inl ⟨by kernel_rfl, fun x_ hu => exec_pd _ (.tmp 0) rfl b3 0 (by kernel_rfl) (some ⟨g, 0, none⟩) (cell_of hu.2.1 (i := 0) rfl)⟩) hS ?_
  simp only [nrm]
  refine anyC_take (i := 1) (v := (.pointer (some ⟨g, 0, none⟩))) (fun (v : World) => v.heap[g]? = some (.cells (pdv (some ⟨sg, 0, none⟩) sn sc pa pn pc l os dd) 92 (0, 0)) ∧ v.heap[b3]? = some (.cells #[P0 g] 24 (0, 0)) ∧ v.heap[b4]? = some (.cells #[.int .i64 (k : Int)] 3 (0, 0)) ∧ v.heap[b5]? = some (.cells (kc b) 50 (0, 0))) (fun _ h_ => h_) (.inr (by kernel_rfl)) rfl (by kernel_rfl) (by kernel_rfl) (by kernel_rfl) (by decide) (by kernel_rfl) (by decide) (fun _ _ _ h => h) (.inl ⟨by kernel_rfl, fun x_ hu => exec_pd _ (.tmp 0) rfl b3 0 (by kernel_rfl) (some ⟨g, 0, none⟩) (cell_of hu.2.1 (i := 0) rfl)⟩) hS ?_
  simp only [nrm]
  refine anyC_take (i := 2) (v := (.pointer (some ⟨g, 0, none⟩))) (fun (v : World) => v.heap[g]? = some (.cells (pdv (some ⟨sg, 0, none⟩) sn sc pa pn pc l os dd) 92 (0, 0)) ∧ v.heap[b3]? = some (.cells #[P0 g] 24 (0, 0)) ∧ v.heap[b4]? = some (.cells #[.int .i64 (k : Int)] 3 (0, 0)) ∧ v.heap[b5]? = some (.cells (kc b) 50 (0, 0))) (fun _ h_ => h_) (.inr (by kernel_rfl)) rfl (by kernel_rfl) (by kernel_rfl) (by kernel_rfl) (by decide) (by kernel_rfl) (by decide) (fun _ _ _ h => h) (.inl ⟨by kernel_rfl, fun x_ hu => by kernel_rfl⟩) hS ?_
  simp only [nrm]
  refine anyC_take (i := 3) (v := (.pointer (some ⟨g, 1, none⟩))) (fun (v : World) => v.heap[g]? = some (.cells (pdv (some ⟨sg, 0, none⟩) sn sc pa pn pc l os dd) 92 (0, 0)) ∧ v.heap[b3]? = some (.cells #[P0 g] 24 (0, 0)) ∧ v.heap[b4]? = some (.cells #[.int .i64 (k : Int)] 3 (0, 0)) ∧ v.heap[b5]? = some (.cells (kc b) 50 (0, 0))) (fun _ h_ => h_) (.inr (by kernel_rfl)) rfl (by kernel_rfl) (by kernel_rfl) (by kernel_rfl) (by decide) (by kernel_rfl) (by decide) (fun _ _ _ h => h) (.inl ⟨by kernel_rfl, fun x_ hu => by kernel_rfl⟩) hS ?_
  simp only [nrm]
  refine anyC_take (i := 4) (v := (.slice pa pn pc)) (fun (v : World) => v.heap[g]? = some (.cells (pdv (some ⟨sg, 0, none⟩) sn sc pa pn pc l os dd) 92 (0, 0)) ∧ v.heap[b3]? = some (.cells #[P0 g] 24 (0, 0)) ∧ v.heap[b4]? = some (.cells #[.int .i64 (k : Int)] 3 (0, 0)) ∧ v.heap[b5]? = some (.cells (kc b) 50 (0, 0))) (fun _ h_ => h_) (.inr (by kernel_rfl)) rfl (by kernel_rfl) (by kernel_rfl) (by kernel_rfl) (by decide) (by kernel_rfl) (by decide) (fun _ _ _ h => h) (.inl ⟨by kernel_rfl, fun x_ hu => exec_spw _ (.tmp 6) rfl g 1 (by kernel_rfl) pa pn pc (cell_of hu.1 (i := 1) rfl)⟩) hS ?_
  simp only [nrm]
  refine anyC_take (i := 5) (v := (.int .i64 (k : Int))) (fun (v : World) => v.heap[g]? = some (.cells (pdv (some ⟨sg, 0, none⟩) sn sc pa pn pc l os dd) 92 (0, 0)) ∧ v.heap[b3]? = some (.cells #[P0 g] 24 (0, 0)) ∧ v.heap[b4]? = some (.cells #[.int .i64 (k : Int)] 3 (0, 0)) ∧ v.heap[b5]? = some (.cells (kc b) 50 (0, 0))) (fun _ h_ => h_) (.inr (by kernel_rfl)) rfl (by kernel_rfl) (by kernel_rfl) (by kernel_rfl) (by decide) (by kernel_rfl) (by decide) (fun _ _ _ h => h) (.inl ⟨by kernel_rfl, fun x_ hu => exec_i64 _ (.tmp 1) rfl b4 0 (by kernel_rfl) _ (cell_of hu.2.2.1 (i := 0) rfl)⟩) hS ?_
  simp only [nrm]
  refine anyC_take (i := 6) (v := (.agg (kc b))) (fun (v : World) => v.heap[g]? = some (.cells (pdv (some ⟨sg, 0, none⟩) sn sc pa pn pc l os dd) 92 (0, 0)) ∧ v.heap[b3]? = some (.cells #[P0 g] 24 (0, 0)) ∧ v.heap[b4]? = some (.cells #[.int .i64 (k : Int)] 3 (0, 0)) ∧ v.heap[b5]? = some (.cells (kc b) 50 (0, 0))) (fun _ h_ => h_) (.inr (by kernel_rfl)) rfl (by kernel_rfl) (by kernel_rfl) (by kernel_rfl) (by decide) (by kernel_rfl) (by decide) (fun _ _ _ h => h) (.inl ⟨by kernel_rfl, fun x_ hu => exec_arr _ 50 (.tmp 2) rfl b5 (by kernel_rfl) (kc b) 50 _ hu.2.2.2 Tryd.underlying50 rfl (by rw [Tryd.infoB, kc_size, hbl])⟩) hS ?_
  simp only [nrm]
  refine anyC_take (i := 7) (v := (.agg (wv (k, b)).toArray)) (fun (v : World) => v.heap[g]? = some (.cells (pdv (some ⟨sg, 0, none⟩) sn sc pa pn pc l os dd) 92 (0, 0)) ∧ v.heap[b3]? = some (.cells #[P0 g] 24 (0, 0)) ∧ v.heap[b4]? = some (.cells #[.int .i64 (k : Int)] 3 (0, 0)) ∧ v.heap[b5]? = some (.cells (kc b) 50 (0, 0))) (fun _ h_ => h_) (.inr (by kernel_rfl)) rfl (by kernel_rfl) (by kernel_rfl) (by kernel_rfl) (by decide) (by kernel_rfl) (by decide) (fun _ _ _ h => h) (.inl ⟨by kernel_rfl, fun x_ hu => exec_bpw _ (.tmp 8) (.tmp 9) rfl k b hbl (by kernel_rfl) (by kernel_rfl)⟩) hS ?_
  simp only [nrm]
  refine anyC_one (i := 8) (by kernel_rfl) rfl (fun K_ hQ => ?_)
  refine step_val (.slice (some ⟨x0.heap.size, 0, none⟩) 1 1) (x0.alloc (.cells (wv (k, b)).toArray 117 (0, 0))) (by kernel_rfl) (exec_bs1p _ (.tmp 10) rfl k b hbl (by kernel_rfl)) ?_
  have hga := (Gr.refl x0).alloc (.cells (wv (k, b)).toArray 117 (0, 0))
  have hnb := blk_new x0 (.cells (wv (k, b)).toArray 117 (0, 0))
  replace hS : (fun (v : World) => v.heap[g]? = some (.cells (pdv (some ⟨sg, 0, none⟩) sn sc pa pn pc l os dd) 92 (0, 0)) ∧ v.heap[b3]? = some (.cells #[P0 g] 24 (0, 0)) ∧ v.heap[b4]? = some (.cells #[.int .i64 (k : Int)] 3 (0, 0)) ∧ v.heap[b5]? = some (.cells (kc b) 50 (0, 0))) _ := ⟨hga.blk hS.1, hga.blk hS.2.1, hga.blk hS.2.2.1, hga.blk hS.2.2.2⟩
  replace hG := hG.trans hga
  clear hga
  generalize World.alloc _ _ = x1 at *
  generalize x0.heap.size = gz at *
  refine hQ.out _ _ hS (fun _ => ?_)
  clear hQ K_
  simp only [nrm]
  refine anyC_one (i := 9) (by kernel_rfl) rfl (fun K_ hQ => ?_)
  rw [if_pos (by kernel_rfl)]
  refine app_row1 lt_pw (.tmp 7) (.tmp 11) rfl (.slice pa pn pc) (D.pend.map wv) rfl (by have h := (unhide hpo).gr hG; rw [← unhide hpn] at h; exact h) gz 0 1 (wv (k, b)) rfl (by rw [wv_len, hbl]) (fun j x hj => cell_of hnb (by rw [Nat.zero_add, List.getElem?_toArray]; exact hj)) (wv_one' _) (by rw [List.length_map, ← unhide hpn]; omega) ?_
  intro v4_ x2 hOs hgr hwh
  have hno : ∀ (c : Array Value) (t : TypeId) (q : Nat), t ≠ 117 → x1.heap[q]? = some (.cells c t (0, 0)) → x2.heap[q]? = some (.cells c t (0, 0)) := fun c t q ht hq => by
    rw [hgr.block q (lt_of_block hq) (fun e => ?_)]
    · exact hq
    · have e2 : blkOf pa = some q := by
        cases pa with
        | none => simp [Value.ownBlock] at e
        | some a_ => simpa [Value.ownBlock, blkOf] using e.symm
      obtain ⟨cur, hc⟩ := or_blk_lt ((unhide hpo).gr hG) e2
      rw [hq] at hc
      have := Option.some.inj hc
      injection this with _ h6 _
      exact ht h6
  replace hS : (fun (v : World) => v.heap[g]? = some (.cells (pdv (some ⟨sg, 0, none⟩) sn sc pa pn pc l os dd) 92 (0, 0)) ∧ v.heap[b3]? = some (.cells #[P0 g] 24 (0, 0)) ∧ v.heap[b4]? = some (.cells #[.int .i64 (k : Int)] 3 (0, 0)) ∧ v.heap[b5]? = some (.cells (kc b) 50 (0, 0))) _ := ⟨hno _ _ _ (by decide) hS.1, hno _ _ _ (by decide) hS.2.1, hno _ _ _ (by decide) hS.2.2.1, hno _ _ _ (by decide) hS.2.2.2⟩
  have hsg := hno _ _ _ (by decide) (hG.blk (unhide hP).saf)
  obtain ⟨pb, pd, rfl, -⟩ := hOs.ls
  have hpl : (D.pend.map wv ++ [wv (k, b)]).length = pn + 1 := by rw [List.length_append, List.length_map, ← unhide hpn]; rfl
  rw [hpl] at hOs hwh ⊢
  obtain ⟨pm, hpm2⟩ : ∃ x, x = pn + 1 := ⟨_, rfl⟩
  rw [← hpm2] at hOs hwh ⊢
  have hch : Chg (pdF g sg pa) (pdF g sg pb) w x2 := by
    have hbo : ∀ (z : Option Addr) (n c q : Nat), (Value.slice z n c).ownBlock = some q ↔ blkOf z = some q := fun z n c q => by cases z <;> simp [Value.ownBlock, blkOf]
    refine ⟨hgr.os.trans hG.os, hgr.tape.trans hG.tape, hgr.output.trans hG.output, Nat.le_trans hG.size hgr.size, fun i hi hn => ?_, fun i hi => ?_⟩
    · rw [hgr.block i (Nat.lt_of_lt_of_le hi hG.size) (fun e => hn (mem_pdF.2 (.inr (.inr ((hbo ..).1 e.symm)))))]
      exact hG.block i hi
    · rcases mem_pdF.1 hi with hi | hi | hi
      · exact .inl (mem_pdF.2 (.inl hi))
      · exact .inl (mem_pdF.2 (.inr (.inl hi)))
      · rcases hwh with h | h
        · exact .inl (mem_pdF.2 (.inr (.inr ((hbo ..).1 (h ▸ (hbo pb pm pd i).2 hi)))))
        · have h9 := (hbo ..).1 h
          rw [hi] at h9
          have := Option.some.inj h9
          exact .inr (by have := hG.size; omega)
  replace hpm2 := hide hpm2; replace hch := hide hch
  clear hgr hwh hpl hno hG hnb
  refine hQ.out _ _ hS (fun _ => ?_)
  clear hQ K_
  simp only [nrm]
  refine anyC_take (i := 10) (v := (.pointer (some ⟨g, 0, none⟩))) (fun _ => True) (fun _ _ => trivial) (.inl (fun _ => trivial)) rfl (by kernel_rfl) (by kernel_rfl) (by kernel_rfl) (by decide) (by kernel_rfl) (by decide) (fun _ _ _ h => h) (.inl ⟨by kernel_rfl, fun x_ hu => by kernel_rfl⟩) hS ?_
  simp only [nrm]
  refine anyC_take (i := 11) (v := (.pointer (some ⟨g, 1, none⟩))) (fun (v : World) => v.heap[g]? = some (.cells (pdv (some ⟨sg, 0, none⟩) sn sc pa pn pc l os dd) 92 (0, 0)) ∧ v.heap[b3]? = some (.cells #[P0 g] 24 (0, 0)) ∧ v.heap[b4]? = some (.cells #[.int .i64 (k : Int)] 3 (0, 0)) ∧ v.heap[b5]? = some (.cells (kc b) 50 (0, 0))) (fun _ h_ => h_) (.inr (by kernel_rfl)) rfl (by kernel_rfl) (by kernel_rfl) (by kernel_rfl) (by decide) (by kernel_rfl) (by decide) (fun _ _ _ h => h) (.inl ⟨by kernel_rfl, fun x_ hu => by kernel_rfl⟩) hS ?_
  simp only [nrm]
  refine anyC_last (by kernel_rfl) rfl (fun K_ hQ => ?_)
  have c4 := cell_of hS.1 (i := 1) rfl
  have fz := froz_of (i := 1) hS.1
  have hB2 : Hid ((x2.setCell ⟨g, 1, none⟩ (.slice pb pm pd)).heap[g]? = some (.cells (pdv (some ⟨sg, 0, none⟩) sn sc pb pm pd l os dd) 92 (0, 0))) := setCells_heap [.slice pb pm pd] x2 g 1 [.slice (some ⟨sg, 0, none⟩) sn sc, .slice pa pn pc, .int .i64 l, .int .i64 (os : Int), .bool dd] 92 hS.1
  have hbt : Bt g x2 (x2.setCell ⟨g, 1, none⟩ (.slice pb pm pd)) := Bt.setCell x2 1 (.slice pb pm pd)
  replace hsg := hide (hbt.blk hsg (unhide hP).sg_ne.symm)
  replace hOs := hide (or_bt hOs hS.1 (show (92 : TypeId) ≠ 117 by decide) hbt)
  replace hbt := hide hbt
  clear hS
  replace hQ := hide hQ
  go_simp
  refine (unhide hQ).out _ _ ?_
  clear hQ K_ c4 fz
  generalize World.setCell _ _ _ = x3 at *
  refine any_done (by kernel_rfl) ?_
  have hZ : Hid (Wr1 g D k b sg sc C pa l w x3) := by
    refine ⟨pb, pd, ⟨?_, unhide hsg, (unhide hP).cov, (unhide hP).len, (unhide hP).cap, (unhide hP).max, ?_, (unhide hP).lf⟩, ?_⟩
    · show x3.heap[g]? = some (.cells (pdv (some ⟨sg, 0, none⟩) D.safe.length sc pb (D.pend ++ [(k, b)]).length pd l D.ops D.dead) _ (0, 0))
      rw [List.length_append, ← unhide hsn, ← unhide hpn, ← unhide hos, ← unhide hdd, List.length_singleton, ← unhide hpm2]
      exact unhide hB2
    · show Or_ 65 117 0 x3 (.slice pb (D.pend ++ [(k, b)]).length pd) ((D.pend ++ [(k, b)]).map wv)
      rw [List.length_append, ← unhide hpn, List.length_singleton, ← unhide hpm2, List.map_append]
      exact unhide hOs
    · have hc := unhide hch
      have hb2 := unhide hbt
      exact ⟨hb2.os.trans hc.os, hb2.tape.trans hc.tape, hb2.output.trans hc.output, Nat.le_trans hc.size hb2.size, fun i hi hn => (hb2.block i (Nat.lt_of_lt_of_le hi hc.size) (fun e => hn (mem_pdF.2 (.inl e)))).trans (hc.block i hi hn), hc.new⟩
  go_wp2_with fail
  rw [unhide hT]
  exact bodyPost_end (results_none Tryd.results90 _ _ _) rfl ⟨rfl, unhide hZ⟩
end Go.Proofs.YtaoiejgjdmakjaaDoor
