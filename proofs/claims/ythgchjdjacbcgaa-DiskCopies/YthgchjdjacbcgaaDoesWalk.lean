/-
  A disk does as the document says: the walk of DiskDoes.
-/
import Derived.Test.YthgchjdjacbcgaaDkQ
namespace Go.Proofs.Ythgchjdjacbcgaa
open Go.RowKit
set_option maxRecDepth 100000
set_option linter.unusedSimpArgs false
set_option linter.unusedVariables false
theorem want_D (D : Dk) (m : Nat) (hD : D.Ok m) (hm : m ≤ 1000000) (sa : Option Addr) (sc : Nat) (pa : Option Addr) (pc : Nat) (o : Opl) (ho : o.Ok) (ka : Option Addr) (kn kp : Nat) (w : World) (hR : Rd w sa sc pa pc D) (hK : Kp w ka kn kp o.keep) : Calls Try.prog 14 #[.agg (D.v sa sc pa pc), .agg (opv o ka kn kp)] w (Rwt sa pa (D.opD o) (D.opB o) (D.opE o) w) := by
  cases D
  exact want_ok _ _ _ _ _ m hD hm sa sc pa pc o ho ka kn kp w hR hK
theorem agree_D (D : Dk) (m : Nat) (hD : D.Ok m) (hm : m ≤ 1000000) (sa : Option Addr) (sc : Nat) (pa : Option Addr) (pc : Nat) (F : List Nat) (gd : Nat) (w : World) (hL : Lies F gd D w) (hR : Rd w sa sc pa pc D) : Calls Try.prog 15 #[P0 gd, .agg (D.v sa sc pa pc)] w (fun r w' => r = .returned (.bool true) ∧ Gr w w') := by
  cases D
  exact agree_ok _ _ _ _ _ m hD hm sa sc pa pc F gd w hL hR
theorem rread_D (D : Dk) (m : Nat) (hD : D.Ok m) (hm : m ≤ 1000000) (sa : Option Addr) (sc : Nat) (pa : Option Addr) (pc : Nat) (i : Int) (w : World) (hR : Rd w sa sc pa pc D) : Calls Try.prog 18 #[.agg (D.v sa sc pa pc), .int .i64 i] w (Rrd (D.readB i) (D.readE i) w) := by
  cases D
  exact rread_ok _ _ _ _ _ m hD (by omega) sa sc pa pc i w hR
theorem Dk.v_one (D : Dk) (sa : Option Addr) (sc : Nat) (pa : Option Addr) (pc : Nat) : (D.v sa sc pa pc).all (·.oneCell') = true := dkv_one ..
set_option maxHeartbeats 4000000 in
theorem does_law (n0 : Int) (l : List Opl) (a : Option Addr) (n c : Nat) (w : World) (hl : Los w a n c l) : Calls Try.prog 3 #[.int .i64 n0, .slice a n c] w (Woke w) := by
  obtain ⟨T, hT⟩ : ∃ T, T = Woke w := ⟨_, rfl⟩
  rw [← hT]
  replace hT := hide hT
  have hcap := hl.cap
  replace hl := hide hl
  go_enter Try.func3, Try.ntmps3
  go_upto_region 1 with fail
  refine wp_region_lit ?_
  refine list_call 9 #[] (by kernel_rfl) (by kernel_rfl) ((wakes_ok _).mono ?_)
  rintro r v ⟨rfl, hG⟩
  refine ⟨_, rfl, ?_⟩
  simp only [Act.put, List.setIfInBounds_toArray, List.set_cons_zero, List.set_cons_succ, List.getElem_toArray, List.getElem_cons_zero, List.getElem_cons_succ]
  refine list_val (.bool false) (by kernel_rfl) (by kernel_rfl) ?_
  simp only [Act.put, List.setIfInBounds_toArray, List.set_cons_zero, List.set_cons_succ, List.getElem_toArray, List.getElem_cons_zero, List.getElem_cons_succ]
  refine wpList_nil ?_
  replace hG := hide hG
  go_upto_region 3 with fail
  by_cases hn : ¬ (1 ≤ n0 ∧ n0 ≤ 512)
  · skip
    refine wp_region_lit ?_
    refine list_val (.int .i64 n0) (by kernel_rfl) (by kernel_rfl) ?_
    simp only [Act.put, List.setIfInBounds_toArray, List.set_cons_zero, List.set_cons_succ, List.getElem_toArray, List.getElem_cons_zero, List.getElem_cons_succ]
    refine list_call 10 #[.int .i64 n0] (by kernel_rfl) (by kernel_rfl) ((dnew_ok n0 _).mono ?_)
    intro r u h6
    unfold Dne at h6
    rw [if_neg hn] at h6
    obtain ⟨rfl, hg1⟩ := h6
    refine ⟨_, rfl, ?_⟩
    simp only [Act.put, List.setIfInBounds_toArray, List.set_cons_zero, List.set_cons_succ, List.getElem_toArray, List.getElem_cons_zero, List.getElem_cons_succ]
    refine list_val (.tuple #[.pointer none, .int .i64 2]) (by kernel_rfl) (by kernel_rfl) ?_
    simp only [Act.put, List.setIfInBounds_toArray, List.set_cons_zero, List.set_cons_succ, List.getElem_toArray, List.getElem_cons_zero, List.getElem_cons_succ]
    refine list_val (.pointer none) (by kernel_rfl) (by kernel_rfl) ?_
    simp only [Act.put, List.setIfInBounds_toArray, List.set_cons_zero, List.set_cons_succ, List.getElem_toArray, List.getElem_cons_zero, List.getElem_cons_succ]
    refine list_val (.int .i64 2) (by kernel_rfl) (by kernel_rfl) ?_
    simp only [Act.put, List.setIfInBounds_toArray, List.set_cons_zero, List.set_cons_succ, List.getElem_toArray, List.getElem_cons_zero, List.getElem_cons_succ]
    (refine wpList_step fun K hK => ?_; replace hK := hide hK; go_simp; refine unhide hK _ _ ?_; clear hK K)
    (refine wpList_step fun K hK => ?_; replace hK := hide hK; go_simp; refine unhide hK _ _ ?_; clear hK K)
    refine wpList_nil ?_
    replace hG := hide ((unhide hG).trans hg1)
    clear hg1
    go_upto_region 4 with fail
    refine wp_region_lit ?_
    refine list_val (.int .i64 n0) (by kernel_rfl) (by kernel_rfl) ?_
    simp only [Act.put, List.setIfInBounds_toArray, List.set_cons_zero, List.set_cons_succ, List.getElem_toArray, List.getElem_cons_zero, List.getElem_cons_succ]
    refine list_call 11 #[.int .i64 n0] (by kernel_rfl) (by kernel_rfl) ((rnew_ok n0 _).mono ?_)
    intro r u2 h6
    unfold Rnw at h6
    rw [if_neg hn] at h6
    obtain ⟨rfl, hg1⟩ := h6
    have hB := (Bl.nil u).more hg1
    refine ⟨_, rfl, ?_⟩
    simp only [Act.put, List.setIfInBounds_toArray, List.set_cons_zero, List.set_cons_succ, List.getElem_toArray, List.getElem_cons_zero, List.getElem_cons_succ]
    refine list_val (.tuple #[.agg ZD, .int .i64 2]) (by kernel_rfl) (by kernel_rfl) ?_
    simp only [Act.put, List.setIfInBounds_toArray, List.set_cons_zero, List.set_cons_succ, List.getElem_toArray, List.getElem_cons_zero, List.getElem_cons_succ]
    refine list_val (.agg ZD) (by kernel_rfl) (by kernel_rfl) ?_
    simp only [Act.put, List.setIfInBounds_toArray, List.set_cons_zero, List.set_cons_succ, List.getElem_toArray, List.getElem_cons_zero, List.getElem_cons_succ]
    refine list_val (.int .i64 2) (by kernel_rfl) (by kernel_rfl) ?_
    simp only [Act.put, List.setIfInBounds_toArray, List.set_cons_zero, List.set_cons_succ, List.getElem_toArray, List.getElem_cons_zero, List.getElem_cons_succ]
    refine list_valw (.pointer (some ⟨u2.heap.size, 0, none⟩)) (u2.alloc (.cells (ZD) 31 (0, 0))) (by kernel_rfl) (by kernel_rfl) ?_
    replace hB := hB.new (ZD) 31
    simp only [List.nil_append, List.cons_append] at hB
    generalize World.alloc _ _ = u3 at *
    generalize u2.heap.size = gx at *
    replace hB : Bl u [⟨gx, ZD, 31⟩] u3 := hB
    simp only [Act.put, List.setIfInBounds_toArray, List.set_cons_zero, List.set_cons_succ, List.getElem_toArray, List.getElem_cons_zero, List.getElem_cons_succ]
    refine list_store 31 (.tmp 7) (.tmp 29) (gx) (ZD) 31 (ZD) (by kernel_rfl) rfl (by kernel_rfl) (by kernel_rfl) (hB.get 0 (x := ⟨gx, ZD, 31⟩) rfl) (by rw [Try.infoRD]; rfl) rfl (dkv_one ..) ?_
    replace hB := hB.set 0 (x := ⟨gx, ZD, 31⟩) rfl (ZD)
    simp only [List.set_cons_zero, List.set_cons_succ] at hB
    generalize World.setRow _ _ _ = u4 at *
    replace hB : Bl u [⟨gx, ZD, 31⟩] u4 := hB
    simp only [Act.put, List.setIfInBounds_toArray, List.set_cons_zero, List.set_cons_succ, List.getElem_toArray, List.getElem_cons_zero, List.getElem_cons_succ]
    (refine wpList_step fun K hK => ?_; replace hK := hide hK; go_simp; refine unhide hK _ _ ?_; clear hK K)
    refine wpList_nil ?_
    replace hG := hide ((unhide hG).trans hB.gr)
    clear hB
    go_wp2_with fail
    rw [unhide hT]
    exact ⟨rfl, unhide hG⟩
  replace hn := Decidable.not_not.1 hn
  refine wp_region_lit ?_
  refine list_val (.int .i64 n0) (by kernel_rfl) (by kernel_rfl) ?_
  simp only [Act.put, List.setIfInBounds_toArray, List.set_cons_zero, List.set_cons_succ, List.getElem_toArray, List.getElem_cons_zero, List.getElem_cons_succ]
  refine list_call 10 #[.int .i64 n0] (by kernel_rfl) (by kernel_rfl) ((dnew_ok n0 _).mono ?_)
  intro r u h6
  unfold Dne at h6
  rw [if_pos hn] at h6
  obtain ⟨g, F, rfl, hL, hF, hg1⟩ := h6
  refine ⟨_, rfl, ?_⟩
  simp only [Act.put, List.setIfInBounds_toArray, List.set_cons_zero, List.set_cons_succ, List.getElem_toArray, List.getElem_cons_zero, List.getElem_cons_succ]
  refine list_val (.tuple #[.pointer (some ⟨g, 0, none⟩), .int .i64 0]) (by kernel_rfl) (by kernel_rfl) ?_
  simp only [Act.put, List.setIfInBounds_toArray, List.set_cons_zero, List.set_cons_succ, List.getElem_toArray, List.getElem_cons_zero, List.getElem_cons_succ]
  refine list_val (.pointer (some ⟨g, 0, none⟩)) (by kernel_rfl) (by kernel_rfl) ?_
  simp only [Act.put, List.setIfInBounds_toArray, List.set_cons_zero, List.set_cons_succ, List.getElem_toArray, List.getElem_cons_zero, List.getElem_cons_succ]
  refine list_val (.int .i64 0) (by kernel_rfl) (by kernel_rfl) ?_
  simp only [Act.put, List.setIfInBounds_toArray, List.set_cons_zero, List.set_cons_succ, List.getElem_toArray, List.getElem_cons_zero, List.getElem_cons_succ]
  (refine wpList_step fun K hK => ?_; replace hK := hide hK; go_simp; refine unhide hK _ _ ?_; clear hK K)
  (refine wpList_step fun K hK => ?_; replace hK := hide hK; go_simp; refine unhide hK _ _ ?_; clear hK K)
  refine wpList_nil ?_
  have hD0 := dk0_ok n0.toNat (by omega) (by omega)
  replace hF : ∀ i ∈ F, w.heap.size ≤ i := fun i hi => Nat.le_trans (unhide hG).size (hF i hi)
  replace hG := hide ((unhide hG).trans hg1)
  replace hL := hide hL; replace hD0 := hide hD0
  clear hg1
  go_upto_region 4 with fail
  refine wp_region_lit ?_
  refine list_val (.int .i64 n0) (by kernel_rfl) (by kernel_rfl) ?_
  simp only [Act.put, List.setIfInBounds_toArray, List.set_cons_zero, List.set_cons_succ, List.getElem_toArray, List.getElem_cons_zero, List.getElem_cons_succ]
  refine list_call 11 #[.int .i64 n0] (by kernel_rfl) (by kernel_rfl) ((rnew_ok n0 _).mono ?_)
  intro r u2 h6
  unfold Rnw at h6
  rw [if_pos hn] at h6
  obtain ⟨sa, sc, pa, pc, rfl, hR, hf1, hf2, hg1⟩ := h6
  have hB := (Bl.nil u).more hg1
  refine ⟨_, rfl, ?_⟩
  simp only [Act.put, List.setIfInBounds_toArray, List.set_cons_zero, List.set_cons_succ, List.getElem_toArray, List.getElem_cons_zero, List.getElem_cons_succ]
  refine list_val (.tuple #[.agg ((dk0 n0.toNat).v sa sc pa pc), .int .i64 0]) (by kernel_rfl) (by kernel_rfl) ?_
  simp only [Act.put, List.setIfInBounds_toArray, List.set_cons_zero, List.set_cons_succ, List.getElem_toArray, List.getElem_cons_zero, List.getElem_cons_succ]
  refine list_val (.agg ((dk0 n0.toNat).v sa sc pa pc)) (by kernel_rfl) (by kernel_rfl) ?_
  simp only [Act.put, List.setIfInBounds_toArray, List.set_cons_zero, List.set_cons_succ, List.getElem_toArray, List.getElem_cons_zero, List.getElem_cons_succ]
  refine list_val (.int .i64 0) (by kernel_rfl) (by kernel_rfl) ?_
  simp only [Act.put, List.setIfInBounds_toArray, List.set_cons_zero, List.set_cons_succ, List.getElem_toArray, List.getElem_cons_zero, List.getElem_cons_succ]
  refine list_valw (.pointer (some ⟨u2.heap.size, 0, none⟩)) (u2.alloc (.cells ZD 31 (0, 0))) (by kernel_rfl) (by kernel_rfl) ?_
  have hgl : ∀ p, p < u2.heap.size → p ≠ u2.heap.size := fun p h => Nat.ne_of_lt h
  have hga := (Gr.refl u2).alloc (.cells ZD 31 (0, 0))
  replace hB := hB.new (ZD) 31
  simp only [List.nil_append, List.cons_append] at hB
  have hsx : blkOf sa ≠ some u2.heap.size := fun e => hgl _ (hR.sf.low _ e) rfl
  have hpx : blkOf pa ≠ some u2.heap.size := fun e => hgl _ (hR.pn.low _ e) rfl
  have hxF : u2.heap.size ∉ F := fun hm => hgl _ (Nat.lt_of_lt_of_le ((unhide hL).lt _ hm) hg1.size) rfl
  replace hR := hR.gr hga
  clear hgl hga
  generalize World.alloc _ _ = u3 at *
  generalize u2.heap.size = gx at *
  replace hB : Bl u [⟨gx, ZD, 31⟩] u3 := hB
  simp only [Act.put, List.setIfInBounds_toArray, List.set_cons_zero, List.set_cons_succ, List.getElem_toArray, List.getElem_cons_zero, List.getElem_cons_succ]
  refine list_store 31 (.tmp 7) (.tmp 29) gx ((dk0 n0.toNat).v sa sc pa pc) 31 ZD (by kernel_rfl) rfl (by kernel_rfl) (by kernel_rfl) (hB.get 0 (x := ⟨gx, ZD, 31⟩) rfl) (by rw [Try.infoRD]; rfl) rfl (Dk.v_one ..) ?_
  replace hR := hR.bt ((Bt.refl gx u3).row_self ((dk0 n0.toNat).v sa sc pa pc)) hsx hpx
  replace hB := hB.set 0 (x := ⟨gx, ZD, 31⟩) rfl ((dk0 n0.toNat).v sa sc pa pc)
  simp only [List.set_cons_zero, List.set_cons_succ] at hB
  generalize World.setRow _ _ _ = u4 at *
  replace hB : Bl u [⟨gx, (dk0 n0.toNat).v sa sc pa pc, 31⟩] u4 := hB
  simp only [Act.put, List.setIfInBounds_toArray, List.set_cons_zero, List.set_cons_succ, List.getElem_toArray, List.getElem_cons_zero, List.getElem_cons_succ]
  (refine wpList_step fun K hK => ?_; replace hK := hide hK; go_simp; refine unhide hK _ _ ?_; clear hK K)
  refine wpList_nil ?_
  have hTw : Tw w F g (dk0 n0.toNat) gx sa sc pa pc (dk0 n0.toNat) u4 := by
    refine ⟨(unhide hG).trans hB.gr, (unhide hL).gr hB.gr, hF, (hB.get 0 (x := ⟨gx, (dk0 n0.toNat).v sa sc pa pc, 31⟩) rfl), Nat.le_trans (unhide hG).size (hB.own 0 (x := ⟨gx, (dk0 n0.toNat).v sa sc pa pc, 31⟩) rfl), hxF, hR, hsx, hpx, ?_, ?_⟩
    · intro i hi e
      rcases hf1 i e with h | h
      · cases h
      · have := (unhide hL).lt i hi; omega
    · intro i hi e
      rcases hf2 i e with h | h
      · cases h
      · have := (unhide hL).lt i hi; omega
  clear hB hR hsx hpx hxF hf1 hf2 hL hF hg1 hG
  obtain ⟨D0, hDz⟩ : ∃ D, D = dk0 n0.toNat := ⟨_, rfl⟩
  rw [← hDz] at hTw hD0 ⊢
  replace hDz := hide hDz; replace hTw := hide hTw
  go_upto_region 9 with fail
  refine wp_region_lit ?_
  refine list_val (.slice a n c) (by kernel_rfl) (by kernel_rfl) ?_
  simp only [Act.put, List.setIfInBounds_toArray, List.set_cons_zero, List.set_cons_succ, List.getElem_toArray, List.getElem_cons_zero, List.getElem_cons_succ]
  refine list_call 12 #[.slice a n c] (by kernel_rfl) (by kernel_rfl) ((few_ok a n c hcap _).mono ?_)
  rintro r u_ ⟨m, rfl, hm, hu⟩
  refine ⟨_, rfl, ?_⟩
  replace hu := hu.symm
  subst hu
  have hlf := hide ((unhide hl).few hm)
  have hm120 : m ≤ 120 := by omega
  replace hm := hide hm
  simp only [Act.put, List.setIfInBounds_toArray, List.set_cons_zero, List.set_cons_succ, List.getElem_toArray, List.getElem_cons_zero, List.getElem_cons_succ]
  refine list_val (.int .i64 m) (by kernel_rfl) (by kernel_rfl) ?_
  simp only [Act.put, List.setIfInBounds_toArray, List.set_cons_zero, List.set_cons_succ, List.getElem_toArray, List.getElem_cons_zero, List.getElem_cons_succ]
  refine list_val (.int .i64 0) (by kernel_rfl) (by kernel_rfl) ?_
  simp only [Act.put, List.setIfInBounds_toArray, List.set_cons_zero, List.set_cons_succ, List.getElem_toArray, List.getElem_cons_zero, List.getElem_cons_succ]
  refine wpList_nil ?_
  obtain ⟨l2, hl2⟩ : ∃ x, x = l.take 120 := ⟨_, rfl⟩
  rw [← hl2] at hlf
  have hok := hide (unhide hlf).ok
  have hT0 : Hid (∃ F sa sc pa pc, Tw w F g (alD D0 l2 0) gx sa sc pa pc (alD D0 l2 0) u4) := ⟨F, sa, sc, pa, pc, unhide hTw⟩
  replace hl2 := hide hl2
  clear hTw
  go_wp2_with fail
  go_loopw [46] (fun i wr => ∃ j : Nat, j ≤ m ∧ i = .int .i64 j ∧ Hid (∃ F sa sc pa pc, Tw w F g (alD D0 l2 j) gx sa sc pa pc (alD D0 l2 j) wr)) (fun i _ => m - (intOf i).toNat)
  case atStart => exact ⟨0, by omega, rfl, hT0⟩
  case round =>
  clear hT0
  obtain ⟨j, hj, rfl, hTj⟩ := hrel
  by_cases hjl : j < m
  · skip
    have jI : (j : Int) < (m : Int) := by omega
    obtain ⟨p, o, ka, kn, kp, rfl, hrw, hkp, hqo⟩ := (unhide hlf).at_ j hjl
    have hsc : Hid (alD D0 l2 (j + 1) = (alD D0 l2 j).opD (l2.getD j op0)) := rfl
    generalize l2.getD j op0 = q at *
    have hDk := alD_ok (unhide hD0) (unhide hok) j
    rw [Nat.zero_add] at hDk
    obtain ⟨F, sa, sc, pa, pc, hTw⟩ := unhide hTj
    clear hTj
    generalize alD D0 l2 j = D at *
    have hDq := hDk.op q hqo
    have hDb := Dk.opB_bb hDk q
    replace hrw := hide hrw; replace hkp := hide hkp; replace hqo := hide hqo; replace hDk := hide hDk; replace hDq := hide hDq; replace hDb := hide hDb
    replace hTw := hide hTw
    go_upto_region 11 with fail
    replace hTw := unhide hTw
    have hB := Bl.nil wr
    refine wp_region_lit ?_
    refine list_val (.pointer (some ⟨p, o + 4 * j, none⟩)) (by kernel_rfl) (exec_io _ (.tmp 44) (.tmp 46) rfl p o m c j rfl rfl hjl) ?_
    simp only [Act.put, List.setIfInBounds_toArray, List.set_cons_zero, List.set_cons_succ, List.getElem_toArray, List.getElem_cons_zero, List.getElem_cons_succ]
    refine list_val (.agg (opv q ka kn kp)) (by kernel_rfl) (exec_lop _ (.tmp 48) rfl p (o + 4 * j) (by kernel_rfl) q ka kn kp (range_gr (unhide hrw) hTw.gr)) ?_
    simp only [Act.put, List.setIfInBounds_toArray, List.set_cons_zero, List.set_cons_succ, List.getElem_toArray, List.getElem_cons_zero, List.getElem_cons_succ]
    refine list_valw (.pointer (some ⟨wr.heap.size, 0, none⟩)) (wr.alloc (.cells (opv op0 none 0 0) 37 (0, 0))) (by kernel_rfl) (by kernel_rfl) ?_
    replace hB := hB.new (opv op0 none 0 0) 37
    simp only [List.nil_append, List.cons_append] at hB
    generalize World.alloc _ _ = v1 at *
    generalize wr.heap.size = go at *
    replace hB : Bl wr [⟨go, opv op0 none 0 0, 37⟩] v1 := hB
    simp only [Act.put, List.setIfInBounds_toArray, List.set_cons_zero, List.set_cons_succ, List.getElem_toArray, List.getElem_cons_zero, List.getElem_cons_succ]
    refine list_store 37 (.tmp 10) (.tmp 49) go (opv q ka kn kp) 37 (opv op0 none 0 0) (by kernel_rfl) rfl (by kernel_rfl) (by kernel_rfl) (hB.get 0 (x := ⟨go, opv op0 none 0 0, 37⟩) rfl) (by rw [Try.infoO]; rfl) rfl (opv_one ..) ?_
    replace hB := hB.set 0 (x := ⟨go, opv op0 none 0 0, 37⟩) rfl (opv q ka kn kp)
    simp only [List.set_cons_zero, List.set_cons_succ] at hB
    generalize World.setRow _ _ _ = v2 at *
    replace hB : Bl wr [⟨go, opv q ka kn kp, 37⟩] v2 := hB
    simp only [Act.put, List.setIfInBounds_toArray, List.set_cons_zero, List.set_cons_succ, List.getElem_toArray, List.getElem_cons_zero, List.getElem_cons_succ]
    refine wpList_nil ?_
    have hTv := hTw.more hB.gr
    have hO := (hB.get 0 (x := ⟨go, opv q ka kn kp, 37⟩) rfl)
    have hoF : go ∉ F := fun hm => by have h1 := hTw.ls.lt _ hm; have h2 := hB.own 0 (x := ⟨go, opv q ka kn kp, 37⟩) rfl; dsimp only at h2; omega
    dsimp only at hO
    replace hO := hide hO; replace hTv := hide hTv
    clear hTw hB
    go_upto_region 12 with fail
    refine wp_region_lit ?_
    refine list_val (.pointer (some ⟨g, 0, none⟩)) (by kernel_rfl) (by kernel_rfl) ?_
    simp only [Act.put, List.setIfInBounds_toArray, List.set_cons_zero, List.set_cons_succ, List.getElem_toArray, List.getElem_cons_zero, List.getElem_cons_succ]
    refine list_val (.agg (opv q ka kn kp)) (by kernel_rfl) (exec_arr _ 37 (.tmp 10) rfl go (by kernel_rfl) (opv q ka kn kp) 37 _ (unhide hO) Try.underlying37 rfl (by rw [Try.infoO]; rfl)) ?_
    simp only [Act.put, List.setIfInBounds_toArray, List.set_cons_zero, List.set_cons_succ, List.getElem_toArray, List.getElem_cons_zero, List.getElem_cons_succ]
    refine list_call 13 #[.pointer (some ⟨g, 0, none⟩), .agg (opv q ka kn kp)] (by kernel_rfl) (by kernel_rfl) ((does_ok F g j D (unhide hDk) (by omega) q (unhide hqo) ka kn kp _ (unhide hTv).ls ((unhide hkp).gr (unhide hTv).gr)).mono ?_)
    rintro r v3 ⟨F1, rfl, hL1, hch⟩
    refine ⟨_, rfl, ?_⟩
    have hT3 := (unhide hTv).chg hch hL1
    have hO3 := hide (hch.blk (unhide hO) hoF)
    obtain ⟨b, hb⟩ : ∃ b, b = D.opB q := ⟨_, rfl⟩
    obtain ⟨e, he⟩ : ∃ e, e = D.opE q := ⟨_, rfl⟩
    rw [← hb, ← he]
    rw [← hb] at hDb
    have hbl := (unhide hDb).1
    replace hb := hide hb; replace he := hide he
    have hB := Bl.nil v3
    clear hTv hO hoF hch hL1
    simp only [Act.put, List.setIfInBounds_toArray, List.set_cons_zero, List.set_cons_succ, List.getElem_toArray, List.getElem_cons_zero, List.getElem_cons_succ]
    refine list_val (.tuple #[.agg (kc b), .int .i64 e]) (by kernel_rfl) (by kernel_rfl) ?_
    simp only [Act.put, List.setIfInBounds_toArray, List.set_cons_zero, List.set_cons_succ, List.getElem_toArray, List.getElem_cons_zero, List.getElem_cons_succ]
    refine list_val (.agg (kc b)) (by kernel_rfl) (by kernel_rfl) ?_
    simp only [Act.put, List.setIfInBounds_toArray, List.set_cons_zero, List.set_cons_succ, List.getElem_toArray, List.getElem_cons_zero, List.getElem_cons_succ]
    refine list_val (.int .i64 e) (by kernel_rfl) (by kernel_rfl) ?_
    simp only [Act.put, List.setIfInBounds_toArray, List.set_cons_zero, List.set_cons_succ, List.getElem_toArray, List.getElem_cons_zero, List.getElem_cons_succ]
    refine list_valw (.pointer (some ⟨v3.heap.size, 0, none⟩)) (v3.alloc (.cells (kc ZB) 39 (0, 0))) (by kernel_rfl) (by kernel_rfl) ?_
    replace hB := hB.new (kc ZB) 39
    simp only [List.nil_append, List.cons_append] at hB
    generalize World.alloc _ _ = v4 at *
    generalize v3.heap.size = gb at *
    replace hB : Bl v3 [⟨gb, kc ZB, 39⟩] v4 := hB
    simp only [Act.put, List.setIfInBounds_toArray, List.set_cons_zero, List.set_cons_succ, List.getElem_toArray, List.getElem_cons_zero, List.getElem_cons_succ]
    refine list_store 39 (.tmp 11) (.tmp 54) (gb) (kc b) 39 (kc ZB) (by kernel_rfl) rfl (by kernel_rfl) (by kernel_rfl) (hB.get 0 (x := ⟨gb, kc ZB, 39⟩) rfl) (by rw [Try.infoB, kc_size, hbl]) ((show (kc ZB).size = 64 from rfl).trans ((kc_size _).trans hbl).symm) (kc_one _) ?_
    replace hB := hB.set 0 (x := ⟨gb, kc ZB, 39⟩) rfl (kc b)
    simp only [List.set_cons_zero, List.set_cons_succ] at hB
    generalize World.setRow _ _ _ = v5 at *
    replace hB : Bl v3 [⟨gb, kc b, 39⟩] v5 := hB
    simp only [Act.put, List.setIfInBounds_toArray, List.set_cons_zero, List.set_cons_succ, List.getElem_toArray, List.getElem_cons_zero, List.getElem_cons_succ]
    (refine wpList_step fun K hK => ?_; replace hK := hide hK; go_simp; refine unhide hK _ _ ?_; clear hK K)
    refine wpList_nil ?_
    replace hB := hide hB
    replace hT3 := hide hT3
    go_upto_region 13 with fail
    replace hB := unhide hB
    replace hT3 := unhide hT3
    refine wp_region_lit ?_
    refine list_valw (.pointer (some ⟨v5.heap.size, 0, none⟩)) (v5.alloc (.cells (kc ZB) 39 (0, 0))) (by kernel_rfl) (by kernel_rfl) ?_
    replace hB := hB.new (kc ZB) 39
    simp only [List.nil_append, List.cons_append] at hB
    generalize World.alloc _ _ = v6 at *
    generalize v5.heap.size = gc at *
    replace hB : Bl v3 [⟨gb, kc b, 39⟩, ⟨gc, kc ZB, 39⟩] v6 := hB
    simp only [Act.put, List.setIfInBounds_toArray, List.set_cons_zero, List.set_cons_succ, List.getElem_toArray, List.getElem_cons_zero, List.getElem_cons_succ]
    refine wpList_nil ?_
    replace hB := hide hB
    replace hT3 := hide hT3
    go_upto_region 14 with fail
    replace hB := unhide hB
    replace hT3 := unhide hT3
    refine wp_region_lit ?_
    refine list_val (.agg (D.v sa sc pa pc)) (by kernel_rfl) (exec_arr _ 31 (.tmp 7) rfl gx (by kernel_rfl) (D.v sa sc pa pc) 31 _ (hB.gr.blk hT3.xb) Try.underlying31 rfl (by rw [Try.infoRD]; rfl)) ?_
    simp only [Act.put, List.setIfInBounds_toArray, List.set_cons_zero, List.set_cons_succ, List.getElem_toArray, List.getElem_cons_zero, List.getElem_cons_succ]
    refine list_val (.agg (opv q ka kn kp)) (by kernel_rfl) (exec_arr _ 37 (.tmp 10) rfl go (by kernel_rfl) (opv q ka kn kp) 37 _ (hB.gr.blk (unhide hO3)) Try.underlying37 rfl (by rw [Try.infoO]; rfl)) ?_
    simp only [Act.put, List.setIfInBounds_toArray, List.set_cons_zero, List.set_cons_succ, List.getElem_toArray, List.getElem_cons_zero, List.getElem_cons_succ]
    refine list_call 14 #[.agg (D.v sa sc pa pc), .agg (opv q ka kn kp)] (by kernel_rfl) (by kernel_rfl) ((want_D D j (unhide hDk) (by omega) sa sc pa pc q (unhide hqo) ka kn kp _ (hT3.more hB.gr).rd ((unhide hkp).gr (hT3.more hB.gr).gr)).mono ?_)
    rintro r v7 ⟨sb, sd, pb, pd, rfl, hR1, hf1, hf2, hg⟩
    refine ⟨_, rfl, ?_⟩
    rw [← unhide hb, ← unhide he]
    obtain ⟨E, hE⟩ : ∃ E, E = D.opD q := ⟨_, rfl⟩
    rw [← hE] at hR1 hT3 hDq hsc ⊢
    have hlc := lt_of_block (hB.get 1 (x := ⟨gc, kc ZB, 39⟩) rfl)
    have hbc : gb ≠ gc := (List.pairwise_cons.1 hB.ne).1 ⟨gc, kc ZB, 39⟩ (by simp)
    have hob := hB.own 0 (x := ⟨gb, kc b, 39⟩) rfl
    have hoc := hB.own 1 (x := ⟨gc, kc ZB, 39⟩) rfl
    dsimp only at hlc hob hoc
    have hxl := lt_of_block hT3.xb
    have qs : blkOf sb ≠ some gc := hf1.far hT3.rd.sf.low hoc hlc
    have qp : blkOf pb ≠ some gc := hf2.far hT3.rd.pn.low hoc hlc
    have qF : gc ∉ F1 := fun hm => by have := hT3.ls.lt _ hm; omega
    have hT7 := (hT3.more hB.gr).put hg hR1 hf1 hf2
    replace hE := hide hE
    replace hB := hB.more hg
    simp only [Act.put, List.setIfInBounds_toArray, List.set_cons_zero, List.set_cons_succ, List.getElem_toArray, List.getElem_cons_zero, List.getElem_cons_succ]
    refine list_val (.tuple #[.agg (E.v sb sd pb pd), .agg (kc b), .int .i64 e]) (by kernel_rfl) (by kernel_rfl) ?_
    simp only [Act.put, List.setIfInBounds_toArray, List.set_cons_zero, List.set_cons_succ, List.getElem_toArray, List.getElem_cons_zero, List.getElem_cons_succ]
    refine list_val (.agg (E.v sb sd pb pd)) (by kernel_rfl) (by kernel_rfl) ?_
    simp only [Act.put, List.setIfInBounds_toArray, List.set_cons_zero, List.set_cons_succ, List.getElem_toArray, List.getElem_cons_zero, List.getElem_cons_succ]
    refine list_val (.agg (kc b)) (by kernel_rfl) (by kernel_rfl) ?_
    simp only [Act.put, List.setIfInBounds_toArray, List.set_cons_zero, List.set_cons_succ, List.getElem_toArray, List.getElem_cons_zero, List.getElem_cons_succ]
    refine list_val (.int .i64 e) (by kernel_rfl) (by kernel_rfl) ?_
    simp only [Act.put, List.setIfInBounds_toArray, List.set_cons_zero, List.set_cons_succ, List.getElem_toArray, List.getElem_cons_zero, List.getElem_cons_succ]
    refine list_store 31 (.tmp 7) (.tmp 60) gx (E.v sb sd pb pd) 31 (D.v sa sc pa pc) (by kernel_rfl) rfl (by kernel_rfl) (by kernel_rfl) (hB.gr.blk hT3.xb) (by rw [Try.infoRD]; rfl) rfl (Dk.v_one ..) ?_
    have hbx : Bt gx v7 (v7.setRow gx (E.v sb sd pb pd)) := (Bt.refl gx v7).row_self _
    have kB := hbx.blk (hB.get 0 (x := ⟨gb, kc b, 39⟩) rfl) (show gb ≠ gx by omega)
    have kC := hbx.blk (hB.get 1 (x := ⟨gc, kc ZB, 39⟩) rfl) (show gc ≠ gx by omega)
    dsimp only at kB kC
    clear hbx hB hR1 hf1 hf2 hg
    generalize World.setRow _ _ _ = v8 at *
    simp only [Act.put, List.setIfInBounds_toArray, List.set_cons_zero, List.set_cons_succ, List.getElem_toArray, List.getElem_cons_zero, List.getElem_cons_succ]
    refine list_store 39 (.tmp 13) (.tmp 61) gc (kc b) 39 (kc ZB) (by kernel_rfl) rfl (by kernel_rfl) (by kernel_rfl) kC (by rw [Try.infoB, kc_size, hbl]) ((show (kc ZB).size = 64 from rfl).trans ((kc_size _).trans hbl).symm) (kc_one _) ?_
    have hbx : Bt gc v8 (v8.setRow gc (kc b)) := (Bt.refl gc v8).row_self _
    have hT9 := hT7.st hbx (Nat.le_trans hT3.gr.size hoc) (show gc ≠ gx by omega) qF qs qp
    have kB2 := hbx.blk kB hbc
    have kC2 := setRow_heap v8 gc _ (kc b) _ _ kC
    clear hbx kB kC hT7 hT3 qs qp qF hlc hob hoc hxl
    generalize World.setRow _ _ _ = v9 at *
    simp only [Act.put, List.setIfInBounds_toArray, List.set_cons_zero, List.set_cons_succ, List.getElem_toArray, List.getElem_cons_zero, List.getElem_cons_succ]
    (refine wpList_step fun K hK => ?_; replace hK := hide hK; go_simp; refine unhide hK _ _ ?_; clear hK K)
    refine wpList_nil ?_
    replace hT9 := hide hT9; replace kB2 := hide kB2; replace kC2 := hide kC2; clear hO3
    go_upto_region 15 with fail
    refine wp_region_lit ?_
    refine list_val (.int .i64 e) (by kernel_rfl) (by kernel_rfl) ?_
    simp only [Act.put, List.setIfInBounds_toArray, List.set_cons_zero, List.set_cons_succ, List.getElem_toArray, List.getElem_cons_zero, List.getElem_cons_succ]
    refine list_val (.int .i64 e) (by kernel_rfl) (by kernel_rfl) ?_
    simp only [Act.put, List.setIfInBounds_toArray, List.set_cons_zero, List.set_cons_succ, List.getElem_toArray, List.getElem_cons_zero, List.getElem_cons_succ]
    refine list_val (.bool false) (by kernel_rfl) (by go_simp) ?_
    simp only [Act.put, List.setIfInBounds_toArray, List.set_cons_zero, List.set_cons_succ, List.getElem_toArray, List.getElem_cons_zero, List.getElem_cons_succ]
    refine list_val (.bool false) (by kernel_rfl) (by kernel_rfl) ?_
    simp only [Act.put, List.setIfInBounds_toArray, List.set_cons_zero, List.set_cons_succ, List.getElem_toArray, List.getElem_cons_zero, List.getElem_cons_succ]
    refine list_val (.agg (kc b)) (by kernel_rfl) (exec_arr _ 39 (.tmp 11) rfl gb (by kernel_rfl) (kc b) 39 _ (unhide kB2) Try.underlying39 rfl (by rw [Try.infoB, kc_size, hbl])) ?_
    simp only [Act.put, List.setIfInBounds_toArray, List.set_cons_zero, List.set_cons_succ, List.getElem_toArray, List.getElem_cons_zero, List.getElem_cons_succ]
    refine list_val (.agg (kc b)) (by kernel_rfl) (exec_arr _ 39 (.tmp 13) rfl gc (by kernel_rfl) (kc b) 39 _ (unhide kC2) Try.underlying39 rfl (by rw [Try.infoB, kc_size, hbl])) ?_
    simp only [Act.put, List.setIfInBounds_toArray, List.set_cons_zero, List.set_cons_succ, List.getElem_toArray, List.getElem_cons_zero, List.getElem_cons_succ]
    refine list_val (.bool false) (by kernel_rfl) (exec_neB _ (.tmp 67) (.tmp 68) rfl b hbl (by kernel_rfl) (by kernel_rfl)) ?_
    simp only [Act.put, List.setIfInBounds_toArray, List.set_cons_zero, List.set_cons_succ, List.getElem_toArray, List.getElem_cons_zero, List.getElem_cons_succ]
    refine list_val (.bool false) (by kernel_rfl) (by kernel_rfl) ?_
    simp only [Act.put, List.setIfInBounds_toArray, List.set_cons_zero, List.set_cons_succ, List.getElem_toArray, List.getElem_cons_zero, List.getElem_cons_succ]
    refine list_val (.bool false) (by kernel_rfl) (by kernel_rfl) ?_
    simp only [Act.put, List.setIfInBounds_toArray, List.set_cons_zero, List.set_cons_succ, List.getElem_toArray, List.getElem_cons_zero, List.getElem_cons_succ]
    refine list_val (.pointer (some ⟨g, 0, none⟩)) (by kernel_rfl) (by kernel_rfl) ?_
    simp only [Act.put, List.setIfInBounds_toArray, List.set_cons_zero, List.set_cons_succ, List.getElem_toArray, List.getElem_cons_zero, List.getElem_cons_succ]
    refine list_val (.agg (E.v sb sd pb pd)) (by kernel_rfl) (exec_arr _ 31 (.tmp 7) rfl gx (by kernel_rfl) (E.v sb sd pb pd) 31 _ (unhide hT9).xb Try.underlying31 rfl (by rw [Try.infoRD]; rfl)) ?_
    simp only [Act.put, List.setIfInBounds_toArray, List.set_cons_zero, List.set_cons_succ, List.getElem_toArray, List.getElem_cons_zero, List.getElem_cons_succ]
    refine list_call 15 #[.pointer (some ⟨g, 0, none⟩), .agg (E.v sb sd pb pd)] (by kernel_rfl) (by kernel_rfl) ((agree_D E (j + 1) (unhide hDq) (by omega) sb sd pb pd F1 g _ (unhide hT9).ls (unhide hT9).rd).mono ?_)
    rintro r v10 ⟨rfl, hg⟩
    refine ⟨_, rfl, ?_⟩
    have hT10 := hide ((unhide hT9).more hg)
    clear hg hT9
    simp only [Act.put, List.setIfInBounds_toArray, List.set_cons_zero, List.set_cons_succ, List.getElem_toArray, List.getElem_cons_zero, List.getElem_cons_succ]
    refine list_val (.bool false) (by kernel_rfl) (by kernel_rfl) ?_
    simp only [Act.put, List.setIfInBounds_toArray, List.set_cons_zero, List.set_cons_succ, List.getElem_toArray, List.getElem_cons_zero, List.getElem_cons_succ]
    refine list_val (.bool false) (by kernel_rfl) (by kernel_rfl) ?_
    simp only [Act.put, List.setIfInBounds_toArray, List.set_cons_zero, List.set_cons_succ, List.getElem_toArray, List.getElem_cons_zero, List.getElem_cons_succ]
    refine wpList_nil ?_
    have hT11 : Hid (∃ F sa sc pa pc, Tw w F g (alD D0 l2 (j + 1)) gx sa sc pa pc (alD D0 l2 (j + 1)) v10) := ⟨F1, sb, sd, pb, pd, by rw [unhide hsc]; exact unhide hT10⟩
    clear hT10 kB2 kC2
    go_wp2_with fail
    go_roundw
    case rel => exact ⟨j + 1, by omega, by go_num, hT11⟩
    case measure => simp [intOf]; omega
  have jI : ¬ (j : Int) < (m : Int) := by omega
  have hDk := alD_ok (unhide hD0) (unhide hok) j
  rw [Nat.zero_add] at hDk
  obtain ⟨F, sa, sc, pa, pc, hTw⟩ := unhide hTj
  clear hTj
  generalize alD D0 l2 j = D at *
  replace hDk := hide hDk; replace hTw := hide hTw
  go_upto_region 18 with fail
  obtain ⟨ns, hns⟩ : ∃ x, x = D.safe.length := ⟨_, rfl⟩
  have hns2 : ns ≤ 512 := by rw [hns]; exact (unhide hDk).hi1
  obtain ⟨k2, hk2⟩ : ∃ k, k = min ns 12 := ⟨_, rfl⟩
  have k1 : (if (12 : Int) < (ns : Int) then (12 : Int) else (ns : Int)) = (k2 : Int) := by split <;> omega
  replace hns := hide hns; replace hk2 := hide hk2
  refine wp_region_lit ?_
  refine list_val (.pointer (some ⟨g, 0, none⟩)) (by kernel_rfl) (by kernel_rfl) ?_
  simp only [Act.put, List.setIfInBounds_toArray, List.set_cons_zero, List.set_cons_succ, List.getElem_toArray, List.getElem_cons_zero, List.getElem_cons_succ]
  refine list_call 16 #[.pointer (some ⟨g, 0, none⟩)] (by kernel_rfl) (by kernel_rfl) ((dlen_ok F g j D (unhide hDk) (by omega) _ (unhide hTw).ls).mono ?_)
  rintro r y1 ⟨rfl, hg⟩
  refine ⟨_, rfl, ?_⟩
  rw [← unhide hns]
  have hTy := hide ((unhide hTw).more hg)
  clear hg hTw
  simp only [Act.put, List.setIfInBounds_toArray, List.set_cons_zero, List.set_cons_succ, List.getElem_toArray, List.getElem_cons_zero, List.getElem_cons_succ]
  refine list_val (.int .i64 (k2 : Int)) (by kernel_rfl) (by rw [← k1]; go_simp) ?_
  simp only [Act.put, List.setIfInBounds_toArray, List.set_cons_zero, List.set_cons_succ, List.getElem_toArray, List.getElem_cons_zero, List.getElem_cons_succ]
  refine list_val (.int .i64 0) (by kernel_rfl) (by kernel_rfl) ?_
  simp only [Act.put, List.setIfInBounds_toArray, List.set_cons_zero, List.set_cons_succ, List.getElem_toArray, List.getElem_cons_zero, List.getElem_cons_succ]
  refine wpList_nil ?_
  go_wp2_with fail
  go_loopw [81] (fun i wr => ∃ i2 : Nat, i2 ≤ k2 ∧ i = .int .i64 i2 ∧ Hid (Tw w F g D gx sa sc pa pc D wr)) (fun i _ => k2 - (intOf i).toNat)
  case atStart => exact ⟨0, by omega, rfl, hTy⟩
  case round =>
  clear hTy
  obtain ⟨i2, hi2, rfl, hTw⟩ := hrel
  by_cases hil : i2 < k2
  · skip
    have jI2 : (i2 : Int) < (k2 : Int) := by omega
    go_upto_region 21 with fail
    replace hTw := unhide hTw
    refine wp_region_lit ?_
    refine list_val (.pointer (some ⟨g, 0, none⟩)) (by kernel_rfl) (by kernel_rfl) ?_
    simp only [Act.put, List.setIfInBounds_toArray, List.set_cons_zero, List.set_cons_succ, List.getElem_toArray, List.getElem_cons_zero, List.getElem_cons_succ]
    refine list_val (.int .i64 (i2 : Int)) (by kernel_rfl) (by kernel_rfl) ?_
    simp only [Act.put, List.setIfInBounds_toArray, List.set_cons_zero, List.set_cons_succ, List.getElem_toArray, List.getElem_cons_zero, List.getElem_cons_succ]
    refine list_call 17 #[.pointer (some ⟨g, 0, none⟩), .int .i64 (i2 : Int)] (by kernel_rfl) (by kernel_rfl) ((dread_ok F g j D (unhide hDk) (by omega) (i2 : Int) _ hTw.ls).mono ?_)
    rintro r y2 ⟨rfl, hg⟩
    refine ⟨_, rfl, ?_⟩
    have hB := Bl.nil y2
    have hT2 := hTw.more hg
    have hbb := Dk.readB_bb (unhide hDk) (i2 : Int)
    obtain ⟨b, hb⟩ : ∃ b, b = D.readB (i2 : Int) := ⟨_, rfl⟩
    obtain ⟨e, he⟩ : ∃ e, e = D.readE (i2 : Int) := ⟨_, rfl⟩
    rw [← hb, ← he]
    rw [← hb] at hbb
    have hbl := hbb.1
    replace hb := hide hb; replace he := hide he
    clear hg hbb hTw
    simp only [Act.put, List.setIfInBounds_toArray, List.set_cons_zero, List.set_cons_succ, List.getElem_toArray, List.getElem_cons_zero, List.getElem_cons_succ]
    refine list_val (.tuple #[.agg (kc b), .int .i64 e]) (by kernel_rfl) (by kernel_rfl) ?_
    simp only [Act.put, List.setIfInBounds_toArray, List.set_cons_zero, List.set_cons_succ, List.getElem_toArray, List.getElem_cons_zero, List.getElem_cons_succ]
    refine list_val (.agg (kc b)) (by kernel_rfl) (by kernel_rfl) ?_
    simp only [Act.put, List.setIfInBounds_toArray, List.set_cons_zero, List.set_cons_succ, List.getElem_toArray, List.getElem_cons_zero, List.getElem_cons_succ]
    refine list_val (.int .i64 e) (by kernel_rfl) (by kernel_rfl) ?_
    simp only [Act.put, List.setIfInBounds_toArray, List.set_cons_zero, List.set_cons_succ, List.getElem_toArray, List.getElem_cons_zero, List.getElem_cons_succ]
    refine list_valw (.pointer (some ⟨y2.heap.size, 0, none⟩)) (y2.alloc (.cells (kc ZB) 39 (0, 0))) (by kernel_rfl) (by kernel_rfl) ?_
    replace hB := hB.new (kc ZB) 39
    simp only [List.nil_append, List.cons_append] at hB
    generalize World.alloc _ _ = y3 at *
    generalize y2.heap.size = g15 at *
    replace hB : Bl y2 [⟨g15, kc ZB, 39⟩] y3 := hB
    simp only [Act.put, List.setIfInBounds_toArray, List.set_cons_zero, List.set_cons_succ, List.getElem_toArray, List.getElem_cons_zero, List.getElem_cons_succ]
    refine list_store 39 (.tmp 15) (.tmp 88) (g15) (kc b) 39 (kc ZB) (by kernel_rfl) rfl (by kernel_rfl) (by kernel_rfl) (hB.get 0 (x := ⟨g15, kc ZB, 39⟩) rfl) (by rw [Try.infoB, kc_size, hbl]) ((show (kc ZB).size = 64 from rfl).trans ((kc_size _).trans hbl).symm) (kc_one _) ?_
    replace hB := hB.set 0 (x := ⟨g15, kc ZB, 39⟩) rfl (kc b)
    simp only [List.set_cons_zero, List.set_cons_succ] at hB
    generalize World.setRow _ _ _ = y4 at *
    replace hB : Bl y2 [⟨g15, kc b, 39⟩] y4 := hB
    simp only [Act.put, List.setIfInBounds_toArray, List.set_cons_zero, List.set_cons_succ, List.getElem_toArray, List.getElem_cons_zero, List.getElem_cons_succ]
    (refine wpList_step fun K hK => ?_; replace hK := hide hK; go_simp; refine unhide hK _ _ ?_; clear hK K)
    refine wpList_nil ?_
    replace hB := hide hB
    replace hT2 := hide hT2
    go_upto_region 22 with fail
    replace hB := unhide hB
    replace hT2 := unhide hT2
    refine wp_region_lit ?_
    refine list_val (.agg (D.v sa sc pa pc)) (by kernel_rfl) (exec_arr _ 31 (.tmp 7) rfl gx (by kernel_rfl) (D.v sa sc pa pc) 31 _ (hB.gr.blk hT2.xb) Try.underlying31 rfl (by rw [Try.infoRD]; rfl)) ?_
    simp only [Act.put, List.setIfInBounds_toArray, List.set_cons_zero, List.set_cons_succ, List.getElem_toArray, List.getElem_cons_zero, List.getElem_cons_succ]
    refine list_val (.int .i64 (i2 : Int)) (by kernel_rfl) (by kernel_rfl) ?_
    simp only [Act.put, List.setIfInBounds_toArray, List.set_cons_zero, List.set_cons_succ, List.getElem_toArray, List.getElem_cons_zero, List.getElem_cons_succ]
    refine list_call 18 #[.agg (D.v sa sc pa pc), .int .i64 (i2 : Int)] (by kernel_rfl) (by kernel_rfl) ((rread_D D j (unhide hDk) (by omega) sa sc pa pc (i2 : Int) _ (hT2.more hB.gr).rd).mono ?_)
    rintro r y5 ⟨rfl, hg⟩
    refine ⟨_, rfl, ?_⟩
    rw [← unhide hb, ← unhide he]
    replace hB := hB.more hg
    clear hg
    simp only [Act.put, List.setIfInBounds_toArray, List.set_cons_zero, List.set_cons_succ, List.getElem_toArray, List.getElem_cons_zero, List.getElem_cons_succ]
    refine list_val (.tuple #[.agg (kc b), .int .i64 e]) (by kernel_rfl) (by kernel_rfl) ?_
    simp only [Act.put, List.setIfInBounds_toArray, List.set_cons_zero, List.set_cons_succ, List.getElem_toArray, List.getElem_cons_zero, List.getElem_cons_succ]
    refine list_val (.agg (kc b)) (by kernel_rfl) (by kernel_rfl) ?_
    simp only [Act.put, List.setIfInBounds_toArray, List.set_cons_zero, List.set_cons_succ, List.getElem_toArray, List.getElem_cons_zero, List.getElem_cons_succ]
    refine list_val (.int .i64 e) (by kernel_rfl) (by kernel_rfl) ?_
    simp only [Act.put, List.setIfInBounds_toArray, List.set_cons_zero, List.set_cons_succ, List.getElem_toArray, List.getElem_cons_zero, List.getElem_cons_succ]
    refine list_valw (.pointer (some ⟨y5.heap.size, 0, none⟩)) (y5.alloc (.cells (kc ZB) 39 (0, 0))) (by kernel_rfl) (by kernel_rfl) ?_
    replace hB := hB.new (kc ZB) 39
    simp only [List.nil_append, List.cons_append] at hB
    generalize World.alloc _ _ = y6 at *
    generalize y5.heap.size = g17 at *
    replace hB : Bl y2 [⟨g15, kc b, 39⟩, ⟨g17, kc ZB, 39⟩] y6 := hB
    simp only [Act.put, List.setIfInBounds_toArray, List.set_cons_zero, List.set_cons_succ, List.getElem_toArray, List.getElem_cons_zero, List.getElem_cons_succ]
    refine list_store 39 (.tmp 17) (.tmp 94) (g17) (kc b) 39 (kc ZB) (by kernel_rfl) rfl (by kernel_rfl) (by kernel_rfl) (hB.get 1 (x := ⟨g17, kc ZB, 39⟩) rfl) (by rw [Try.infoB, kc_size, hbl]) ((show (kc ZB).size = 64 from rfl).trans ((kc_size _).trans hbl).symm) (kc_one _) ?_
    replace hB := hB.set 1 (x := ⟨g17, kc ZB, 39⟩) rfl (kc b)
    simp only [List.set_cons_zero, List.set_cons_succ] at hB
    generalize World.setRow _ _ _ = y7 at *
    replace hB : Bl y2 [⟨g15, kc b, 39⟩, ⟨g17, kc b, 39⟩] y7 := hB
    simp only [Act.put, List.setIfInBounds_toArray, List.set_cons_zero, List.set_cons_succ, List.getElem_toArray, List.getElem_cons_zero, List.getElem_cons_succ]
    (refine wpList_step fun K hK => ?_; replace hK := hide hK; go_simp; refine unhide hK _ _ ?_; clear hK K)
    refine wpList_nil ?_
    replace hB := hide hB
    replace hT2 := hide hT2
    go_upto_region 23 with fail
    replace hB := unhide hB
    replace hT2 := unhide hT2
    refine wp_region_lit ?_
    refine list_val (.agg (kc b)) (by kernel_rfl) (exec_arr _ 39 (.tmp 15) rfl (g15) (by kernel_rfl) (kc b) 39 _ (hB.get 0 (x := ⟨g15, kc b, 39⟩) rfl) Try.underlying39 rfl (by rw [Try.infoB, kc_size, hbl])) ?_
    simp only [Act.put, List.setIfInBounds_toArray, List.set_cons_zero, List.set_cons_succ, List.getElem_toArray, List.getElem_cons_zero, List.getElem_cons_succ]
    refine list_val (.agg (kc b)) (by kernel_rfl) (exec_arr _ 39 (.tmp 17) rfl (g17) (by kernel_rfl) (kc b) 39 _ (hB.get 1 (x := ⟨g17, kc b, 39⟩) rfl) Try.underlying39 rfl (by rw [Try.infoB, kc_size, hbl])) ?_
    simp only [Act.put, List.setIfInBounds_toArray, List.set_cons_zero, List.set_cons_succ, List.getElem_toArray, List.getElem_cons_zero, List.getElem_cons_succ]
    refine list_val (.bool false) (by kernel_rfl) (exec_neB _ (.tmp 96) (.tmp 97) rfl b hbl (by kernel_rfl) (by kernel_rfl)) ?_
    simp only [Act.put, List.setIfInBounds_toArray, List.set_cons_zero, List.set_cons_succ, List.getElem_toArray, List.getElem_cons_zero, List.getElem_cons_succ]
    refine list_val (.bool false) (by kernel_rfl) (by kernel_rfl) ?_
    simp only [Act.put, List.setIfInBounds_toArray, List.set_cons_zero, List.set_cons_succ, List.getElem_toArray, List.getElem_cons_zero, List.getElem_cons_succ]
    refine list_val (.int .i64 e) (by kernel_rfl) (by kernel_rfl) ?_
    simp only [Act.put, List.setIfInBounds_toArray, List.set_cons_zero, List.set_cons_succ, List.getElem_toArray, List.getElem_cons_zero, List.getElem_cons_succ]
    refine list_val (.int .i64 e) (by kernel_rfl) (by kernel_rfl) ?_
    simp only [Act.put, List.setIfInBounds_toArray, List.set_cons_zero, List.set_cons_succ, List.getElem_toArray, List.getElem_cons_zero, List.getElem_cons_succ]
    refine list_val (.bool false) (by kernel_rfl) (by go_simp) ?_
    simp only [Act.put, List.setIfInBounds_toArray, List.set_cons_zero, List.set_cons_succ, List.getElem_toArray, List.getElem_cons_zero, List.getElem_cons_succ]
    refine list_val (.bool false) (by kernel_rfl) (by kernel_rfl) ?_
    simp only [Act.put, List.setIfInBounds_toArray, List.set_cons_zero, List.set_cons_succ, List.getElem_toArray, List.getElem_cons_zero, List.getElem_cons_succ]
    refine wpList_nil ?_
    have hT3 : Hid (Tw w F g D gx sa sc pa pc D y7) := hT2.more hB.gr
    clear hT2 hB
    go_wp2_with fail
    go_roundw
    case rel => exact ⟨i2 + 1, by omega, by go_num, hT3⟩
    case measure => simp [intOf]; omega
  have jI2 : ¬ (i2 : Int) < (k2 : Int) := by omega
  have hP : Hid (Gr w _) := (unhide hTw).gr
  clear hTw
  go_wp2_with fail
  rw [unhide hT]
  exact ⟨rfl, unhide hP⟩
end Go.Proofs.Ythgchjdjacbcgaa
