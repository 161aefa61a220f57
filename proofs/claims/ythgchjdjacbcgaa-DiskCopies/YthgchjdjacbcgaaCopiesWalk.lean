/-
  A copy goes on by itself: the walk of DiskCopies.
-/
import Derived.Test.YthgchjdjacbcgaaDkT
namespace Go.Proofs.Ythgchjdjacbcgaa
open Go.RowKit
set_option maxRecDepth 100000
set_option linter.unusedSimpArgs false
set_option linter.unusedVariables false
set_option maxHeartbeats 4000000 in
theorem copies_law (l : List Opl) (al : Option Addr) (nl cl : Nat) (m : List Opl) (am : Option Addr) (nm cm : Nat) (n : List Opl) (an : Option Addr) (nn cn : Nat) (w : World) (hl : Los w al nl cl l) (hm : Los w am nm cm m) (hn : Los w an nn cn n) : Calls Try.prog 4 #[.slice al nl cl, .slice am nm cm, .slice an nn cn] w (Woke w) := by
  obtain ⟨T, hT⟩ : ∃ T, T = Woke w := ⟨_, rfl⟩
  rw [← hT]
  replace hT := hide hT
  have hcapl := hl.cap
  replace hl := hide hl
  have hcapm := hm.cap
  replace hm := hide hm
  have hcapn := hn.cap
  replace hn := hide hn
  go_enter Try.func4, Try.ntmps4
  go_upto_region 1 with fail
  refine wp_region_lit ?_
  refine list_call 9 #[] (by kernel_rfl) (by kernel_rfl) ((wakes_ok _).mono ?_)
  rintro r v ⟨rfl, hG⟩
  refine ⟨_, rfl, ?_⟩
  simp only [Act.put, List.setIfInBounds_toArray, List.set_cons_zero, List.set_cons_succ, List.getElem_toArray, List.getElem_cons_zero, List.getElem_cons_succ]
  refine list_val (.bool false) (by kernel_rfl) (by kernel_rfl) ?_
  simp only [Act.put, List.setIfInBounds_toArray, List.set_cons_zero, List.set_cons_succ, List.getElem_toArray, List.getElem_cons_zero, List.getElem_cons_succ]
  refine wpList_nil ?_
  replace hG := hide hG
  go_upto_region 3 with fail
  refine wp_region_lit ?_
  refine list_call 10 #[.int .i64 6] (by kernel_rfl) (by kernel_rfl) ((dnew_ok 6 _).mono ?_)
  intro r u h6
  unfold Dne at h6
  rw [if_pos (by omega)] at h6
  obtain ⟨g, F, rfl, hL, hF, hg1⟩ := h6
  refine ⟨_, rfl, ?_⟩
  simp only [Act.put, List.setIfInBounds_toArray, List.set_cons_zero, List.set_cons_succ, List.getElem_toArray, List.getElem_cons_zero, List.getElem_cons_succ]
  refine list_val (.tuple #[.pointer (some ⟨g, 0, none⟩), .int .i64 0]) (by kernel_rfl) (by kernel_rfl) ?_
  simp only [Act.put, List.setIfInBounds_toArray, List.set_cons_zero, List.set_cons_succ, List.getElem_toArray, List.getElem_cons_zero, List.getElem_cons_succ]
  refine list_val (.pointer (some ⟨g, 0, none⟩)) (by kernel_rfl) (by kernel_rfl) ?_
  simp only [Act.put, List.setIfInBounds_toArray, List.set_cons_zero, List.set_cons_succ, List.getElem_toArray, List.getElem_cons_zero, List.getElem_cons_succ]
  refine list_val (.int .i64 0) (by kernel_rfl) (by kernel_rfl) ?_
  simp only [Act.put, List.setIfInBounds_toArray, List.set_cons_zero, List.set_cons_succ, List.getElem_toArray, List.getElem_cons_zero, List.getElem_cons_succ]
  (refine wpList_step fun K hK => ?_; replace hK := hide hK; go_simp; refine unhide hK _ _ ?_; clear hK K)
  (refine wpList_step fun K hK => ?_; replace hK := hide hK; go_simp; refine unhide hK _ _ ?_; clear hK K)
  refine wpList_nil ?_
  rw [show (6 : Int).toNat = 6 from rfl] at hL
  have hD0 := dk0_ok 6 (by omega) (by omega)
  replace hF : ∀ i ∈ F, w.heap.size ≤ i := fun i hi => Nat.le_trans (unhide hG).size (hF i hi)
  replace hG := hide ((unhide hG).trans hg1)
  replace hL := hide hL; replace hD0 := hide hD0
  clear hg1
  go_upto_region 4 with fail
  refine wp_region_lit ?_
  refine list_call 11 #[.int .i64 6] (by kernel_rfl) (by kernel_rfl) ((rnew_ok 6 _).mono ?_)
  intro r u2 h6
  unfold Rnw at h6
  rw [if_pos (by omega)] at h6
  obtain ⟨sa, sc, pa, pc, rfl, hR, hf1, hf2, hg1⟩ := h6
  rw [show (6 : Int).toNat = 6 from rfl] at hR ⊢
  have hB := (Bl.nil u).more hg1
  refine ⟨_, rfl, ?_⟩
  simp only [Act.put, List.setIfInBounds_toArray, List.set_cons_zero, List.set_cons_succ, List.getElem_toArray, List.getElem_cons_zero, List.getElem_cons_succ]
  refine list_val (.tuple #[.agg ((dk0 6).v sa sc pa pc), .int .i64 0]) (by kernel_rfl) (by kernel_rfl) ?_
  simp only [Act.put, List.setIfInBounds_toArray, List.set_cons_zero, List.set_cons_succ, List.getElem_toArray, List.getElem_cons_zero, List.getElem_cons_succ]
  refine list_val (.agg ((dk0 6).v sa sc pa pc)) (by kernel_rfl) (by kernel_rfl) ?_
  simp only [Act.put, List.setIfInBounds_toArray, List.set_cons_zero, List.set_cons_succ, List.getElem_toArray, List.getElem_cons_zero, List.getElem_cons_succ]
  refine list_val (.int .i64 0) (by kernel_rfl) (by kernel_rfl) ?_
  simp only [Act.put, List.setIfInBounds_toArray, List.set_cons_zero, List.set_cons_succ, List.getElem_toArray, List.getElem_cons_zero, List.getElem_cons_succ]
  refine list_valw (.pointer (some ⟨u2.heap.size, 0, none⟩)) (u2.alloc (.cells ZD 31 (0, 0))) (by kernel_rfl) (by kernel_rfl) ?_
  have hgl : ∀ p, p < u2.heap.size → p ≠ u2.heap.size := fun p h => Nat.ne_of_lt h
  have hga := (Gr.refl u2).alloc (.cells ZD 31 (0, 0))
  replace hB := hB.new (ZD) 31
  simp only [List.nil_append, List.cons_append] at hB
  have hsx : blkOf sa ≠ some u2.heap.size := fun e => hgl _ (hR.sf.low _ e) rfl
  have hpx : blkOf pa ≠ some u2.heap.size := fun e => hgl _ (hR.pn.low _ e) rfl
  have hxF : u2.heap.size ∉ F := fun hm => hgl _ (Nat.lt_of_lt_of_le ((unhide hL).lt _ hm) hg1.size) rfl
  replace hR := hR.gr hga
  clear hgl hga
  generalize World.alloc _ _ = u3 at *
  generalize u2.heap.size = gx at *
  replace hB : Bl u [⟨gx, ZD, 31⟩] u3 := hB
  simp only [Act.put, List.setIfInBounds_toArray, List.set_cons_zero, List.set_cons_succ, List.getElem_toArray, List.getElem_cons_zero, List.getElem_cons_succ]
  refine list_store 31 (.tmp 9) (.tmp 30) gx ((dk0 6).v sa sc pa pc) 31 ZD (by kernel_rfl) rfl (by kernel_rfl) (by kernel_rfl) (hB.get 0 (x := ⟨gx, ZD, 31⟩) rfl) (by rw [Try.infoRD]; rfl) rfl (Dk.v_one ..) ?_
  replace hR := hR.bt ((Bt.refl gx u3).row_self ((dk0 6).v sa sc pa pc)) hsx hpx
  replace hB := hB.set 0 (x := ⟨gx, ZD, 31⟩) rfl ((dk0 6).v sa sc pa pc)
  simp only [List.set_cons_zero, List.set_cons_succ] at hB
  generalize World.setRow _ _ _ = u4 at *
  replace hB : Bl u [⟨gx, (dk0 6).v sa sc pa pc, 31⟩] u4 := hB
  simp only [Act.put, List.setIfInBounds_toArray, List.set_cons_zero, List.set_cons_succ, List.getElem_toArray, List.getElem_cons_zero, List.getElem_cons_succ]
  (refine wpList_step fun K hK => ?_; replace hK := hide hK; go_simp; refine unhide hK _ _ ?_; clear hK K)
  refine wpList_nil ?_
  have hTw : Tw w F g (dk0 6) gx sa sc pa pc (dk0 6) u4 := by
    refine ⟨(unhide hG).trans hB.gr, (unhide hL).gr hB.gr, hF, (hB.get 0 (x := ⟨gx, (dk0 6).v sa sc pa pc, 31⟩) rfl), Nat.le_trans (unhide hG).size (hB.own 0 (x := ⟨gx, (dk0 6).v sa sc pa pc, 31⟩) rfl), hxF, hR, hsx, hpx, ?_, ?_⟩
    · intro i hi e
      rcases hf1 i e with h | h
      · cases h
      · have := (unhide hL).lt i hi; omega
    · intro i hi e
      rcases hf2 i e with h | h
      · cases h
      · have := (unhide hL).lt i hi; omega
  clear hB hR hsx hpx hxF hf1 hf2 hL hF hg1 hG
  obtain ⟨D0, hDz⟩ : ∃ D, D = dk0 6 := ⟨_, rfl⟩
  rw [← hDz] at hTw hD0 ⊢
  replace hDz := hide hDz; replace hTw := hide hTw
  go_upto_region 7 with fail
  refine wp_region_lit ?_
  refine list_val (.slice al nl cl) (by kernel_rfl) (by kernel_rfl) ?_
  simp only [Act.put, List.setIfInBounds_toArray, List.set_cons_zero, List.set_cons_succ, List.getElem_toArray, List.getElem_cons_zero, List.getElem_cons_succ]
  refine list_call 12 #[.slice al nl cl] (by kernel_rfl) (by kernel_rfl) ((few_ok al nl cl hcapl _).mono ?_)
  rintro r u_ ⟨ml, rfl, hml, hu⟩
  refine ⟨_, rfl, ?_⟩
  replace hu := hu.symm
  subst hu
  have hlfl := hide ((unhide hl).few hml)
  have hm120l : ml ≤ 120 := by omega
  replace hml := hide hml
  simp only [Act.put, List.setIfInBounds_toArray, List.set_cons_zero, List.set_cons_succ, List.getElem_toArray, List.getElem_cons_zero, List.getElem_cons_succ]
  refine list_val (.int .i64 ml) (by kernel_rfl) (by kernel_rfl) ?_
  simp only [Act.put, List.setIfInBounds_toArray, List.set_cons_zero, List.set_cons_succ, List.getElem_toArray, List.getElem_cons_zero, List.getElem_cons_succ]
  refine list_val (.int .i64 0) (by kernel_rfl) (by kernel_rfl) ?_
  simp only [Act.put, List.setIfInBounds_toArray, List.set_cons_zero, List.set_cons_succ, List.getElem_toArray, List.getElem_cons_zero, List.getElem_cons_succ]
  refine wpList_nil ?_
  obtain ⟨l2l, hl2l⟩ : ∃ y, y = l.take 120 := ⟨_, rfl⟩
  rw [← hl2l] at hlfl
  have hokl := hide (unhide hlfl).ok
  replace hl2l := hide hl2l
  have hT0 : Hid (∃ F sa sc pa pc, Tw w F g (alD D0 l2l 0) gx sa sc pa pc (alD D0 l2l 0) u4) := ⟨F, sa, sc, pa, pc, unhide hTw⟩
  clear hTw
  go_wp2_with fail
  go_loopw [41] (fun i wr => ∃ j : Nat, j ≤ ml ∧ i = .int .i64 j ∧ Hid (∃ F sa sc pa pc, Tw w F g (alD D0 l2l j) gx sa sc pa pc (alD D0 l2l j) wr)) (fun i _ => ml - (intOf i).toNat)
  case atStart => exact ⟨0, by omega, rfl, hT0⟩
  case round =>
  clear hT0
  obtain ⟨j, hj, rfl, hTj⟩ := hrel
  by_cases hjl : j < ml
  · skip
    have jI : (j : Int) < (ml : Int) := by omega
    obtain ⟨p, o, ka, kn, kp, rfl, hrw, hkp, hqo⟩ := (unhide hlfl).at_ j hjl
    have hsc : Hid (alD D0 l2l (j + 1) = (alD D0 l2l j).opD (l2l.getD j op0)) := rfl
    generalize l2l.getD j op0 = q at *
    have hDk := alD_ok (unhide hD0) (unhide hokl) j
    obtain ⟨F, sa, sc, pa, pc, hTw⟩ := unhide hTj
    clear hTj
    generalize alD D0 l2l j = D at *
    have hjj : 0 + j ≤ 1000 := by omega
    generalize 0 + j = jj at *
    have hDq := hDk.op q hqo
    have hDb := Dk.opB_bb hDk q
    replace hrw := hide hrw; replace hkp := hide hkp; replace hqo := hide hqo; replace hDk := hide hDk; replace hDq := hide hDq; replace hDb := hide hDb
    replace hTw := hide hTw
    go_upto_region 9 with fail
    replace hTw := unhide hTw
    have hB := Bl.nil wr
    refine wp_region_lit ?_
    refine list_val (.pointer (some ⟨p, o + 4 * j, none⟩)) (by kernel_rfl) (exec_io _ (.tmp 39) (.tmp 41) rfl p o ml cl j rfl rfl hjl) ?_
    simp only [Act.put, List.setIfInBounds_toArray, List.set_cons_zero, List.set_cons_succ, List.getElem_toArray, List.getElem_cons_zero, List.getElem_cons_succ]
    refine list_val (.agg (opv q ka kn kp)) (by kernel_rfl) (exec_lop _ (.tmp 43) rfl p (o + 4 * j) (by kernel_rfl) q ka kn kp (range_gr (unhide hrw) hTw.gr)) ?_
    simp only [Act.put, List.setIfInBounds_toArray, List.set_cons_zero, List.set_cons_succ, List.getElem_toArray, List.getElem_cons_zero, List.getElem_cons_succ]
    refine list_valw (.pointer (some ⟨wr.heap.size, 0, none⟩)) (wr.alloc (.cells (opv op0 none 0 0) 37 (0, 0))) (by kernel_rfl) (by kernel_rfl) ?_
    replace hB := hB.new (opv op0 none 0 0) 37
    simp only [List.nil_append, List.cons_append] at hB
    generalize World.alloc _ _ = v1 at *
    generalize wr.heap.size = go at *
    replace hB : Bl wr [⟨go, opv op0 none 0 0, 37⟩] v1 := hB
    simp only [Act.put, List.setIfInBounds_toArray, List.set_cons_zero, List.set_cons_succ, List.getElem_toArray, List.getElem_cons_zero, List.getElem_cons_succ]
    refine list_store 37 (.tmp 12) (.tmp 44) go (opv q ka kn kp) 37 (opv op0 none 0 0) (by kernel_rfl) rfl (by kernel_rfl) (by kernel_rfl) (hB.get 0 (x := ⟨go, opv op0 none 0 0, 37⟩) rfl) (by rw [Try.infoO]; rfl) rfl (opv_one ..) ?_
    replace hB := hB.set 0 (x := ⟨go, opv op0 none 0 0, 37⟩) rfl (opv q ka kn kp)
    simp only [List.set_cons_zero, List.set_cons_succ] at hB
    generalize World.setRow _ _ _ = v2 at *
    replace hB : Bl wr [⟨go, opv q ka kn kp, 37⟩] v2 := hB
    simp only [Act.put, List.setIfInBounds_toArray, List.set_cons_zero, List.set_cons_succ, List.getElem_toArray, List.getElem_cons_zero, List.getElem_cons_succ]
    refine wpList_nil ?_
    have hTv := hTw.more hB.gr
    have hO := (hB.get 0 (x := ⟨go, opv q ka kn kp, 37⟩) rfl)
    have hoF : go ∉ F := fun hm => by have h1 := hTw.ls.lt _ hm; have h2 := hB.own 0 (x := ⟨go, opv q ka kn kp, 37⟩) rfl; dsimp only at h2; omega
    dsimp only at hO
    replace hO := hide hO; replace hTv := hide hTv
    clear hTw hB
    go_upto_region 10 with fail
    refine wp_region_lit ?_
    refine list_val (.pointer (some ⟨g, 0, none⟩)) (by kernel_rfl) (by kernel_rfl) ?_
    simp only [Act.put, List.setIfInBounds_toArray, List.set_cons_zero, List.set_cons_succ, List.getElem_toArray, List.getElem_cons_zero, List.getElem_cons_succ]
    refine list_val (.agg (opv q ka kn kp)) (by kernel_rfl) (exec_arr _ 37 (.tmp 12) rfl go (by kernel_rfl) (opv q ka kn kp) 37 _ (unhide hO) Try.underlying37 rfl (by rw [Try.infoO]; rfl)) ?_
    simp only [Act.put, List.setIfInBounds_toArray, List.set_cons_zero, List.set_cons_succ, List.getElem_toArray, List.getElem_cons_zero, List.getElem_cons_succ]
    refine list_call 13 #[.pointer (some ⟨g, 0, none⟩), .agg (opv q ka kn kp)] (by kernel_rfl) (by kernel_rfl) ((does_ok F g jj D (unhide hDk) (by omega) q (unhide hqo) ka kn kp _ (unhide hTv).ls ((unhide hkp).gr (unhide hTv).gr)).mono ?_)
    rintro r v3 ⟨F1, rfl, hL1, hch⟩
    refine ⟨_, rfl, ?_⟩
    have hT3 := (unhide hTv).chg hch hL1
    have hO3 := hide (hch.blk (unhide hO) hoF)
    obtain ⟨b, hb⟩ : ∃ b, b = D.opB q := ⟨_, rfl⟩
    obtain ⟨e, he⟩ : ∃ e, e = D.opE q := ⟨_, rfl⟩
    rw [← hb, ← he]
    rw [← hb] at hDb
    have hbl := (unhide hDb).1
    replace hb := hide hb; replace he := hide he
    have hB := Bl.nil v3
    clear hTv hO hoF hch hL1
    simp only [Act.put, List.setIfInBounds_toArray, List.set_cons_zero, List.set_cons_succ, List.getElem_toArray, List.getElem_cons_zero, List.getElem_cons_succ]
    refine wpList_nil ?_
    replace hB := hide hB
    replace hT3 := hide hT3
    go_upto_region 11 with fail
    replace hB := unhide hB
    replace hT3 := unhide hT3
    refine wp_region_lit ?_
    refine list_val (.agg (D.v sa sc pa pc)) (by kernel_rfl) (exec_arr _ 31 (.tmp 9) rfl gx (by kernel_rfl) (D.v sa sc pa pc) 31 _ (hB.gr.blk hT3.xb) Try.underlying31 rfl (by rw [Try.infoRD]; rfl)) ?_
    simp only [Act.put, List.setIfInBounds_toArray, List.set_cons_zero, List.set_cons_succ, List.getElem_toArray, List.getElem_cons_zero, List.getElem_cons_succ]
    refine list_val (.agg (opv q ka kn kp)) (by kernel_rfl) (exec_arr _ 37 (.tmp 12) rfl go (by kernel_rfl) (opv q ka kn kp) 37 _ (hB.gr.blk (unhide hO3)) Try.underlying37 rfl (by rw [Try.infoO]; rfl)) ?_
    simp only [Act.put, List.setIfInBounds_toArray, List.set_cons_zero, List.set_cons_succ, List.getElem_toArray, List.getElem_cons_zero, List.getElem_cons_succ]
    refine list_call 14 #[.agg (D.v sa sc pa pc), .agg (opv q ka kn kp)] (by kernel_rfl) (by kernel_rfl) ((want_D D jj (unhide hDk) (by omega) sa sc pa pc q (unhide hqo) ka kn kp _ (hT3.more hB.gr).rd ((unhide hkp).gr (hT3.more hB.gr).gr)).mono ?_)
    rintro r v7 ⟨sb, sd, pb, pd, rfl, hR1, hf1, hf2, hg⟩
    refine ⟨_, rfl, ?_⟩
    rw [← unhide hb, ← unhide he]
    obtain ⟨E, hE⟩ : ∃ E, E = D.opD q := ⟨_, rfl⟩
    rw [← hE] at hR1 hT3 hDq hsc ⊢
    have hT7 := (hT3.more hB.gr).put hg hR1 hf1 hf2
    replace hE := hide hE
    replace hB := hB.more hg
    simp only [Act.put, List.setIfInBounds_toArray, List.set_cons_zero, List.set_cons_succ, List.getElem_toArray, List.getElem_cons_zero, List.getElem_cons_succ]
    refine list_val (.tuple #[.agg (E.v sb sd pb pd), .agg (kc b), .int .i64 e]) (by kernel_rfl) (by kernel_rfl) ?_
    simp only [Act.put, List.setIfInBounds_toArray, List.set_cons_zero, List.set_cons_succ, List.getElem_toArray, List.getElem_cons_zero, List.getElem_cons_succ]
    refine list_val (.agg (E.v sb sd pb pd)) (by kernel_rfl) (by kernel_rfl) ?_
    simp only [Act.put, List.setIfInBounds_toArray, List.set_cons_zero, List.set_cons_succ, List.getElem_toArray, List.getElem_cons_zero, List.getElem_cons_succ]
    refine list_val (.agg (kc b)) (by kernel_rfl) (by kernel_rfl) ?_
    simp only [Act.put, List.setIfInBounds_toArray, List.set_cons_zero, List.set_cons_succ, List.getElem_toArray, List.getElem_cons_zero, List.getElem_cons_succ]
    refine list_val (.int .i64 e) (by kernel_rfl) (by kernel_rfl) ?_
    simp only [Act.put, List.setIfInBounds_toArray, List.set_cons_zero, List.set_cons_succ, List.getElem_toArray, List.getElem_cons_zero, List.getElem_cons_succ]
    refine list_store 31 (.tmp 9) (.tmp 52) gx (E.v sb sd pb pd) 31 (D.v sa sc pa pc) (by kernel_rfl) rfl (by kernel_rfl) (by kernel_rfl) (hB.gr.blk hT3.xb) (by rw [Try.infoRD]; rfl) rfl (Dk.v_one ..) ?_
    clear hB hR1 hf1 hf2 hg hT3 hO3
    generalize World.setRow _ _ _ = v8 at *
    simp only [Act.put, List.setIfInBounds_toArray, List.set_cons_zero, List.set_cons_succ, List.getElem_toArray, List.getElem_cons_zero, List.getElem_cons_succ]
    refine wpList_nil ?_
    have hT11 : Hid (∃ F sa sc pa pc, Tw w F g (alD D0 l2l (j + 1)) gx sa sc pa pc (alD D0 l2l (j + 1)) v8) := ⟨F1, sb, sd, pb, pd, by rw [unhide hsc]; exact hT7⟩
    clear hT7
    go_wp2_with fail
    go_roundw
    case rel => exact ⟨j + 1, by omega, by go_num, hT11⟩
    case measure => simp [intOf]; omega
  have jI : ¬ (j : Int) < (ml : Int) := by omega
  have hD1 := alD_ok (unhide hD0) (unhide hokl) j
  obtain ⟨F, sa, sc, pa, pc, hTw⟩ := unhide hTj
  clear hTj
  obtain ⟨D1, hzD1⟩ : ∃ D, D = alD D0 l2l j := ⟨_, rfl⟩
  rw [← hzD1] at hTw hD1
  have hbD1 : 0 + j ≤ 120 := by omega
  generalize 0 + j = kD1 at *
  replace hD1 := hide hD1; replace hTw := hide hTw; replace hzD1 := hide hzD1
  clear hlfl
  go_upto_region 13 with fail
  replace hTw := unhide hTw
  obtain ⟨vB, hvB⟩ : ∃ x, x = wr := ⟨_, rfl⟩
  subst hvB
  refine any_start (S := fun v => Gr vB v) (by kernel_rfl) ?_
  have hG := (Gr.refl vB).drew
  generalize World.drew _ = x0 at *
  have hG0 := Gr.refl x0
  have hGx := hG.size
  simp only [List.size_toArray, List.length_cons, List.length_nil, Array.replicate, List.replicate]
  refine any_take (i := 0) (v := (.pointer (some ⟨g, 0, none⟩))) #[false, false, false, false, false, false] rfl (by kernel_rfl) (by kernel_rfl) (by kernel_rfl) (by kernel_rfl) (fun _ _ _ h => h) (.inl ⟨by kernel_rfl, fun x_ hu => by kernel_rfl⟩) hG ?_
  simp only [Act.put, List.setIfInBounds_toArray, List.set_cons_zero, List.set_cons_succ, List.getElem_toArray, List.getElem_cons_zero, List.getElem_cons_succ]
  refine any_take (i := 2) (v := (.agg (D1.v sa sc pa pc))) #[true, false, false, false, false, false] rfl (by kernel_rfl) (by kernel_rfl) (by kernel_rfl) (by kernel_rfl) (fun _ _ _ h => h) (.inl ⟨by kernel_rfl, fun x_ hu => exec_arr _ 31 (.tmp 9) rfl gx (by kernel_rfl) (D1.v sa sc pa pc) 31 _ (hu.blk hTw.xb) Try.underlying31 rfl (by rw [Try.infoRD]; rfl)⟩) hG ?_
  simp only [Act.put, List.setIfInBounds_toArray, List.set_cons_zero, List.set_cons_succ, List.getElem_toArray, List.getElem_cons_zero, List.getElem_cons_succ]
  refine float_first (fun q u => NR [] x0 q u) 14 (fun b_ => #[true, false, true, b_, false, false]) 3 1 false rfl rfl (fun _ g_ => hG.trans g_) (by kernel_rfl) (fun b_ => by cases b_ <;> rfl) ?_ ?_
  all_goals simp only [fw1, Act.put, List.setIfInBounds_toArray, List.set_cons_zero, List.set_cons_succ, List.getElem_toArray, List.getElem_cons_zero, List.getElem_cons_succ]
  · intro q_ x_ hgx K_ hQ
    refine wpOp_step (o := _) rfl (fun K' hK' => ?_)
    replace hK' := hide hK'
    replace hQ := hide hQ
    refine step_val (.pointer (some ⟨x_.heap.size, 0, none⟩)) (x_.alloc (.cells ZD 31 (0, 0))) (by kernel_rfl) (by kernel_rfl) ?_
    exact unhide hK' _ _ (unhide hQ _ _ ((Gr.refl _).alloc _) (⟨_, rfl, Nat.le_trans hG0.size hgx.size, by simp, blk_new _ _⟩))
  intro b1_1 q1_1 x1_1 hg hTq hall
  replace hG := hG.trans hg
  replace hG0 := hG0.trans hg
  first | replace hLc := hLc.gr hg | skip
  clear hall
  refine wpOp_step (o := _) rfl (fun K_ hQ => ?_)
  replace hQ := hide hQ
  have hold : b1_1 = true → ∀ gy, q1_1 = .pointer (some ⟨gy, 0, none⟩) → gy < x1_1.heap.size := fun e gy e2 => by
    obtain ⟨gz, h1, -, -, h4⟩ := hTq e
    rw [h1] at e2
    injection e2 with e3
    injection e3 with e4
    injection e4 with e5
    rw [← e5]
    exact lt_of_block h4
  refine step_callw (by kernel_rfl) 19 #[.pointer (some ⟨g, 0, none⟩)] (by kernel_rfl) ((dcopy_ok F g _ D1 (unhide hD1) (by omega) _ (hTw.more hG).ls).mono ?_)
  rintro r xc ⟨gc, G, rfl, hLc, hGn, hg⟩
  refine ⟨_, rfl, ?_⟩
  replace hTq := fun e => NR.gr (hTq e) hg
  replace hTq : b1_1 = true → NR G x0 q1_1 xc := fun e => by
    obtain ⟨gy, h1, h2, h3, h4⟩ := hTq e
    refine ⟨gy, h1, h2, fun hm => ?_, h4⟩
    have h5 := hGn _ hm
    have h6 := hold e gy h1
    omega
  replace hGn : ∀ i ∈ G, x0.heap.size ≤ i := fun i hi => Nat.le_trans hG0.size (hGn i hi)
  replace hG := hG.trans hg
  replace hG0 := hG0.trans hg
  clear hg hold
  refine unhide hQ _ _ ⟨hG, ?_⟩
  clear hQ K_
  simp only [Act.put, List.setIfInBounds_toArray, List.set_cons_zero, List.set_cons_succ, List.getElem_toArray, List.getElem_cons_zero, List.getElem_cons_succ]
  refine float_again (fun q u => NR G x0 q u) 14 (fun b_ => #[true, true, true, b_, false, false]) 3 4 true (b := b1_1) (q := q1_1) rfl rfl hTq (fun _ g_ => hG.trans g_) (by kernel_rfl) (fun b_ => by cases b_ <;> rfl) ?_ ?_
  all_goals simp only [fw1, Act.put, List.setIfInBounds_toArray, List.set_cons_zero, List.set_cons_succ, List.getElem_toArray, List.getElem_cons_zero, List.getElem_cons_succ]
  · intro q_ x_ hgx K_ hQ
    refine wpOp_step (o := _) rfl (fun K' hK' => ?_)
    replace hK' := hide hK'
    replace hQ := hide hQ
    refine step_val (.pointer (some ⟨x_.heap.size, 0, none⟩)) (x_.alloc (.cells ZD 31 (0, 0))) (by kernel_rfl) (by kernel_rfl) ?_
    exact unhide hK' _ _ (unhide hQ _ _ ((Gr.refl _).alloc _) (⟨_, rfl, Nat.le_trans hG0.size hgx.size, fun hm => by have h1 := hLc.lt _ hm; have h2 := hgx.size; omega, blk_new _ _⟩))
  clear hTq
  intro b1_4 q1_4 x1_4 hg hTq hall
  replace hG := hG.trans hg
  replace hG0 := hG0.trans hg
  first | replace hLc := hLc.gr hg | skip
  obtain rfl : b1_4 = true := hall (by trivial)
  replace hTq := hTq rfl
  clear hall
  obtain ⟨gy, rfl, hge, hyG, hnew⟩ := hTq
  refine wpOp_step (o := _) rfl (fun K_ hQ => ?_)
  replace hQ := hide hQ
  go_simp
  refine unhide hQ _ _ ⟨hG, ?_⟩
  clear hQ K_
  try simp only [Act.put, List.setIfInBounds_toArray, List.set_cons_zero, List.set_cons_succ, List.getElem_toArray, List.getElem_cons_zero, List.getElem_cons_succ]
  refine any_one (i := 5) (by kernel_rfl) rfl (fun K_ hQ => ?_)
  rw [if_pos (by kernel_rfl)]
  refine wp_store_row 31 (.tmp 14) (.tmp 58) rfl gy (D1.v sa sc pa pc) (by kernel_rfl) (by kernel_rfl) 31 ZD hnew (by rw [Try.infoRD]; rfl) rfl (Dk.v_one ..) ?_
  have hxs := hGx
  have hT2 := hTw.two hG hLc (fun i hi => Nat.le_trans hxs (hGn i hi)) (Nat.le_trans hxs hge) hyG hnew
  have hG2 := hG.row gy (Nat.le_trans hxs hge) (D1.v sa sc pa pc)
  generalize World.setRow _ _ _ = x9 at *
  refine hQ.out _ _ hG2 (fun _ => ?_)
  clear hQ K_
  simp only [Act.put, List.setIfInBounds_toArray, List.set_cons_zero, List.set_cons_succ, List.getElem_toArray, List.getElem_cons_zero, List.getElem_cons_succ]
  clear hG hG0 hnew hge hG2 hGx hyG hGn hLc hTw
  refine any_done (by kernel_rfl) ?_
  have hTw := hide hT2
  clear hT2
  go_upto_region 16 with fail
  refine wp_region_lit ?_
  refine list_val (.slice am nm cm) (by kernel_rfl) (by kernel_rfl) ?_
  simp only [Act.put, List.setIfInBounds_toArray, List.set_cons_zero, List.set_cons_succ, List.getElem_toArray, List.getElem_cons_zero, List.getElem_cons_succ]
  refine list_call 12 #[.slice am nm cm] (by kernel_rfl) (by kernel_rfl) ((few_ok am nm cm hcapm _).mono ?_)
  rintro r u_ ⟨mm, rfl, hmm, hu⟩
  refine ⟨_, rfl, ?_⟩
  replace hu := hu.symm
  subst hu
  have hlfm := hide ((unhide hm).few hmm)
  have hm120m : mm ≤ 120 := by omega
  replace hmm := hide hmm
  simp only [Act.put, List.setIfInBounds_toArray, List.set_cons_zero, List.set_cons_succ, List.getElem_toArray, List.getElem_cons_zero, List.getElem_cons_succ]
  refine list_val (.int .i64 mm) (by kernel_rfl) (by kernel_rfl) ?_
  simp only [Act.put, List.setIfInBounds_toArray, List.set_cons_zero, List.set_cons_succ, List.getElem_toArray, List.getElem_cons_zero, List.getElem_cons_succ]
  refine list_val (.int .i64 0) (by kernel_rfl) (by kernel_rfl) ?_
  simp only [Act.put, List.setIfInBounds_toArray, List.set_cons_zero, List.set_cons_succ, List.getElem_toArray, List.getElem_cons_zero, List.getElem_cons_succ]
  refine wpList_nil ?_
  obtain ⟨l2m, hl2m⟩ : ∃ y, y = m.take 120 := ⟨_, rfl⟩
  rw [← hl2m] at hlfm
  have hokm := hide (unhide hlfm).ok
  replace hl2m := hide hl2m
  have hTz : ∃ sa0 sc0 pa0 pc0 : _, Hid (Two w F g D1 gx sa sc pa pc D1 G gc D1 gy sa0 sc0 pa0 pc0 D1 x9) := ⟨sa, sc, pa, pc, hTw⟩
  obtain ⟨sa0, sc0, pa0, pc0, hTz⟩ := hTz
  have hT0 : Hid (∃ F sa sc pa pc, Two w F g (alD D1 l2m 0) gx sa sc pa pc (alD D1 l2m 0) G gc D1 gy sa0 sc0 pa0 pc0 D1 x9) := ⟨F, sa, sc, pa, pc, unhide hTz⟩
  clear hTw hTz
  go_wp2_with fail
  go_loopw [64] (fun i wr => ∃ j : Nat, j ≤ mm ∧ i = .int .i64 j ∧ Hid (∃ F sa sc pa pc, Two w F g (alD D1 l2m j) gx sa sc pa pc (alD D1 l2m j) G gc D1 gy sa0 sc0 pa0 pc0 D1 wr)) (fun i _ => mm - (intOf i).toNat)
  case atStart => exact ⟨0, by omega, rfl, hT0⟩
  case round =>
  clear hT0
  obtain ⟨j, hj, rfl, hTj⟩ := hrel
  by_cases hjl : j < mm
  · skip
    have jI : (j : Int) < (mm : Int) := by omega
    obtain ⟨p, o, ka, kn, kp, rfl, hrw, hkp, hqo⟩ := (unhide hlfm).at_ j hjl
    have hsc : Hid (alD D1 l2m (j + 1) = (alD D1 l2m j).opD (l2m.getD j op0)) := rfl
    generalize l2m.getD j op0 = q at *
    have hDk := alD_ok (unhide hD1) (unhide hokm) j
    obtain ⟨F, sa, sc, pa, pc, hTw⟩ := unhide hTj
    clear hTj
    generalize alD D1 l2m j = D at *
    have hjj : kD1 + j ≤ 1000 := by omega
    generalize kD1 + j = jj at *
    have hDq := hDk.op q hqo
    have hDb := Dk.opB_bb hDk q
    replace hrw := hide hrw; replace hkp := hide hkp; replace hqo := hide hqo; replace hDk := hide hDk; replace hDq := hide hDq; replace hDb := hide hDb
    replace hTw := hide hTw
    go_upto_region 18 with fail
    replace hTw := unhide hTw
    have hB := Bl.nil wr
    refine wp_region_lit ?_
    refine list_val (.pointer (some ⟨p, o + 4 * j, none⟩)) (by kernel_rfl) (exec_io _ (.tmp 62) (.tmp 64) rfl p o mm cm j rfl rfl hjl) ?_
    simp only [Act.put, List.setIfInBounds_toArray, List.set_cons_zero, List.set_cons_succ, List.getElem_toArray, List.getElem_cons_zero, List.getElem_cons_succ]
    refine list_val (.agg (opv q ka kn kp)) (by kernel_rfl) (exec_lop _ (.tmp 66) rfl p (o + 4 * j) (by kernel_rfl) q ka kn kp (range_gr (unhide hrw) hTw.a.gr)) ?_
    simp only [Act.put, List.setIfInBounds_toArray, List.set_cons_zero, List.set_cons_succ, List.getElem_toArray, List.getElem_cons_zero, List.getElem_cons_succ]
    refine list_valw (.pointer (some ⟨wr.heap.size, 0, none⟩)) (wr.alloc (.cells (opv op0 none 0 0) 37 (0, 0))) (by kernel_rfl) (by kernel_rfl) ?_
    replace hB := hB.new (opv op0 none 0 0) 37
    simp only [List.nil_append, List.cons_append] at hB
    generalize World.alloc _ _ = v1 at *
    generalize wr.heap.size = go at *
    replace hB : Bl wr [⟨go, opv op0 none 0 0, 37⟩] v1 := hB
    simp only [Act.put, List.setIfInBounds_toArray, List.set_cons_zero, List.set_cons_succ, List.getElem_toArray, List.getElem_cons_zero, List.getElem_cons_succ]
    refine list_store 37 (.tmp 16) (.tmp 67) go (opv q ka kn kp) 37 (opv op0 none 0 0) (by kernel_rfl) rfl (by kernel_rfl) (by kernel_rfl) (hB.get 0 (x := ⟨go, opv op0 none 0 0, 37⟩) rfl) (by rw [Try.infoO]; rfl) rfl (opv_one ..) ?_
    replace hB := hB.set 0 (x := ⟨go, opv op0 none 0 0, 37⟩) rfl (opv q ka kn kp)
    simp only [List.set_cons_zero, List.set_cons_succ] at hB
    generalize World.setRow _ _ _ = v2 at *
    replace hB : Bl wr [⟨go, opv q ka kn kp, 37⟩] v2 := hB
    simp only [Act.put, List.setIfInBounds_toArray, List.set_cons_zero, List.set_cons_succ, List.getElem_toArray, List.getElem_cons_zero, List.getElem_cons_succ]
    refine wpList_nil ?_
    have hTv := hTw.more hB.gr
    have hO := (hB.get 0 (x := ⟨go, opv q ka kn kp, 37⟩) rfl)
    have hoF : go ∉ F := fun hm => by have h1 := hTw.a.ls.lt _ hm; have h2 := hB.own 0 (x := ⟨go, opv q ka kn kp, 37⟩) rfl; dsimp only at h2; omega
    dsimp only at hO
    replace hO := hide hO; replace hTv := hide hTv
    clear hTw hB
    go_upto_region 19 with fail
    refine wp_region_lit ?_
    refine list_val (.pointer (some ⟨g, 0, none⟩)) (by kernel_rfl) (by kernel_rfl) ?_
    simp only [Act.put, List.setIfInBounds_toArray, List.set_cons_zero, List.set_cons_succ, List.getElem_toArray, List.getElem_cons_zero, List.getElem_cons_succ]
    refine list_val (.agg (opv q ka kn kp)) (by kernel_rfl) (exec_arr _ 37 (.tmp 16) rfl go (by kernel_rfl) (opv q ka kn kp) 37 _ (unhide hO) Try.underlying37 rfl (by rw [Try.infoO]; rfl)) ?_
    simp only [Act.put, List.setIfInBounds_toArray, List.set_cons_zero, List.set_cons_succ, List.getElem_toArray, List.getElem_cons_zero, List.getElem_cons_succ]
    refine list_call 13 #[.pointer (some ⟨g, 0, none⟩), .agg (opv q ka kn kp)] (by kernel_rfl) (by kernel_rfl) ((does_ok F g jj D (unhide hDk) (by omega) q (unhide hqo) ka kn kp _ (unhide hTv).a.ls ((unhide hkp).gr (unhide hTv).a.gr)).mono ?_)
    rintro r v3 ⟨F1, rfl, hL1, hch⟩
    refine ⟨_, rfl, ?_⟩
    have hT3 := (unhide hTv).chg hch hL1
    have hO3 := hide (hch.blk (unhide hO) hoF)
    obtain ⟨b, hb⟩ : ∃ b, b = D.opB q := ⟨_, rfl⟩
    obtain ⟨e, he⟩ : ∃ e, e = D.opE q := ⟨_, rfl⟩
    rw [← hb, ← he]
    rw [← hb] at hDb
    have hbl := (unhide hDb).1
    replace hb := hide hb; replace he := hide he
    have hB := Bl.nil v3
    clear hTv hO hoF hch hL1
    simp only [Act.put, List.setIfInBounds_toArray, List.set_cons_zero, List.set_cons_succ, List.getElem_toArray, List.getElem_cons_zero, List.getElem_cons_succ]
    refine wpList_nil ?_
    replace hB := hide hB
    replace hT3 := hide hT3
    go_upto_region 20 with fail
    replace hB := unhide hB
    replace hT3 := unhide hT3
    refine wp_region_lit ?_
    refine list_val (.agg (D.v sa sc pa pc)) (by kernel_rfl) (exec_arr _ 31 (.tmp 9) rfl gx (by kernel_rfl) (D.v sa sc pa pc) 31 _ (hB.gr.blk hT3.a.xb) Try.underlying31 rfl (by rw [Try.infoRD]; rfl)) ?_
    simp only [Act.put, List.setIfInBounds_toArray, List.set_cons_zero, List.set_cons_succ, List.getElem_toArray, List.getElem_cons_zero, List.getElem_cons_succ]
    refine list_val (.agg (opv q ka kn kp)) (by kernel_rfl) (exec_arr _ 37 (.tmp 16) rfl go (by kernel_rfl) (opv q ka kn kp) 37 _ (hB.gr.blk (unhide hO3)) Try.underlying37 rfl (by rw [Try.infoO]; rfl)) ?_
    simp only [Act.put, List.setIfInBounds_toArray, List.set_cons_zero, List.set_cons_succ, List.getElem_toArray, List.getElem_cons_zero, List.getElem_cons_succ]
    refine list_call 14 #[.agg (D.v sa sc pa pc), .agg (opv q ka kn kp)] (by kernel_rfl) (by kernel_rfl) ((want_D D jj (unhide hDk) (by omega) sa sc pa pc q (unhide hqo) ka kn kp _ (hT3.more hB.gr).a.rd ((unhide hkp).gr (hT3.more hB.gr).a.gr)).mono ?_)
    rintro r v7 ⟨sb, sd, pb, pd, rfl, hR1, hf1, hf2, hg⟩
    refine ⟨_, rfl, ?_⟩
    rw [← unhide hb, ← unhide he]
    obtain ⟨E, hE⟩ : ∃ E, E = D.opD q := ⟨_, rfl⟩
    rw [← hE] at hR1 hT3 hDq hsc ⊢
    have hT7 := (hT3.more hB.gr).put hg hR1 hf1 hf2
    replace hE := hide hE
    replace hB := hB.more hg
    simp only [Act.put, List.setIfInBounds_toArray, List.set_cons_zero, List.set_cons_succ, List.getElem_toArray, List.getElem_cons_zero, List.getElem_cons_succ]
    refine list_val (.tuple #[.agg (E.v sb sd pb pd), .agg (kc b), .int .i64 e]) (by kernel_rfl) (by kernel_rfl) ?_
    simp only [Act.put, List.setIfInBounds_toArray, List.set_cons_zero, List.set_cons_succ, List.getElem_toArray, List.getElem_cons_zero, List.getElem_cons_succ]
    refine list_val (.agg (E.v sb sd pb pd)) (by kernel_rfl) (by kernel_rfl) ?_
    simp only [Act.put, List.setIfInBounds_toArray, List.set_cons_zero, List.set_cons_succ, List.getElem_toArray, List.getElem_cons_zero, List.getElem_cons_succ]
    refine list_val (.agg (kc b)) (by kernel_rfl) (by kernel_rfl) ?_
    simp only [Act.put, List.setIfInBounds_toArray, List.set_cons_zero, List.set_cons_succ, List.getElem_toArray, List.getElem_cons_zero, List.getElem_cons_succ]
    refine list_val (.int .i64 e) (by kernel_rfl) (by kernel_rfl) ?_
    simp only [Act.put, List.setIfInBounds_toArray, List.set_cons_zero, List.set_cons_succ, List.getElem_toArray, List.getElem_cons_zero, List.getElem_cons_succ]
    refine list_store 31 (.tmp 9) (.tmp 75) gx (E.v sb sd pb pd) 31 (D.v sa sc pa pc) (by kernel_rfl) rfl (by kernel_rfl) (by kernel_rfl) (hB.gr.blk hT3.a.xb) (by rw [Try.infoRD]; rfl) rfl (Dk.v_one ..) ?_
    clear hB hR1 hf1 hf2 hg hT3 hO3
    generalize World.setRow _ _ _ = v8 at *
    simp only [Act.put, List.setIfInBounds_toArray, List.set_cons_zero, List.set_cons_succ, List.getElem_toArray, List.getElem_cons_zero, List.getElem_cons_succ]
    refine wpList_nil ?_
    have hT11 : Hid (∃ F sa sc pa pc, Two w F g (alD D1 l2m (j + 1)) gx sa sc pa pc (alD D1 l2m (j + 1)) G gc D1 gy sa0 sc0 pa0 pc0 D1 v8) := ⟨F1, sb, sd, pb, pd, by rw [unhide hsc]; exact hT7⟩
    clear hT7
    go_wp2_with fail
    go_roundw
    case rel => exact ⟨j + 1, by omega, by go_num, hT11⟩
    case measure => simp [intOf]; omega
  have jI : ¬ (j : Int) < (mm : Int) := by omega
  have hD2 := alD_ok (unhide hD1) (unhide hokm) j
  obtain ⟨F, sa, sc, pa, pc, hTw⟩ := unhide hTj
  clear hTj
  obtain ⟨D2, hzD2⟩ : ∃ D, D = alD D1 l2m j := ⟨_, rfl⟩
  rw [← hzD2] at hTw hD2
  have hbD2 : kD1 + j ≤ 300 := by omega
  generalize kD1 + j = kD2 at *
  replace hD2 := hide hD2; replace hTw := hide hTw; replace hzD2 := hide hzD2
  clear hlfm
  go_upto_region 22 with fail
  refine wp_region_lit ?_
  refine list_val (.slice an nn cn) (by kernel_rfl) (by kernel_rfl) ?_
  simp only [Act.put, List.setIfInBounds_toArray, List.set_cons_zero, List.set_cons_succ, List.getElem_toArray, List.getElem_cons_zero, List.getElem_cons_succ]
  refine list_call 12 #[.slice an nn cn] (by kernel_rfl) (by kernel_rfl) ((few_ok an nn cn hcapn _).mono ?_)
  rintro r u_ ⟨mn, rfl, hmn, hu⟩
  refine ⟨_, rfl, ?_⟩
  replace hu := hu.symm
  subst hu
  have hlfn := hide ((unhide hn).few hmn)
  have hm120n : mn ≤ 120 := by omega
  replace hmn := hide hmn
  simp only [Act.put, List.setIfInBounds_toArray, List.set_cons_zero, List.set_cons_succ, List.getElem_toArray, List.getElem_cons_zero, List.getElem_cons_succ]
  refine list_val (.int .i64 mn) (by kernel_rfl) (by kernel_rfl) ?_
  simp only [Act.put, List.setIfInBounds_toArray, List.set_cons_zero, List.set_cons_succ, List.getElem_toArray, List.getElem_cons_zero, List.getElem_cons_succ]
  refine list_val (.int .i64 0) (by kernel_rfl) (by kernel_rfl) ?_
  simp only [Act.put, List.setIfInBounds_toArray, List.set_cons_zero, List.set_cons_succ, List.getElem_toArray, List.getElem_cons_zero, List.getElem_cons_succ]
  refine wpList_nil ?_
  obtain ⟨l2n, hl2n⟩ : ∃ y, y = n.take 120 := ⟨_, rfl⟩
  rw [← hl2n] at hlfn
  have hokn := hide (unhide hlfn).ok
  replace hl2n := hide hl2n
  generalize sa = sx at *
  generalize sc = sy at *
  generalize pa = px at *
  generalize pc = py at *
  have hT0 : Hid (∃ F_ sa sc pa pc, Two w F_ gc (alD D1 l2n 0) gy sa sc pa pc (alD D1 l2n 0) F g D2 gx sx sy px py D2 wr) := ⟨G, sa0, sc0, pa0, pc0, (unhide hTw).symm⟩
  clear hTw
  go_wp2_with fail
  go_loopw [82] (fun i wr => ∃ j : Nat, j ≤ mn ∧ i = .int .i64 j ∧ Hid (∃ F_ sa sc pa pc, Two w F_ gc (alD D1 l2n j) gy sa sc pa pc (alD D1 l2n j) F g D2 gx sx sy px py D2 wr)) (fun i _ => mn - (intOf i).toNat)
  case atStart => exact ⟨0, by omega, rfl, hT0⟩
  case round =>
  clear hT0
  obtain ⟨j, hj, rfl, hTj⟩ := hrel
  by_cases hjl : j < mn
  · skip
    have jI : (j : Int) < (mn : Int) := by omega
    obtain ⟨p, o, ka, kn, kp, rfl, hrw, hkp, hqo⟩ := (unhide hlfn).at_ j hjl
    have hsc : Hid (alD D1 l2n (j + 1) = (alD D1 l2n j).opD (l2n.getD j op0)) := rfl
    generalize l2n.getD j op0 = q at *
    have hDk := alD_ok (unhide hD1) (unhide hokn) j
    obtain ⟨F_, sa, sc, pa, pc, hTw⟩ := unhide hTj
    clear hTj
    generalize alD D1 l2n j = D at *
    have hjj : kD1 + j ≤ 1000 := by omega
    generalize kD1 + j = jj at *
    have hDq := hDk.op q hqo
    have hDb := Dk.opB_bb hDk q
    replace hrw := hide hrw; replace hkp := hide hkp; replace hqo := hide hqo; replace hDk := hide hDk; replace hDq := hide hDq; replace hDb := hide hDb
    replace hTw := hide hTw
    go_upto_region 24 with fail
    replace hTw := unhide hTw
    have hB := Bl.nil wr
    refine wp_region_lit ?_
    refine list_val (.pointer (some ⟨p, o + 4 * j, none⟩)) (by kernel_rfl) (exec_io _ (.tmp 80) (.tmp 82) rfl p o mn cn j rfl rfl hjl) ?_
    simp only [Act.put, List.setIfInBounds_toArray, List.set_cons_zero, List.set_cons_succ, List.getElem_toArray, List.getElem_cons_zero, List.getElem_cons_succ]
    refine list_val (.agg (opv q ka kn kp)) (by kernel_rfl) (exec_lop _ (.tmp 84) rfl p (o + 4 * j) (by kernel_rfl) q ka kn kp (range_gr (unhide hrw) hTw.a.gr)) ?_
    simp only [Act.put, List.setIfInBounds_toArray, List.set_cons_zero, List.set_cons_succ, List.getElem_toArray, List.getElem_cons_zero, List.getElem_cons_succ]
    refine list_valw (.pointer (some ⟨wr.heap.size, 0, none⟩)) (wr.alloc (.cells (opv op0 none 0 0) 37 (0, 0))) (by kernel_rfl) (by kernel_rfl) ?_
    replace hB := hB.new (opv op0 none 0 0) 37
    simp only [List.nil_append, List.cons_append] at hB
    generalize World.alloc _ _ = v1 at *
    generalize wr.heap.size = go at *
    replace hB : Bl wr [⟨go, opv op0 none 0 0, 37⟩] v1 := hB
    simp only [Act.put, List.setIfInBounds_toArray, List.set_cons_zero, List.set_cons_succ, List.getElem_toArray, List.getElem_cons_zero, List.getElem_cons_succ]
    refine list_store 37 (.tmp 18) (.tmp 85) go (opv q ka kn kp) 37 (opv op0 none 0 0) (by kernel_rfl) rfl (by kernel_rfl) (by kernel_rfl) (hB.get 0 (x := ⟨go, opv op0 none 0 0, 37⟩) rfl) (by rw [Try.infoO]; rfl) rfl (opv_one ..) ?_
    replace hB := hB.set 0 (x := ⟨go, opv op0 none 0 0, 37⟩) rfl (opv q ka kn kp)
    simp only [List.set_cons_zero, List.set_cons_succ] at hB
    generalize World.setRow _ _ _ = v2 at *
    replace hB : Bl wr [⟨go, opv q ka kn kp, 37⟩] v2 := hB
    simp only [Act.put, List.setIfInBounds_toArray, List.set_cons_zero, List.set_cons_succ, List.getElem_toArray, List.getElem_cons_zero, List.getElem_cons_succ]
    refine wpList_nil ?_
    have hTv := hTw.more hB.gr
    have hO := (hB.get 0 (x := ⟨go, opv q ka kn kp, 37⟩) rfl)
    have hoF : go ∉ F_ := fun hm => by have h1 := hTw.a.ls.lt _ hm; have h2 := hB.own 0 (x := ⟨go, opv q ka kn kp, 37⟩) rfl; dsimp only at h2; omega
    dsimp only at hO
    replace hO := hide hO; replace hTv := hide hTv
    clear hTw hB
    go_upto_region 25 with fail
    refine wp_region_lit ?_
    refine list_val (.pointer (some ⟨gc, 0, none⟩)) (by kernel_rfl) (by kernel_rfl) ?_
    simp only [Act.put, List.setIfInBounds_toArray, List.set_cons_zero, List.set_cons_succ, List.getElem_toArray, List.getElem_cons_zero, List.getElem_cons_succ]
    refine list_val (.agg (opv q ka kn kp)) (by kernel_rfl) (exec_arr _ 37 (.tmp 18) rfl go (by kernel_rfl) (opv q ka kn kp) 37 _ (unhide hO) Try.underlying37 rfl (by rw [Try.infoO]; rfl)) ?_
    simp only [Act.put, List.setIfInBounds_toArray, List.set_cons_zero, List.set_cons_succ, List.getElem_toArray, List.getElem_cons_zero, List.getElem_cons_succ]
    refine list_call 13 #[.pointer (some ⟨gc, 0, none⟩), .agg (opv q ka kn kp)] (by kernel_rfl) (by kernel_rfl) ((does_ok F_ gc jj D (unhide hDk) (by omega) q (unhide hqo) ka kn kp _ (unhide hTv).a.ls ((unhide hkp).gr (unhide hTv).a.gr)).mono ?_)
    rintro r v3 ⟨F1, rfl, hL1, hch⟩
    refine ⟨_, rfl, ?_⟩
    have hT3 := (unhide hTv).chg hch hL1
    have hO3 := hide (hch.blk (unhide hO) hoF)
    obtain ⟨b, hb⟩ : ∃ b, b = D.opB q := ⟨_, rfl⟩
    obtain ⟨e, he⟩ : ∃ e, e = D.opE q := ⟨_, rfl⟩
    rw [← hb, ← he]
    rw [← hb] at hDb
    have hbl := (unhide hDb).1
    replace hb := hide hb; replace he := hide he
    have hB := Bl.nil v3
    clear hTv hO hoF hch hL1
    simp only [Act.put, List.setIfInBounds_toArray, List.set_cons_zero, List.set_cons_succ, List.getElem_toArray, List.getElem_cons_zero, List.getElem_cons_succ]
    refine list_val (.tuple #[.agg (kc b), .int .i64 e]) (by kernel_rfl) (by kernel_rfl) ?_
    simp only [Act.put, List.setIfInBounds_toArray, List.set_cons_zero, List.set_cons_succ, List.getElem_toArray, List.getElem_cons_zero, List.getElem_cons_succ]
    refine list_val (.agg (kc b)) (by kernel_rfl) (by kernel_rfl) ?_
    simp only [Act.put, List.setIfInBounds_toArray, List.set_cons_zero, List.set_cons_succ, List.getElem_toArray, List.getElem_cons_zero, List.getElem_cons_succ]
    refine list_val (.int .i64 e) (by kernel_rfl) (by kernel_rfl) ?_
    simp only [Act.put, List.setIfInBounds_toArray, List.set_cons_zero, List.set_cons_succ, List.getElem_toArray, List.getElem_cons_zero, List.getElem_cons_succ]
    refine list_valw (.pointer (some ⟨v3.heap.size, 0, none⟩)) (v3.alloc (.cells (kc ZB) 39 (0, 0))) (by kernel_rfl) (by kernel_rfl) ?_
    replace hB := hB.new (kc ZB) 39
    simp only [List.nil_append, List.cons_append] at hB
    generalize World.alloc _ _ = v4 at *
    generalize v3.heap.size = gb at *
    replace hB : Bl v3 [⟨gb, kc ZB, 39⟩] v4 := hB
    simp only [Act.put, List.setIfInBounds_toArray, List.set_cons_zero, List.set_cons_succ, List.getElem_toArray, List.getElem_cons_zero, List.getElem_cons_succ]
    refine list_store 39 (.tmp 19) (.tmp 90) (gb) (kc b) 39 (kc ZB) (by kernel_rfl) rfl (by kernel_rfl) (by kernel_rfl) (hB.get 0 (x := ⟨gb, kc ZB, 39⟩) rfl) (by rw [Try.infoB, kc_size, hbl]) ((show (kc ZB).size = 64 from rfl).trans ((kc_size _).trans hbl).symm) (kc_one _) ?_
    replace hB := hB.set 0 (x := ⟨gb, kc ZB, 39⟩) rfl (kc b)
    simp only [List.set_cons_zero, List.set_cons_succ] at hB
    generalize World.setRow _ _ _ = v5 at *
    replace hB : Bl v3 [⟨gb, kc b, 39⟩] v5 := hB
    simp only [Act.put, List.setIfInBounds_toArray, List.set_cons_zero, List.set_cons_succ, List.getElem_toArray, List.getElem_cons_zero, List.getElem_cons_succ]
    (refine wpList_step fun K hK => ?_; replace hK := hide hK; go_simp; refine unhide hK _ _ ?_; clear hK K)
    refine wpList_nil ?_
    replace hB := hide hB
    replace hT3 := hide hT3
    go_upto_region 26 with fail
    replace hB := unhide hB
    replace hT3 := unhide hT3
    refine wp_region_lit ?_
    refine list_valw (.pointer (some ⟨v5.heap.size, 0, none⟩)) (v5.alloc (.cells (kc ZB) 39 (0, 0))) (by kernel_rfl) (by kernel_rfl) ?_
    replace hB := hB.new (kc ZB) 39
    simp only [List.nil_append, List.cons_append] at hB
    generalize World.alloc _ _ = v6 at *
    generalize v5.heap.size = gk at *
    replace hB : Bl v3 [⟨gb, kc b, 39⟩, ⟨gk, kc ZB, 39⟩] v6 := hB
    simp only [Act.put, List.setIfInBounds_toArray, List.set_cons_zero, List.set_cons_succ, List.getElem_toArray, List.getElem_cons_zero, List.getElem_cons_succ]
    refine wpList_nil ?_
    replace hB := hide hB
    replace hT3 := hide hT3
    go_upto_region 27 with fail
    replace hB := unhide hB
    replace hT3 := unhide hT3
    refine wp_region_lit ?_
    refine list_val (.agg (D.v sa sc pa pc)) (by kernel_rfl) (exec_arr _ 31 (.tmp 14) rfl gy (by kernel_rfl) (D.v sa sc pa pc) 31 _ (hB.gr.blk hT3.a.xb) Try.underlying31 rfl (by rw [Try.infoRD]; rfl)) ?_
    simp only [Act.put, List.setIfInBounds_toArray, List.set_cons_zero, List.set_cons_succ, List.getElem_toArray, List.getElem_cons_zero, List.getElem_cons_succ]
    refine list_val (.agg (opv q ka kn kp)) (by kernel_rfl) (exec_arr _ 37 (.tmp 18) rfl go (by kernel_rfl) (opv q ka kn kp) 37 _ (hB.gr.blk (unhide hO3)) Try.underlying37 rfl (by rw [Try.infoO]; rfl)) ?_
    simp only [Act.put, List.setIfInBounds_toArray, List.set_cons_zero, List.set_cons_succ, List.getElem_toArray, List.getElem_cons_zero, List.getElem_cons_succ]
    refine list_call 14 #[.agg (D.v sa sc pa pc), .agg (opv q ka kn kp)] (by kernel_rfl) (by kernel_rfl) ((want_D D jj (unhide hDk) (by omega) sa sc pa pc q (unhide hqo) ka kn kp _ (hT3.more hB.gr).a.rd ((unhide hkp).gr (hT3.more hB.gr).a.gr)).mono ?_)
    rintro r v7 ⟨sb, sd, pb, pd, rfl, hR1, hf1, hf2, hg⟩
    refine ⟨_, rfl, ?_⟩
    rw [← unhide hb, ← unhide he]
    obtain ⟨E, hE⟩ : ∃ E, E = D.opD q := ⟨_, rfl⟩
    rw [← hE] at hR1 hT3 hDq hsc ⊢
    have hlc := lt_of_block (hB.get 1 (x := ⟨gk, kc ZB, 39⟩) rfl)
    have hbc : gb ≠ gk := (List.pairwise_cons.1 hB.ne).1 ⟨gk, kc ZB, 39⟩ (by simp)
    have hob := hB.own 0 (x := ⟨gb, kc b, 39⟩) rfl
    have hoc := hB.own 1 (x := ⟨gk, kc ZB, 39⟩) rfl
    dsimp only at hlc hob hoc
    have hxl := lt_of_block hT3.a.xb
    have qs : blkOf sb ≠ some gk := hf1.far hT3.a.rd.sf.low hoc hlc
    have qp : blkOf pb ≠ some gk := hf2.far hT3.a.rd.pn.low hoc hlc
    have qF : gk ∉ F1 := fun hm => by have := hT3.a.ls.lt _ hm; omega
    have hT7 := (hT3.more hB.gr).put hg hR1 hf1 hf2
    replace hE := hide hE
    replace hB := hB.more hg
    simp only [Act.put, List.setIfInBounds_toArray, List.set_cons_zero, List.set_cons_succ, List.getElem_toArray, List.getElem_cons_zero, List.getElem_cons_succ]
    refine list_val (.tuple #[.agg (E.v sb sd pb pd), .agg (kc b), .int .i64 e]) (by kernel_rfl) (by kernel_rfl) ?_
    simp only [Act.put, List.setIfInBounds_toArray, List.set_cons_zero, List.set_cons_succ, List.getElem_toArray, List.getElem_cons_zero, List.getElem_cons_succ]
    refine list_val (.agg (E.v sb sd pb pd)) (by kernel_rfl) (by kernel_rfl) ?_
    simp only [Act.put, List.setIfInBounds_toArray, List.set_cons_zero, List.set_cons_succ, List.getElem_toArray, List.getElem_cons_zero, List.getElem_cons_succ]
    refine list_val (.agg (kc b)) (by kernel_rfl) (by kernel_rfl) ?_
    simp only [Act.put, List.setIfInBounds_toArray, List.set_cons_zero, List.set_cons_succ, List.getElem_toArray, List.getElem_cons_zero, List.getElem_cons_succ]
    refine list_val (.int .i64 e) (by kernel_rfl) (by kernel_rfl) ?_
    simp only [Act.put, List.setIfInBounds_toArray, List.set_cons_zero, List.set_cons_succ, List.getElem_toArray, List.getElem_cons_zero, List.getElem_cons_succ]
    refine list_store 31 (.tmp 14) (.tmp 96) gy (E.v sb sd pb pd) 31 (D.v sa sc pa pc) (by kernel_rfl) rfl (by kernel_rfl) (by kernel_rfl) (hB.gr.blk hT3.a.xb) (by rw [Try.infoRD]; rfl) rfl (Dk.v_one ..) ?_
    have hbx : Bt gy v7 (v7.setRow gy (E.v sb sd pb pd)) := (Bt.refl gy v7).row_self _
    have kB := hbx.blk (hB.get 0 (x := ⟨gb, kc b, 39⟩) rfl) (show gb ≠ gy by omega)
    have kC := hbx.blk (hB.get 1 (x := ⟨gk, kc ZB, 39⟩) rfl) (show gk ≠ gy by omega)
    dsimp only at kB kC
    clear hbx hB hR1 hf1 hf2 hg
    generalize World.setRow _ _ _ = v8 at *
    simp only [Act.put, List.setIfInBounds_toArray, List.set_cons_zero, List.set_cons_succ, List.getElem_toArray, List.getElem_cons_zero, List.getElem_cons_succ]
    refine list_store 39 (.tmp 21) (.tmp 97) gk (kc b) 39 (kc ZB) (by kernel_rfl) rfl (by kernel_rfl) (by kernel_rfl) kC (by rw [Try.infoB, kc_size, hbl]) ((show (kc ZB).size = 64 from rfl).trans ((kc_size _).trans hbl).symm) (kc_one _) ?_
    have hbx : Bt gk v8 (v8.setRow gk (kc b)) := (Bt.refl gk v8).row_self _
    have hT9 := hT7.st hbx (Nat.le_trans hT3.a.gr.size hoc) (show gk ≠ gy by omega) qF qs qp (hT3.b.fresh hoc)
    have kB2 := hbx.blk kB hbc
    have kC2 := setRow_heap v8 gk _ (kc b) _ _ kC
    clear hbx kB kC hT7 hT3 qs qp qF hlc hob hoc hxl
    generalize World.setRow _ _ _ = v9 at *
    simp only [Act.put, List.setIfInBounds_toArray, List.set_cons_zero, List.set_cons_succ, List.getElem_toArray, List.getElem_cons_zero, List.getElem_cons_succ]
    (refine wpList_step fun K hK => ?_; replace hK := hide hK; go_simp; refine unhide hK _ _ ?_; clear hK K)
    refine wpList_nil ?_
    replace hT9 := hide hT9; replace kB2 := hide kB2; replace kC2 := hide kC2; clear hO3
    go_upto_region 28 with fail
    refine wp_region_lit ?_
    refine list_val (.agg (kc b)) (by kernel_rfl) (exec_arr _ 39 (.tmp 19) rfl gb (by kernel_rfl) (kc b) 39 _ (unhide kB2) Try.underlying39 rfl (by rw [Try.infoB, kc_size, hbl])) ?_
    simp only [Act.put, List.setIfInBounds_toArray, List.set_cons_zero, List.set_cons_succ, List.getElem_toArray, List.getElem_cons_zero, List.getElem_cons_succ]
    refine list_val (.agg (kc b)) (by kernel_rfl) (exec_arr _ 39 (.tmp 21) rfl gk (by kernel_rfl) (kc b) 39 _ (unhide kC2) Try.underlying39 rfl (by rw [Try.infoB, kc_size, hbl])) ?_
    simp only [Act.put, List.setIfInBounds_toArray, List.set_cons_zero, List.set_cons_succ, List.getElem_toArray, List.getElem_cons_zero, List.getElem_cons_succ]
    refine list_val (.bool false) (by kernel_rfl) (exec_neB _ (.tmp 99) (.tmp 100) rfl b hbl (by kernel_rfl) (by kernel_rfl)) ?_
    simp only [Act.put, List.setIfInBounds_toArray, List.set_cons_zero, List.set_cons_succ, List.getElem_toArray, List.getElem_cons_zero, List.getElem_cons_succ]
    refine list_val (.bool false) (by kernel_rfl) (by kernel_rfl) ?_
    simp only [Act.put, List.setIfInBounds_toArray, List.set_cons_zero, List.set_cons_succ, List.getElem_toArray, List.getElem_cons_zero, List.getElem_cons_succ]
    refine list_val (.int .i64 e) (by kernel_rfl) (by kernel_rfl) ?_
    simp only [Act.put, List.setIfInBounds_toArray, List.set_cons_zero, List.set_cons_succ, List.getElem_toArray, List.getElem_cons_zero, List.getElem_cons_succ]
    refine list_val (.int .i64 e) (by kernel_rfl) (by kernel_rfl) ?_
    simp only [Act.put, List.setIfInBounds_toArray, List.set_cons_zero, List.set_cons_succ, List.getElem_toArray, List.getElem_cons_zero, List.getElem_cons_succ]
    refine list_val (.bool false) (by kernel_rfl) (by go_simp) ?_
    simp only [Act.put, List.setIfInBounds_toArray, List.set_cons_zero, List.set_cons_succ, List.getElem_toArray, List.getElem_cons_zero, List.getElem_cons_succ]
    refine list_val (.bool false) (by kernel_rfl) (by kernel_rfl) ?_
    simp only [Act.put, List.setIfInBounds_toArray, List.set_cons_zero, List.set_cons_succ, List.getElem_toArray, List.getElem_cons_zero, List.getElem_cons_succ]
    refine wpList_nil ?_
    have hT11 : Hid (∃ F_ sa sc pa pc, Two w F_ gc (alD D1 l2n (j + 1)) gy sa sc pa pc (alD D1 l2n (j + 1)) F g D2 gx sx sy px py D2 v9) := ⟨F1, sb, sd, pb, pd, by rw [unhide hsc]; exact unhide hT9⟩
    clear hT9 kB2 kC2
    go_wp2_with fail
    go_roundw
    case rel => exact ⟨j + 1, by omega, by go_num, hT11⟩
    case measure => simp [intOf]; omega
  have jI : ¬ (j : Int) < (mn : Int) := by omega
  have hD3 := alD_ok (unhide hD1) (unhide hokn) j
  have hbD3 : kD1 + j ≤ 500 := by omega
  generalize kD1 + j = kD3 at *
  obtain ⟨F_, sa, sc, pa, pc, hTw⟩ := unhide hTj
  clear hTj
  generalize alD D1 l2n j = D3 at *
  replace hD3 := hide hD3; replace hTw := hide hTw
  clear hlfn
  go_upto_region 31 with fail
  refine wp_region_lit ?_
  refine list_val (.pointer (some ⟨g, 0, none⟩)) (by kernel_rfl) (by kernel_rfl) ?_
  simp only [Act.put, List.setIfInBounds_toArray, List.set_cons_zero, List.set_cons_succ, List.getElem_toArray, List.getElem_cons_zero, List.getElem_cons_succ]
  refine list_val (.agg (D2.v sx sy px py)) (by kernel_rfl) (exec_arr _ 31 (.tmp 9) rfl gx (by kernel_rfl) (D2.v sx sy px py) 31 _ (unhide hTw).b.xb Try.underlying31 rfl (by rw [Try.infoRD]; rfl)) ?_
  simp only [Act.put, List.setIfInBounds_toArray, List.set_cons_zero, List.set_cons_succ, List.getElem_toArray, List.getElem_cons_zero, List.getElem_cons_succ]
  refine list_call 15 #[.pointer (some ⟨g, 0, none⟩), .agg (D2.v sx sy px py)] (by kernel_rfl) (by kernel_rfl) ((agree_D D2 _ (unhide hD2) (by omega) sx sy px py F g _ (unhide hTw).b.ls (unhide hTw).b.rd).mono ?_)
  rintro r z1 ⟨rfl, hg⟩
  refine ⟨_, rfl, ?_⟩
  replace hTw := hide ((unhide hTw).more hg)
  clear hg
  simp only [Act.put, List.setIfInBounds_toArray, List.set_cons_zero, List.set_cons_succ, List.getElem_toArray, List.getElem_cons_zero, List.getElem_cons_succ]
  refine list_val (.bool true) (by kernel_rfl) (by kernel_rfl) ?_
  simp only [Act.put, List.setIfInBounds_toArray, List.set_cons_zero, List.set_cons_succ, List.getElem_toArray, List.getElem_cons_zero, List.getElem_cons_succ]
  refine list_val (.pointer (some ⟨gc, 0, none⟩)) (by kernel_rfl) (by kernel_rfl) ?_
  simp only [Act.put, List.setIfInBounds_toArray, List.set_cons_zero, List.set_cons_succ, List.getElem_toArray, List.getElem_cons_zero, List.getElem_cons_succ]
  refine list_val (.agg (D3.v sa sc pa pc)) (by kernel_rfl) (exec_arr _ 31 (.tmp 14) rfl gy (by kernel_rfl) (D3.v sa sc pa pc) 31 _ (unhide hTw).a.xb Try.underlying31 rfl (by rw [Try.infoRD]; rfl)) ?_
  simp only [Act.put, List.setIfInBounds_toArray, List.set_cons_zero, List.set_cons_succ, List.getElem_toArray, List.getElem_cons_zero, List.getElem_cons_succ]
  refine list_call 15 #[.pointer (some ⟨gc, 0, none⟩), .agg (D3.v sa sc pa pc)] (by kernel_rfl) (by kernel_rfl) ((agree_D D3 _ (unhide hD3) (by omega) sa sc pa pc F_ gc _ (unhide hTw).a.ls (unhide hTw).a.rd).mono ?_)
  rintro r z2 ⟨rfl, hg⟩
  refine ⟨_, rfl, ?_⟩
  replace hTw := hide ((unhide hTw).more hg)
  clear hg
  simp only [Act.put, List.setIfInBounds_toArray, List.set_cons_zero, List.set_cons_succ, List.getElem_toArray, List.getElem_cons_zero, List.getElem_cons_succ]
  refine list_val (.bool true) (by kernel_rfl) (by kernel_rfl) ?_
  simp only [Act.put, List.setIfInBounds_toArray, List.set_cons_zero, List.set_cons_succ, List.getElem_toArray, List.getElem_cons_zero, List.getElem_cons_succ]
  (refine wpList_step fun K hK => ?_; replace hK := hide hK; go_simp; refine unhide hK _ _ ?_; clear hK K)
  refine wpList_nil ?_
  have hP : Hid (Gr w _) := (unhide hTw).a.gr
  clear hTw
  go_wp2_with fail
  rw [unhide hT]
  exact ⟨rfl, unhide hP⟩
end Go.Proofs.Ythgchjdjacbcgaa
