/-
  The reference: Crash, Sync, Write.
-/
import Derived.Test.YthgchjdjacbcgaaDkF
namespace Go.Proofs.Ythgchjdjacbcgaa
open Go.RowKit
set_option maxRecDepth 100000
set_option linter.unusedSimpArgs false
set_option linter.unusedVariables false
theorem done_form (S : List (List Int)) (P : List (Nat × List Int)) (dd : Bool) (lf : Int) (os : Nat) : ∃ dd2 lf2 os2, (Dk.mk S P dd lf os).doneD = Dk.mk S P dd2 lf2 os2 := by
  unfold Dk.doneD
  split
  · exact ⟨_, _, _, rfl⟩
  · exact ⟨_, _, _, rfl⟩
theorem Fr2.ne {w : World} {a a' : Option Addr} (h : Fr2 w a a') {g : Nat} (hg : g < w.heap.size) (ha : blkOf a ≠ some g) : blkOf a' ≠ some g := fun e => by
  rcases h g e with h | h
  · exact ha h
  · omega
theorem blkOf_none (g : Nat) : blkOf none ≠ some g := fun e => by cases e
set_option maxHeartbeats 4000000 in
theorem rcrash_ok (S : List (List Int)) (P : List (Nat × List Int)) (dd : Bool) (lf : Int) (os m : Nat) (hD : (Dk.mk S P dd lf os).Ok m) (hm : m ≤ 1000001) (sa : Option Addr) (sc : Nat) (pa : Option Addr) (pc : Nat) (keep : List Bool) (ka : Option Addr) (kn kp : Nat) (w : World) (hR : Rd w sa sc pa pc (Dk.mk S P dd lf os)) (hK : Kp w ka kn kp keep) :
    Calls Try.prog 36 #[.agg ((Dk.mk S P dd lf os).v sa sc pa pc), .slice ka kn kp] w (Rlv ((Dk.mk S P dd lf os).crashD keep) w) := by
  obtain ⟨T, hT⟩ : ∃ T, T = Rlv ((Dk.mk S P dd lf os).crashD keep) w := ⟨_, rfl⟩
  rw [← hT]
  replace hT := hide hT
  replace hR := hide hR
  obtain ⟨sn, hsn⟩ : ∃ n, n = S.length := ⟨_, rfl⟩
  obtain ⟨pn, hpn⟩ : ∃ n, n = P.length := ⟨_, rfl⟩
  have hs512 : sn ≤ 512 := by rw [hsn]; exact hD.hi1
  have hpm : pn ≤ m := by rw [hpn]; exact hD.num
  have hom : os ≤ m := hD.ops
  have hl1 : -1 ≤ lf := hD.lo
  have hl2 : lf < 9223372036854775808 := hD.hi
  obtain ⟨SD, hSD⟩ : ∃ X, X = dkv sa sn sc pa pn pc dd lf os := ⟨_, rfl⟩
  have e0 : (Dk.mk S P dd lf os).v sa sc pa pc = SD := by rw [hSD, hsn, hpn]; rfl
  rw [e0]
  clear e0
  replace hSD := hide hSD; replace hsn := hide hsn; replace hpn := hide hpn; replace hD := hide hD
  replace hK := hide hK
  go_enter Try.func36, Try.ntmps36
  go_upto_region 1 with fail
  have hB := (((Bl.nil w).new SD 31).new #[.slice none 0 0, .slice none 0 0, .bool false, .int .i64 0, .int .i64 0] 31)
  simp only [size_alloc, List.nil_append, List.cons_append] at hB
  generalize World.alloc _ _ = u at *
  rw [unhide hSD] at hB
  replace hB : Bl w [⟨w.heap.size, dkv sa sn sc pa pn pc dd lf os, 31⟩, ⟨w.heap.size + 1, dkv none 0 0 none 0 0 false 0 0, 31⟩] u := hB
  refine wp_region_lit ?_
  refine list_val (.agg (dkv sa sn sc pa pn pc dd lf os)) (by kernel_rfl) (exec_arr _ 31 (.tmp 2) rfl (w.heap.size) (by kernel_rfl) (dkv sa sn sc pa pn pc dd lf os) 31 _ (hB.get 0 (x := ⟨w.heap.size, dkv sa sn sc pa pn pc dd lf os, 31⟩) rfl) Try.underlying31 rfl (by rw [Try.infoRD]; rfl)) ?_
  simp only [Act.put, List.setIfInBounds_toArray, List.set_cons_zero, List.set_cons_succ, List.getElem_toArray, List.getElem_cons_zero, List.getElem_cons_succ]
  refine list_val (.slice ka kn kp) (by kernel_rfl) (by kernel_rfl) ?_
  simp only [Act.put, List.setIfInBounds_toArray, List.set_cons_zero, List.set_cons_succ, List.getElem_toArray, List.getElem_cons_zero, List.getElem_cons_succ]
  have e0 : dkv sa sn sc pa pn pc dd lf os = (Dk.mk S P dd lf os).v sa sc pa pc := by rw [unhide hsn, unhide hpn]; rfl
  rw [e0]
  have hlt1 := lt_of_block (hB.get 1 (x := ⟨w.heap.size + 1, dkv none 0 0 none 0 0 false 0 0, 31⟩) rfl)
  dsimp only at hlt1
  refine list_call 48 #[.agg ((Dk.mk S P dd lf os).v sa sc pa pc), .slice ka kn kp] (by kernel_rfl) (by kernel_rfl) ((rlive_ok S P dd lf os m (unhide hD) hm sa sc pa pc keep ka kn kp _ ((unhide hR).gr hB.gr) ((unhide hK).gr hB.gr)).mono ?_)
  rintro r v1 ⟨sb, sd, rfl, hR1, hfr, hg⟩
  refine ⟨_, rfl, ?_⟩
  rw [← e0]
  clear e0
  have hn0 := hfr.ne (show w.heap.size < u.heap.size by omega) (blkOf_none _)
  have hn1 := hfr.ne (show w.heap.size + 1 < u.heap.size by omega) (blkOf_none _)
  have hfw : Fr2 w none sb := fun p_ h_ => by rcases hfr p_ h_ with h | h; exact .inl h; exact .inr (Nat.le_trans hB.gr.size h)
  replace hB := hB.more hg
  have e1 : ((Dk.mk S P dd lf os).live keep).v sb sd none 0 = dkv sb sn sd none 0 0 dd lf os := by
    show dkv sb (liv S P keep P.length).length sd none 0 0 dd lf os = _
    rw [liv_len, ← unhide hsn]
  rw [e1]
  clear e1 hg hfr
  simp only [Act.put, List.setIfInBounds_toArray, List.set_cons_zero, List.set_cons_succ, List.getElem_toArray, List.getElem_cons_zero, List.getElem_cons_succ]
  replace hR1 := hR1.bt ((Bt.refl (w.heap.size) v1).row_self (dkv sb sn sd none 0 0 dd lf os)) hn0 (blkOf_none _)
  refine list_store 31 (.tmp 2) (.tmp 7) (w.heap.size) (dkv sb sn sd none 0 0 dd lf os) 31 (dkv sa sn sc pa pn pc dd lf os) (by kernel_rfl) rfl (by kernel_rfl) (by kernel_rfl) (hB.get 0 (x := ⟨w.heap.size, dkv sa sn sc pa pn pc dd lf os, 31⟩) rfl) (by rw [Try.infoRD]; rfl) rfl (dkv_one ..) ?_
  replace hB := hB.set 0 (x := ⟨w.heap.size, dkv sa sn sc pa pn pc dd lf os, 31⟩) rfl (dkv sb sn sd none 0 0 dd lf os)
  simp only [List.set_cons_zero, List.set_cons_succ] at hB
  generalize World.setRow _ _ _ = v2 at *
  replace hB : Bl w [⟨w.heap.size, dkv sb sn sd none 0 0 dd lf os, 31⟩, ⟨w.heap.size + 1, dkv none 0 0 none 0 0 false 0 0, 31⟩] v2 := hB
  simp only [Act.put, List.setIfInBounds_toArray, List.set_cons_zero, List.set_cons_succ, List.getElem_toArray, List.getElem_cons_zero, List.getElem_cons_succ]
  refine wpList_nil ?_
  replace hR1 := hide hR1
  replace hB := hide hB
  go_upto_region 2 with fail
  replace hB := unhide hB
  replace hR1 := unhide hR1
  refine wp_region_lit ?_
  refine list_val (.pointer (some ⟨w.heap.size, 2, none⟩)) (by kernel_rfl) (by kernel_rfl) ?_
  simp only [Act.put, List.setIfInBounds_toArray, List.set_cons_zero, List.set_cons_succ, List.getElem_toArray, List.getElem_cons_zero, List.getElem_cons_succ]
  replace hR1 := hR1.bt (Bt.setCell v2 2 (.bool false)) hn0 (blkOf_none _)
  replace hR1 := hide hR1
  have c4 := cell_of (hB.get 0 (x := ⟨w.heap.size, dkv sb sn sd none 0 0 dd lf os, 31⟩) rfl) (i := 2) rfl
  have fz := froz_of (i := 2) (hB.get 0 (x := ⟨w.heap.size, dkv sb sn sd none 0 0 dd lf os, 31⟩) rfl)
  have hB2 := hB.cell 0 (x := ⟨w.heap.size, dkv sb sn sd none 0 0 dd lf os, 31⟩) rfl 2 (.bool false)
  simp only [List.set_cons_zero, List.set_cons_succ] at hB2
  replace hB2 : Bl w [⟨w.heap.size, dkv sb sn sd none 0 0 false lf os, 31⟩, ⟨w.heap.size + 1, dkv none 0 0 none 0 0 false 0 0, 31⟩] _ := hB2
  clear hB
  replace hB2 := hide hB2
  dsimp only at c4 fz
  (refine wpList_step fun K hK => ?_; replace hK := hide hK; go_simp; refine unhide hK _ _ ?_; clear hK K)
  clear c4 fz
  have hB := unhide hB2
  clear hB2
  generalize World.setCell _ _ _ = v3 at *
  refine list_val (.pointer (some ⟨w.heap.size, 3, none⟩)) (by kernel_rfl) (by kernel_rfl) ?_
  simp only [Act.put, List.setIfInBounds_toArray, List.set_cons_zero, List.set_cons_succ, List.getElem_toArray, List.getElem_cons_zero, List.getElem_cons_succ]
  replace hR1 := unhide hR1
  replace hR1 := hR1.bt (Bt.setCell v3 3 (.int .i64 (-1))) hn0 (blkOf_none _)
  replace hR1 := hide hR1
  have c4 := cell_of (hB.get 0 (x := ⟨w.heap.size, dkv sb sn sd none 0 0 false lf os, 31⟩) rfl) (i := 3) rfl
  have fz := froz_of (i := 3) (hB.get 0 (x := ⟨w.heap.size, dkv sb sn sd none 0 0 false lf os, 31⟩) rfl)
  have hB2 := hB.cell 0 (x := ⟨w.heap.size, dkv sb sn sd none 0 0 false lf os, 31⟩) rfl 3 (.int .i64 (-1))
  simp only [List.set_cons_zero, List.set_cons_succ] at hB2
  replace hB2 : Bl w [⟨w.heap.size, dkv sb sn sd none 0 0 false (-1) os, 31⟩, ⟨w.heap.size + 1, dkv none 0 0 none 0 0 false 0 0, 31⟩] _ := hB2
  clear hB
  replace hB2 := hide hB2
  dsimp only at c4 fz
  (refine wpList_step fun K hK => ?_; replace hK := hide hK; go_simp; refine unhide hK _ _ ?_; clear hK K)
  clear c4 fz
  have hB := unhide hB2
  clear hB2
  generalize World.setCell _ _ _ = v4 at *
  refine wpList_nil ?_
  replace hB := hide hB
  go_upto_region 3 with fail
  replace hB := unhide hB
  replace hR1 := unhide hR1
  refine wp_region_lit ?_
  refine list_val (.agg (dkv sb sn sd none 0 0 false (-1) os)) (by kernel_rfl) (exec_arr _ 31 (.tmp 2) rfl (w.heap.size) (by kernel_rfl) (dkv sb sn sd none 0 0 false (-1) os) 31 _ (hB.get 0 (x := ⟨w.heap.size, dkv sb sn sd none 0 0 false (-1) os, 31⟩) rfl) Try.underlying31 rfl (by rw [Try.infoRD]; rfl)) ?_
  simp only [Act.put, List.setIfInBounds_toArray, List.set_cons_zero, List.set_cons_succ, List.getElem_toArray, List.getElem_cons_zero, List.getElem_cons_succ]
  replace hR1 := hR1.bt ((Bt.refl (w.heap.size + 1) v4).row_self (dkv sb sn sd none 0 0 false (-1) os)) hn1 (blkOf_none _)
  refine list_store 31 (.tmp 4) (.tmp 10) (w.heap.size + 1) (dkv sb sn sd none 0 0 false (-1) os) 31 (dkv none 0 0 none 0 0 false 0 0) (by kernel_rfl) rfl (by kernel_rfl) (by kernel_rfl) (hB.get 1 (x := ⟨w.heap.size + 1, dkv none 0 0 none 0 0 false 0 0, 31⟩) rfl) (by rw [Try.infoRD]; rfl) rfl (dkv_one ..) ?_
  replace hB := hB.set 1 (x := ⟨w.heap.size + 1, dkv none 0 0 none 0 0 false 0 0, 31⟩) rfl (dkv sb sn sd none 0 0 false (-1) os)
  simp only [List.set_cons_zero, List.set_cons_succ] at hB
  generalize World.setRow _ _ _ = v5 at *
  replace hB : Bl w [⟨w.heap.size, dkv sb sn sd none 0 0 false (-1) os, 31⟩, ⟨w.heap.size + 1, dkv sb sn sd none 0 0 false (-1) os, 31⟩] v5 := hB
  simp only [Act.put, List.setIfInBounds_toArray, List.set_cons_zero, List.set_cons_succ, List.getElem_toArray, List.getElem_cons_zero, List.getElem_cons_succ]
  refine wpList_nil ?_
  replace hR1 := hide hR1
  replace hB := hide hB
  go_wp2_with fail
  replace hB := unhide hB
  rw [unhide hT]
  exact bodyPost_ret (v := .agg (dkv sb sn sd none 0 0 false (-1) os)) (results_cell_row Try.results36 _ _ (w.heap.size + 1) 31 (dkv sb sn sd none 0 0 false (-1) os) (0, 0) _ rfl (hB.get 1 (x := ⟨w.heap.size + 1, dkv sb sn sd none 0 0 false (-1) os, 31⟩) rfl) Try.underlying31 rfl (by rw [Try.infoRD]; rfl)) rfl ⟨sb, sd, by
    have e2 : ((Dk.mk S P dd lf os).crashD keep).v sb sd none 0 = dkv sb sn sd none 0 0 false (-1) os := by
      show dkv sb (liv S P keep P.length).length sd none 0 0 false (-1) os = _
      rw [liv_len, ← unhide hsn]
    rw [e2], ⟨(unhide hR1).sf, (unhide hR1).pn⟩, hfw, hB.gr⟩
set_option maxHeartbeats 4000000 in
theorem rsync_ok (S : List (List Int)) (P : List (Nat × List Int)) (dd : Bool) (lf : Int) (os m : Nat) (hD : (Dk.mk S P dd lf os).Ok m) (hm : m ≤ 1000000) (sa : Option Addr) (sc : Nat) (pa : Option Addr) (pc : Nat) (w : World) (hR : Rd w sa sc pa pc (Dk.mk S P dd lf os)) :
    Calls Try.prog 34 #[.agg ((Dk.mk S P dd lf os).v sa sc pa pc)] w (Rdk sa pa (Dk.mk S P dd lf os).syncD (Dk.mk S P dd lf os).syncE w) := by
  obtain ⟨T, hT⟩ : ∃ T, T = Rdk sa pa (Dk.mk S P dd lf os).syncD (Dk.mk S P dd lf os).syncE w := ⟨_, rfl⟩
  rw [← hT]
  replace hT := hide hT
  replace hR := hide hR
  obtain ⟨sn, hsn⟩ : ∃ n, n = S.length := ⟨_, rfl⟩
  obtain ⟨pn, hpn⟩ : ∃ n, n = P.length := ⟨_, rfl⟩
  have hs512 : sn ≤ 512 := by rw [hsn]; exact hD.hi1
  have hpm : pn ≤ m := by rw [hpn]; exact hD.num
  have hom : os ≤ m := hD.ops
  have hl1 : -1 ≤ lf := hD.lo
  have hl2 : lf < 9223372036854775808 := hD.hi
  obtain ⟨SD, hSD⟩ : ∃ X, X = dkv sa sn sc pa pn pc dd lf os := ⟨_, rfl⟩
  have e0 : (Dk.mk S P dd lf os).v sa sc pa pc = SD := by rw [hSD, hsn, hpn]; rfl
  rw [e0]
  clear e0
  replace hSD := hide hSD; replace hsn := hide hsn; replace hpn := hide hpn; replace hD := hide hD
  go_enter Try.func34, Try.ntmps34
  go_upto_region 1 with fail
  have hB := (((Bl.nil w).new SD 31).new #[.slice none 0 0, .slice none 0 0, .bool false, .int .i64 0, .int .i64 0] 31)
  simp only [size_alloc, List.nil_append, List.cons_append] at hB
  generalize World.alloc _ _ = u at *
  rw [unhide hSD] at hB
  replace hB : Bl w [⟨w.heap.size, dkv sa sn sc pa pn pc dd lf os, 31⟩, ⟨w.heap.size + 1, dkv none 0 0 none 0 0 false 0 0, 31⟩] u := hB
  refine wp_region_lit ?_
  refine list_val (.pointer (some ⟨w.heap.size, 2, none⟩)) (by kernel_rfl) (by kernel_rfl) ?_
  simp only [Act.put, List.setIfInBounds_toArray, List.set_cons_zero, List.set_cons_succ, List.getElem_toArray, List.getElem_cons_zero, List.getElem_cons_succ]
  refine list_val (.bool dd) (by kernel_rfl) (exec_bool _ (.tmp 5) rfl (w.heap.size) 2 (by kernel_rfl) dd (cell_of (hB.get 0 (x := ⟨w.heap.size, dkv sa sn sc pa pn pc dd lf os, 31⟩) rfl) (i := 2) rfl)) ?_
  simp only [Act.put, List.setIfInBounds_toArray, List.set_cons_zero, List.set_cons_succ, List.getElem_toArray, List.getElem_cons_zero, List.getElem_cons_succ]
  refine wpList_nil ?_
  cases hdd : dd
  case true =>
    subst hdd
    replace hB := hide hB
    go_upto_region 2 with fail
    replace hB := unhide hB
    refine wp_region_lit ?_
    refine list_val (.agg (dkv sa sn sc pa pn pc true lf os)) (by kernel_rfl) (exec_arr _ 31 (.tmp 1) rfl (w.heap.size) (by kernel_rfl) (dkv sa sn sc pa pn pc true lf os) 31 _ (hB.get 0 (x := ⟨w.heap.size, dkv sa sn sc pa pn pc true lf os, 31⟩) rfl) Try.underlying31 rfl (by rw [Try.infoRD]; rfl)) ?_
    simp only [Act.put, List.setIfInBounds_toArray, List.set_cons_zero, List.set_cons_succ, List.getElem_toArray, List.getElem_cons_zero, List.getElem_cons_succ]
    refine list_store 31 (.tmp 2) (.tmp 7) (w.heap.size + 1) (dkv sa sn sc pa pn pc true lf os) 31 (dkv none 0 0 none 0 0 false 0 0) (by kernel_rfl) rfl (by kernel_rfl) (by kernel_rfl) (hB.get 1 (x := ⟨w.heap.size + 1, dkv none 0 0 none 0 0 false 0 0, 31⟩) rfl) (by rw [Try.infoRD]; rfl) rfl (dkv_one ..) ?_
    replace hB := hB.set 1 (x := ⟨w.heap.size + 1, dkv none 0 0 none 0 0 false 0 0, 31⟩) rfl (dkv sa sn sc pa pn pc true lf os)
    simp only [List.set_cons_zero, List.set_cons_succ] at hB
    generalize World.setRow _ _ _ = u1 at *
    replace hB : Bl w [⟨w.heap.size, dkv sa sn sc pa pn pc true lf os, 31⟩, ⟨w.heap.size + 1, dkv sa sn sc pa pn pc true lf os, 31⟩] u1 := hB
    simp only [Act.put, List.setIfInBounds_toArray, List.set_cons_zero, List.set_cons_succ, List.getElem_toArray, List.getElem_cons_zero, List.getElem_cons_succ]
    (refine wpList_step fun K hK => ?_; replace hK := hide hK; go_simp; refine unhide hK _ _ ?_; clear hK K)
    refine wpList_nil ?_
    replace hB := hide hB
    go_wp2_with fail
    replace hB := unhide hB
    rw [unhide hT]
    exact bodyPost_ret (v := .tuple #[.agg (dkv sa sn sc pa pn pc true lf os), .int .i64 7]) (results_cell_tmp Try.results34 _ _ (w.heap.size + 1) 31 (dkv sa sn sc pa pn pc true lf os) (0, 0) _ rfl (.int .i64 7) rfl (hB.get 1 (x := ⟨w.heap.size + 1, dkv sa sn sc pa pn pc true lf os, 31⟩) rfl) Try.underlying31 rfl (by rw [Try.infoRD]; rfl)) rfl (⟨sa, sc, pa, pc, by rw [unhide hsn, unhide hpn]; rfl, (unhide hR).gr hB.gr, Fr2.refl _ _, Fr2.refl _ _, hB.gr⟩)
  case false =>
    subst hdd
    obtain ⟨dd2, lf2, os2, hdn⟩ := done_form S P false lf os
    have hD2 := (unhide hD).done
    rw [hdn] at hD2
    have hdv : (Dk.mk S P false lf os).doneD.v sa sc pa pc = dkv sa sn sc pa pn pc dd2 lf2 os2 := by rw [hdn, unhide hsn, unhide hpn]; rfl
    have hob : (Dk.mk S P false lf os).doneB = decide (lf ≠ 0) := rfl
    replace hdn := hide hdn; replace hD2 := hide hD2; replace hdv := hide hdv; replace hob := hide hob
    replace hB := hide hB
    go_upto_region 3 with fail
    replace hB := unhide hB
    refine wp_region_lit ?_
    refine list_val (.agg (dkv sa sn sc pa pn pc false lf os)) (by kernel_rfl) (exec_arr _ 31 (.tmp 1) rfl (w.heap.size) (by kernel_rfl) (dkv sa sn sc pa pn pc false lf os) 31 _ (hB.get 0 (x := ⟨w.heap.size, dkv sa sn sc pa pn pc false lf os, 31⟩) rfl) Try.underlying31 rfl (by rw [Try.infoRD]; rfl)) ?_
    simp only [Act.put, List.setIfInBounds_toArray, List.set_cons_zero, List.set_cons_succ, List.getElem_toArray, List.getElem_cons_zero, List.getElem_cons_succ]
    have e0 : dkv sa sn sc pa pn pc false lf os = (Dk.mk S P false lf os).v sa sc pa pc := by rw [unhide hsn, unhide hpn]; rfl
    rw [e0]
    refine list_call 47 #[.agg ((Dk.mk S P false lf os).v sa sc pa pc)] (by kernel_rfl) (by kernel_rfl) ((rdone_ok S P false lf os m (unhide hD) (by omega) sa sc pa pc _).mono ?_)
    rintro r v1 ⟨rfl, hg⟩
    refine ⟨_, rfl, ?_⟩
    rw [← e0, unhide hdv, unhide hob]
    clear e0
    obtain ⟨ok, hok⟩ : ∃ x, x = decide (lf ≠ 0) := ⟨_, rfl⟩
    rw [← hok]
    replace hok := hide hok
    replace hB := hB.more hg
    clear hg
    simp only [Act.put, List.setIfInBounds_toArray, List.set_cons_zero, List.set_cons_succ, List.getElem_toArray, List.getElem_cons_zero, List.getElem_cons_succ]
    refine list_val (.tuple #[.agg (dkv sa sn sc pa pn pc dd2 lf2 os2), .bool ok]) (by kernel_rfl) (by kernel_rfl) ?_
    simp only [Act.put, List.setIfInBounds_toArray, List.set_cons_zero, List.set_cons_succ, List.getElem_toArray, List.getElem_cons_zero, List.getElem_cons_succ]
    refine list_val (.agg (dkv sa sn sc pa pn pc dd2 lf2 os2)) (by kernel_rfl) (by kernel_rfl) ?_
    simp only [Act.put, List.setIfInBounds_toArray, List.set_cons_zero, List.set_cons_succ, List.getElem_toArray, List.getElem_cons_zero, List.getElem_cons_succ]
    refine list_val (.bool ok) (by kernel_rfl) (by kernel_rfl) ?_
    simp only [Act.put, List.setIfInBounds_toArray, List.set_cons_zero, List.set_cons_succ, List.getElem_toArray, List.getElem_cons_zero, List.getElem_cons_succ]
    refine list_store 31 (.tmp 1) (.tmp 11) (w.heap.size) (dkv sa sn sc pa pn pc dd2 lf2 os2) 31 (dkv sa sn sc pa pn pc false lf os) (by kernel_rfl) rfl (by kernel_rfl) (by kernel_rfl) (hB.get 0 (x := ⟨w.heap.size, dkv sa sn sc pa pn pc false lf os, 31⟩) rfl) (by rw [Try.infoRD]; rfl) rfl (dkv_one ..) ?_
    replace hB := hB.set 0 (x := ⟨w.heap.size, dkv sa sn sc pa pn pc false lf os, 31⟩) rfl (dkv sa sn sc pa pn pc dd2 lf2 os2)
    simp only [List.set_cons_zero, List.set_cons_succ] at hB
    generalize World.setRow _ _ _ = v2 at *
    replace hB : Bl w [⟨w.heap.size, dkv sa sn sc pa pn pc dd2 lf2 os2, 31⟩, ⟨w.heap.size + 1, dkv none 0 0 none 0 0 false 0 0, 31⟩] v2 := hB
    simp only [Act.put, List.setIfInBounds_toArray, List.set_cons_zero, List.set_cons_succ, List.getElem_toArray, List.getElem_cons_zero, List.getElem_cons_succ]
    (refine wpList_step fun K hK => ?_; replace hK := hide hK; go_simp; refine unhide hK _ _ ?_; clear hK K)
    refine wpList_nil ?_
    by_cases hl0 : lf = 0
    · skip
      have hok2 : ok = false := by rw [unhide hok]; simp [hl0]
      subst hok2
      replace hB := hide hB
      go_upto_region 4 with fail
      replace hB := unhide hB
      refine wp_region_lit ?_
      refine list_val (.bool false) (by kernel_rfl) (by kernel_rfl) ?_
      simp only [Act.put, List.setIfInBounds_toArray, List.set_cons_zero, List.set_cons_succ, List.getElem_toArray, List.getElem_cons_zero, List.getElem_cons_succ]
      refine list_val (.bool true) (by kernel_rfl) (by kernel_rfl) ?_
      simp only [Act.put, List.setIfInBounds_toArray, List.set_cons_zero, List.set_cons_succ, List.getElem_toArray, List.getElem_cons_zero, List.getElem_cons_succ]
      refine wpList_nil ?_
      replace hB := hide hB
      go_upto_region 5 with fail
      replace hB := unhide hB
      refine wp_region_lit ?_
      refine list_val (.agg (dkv sa sn sc pa pn pc dd2 lf2 os2)) (by kernel_rfl) (exec_arr _ 31 (.tmp 1) rfl (w.heap.size) (by kernel_rfl) (dkv sa sn sc pa pn pc dd2 lf2 os2) 31 _ (hB.get 0 (x := ⟨w.heap.size, dkv sa sn sc pa pn pc dd2 lf2 os2, 31⟩) rfl) Try.underlying31 rfl (by rw [Try.infoRD]; rfl)) ?_
      simp only [Act.put, List.setIfInBounds_toArray, List.set_cons_zero, List.set_cons_succ, List.getElem_toArray, List.getElem_cons_zero, List.getElem_cons_succ]
      refine list_store 31 (.tmp 2) (.tmp 15) (w.heap.size + 1) (dkv sa sn sc pa pn pc dd2 lf2 os2) 31 (dkv none 0 0 none 0 0 false 0 0) (by kernel_rfl) rfl (by kernel_rfl) (by kernel_rfl) (hB.get 1 (x := ⟨w.heap.size + 1, dkv none 0 0 none 0 0 false 0 0, 31⟩) rfl) (by rw [Try.infoRD]; rfl) rfl (dkv_one ..) ?_
      replace hB := hB.set 1 (x := ⟨w.heap.size + 1, dkv none 0 0 none 0 0 false 0 0, 31⟩) rfl (dkv sa sn sc pa pn pc dd2 lf2 os2)
      simp only [List.set_cons_zero, List.set_cons_succ] at hB
      generalize World.setRow _ _ _ = v3 at *
      replace hB : Bl w [⟨w.heap.size, dkv sa sn sc pa pn pc dd2 lf2 os2, 31⟩, ⟨w.heap.size + 1, dkv sa sn sc pa pn pc dd2 lf2 os2, 31⟩] v3 := hB
      simp only [Act.put, List.setIfInBounds_toArray, List.set_cons_zero, List.set_cons_succ, List.getElem_toArray, List.getElem_cons_zero, List.getElem_cons_succ]
      (refine wpList_step fun K hK => ?_; replace hK := hide hK; go_simp; refine unhide hK _ _ ?_; clear hK K)
      refine wpList_nil ?_
      have hE : (Dk.mk S P false lf os).syncD = Dk.mk S P dd2 lf2 os2 ∧ (Dk.mk S P false lf os).syncE = 7 := ⟨by simp only [Dk.syncD, hl0, if_true, Bool.false_eq_true, if_false]; have h := unhide hdn; rw [hl0] at h; exact h, by simp [Dk.syncE, hl0]⟩
      replace hB := hide hB
      go_wp2_with fail
      replace hB := unhide hB
      rw [unhide hT]
      exact bodyPost_ret (v := .tuple #[.agg (dkv sa sn sc pa pn pc dd2 lf2 os2), .int .i64 7]) (results_cell_tmp Try.results34 _ _ (w.heap.size + 1) 31 (dkv sa sn sc pa pn pc dd2 lf2 os2) (0, 0) _ rfl (.int .i64 7) rfl (hB.get 1 (x := ⟨w.heap.size + 1, dkv sa sn sc pa pn pc dd2 lf2 os2, 31⟩) rfl) Try.underlying31 rfl (by rw [Try.infoRD]; rfl)) rfl (by
        rw [hE.1, hE.2]
        exact ⟨sa, sc, pa, pc, by rw [unhide hsn, unhide hpn]; rfl, ⟨((unhide hR).gr hB.gr).sf, ((unhide hR).gr hB.gr).pn⟩, Fr2.refl _ _, Fr2.refl _ _, hB.gr⟩)
    have hok2 : ok = true := by rw [unhide hok]; simp [hl0]
    subst hok2
    replace hB := hide hB
    go_upto_region 4 with fail
    replace hB := unhide hB
    refine wp_region_lit ?_
    refine list_val (.bool true) (by kernel_rfl) (by kernel_rfl) ?_
    simp only [Act.put, List.setIfInBounds_toArray, List.set_cons_zero, List.set_cons_succ, List.getElem_toArray, List.getElem_cons_zero, List.getElem_cons_succ]
    refine list_val (.bool false) (by kernel_rfl) (by kernel_rfl) ?_
    simp only [Act.put, List.setIfInBounds_toArray, List.set_cons_zero, List.set_cons_succ, List.getElem_toArray, List.getElem_cons_zero, List.getElem_cons_succ]
    refine wpList_nil ?_
    replace hB := hide hB
    go_upto_region 6 with fail
    replace hB := unhide hB
    refine any_start (S := fun v => v.heap[w.heap.size]? = some (.cells (dkv sa sn sc pa pn pc dd2 lf2 os2) 31 (0, 0))) (by kernel_rfl) ?_
    have hm1 : m + 1 ≤ 1000001 := by omega
    replace hB := hB.drew
    generalize World.drew _ = x0 at *
    simp only [List.size_toArray, List.length_cons, List.length_nil, Array.replicate, List.replicate]
    refine any_take (i := 0) (v := (.agg (dkv sa sn sc pa pn pc dd2 lf2 os2))) #[false, false, false, false, false, false] rfl (by kernel_rfl) (by kernel_rfl) (by kernel_rfl) (by kernel_rfl) (fun _ _ _ h => h) (.inl ⟨by kernel_rfl, fun x_ hu => exec_arr _ 31 (.tmp 1) rfl (w.heap.size) (by kernel_rfl) (dkv sa sn sc pa pn pc dd2 lf2 os2) 31 _ hu Try.underlying31 rfl (by rw [Try.infoRD]; rfl)⟩) (hB.get 0 (x := ⟨w.heap.size, dkv sa sn sc pa pn pc dd2 lf2 os2, 31⟩) rfl) ?_
    simp only [Act.put, List.setIfInBounds_toArray, List.set_cons_zero, List.set_cons_succ, List.getElem_toArray, List.getElem_cons_zero, List.getElem_cons_succ]
    refine any_take (i := 1) (v := (.agg (dkv sa sn sc pa pn pc dd2 lf2 os2))) #[true, false, false, false, false, false] rfl (by kernel_rfl) (by kernel_rfl) (by kernel_rfl) (by kernel_rfl) (fun _ _ _ h => h) (.inl ⟨by kernel_rfl, fun x_ hu => exec_arr _ 31 (.tmp 1) rfl (w.heap.size) (by kernel_rfl) (dkv sa sn sc pa pn pc dd2 lf2 os2) 31 _ hu Try.underlying31 rfl (by rw [Try.infoRD]; rfl)⟩) (hB.get 0 (x := ⟨w.heap.size, dkv sa sn sc pa pn pc dd2 lf2 os2, 31⟩) rfl) ?_
    simp only [Act.put, List.setIfInBounds_toArray, List.set_cons_zero, List.set_cons_succ, List.getElem_toArray, List.getElem_cons_zero, List.getElem_cons_succ]
    refine any_one (i := 2) (by kernel_rfl) rfl (fun K_ hQ => ?_)
    have h9 := rall_ok S P dd2 lf2 os2 (m + 1) (unhide hD2) hm1 sa sc pa pc x0
    rw [show (Dk.mk S P dd2 lf2 os2).v sa sc pa pc = dkv sa sn sc pa pn pc dd2 lf2 os2 from by rw [unhide hsn, unhide hpn]; rfl] at h9
    refine step_callw (by kernel_rfl) 49 #[.agg (dkv sa sn sc pa pn pc dd2 lf2 os2)] (by kernel_rfl) ((h9).mono ?_)
    rintro r x1 ⟨gk, rfl, hgk, hbk, hg⟩
    refine ⟨_, rfl, ?_⟩
    clear h9
    rw [← unhide hpn] at hbk ⊢
    replace hB := hB.more hg
    have hKp := bc_kp (n := pn) hbk (by simp) (by omega)
    have hlt1 := lt_of_block (hB.get 1 (x := ⟨w.heap.size + 1, dkv none 0 0 none 0 0 false 0 0, 31⟩) rfl)
    dsimp only at hlt1
    clear hg hbk hgk
    refine hQ.out _ _ (hB.get 0 (x := ⟨w.heap.size, dkv sa sn sc pa pn pc dd2 lf2 os2, 31⟩) rfl) (fun _ => ?_)
    clear hQ K_
    simp only [Act.put, List.setIfInBounds_toArray, List.set_cons_zero, List.set_cons_succ, List.getElem_toArray, List.getElem_cons_zero, List.getElem_cons_succ]
    refine any_one (i := 3) (by kernel_rfl) rfl (fun K_ hQ => ?_)
    have h9 := rlive_ok S P dd2 lf2 os2 (m + 1) (unhide hD2) hm1 sa sc pa pc (List.replicate pn true) (some ⟨gk, 0, none⟩) pn pn x1 ⟨((unhide hR).gr hB.gr).sf, ((unhide hR).gr hB.gr).pn⟩ hKp
    rw [show (Dk.mk S P dd2 lf2 os2).v sa sc pa pc = dkv sa sn sc pa pn pc dd2 lf2 os2 from by rw [unhide hsn, unhide hpn]; rfl] at h9
    refine step_callw (by kernel_rfl) 48 #[.agg (dkv sa sn sc pa pn pc dd2 lf2 os2), .slice (some ⟨gk, 0, none⟩) pn pn] (by kernel_rfl) ((h9).mono ?_)
    rintro r x2 ⟨sb, sd, rfl, hR1, hfr, hg⟩
    refine ⟨_, rfl, ?_⟩
    clear h9
    have hn1 := hfr.ne (show w.heap.size + 1 < x1.heap.size by omega) (blkOf_none _)
    have hfw : Fr2 w sa sb := fun p_ h_ => by rcases hfr p_ h_ with h | h; cases h; exact .inr (Nat.le_trans hB.gr.size h)
    replace hB := hB.more hg
    have e1 : ((Dk.mk S P dd2 lf2 os2).live (List.replicate pn true)).v sb sd none 0 = dkv sb sn sd none 0 0 dd2 lf2 os2 := by
      show dkv sb (liv S P _ P.length).length sd none 0 0 dd2 lf2 os2 = _
      rw [liv_len, ← unhide hsn]
    rw [e1]
    clear e1 hg hfr hKp
    refine hQ.out _ _ (hB.get 0 (x := ⟨w.heap.size, dkv sa sn sc pa pn pc dd2 lf2 os2, 31⟩) rfl) (fun _ => ?_)
    clear hQ K_
    simp only [Act.put, List.setIfInBounds_toArray, List.set_cons_zero, List.set_cons_succ, List.getElem_toArray, List.getElem_cons_zero, List.getElem_cons_succ]
    refine any_one (i := 4) (by kernel_rfl) rfl (fun K_ hQ => ?_)
    rw [if_pos (by kernel_rfl)]
    replace hR1 := hR1.bt ((Bt.refl (w.heap.size + 1) x2).row_self (dkv sb sn sd none 0 0 dd2 lf2 os2)) hn1 (blkOf_none _)
    refine wp_store_row 31 (.tmp 2) (.tmp 19) rfl (w.heap.size + 1) (dkv sb sn sd none 0 0 dd2 lf2 os2) (by kernel_rfl) (by kernel_rfl) 31 (dkv none 0 0 none 0 0 false 0 0) (hB.get 1 (x := ⟨w.heap.size + 1, dkv none 0 0 none 0 0 false 0 0, 31⟩) rfl) (by rw [Try.infoRD]; rfl) rfl (dkv_one ..) ?_
    replace hB := hB.set 1 (x := ⟨w.heap.size + 1, dkv none 0 0 none 0 0 false 0 0, 31⟩) rfl (dkv sb sn sd none 0 0 dd2 lf2 os2)
    simp only [List.set_cons_zero, List.set_cons_succ] at hB
    generalize World.setRow _ _ _ = x3 at *
    refine hQ.out _ _ (hB.get 0 (x := ⟨w.heap.size, dkv sa sn sc pa pn pc dd2 lf2 os2, 31⟩) rfl) (fun _ => ?_)
    clear hQ K_
    simp only [Act.put, List.setIfInBounds_toArray, List.set_cons_zero, List.set_cons_succ, List.getElem_toArray, List.getElem_cons_zero, List.getElem_cons_succ]
    refine any_one (i := 5) (by kernel_rfl) rfl (fun K_ hQ => ?_)
    replace hQ := hide hQ
    go_simp
    refine (unhide hQ).out _ _ (hB.get 0 (x := ⟨w.heap.size, dkv sa sn sc pa pn pc dd2 lf2 os2, 31⟩) rfl) (fun _ => ?_)
    clear hQ K_
    refine any_done (by kernel_rfl) ?_
    replace hR1 := hide hR1
    have hE : (Dk.mk S P false lf os).syncD = (Dk.mk S P dd2 lf2 os2).live (List.replicate pn true) ∧ (Dk.mk S P false lf os).syncE = 0 := ⟨by simp only [Dk.syncD, hl0, if_false, Bool.false_eq_true]; rw [unhide hdn, unhide hpn]; rfl, by simp [Dk.syncE, hl0]⟩
    replace hB := hide hB
    go_wp2_with fail
    replace hB := unhide hB
    rw [unhide hT]
    exact bodyPost_ret (v := .tuple #[.agg (dkv sb sn sd none 0 0 dd2 lf2 os2), .int .i64 0]) (results_cell_tmp Try.results34 _ _ (w.heap.size + 1) 31 (dkv sb sn sd none 0 0 dd2 lf2 os2) (0, 0) _ rfl (.int .i64 0) rfl (hB.get 1 (x := ⟨w.heap.size + 1, dkv sb sn sd none 0 0 dd2 lf2 os2, 31⟩) rfl) Try.underlying31 rfl (by rw [Try.infoRD]; rfl)) rfl (by
      rw [hE.1, hE.2]
      refine ⟨sb, sd, none, 0, ?_, unhide hR1, hfw, Fr2.none _ _, hB.gr⟩
      have e2 : ((Dk.mk S P dd2 lf2 os2).live (List.replicate pn true)).v sb sd none 0 = dkv sb sn sd none 0 0 dd2 lf2 os2 := by
        show dkv sb (liv S P _ P.length).length sd none 0 0 dd2 lf2 os2 = _
        rw [liv_len, ← unhide hsn]
      rw [e2])
end Go.Proofs.Ythgchjdjacbcgaa
