/-
  The reference: done, Arm, New, all.
-/
import Derived.Test.YthgchjdjacbcgaaDkC
namespace Go.Proofs.Ythgchjdjacbcgaa
open Go.RowKit
set_option maxRecDepth 100000
set_option linter.unusedSimpArgs false
set_option linter.unusedVariables false
/-- a disk of the same lists, and whether it is done -/
def Rdn (X : Array Value) (b : Bool) (w : World) (r : Ending) (w' : World) : Prop := r = .returned (.tuple #[.agg X, .bool b]) ∧ Gr w w'
/-- a disk and an error -/
def Rdk (sa0 pa0 : Option Addr) (D : Dk) (e : Int) (w : World) (r : Ending) (w' : World) : Prop := ∃ sa sc pa pc, r = .returned (.tuple #[.agg (D.v sa sc pa pc), .int .i64 e]) ∧ Rd w' sa sc pa pc D ∧ Fr2 w sa0 sa ∧ Fr2 w pa0 pa ∧ Gr w w'
set_option maxHeartbeats 4000000 in
theorem rdone_ok (S : List (List Int)) (P : List (Nat × List Int)) (dd : Bool) (lf : Int) (os m : Nat) (hD : (Dk.mk S P dd lf os).Ok m) (hm : m ≤ 1000001) (sa : Option Addr) (sc : Nat) (pa : Option Addr) (pc : Nat) (w : World) :
    Calls Try.prog 47 #[.agg ((Dk.mk S P dd lf os).v sa sc pa pc)] w (Rdn ((Dk.mk S P dd lf os).doneD.v sa sc pa pc) (Dk.mk S P dd lf os).doneB w) := by
  obtain ⟨T, hT⟩ : ∃ T, T = Rdn ((Dk.mk S P dd lf os).doneD.v sa sc pa pc) (Dk.mk S P dd lf os).doneB w := ⟨_, rfl⟩
  rw [← hT]
  replace hT := hide hT

  obtain ⟨sn, hsn⟩ : ∃ n, n = S.length := ⟨_, rfl⟩
  obtain ⟨pn, hpn⟩ : ∃ n, n = P.length := ⟨_, rfl⟩
  have hs512 : sn ≤ 512 := by rw [hsn]; exact hD.hi1
  have hpm : pn ≤ m := by rw [hpn]; exact hD.num
  have hom : os ≤ m := hD.ops
  have hl1 : -1 ≤ lf := hD.lo
  have hl2 : lf < 9223372036854775808 := hD.hi
  obtain ⟨SD, hSD⟩ : ∃ X, X = dkv sa sn sc pa pn pc dd lf os := ⟨_, rfl⟩
  have e0 : (Dk.mk S P dd lf os).v sa sc pa pc = SD := by rw [hSD, hsn, hpn]; rfl
  rw [e0]
  clear e0
  replace hSD := hide hSD; replace hsn := hide hsn; replace hpn := hide hpn; replace hD := hide hD
  go_enter Try.func47, Try.ntmps47
  go_upto_region 1 with fail
  have hB := (((Bl.nil w).new SD 31).new #[.slice none 0 0, .slice none 0 0, .bool false, .int .i64 0, .int .i64 0] 31)
  simp only [size_alloc, List.nil_append, List.cons_append] at hB
  generalize World.alloc _ _ = u at *
  rw [unhide hSD] at hB
  replace hB : Bl w [⟨w.heap.size, dkv sa sn sc pa pn pc dd lf os, 31⟩, ⟨w.heap.size + 1, dkv none 0 0 none 0 0 false 0 0, 31⟩] u := hB
  by_cases hl0 : lf = 0
  · skip
    refine wp_region_lit ?_
    refine list_val (.pointer (some ⟨w.heap.size, 3, none⟩)) (by kernel_rfl) (by kernel_rfl) ?_
    simp only [Act.put, List.setIfInBounds_toArray, List.set_cons_zero, List.set_cons_succ, List.getElem_toArray, List.getElem_cons_zero, List.getElem_cons_succ]
    refine list_val (.int .i64 lf) (by kernel_rfl) (exec_i64 _ (.tmp 4) rfl (w.heap.size) 3 (by kernel_rfl) lf (cell_of (hB.get 0 (x := ⟨w.heap.size, dkv sa sn sc pa pn pc dd lf os, 31⟩) rfl) (i := 3) rfl)) ?_
    simp only [Act.put, List.setIfInBounds_toArray, List.set_cons_zero, List.set_cons_succ, List.getElem_toArray, List.getElem_cons_zero, List.getElem_cons_succ]
    refine list_val (.bool true) (by kernel_rfl) (by go_simp) ?_
    simp only [Act.put, List.setIfInBounds_toArray, List.set_cons_zero, List.set_cons_succ, List.getElem_toArray, List.getElem_cons_zero, List.getElem_cons_succ]
    refine wpList_nil ?_
    replace hB := hide hB
    go_upto_region 2 with fail
    replace hB := unhide hB
    refine wp_region_lit ?_
    refine list_val (.pointer (some ⟨w.heap.size, 2, none⟩)) (by kernel_rfl) (by kernel_rfl) ?_
    simp only [Act.put, List.setIfInBounds_toArray, List.set_cons_zero, List.set_cons_succ, List.getElem_toArray, List.getElem_cons_zero, List.getElem_cons_succ]
    have c4 := cell_of (hB.get 0 (x := ⟨w.heap.size, dkv sa sn sc pa pn pc dd lf os, 31⟩) rfl) (i := 2) rfl
    have fz := froz_of (i := 2) (hB.get 0 (x := ⟨w.heap.size, dkv sa sn sc pa pn pc dd lf os, 31⟩) rfl)
    have hB2 := hB.cell 0 (x := ⟨w.heap.size, dkv sa sn sc pa pn pc dd lf os, 31⟩) rfl 2 (.bool true)
    simp only [List.set_cons_zero, List.set_cons_succ] at hB2
    replace hB2 : Bl w [⟨w.heap.size, dkv sa sn sc pa pn pc true lf os, 31⟩, ⟨w.heap.size + 1, dkv none 0 0 none 0 0 false 0 0, 31⟩] _ := hB2
    clear hB
    replace hB2 := hide hB2
    dsimp only at c4 fz
    (refine wpList_step fun K hK => ?_; replace hK := hide hK; go_simp; refine unhide hK _ _ ?_; clear hK K)
    clear c4 fz
    have hB := unhide hB2
    clear hB2
    generalize World.setCell _ _ _ = u1 at *
    refine wpList_nil ?_
    replace hB := hide hB
    go_upto_region 3 with fail
    replace hB := unhide hB
    refine wp_region_lit ?_
    refine list_val (.agg (dkv sa sn sc pa pn pc true lf os)) (by kernel_rfl) (exec_arr _ 31 (.tmp 1) rfl (w.heap.size) (by kernel_rfl) (dkv sa sn sc pa pn pc true lf os) 31 _ (hB.get 0 (x := ⟨w.heap.size, dkv sa sn sc pa pn pc true lf os, 31⟩) rfl) Try.underlying31 rfl (by rw [Try.infoRD]; rfl)) ?_
    simp only [Act.put, List.setIfInBounds_toArray, List.set_cons_zero, List.set_cons_succ, List.getElem_toArray, List.getElem_cons_zero, List.getElem_cons_succ]
    refine list_store 31 (.tmp 2) (.tmp 8) (w.heap.size + 1) (dkv sa sn sc pa pn pc true lf os) 31 (dkv none 0 0 none 0 0 false 0 0) (by kernel_rfl) rfl (by kernel_rfl) (by kernel_rfl) (hB.get 1 (x := ⟨w.heap.size + 1, dkv none 0 0 none 0 0 false 0 0, 31⟩) rfl) (by rw [Try.infoRD]; rfl) rfl (dkv_one ..) ?_
    replace hB := hB.set 1 (x := ⟨w.heap.size + 1, dkv none 0 0 none 0 0 false 0 0, 31⟩) rfl (dkv sa sn sc pa pn pc true lf os)
    simp only [List.set_cons_zero, List.set_cons_succ] at hB
    generalize World.setRow _ _ _ = u2 at *
    replace hB : Bl w [⟨w.heap.size, dkv sa sn sc pa pn pc true lf os, 31⟩, ⟨w.heap.size + 1, dkv sa sn sc pa pn pc true lf os, 31⟩] u2 := hB
    simp only [Act.put, List.setIfInBounds_toArray, List.set_cons_zero, List.set_cons_succ, List.getElem_toArray, List.getElem_cons_zero, List.getElem_cons_succ]
    (refine wpList_step fun K hK => ?_; replace hK := hide hK; go_simp; refine unhide hK _ _ ?_; clear hK K)
    refine wpList_nil ?_
    have hE : (Dk.mk S P dd lf os).doneB = false ∧ (Dk.mk S P dd lf os).doneD.v sa sc pa pc = dkv sa sn sc pa pn pc true lf os := by
      refine ⟨by simp [Dk.doneB, hl0], ?_⟩
      unfold Dk.doneD
      rw [if_pos (show (Dk.mk S P dd lf os).left = 0 from hl0), unhide hsn, unhide hpn]
      rfl
    replace hB := hide hB
    go_wp2_with fail
    replace hB := unhide hB
    rw [unhide hT]
    exact bodyPost_ret (v := .tuple #[.agg (dkv sa sn sc pa pn pc true lf os), .bool false]) (results_cell_tmp Try.results47 _ _ (w.heap.size + 1) 31 (dkv sa sn sc pa pn pc true lf os) (0, 0) _ rfl (.bool false) rfl (hB.get 1 (x := ⟨w.heap.size + 1, dkv sa sn sc pa pn pc true lf os, 31⟩) rfl) Try.underlying31 rfl (by rw [Try.infoRD]; rfl)) rfl (⟨by rw [hE.1, hE.2], hB.gr⟩)
  have lI : ¬ lf = 0 := hl0
  refine wp_region_lit ?_
  refine list_val (.pointer (some ⟨w.heap.size, 3, none⟩)) (by kernel_rfl) (by kernel_rfl) ?_
  simp only [Act.put, List.setIfInBounds_toArray, List.set_cons_zero, List.set_cons_succ, List.getElem_toArray, List.getElem_cons_zero, List.getElem_cons_succ]
  refine list_val (.int .i64 lf) (by kernel_rfl) (exec_i64 _ (.tmp 4) rfl (w.heap.size) 3 (by kernel_rfl) lf (cell_of (hB.get 0 (x := ⟨w.heap.size, dkv sa sn sc pa pn pc dd lf os, 31⟩) rfl) (i := 3) rfl)) ?_
  simp only [Act.put, List.setIfInBounds_toArray, List.set_cons_zero, List.set_cons_succ, List.getElem_toArray, List.getElem_cons_zero, List.getElem_cons_succ]
  refine list_val (.bool false) (by kernel_rfl) (by go_simp) ?_
  simp only [Act.put, List.setIfInBounds_toArray, List.set_cons_zero, List.set_cons_succ, List.getElem_toArray, List.getElem_cons_zero, List.getElem_cons_succ]
  refine wpList_nil ?_
  by_cases hlp : 0 < lf
  · skip
    replace hB := hide hB
    go_upto_region 4 with fail
    replace hB := unhide hB
    refine wp_region_lit ?_
    refine list_val (.pointer (some ⟨w.heap.size, 3, none⟩)) (by kernel_rfl) (by kernel_rfl) ?_
    simp only [Act.put, List.setIfInBounds_toArray, List.set_cons_zero, List.set_cons_succ, List.getElem_toArray, List.getElem_cons_zero, List.getElem_cons_succ]
    refine list_val (.int .i64 lf) (by kernel_rfl) (exec_i64 _ (.tmp 9) rfl (w.heap.size) 3 (by kernel_rfl) lf (cell_of (hB.get 0 (x := ⟨w.heap.size, dkv sa sn sc pa pn pc dd lf os, 31⟩) rfl) (i := 3) rfl)) ?_
    simp only [Act.put, List.setIfInBounds_toArray, List.set_cons_zero, List.set_cons_succ, List.getElem_toArray, List.getElem_cons_zero, List.getElem_cons_succ]
    refine list_val (.bool true) (by kernel_rfl) (by go_simp) ?_
    simp only [Act.put, List.setIfInBounds_toArray, List.set_cons_zero, List.set_cons_succ, List.getElem_toArray, List.getElem_cons_zero, List.getElem_cons_succ]
    refine wpList_nil ?_
    obtain ⟨lg, hlg⟩ : ∃ x, x = lf - 1 := ⟨_, rfl⟩
    have q1 : lf - 1 = lg := hlg.symm
    have q2 : IntKind.i64.wrap lg = lg := by rw [IntKind.wrap_i64]; omega
    replace hlg := hide hlg
    replace hB := hide hB
    go_upto_region 5 with fail
    replace hB := unhide hB
    refine wp_region_lit ?_
    refine list_val (.pointer (some ⟨w.heap.size, 3, none⟩)) (by kernel_rfl) (by kernel_rfl) ?_
    simp only [Act.put, List.setIfInBounds_toArray, List.set_cons_zero, List.set_cons_succ, List.getElem_toArray, List.getElem_cons_zero, List.getElem_cons_succ]
    refine list_val (.int .i64 lf) (by kernel_rfl) (exec_i64 _ (.tmp 12) rfl (w.heap.size) 3 (by kernel_rfl) lf (cell_of (hB.get 0 (x := ⟨w.heap.size, dkv sa sn sc pa pn pc dd lf os, 31⟩) rfl) (i := 3) rfl)) ?_
    simp only [Act.put, List.setIfInBounds_toArray, List.set_cons_zero, List.set_cons_succ, List.getElem_toArray, List.getElem_cons_zero, List.getElem_cons_succ]
    refine list_val (.int .i64 lg) (by kernel_rfl) (by go_simp) ?_
    simp only [Act.put, List.setIfInBounds_toArray, List.set_cons_zero, List.set_cons_succ, List.getElem_toArray, List.getElem_cons_zero, List.getElem_cons_succ]
    refine list_val (.pointer (some ⟨w.heap.size, 3, none⟩)) (by kernel_rfl) (by kernel_rfl) ?_
    simp only [Act.put, List.setIfInBounds_toArray, List.set_cons_zero, List.set_cons_succ, List.getElem_toArray, List.getElem_cons_zero, List.getElem_cons_succ]
    have c4 := cell_of (hB.get 0 (x := ⟨w.heap.size, dkv sa sn sc pa pn pc dd lf os, 31⟩) rfl) (i := 3) rfl
    have fz := froz_of (i := 3) (hB.get 0 (x := ⟨w.heap.size, dkv sa sn sc pa pn pc dd lf os, 31⟩) rfl)
    have hB2 := hB.cell 0 (x := ⟨w.heap.size, dkv sa sn sc pa pn pc dd lf os, 31⟩) rfl 3 (.int .i64 lg)
    simp only [List.set_cons_zero, List.set_cons_succ] at hB2
    replace hB2 : Bl w [⟨w.heap.size, dkv sa sn sc pa pn pc dd lg os, 31⟩, ⟨w.heap.size + 1, dkv none 0 0 none 0 0 false 0 0, 31⟩] _ := hB2
    clear hB
    replace hB2 := hide hB2
    dsimp only at c4 fz
    (refine wpList_step fun K hK => ?_; replace hK := hide hK; go_simp; refine unhide hK _ _ ?_; clear hK K)
    clear c4 fz
    have hB := unhide hB2
    clear hB2
    generalize World.setCell _ _ _ = u1 at *
    refine wpList_nil ?_
    obtain ⟨oo, hoo⟩ : ∃ x, x = os + 1 := ⟨_, rfl⟩
    have p1 : (os : Int) + 1 = (oo : Int) := by omega
    have p2 : IntKind.i64.wrap (oo : Int) = (oo : Int) := by rw [IntKind.wrap_i64]; omega
    replace hoo := hide hoo
    replace hB := hide hB
    go_upto_region 6 with fail
    replace hB := unhide hB
    refine wp_region_lit ?_
    refine list_val (.pointer (some ⟨w.heap.size, 4, none⟩)) (by kernel_rfl) (by kernel_rfl) ?_
    simp only [Act.put, List.setIfInBounds_toArray, List.set_cons_zero, List.set_cons_succ, List.getElem_toArray, List.getElem_cons_zero, List.getElem_cons_succ]
    refine list_val (.int .i64 (os : Int)) (by kernel_rfl) (exec_i64 _ (.tmp 16) rfl (w.heap.size) 4 (by kernel_rfl) (os : Int) (cell_of (hB.get 0 (x := ⟨w.heap.size, dkv sa sn sc pa pn pc dd lg os, 31⟩) rfl) (i := 4) rfl)) ?_
    simp only [Act.put, List.setIfInBounds_toArray, List.set_cons_zero, List.set_cons_succ, List.getElem_toArray, List.getElem_cons_zero, List.getElem_cons_succ]
    refine list_val (.int .i64 (oo : Int)) (by kernel_rfl) (by go_simp) ?_
    simp only [Act.put, List.setIfInBounds_toArray, List.set_cons_zero, List.set_cons_succ, List.getElem_toArray, List.getElem_cons_zero, List.getElem_cons_succ]
    refine list_val (.pointer (some ⟨w.heap.size, 4, none⟩)) (by kernel_rfl) (by kernel_rfl) ?_
    simp only [Act.put, List.setIfInBounds_toArray, List.set_cons_zero, List.set_cons_succ, List.getElem_toArray, List.getElem_cons_zero, List.getElem_cons_succ]
    have c4 := cell_of (hB.get 0 (x := ⟨w.heap.size, dkv sa sn sc pa pn pc dd lg os, 31⟩) rfl) (i := 4) rfl
    have fz := froz_of (i := 4) (hB.get 0 (x := ⟨w.heap.size, dkv sa sn sc pa pn pc dd lg os, 31⟩) rfl)
    have hB2 := hB.cell 0 (x := ⟨w.heap.size, dkv sa sn sc pa pn pc dd lg os, 31⟩) rfl 4 (.int .i64 (oo : Int))
    simp only [List.set_cons_zero, List.set_cons_succ] at hB2
    replace hB2 : Bl w [⟨w.heap.size, dkv sa sn sc pa pn pc dd lg oo, 31⟩, ⟨w.heap.size + 1, dkv none 0 0 none 0 0 false 0 0, 31⟩] _ := hB2
    clear hB
    replace hB2 := hide hB2
    dsimp only at c4 fz
    (refine wpList_step fun K hK => ?_; replace hK := hide hK; go_simp; refine unhide hK _ _ ?_; clear hK K)
    clear c4 fz
    have hB := unhide hB2
    clear hB2
    generalize World.setCell _ _ _ = u2 at *
    refine wpList_nil ?_
    replace hB := hide hB
    go_upto_region 7 with fail
    replace hB := unhide hB
    refine wp_region_lit ?_
    refine list_val (.agg (dkv sa sn sc pa pn pc dd lg oo)) (by kernel_rfl) (exec_arr _ 31 (.tmp 1) rfl (w.heap.size) (by kernel_rfl) (dkv sa sn sc pa pn pc dd lg oo) 31 _ (hB.get 0 (x := ⟨w.heap.size, dkv sa sn sc pa pn pc dd lg oo, 31⟩) rfl) Try.underlying31 rfl (by rw [Try.infoRD]; rfl)) ?_
    simp only [Act.put, List.setIfInBounds_toArray, List.set_cons_zero, List.set_cons_succ, List.getElem_toArray, List.getElem_cons_zero, List.getElem_cons_succ]
    refine list_store 31 (.tmp 2) (.tmp 20) (w.heap.size + 1) (dkv sa sn sc pa pn pc dd lg oo) 31 (dkv none 0 0 none 0 0 false 0 0) (by kernel_rfl) rfl (by kernel_rfl) (by kernel_rfl) (hB.get 1 (x := ⟨w.heap.size + 1, dkv none 0 0 none 0 0 false 0 0, 31⟩) rfl) (by rw [Try.infoRD]; rfl) rfl (dkv_one ..) ?_
    replace hB := hB.set 1 (x := ⟨w.heap.size + 1, dkv none 0 0 none 0 0 false 0 0, 31⟩) rfl (dkv sa sn sc pa pn pc dd lg oo)
    simp only [List.set_cons_zero, List.set_cons_succ] at hB
    generalize World.setRow _ _ _ = u3 at *
    replace hB : Bl w [⟨w.heap.size, dkv sa sn sc pa pn pc dd lg oo, 31⟩, ⟨w.heap.size + 1, dkv sa sn sc pa pn pc dd lg oo, 31⟩] u3 := hB
    simp only [Act.put, List.setIfInBounds_toArray, List.set_cons_zero, List.set_cons_succ, List.getElem_toArray, List.getElem_cons_zero, List.getElem_cons_succ]
    (refine wpList_step fun K hK => ?_; replace hK := hide hK; go_simp; refine unhide hK _ _ ?_; clear hK K)
    refine wpList_nil ?_
    have hE : (Dk.mk S P dd lf os).doneB = true ∧ (Dk.mk S P dd lf os).doneD.v sa sc pa pc = dkv sa sn sc pa pn pc dd lg oo := by
      refine ⟨by simp [Dk.doneB, hl0], ?_⟩
      unfold Dk.doneD
      rw [if_neg (show ¬ (Dk.mk S P dd lf os).left = 0 from hl0), unhide hsn, unhide hpn, unhide hoo, unhide hlg]
      show dkv sa S.length sc pa P.length pc dd (if 0 < lf then lf - 1 else lf) (os + 1) = _
      rw [if_pos hlp]
    replace hB := hide hB
    go_wp2_with fail
    replace hB := unhide hB
    rw [unhide hT]
    exact bodyPost_ret (v := .tuple #[.agg (dkv sa sn sc pa pn pc dd lg oo), .bool true]) (results_cell_tmp Try.results47 _ _ (w.heap.size + 1) 31 (dkv sa sn sc pa pn pc dd lg oo) (0, 0) _ rfl (.bool true) rfl (hB.get 1 (x := ⟨w.heap.size + 1, dkv sa sn sc pa pn pc dd lg oo, 31⟩) rfl) Try.underlying31 rfl (by rw [Try.infoRD]; rfl)) rfl (⟨by rw [hE.1, hE.2], hB.gr⟩)
  replace hB := hide hB
  go_upto_region 4 with fail
  replace hB := unhide hB
  refine wp_region_lit ?_
  refine list_val (.pointer (some ⟨w.heap.size, 3, none⟩)) (by kernel_rfl) (by kernel_rfl) ?_
  simp only [Act.put, List.setIfInBounds_toArray, List.set_cons_zero, List.set_cons_succ, List.getElem_toArray, List.getElem_cons_zero, List.getElem_cons_succ]
  refine list_val (.int .i64 lf) (by kernel_rfl) (exec_i64 _ (.tmp 9) rfl (w.heap.size) 3 (by kernel_rfl) lf (cell_of (hB.get 0 (x := ⟨w.heap.size, dkv sa sn sc pa pn pc dd lf os, 31⟩) rfl) (i := 3) rfl)) ?_
  simp only [Act.put, List.setIfInBounds_toArray, List.set_cons_zero, List.set_cons_succ, List.getElem_toArray, List.getElem_cons_zero, List.getElem_cons_succ]
  refine list_val (.bool false) (by kernel_rfl) (by go_simp) ?_
  simp only [Act.put, List.setIfInBounds_toArray, List.set_cons_zero, List.set_cons_succ, List.getElem_toArray, List.getElem_cons_zero, List.getElem_cons_succ]
  refine wpList_nil ?_
  obtain ⟨oo, hoo⟩ : ∃ x, x = os + 1 := ⟨_, rfl⟩
  have p1 : (os : Int) + 1 = (oo : Int) := by omega
  have p2 : IntKind.i64.wrap (oo : Int) = (oo : Int) := by rw [IntKind.wrap_i64]; omega
  replace hoo := hide hoo
  replace hB := hide hB
  go_upto_region 6 with fail
  replace hB := unhide hB
  refine wp_region_lit ?_
  refine list_val (.pointer (some ⟨w.heap.size, 4, none⟩)) (by kernel_rfl) (by kernel_rfl) ?_
  simp only [Act.put, List.setIfInBounds_toArray, List.set_cons_zero, List.set_cons_succ, List.getElem_toArray, List.getElem_cons_zero, List.getElem_cons_succ]
  refine list_val (.int .i64 (os : Int)) (by kernel_rfl) (exec_i64 _ (.tmp 16) rfl (w.heap.size) 4 (by kernel_rfl) (os : Int) (cell_of (hB.get 0 (x := ⟨w.heap.size, dkv sa sn sc pa pn pc dd lf os, 31⟩) rfl) (i := 4) rfl)) ?_
  simp only [Act.put, List.setIfInBounds_toArray, List.set_cons_zero, List.set_cons_succ, List.getElem_toArray, List.getElem_cons_zero, List.getElem_cons_succ]
  refine list_val (.int .i64 (oo : Int)) (by kernel_rfl) (by go_simp) ?_
  simp only [Act.put, List.setIfInBounds_toArray, List.set_cons_zero, List.set_cons_succ, List.getElem_toArray, List.getElem_cons_zero, List.getElem_cons_succ]
  refine list_val (.pointer (some ⟨w.heap.size, 4, none⟩)) (by kernel_rfl) (by kernel_rfl) ?_
  simp only [Act.put, List.setIfInBounds_toArray, List.set_cons_zero, List.set_cons_succ, List.getElem_toArray, List.getElem_cons_zero, List.getElem_cons_succ]
  have c4 := cell_of (hB.get 0 (x := ⟨w.heap.size, dkv sa sn sc pa pn pc dd lf os, 31⟩) rfl) (i := 4) rfl
  have fz := froz_of (i := 4) (hB.get 0 (x := ⟨w.heap.size, dkv sa sn sc pa pn pc dd lf os, 31⟩) rfl)
  have hB2 := hB.cell 0 (x := ⟨w.heap.size, dkv sa sn sc pa pn pc dd lf os, 31⟩) rfl 4 (.int .i64 (oo : Int))
  simp only [List.set_cons_zero, List.set_cons_succ] at hB2
  replace hB2 : Bl w [⟨w.heap.size, dkv sa sn sc pa pn pc dd lf oo, 31⟩, ⟨w.heap.size + 1, dkv none 0 0 none 0 0 false 0 0, 31⟩] _ := hB2
  clear hB
  replace hB2 := hide hB2
  dsimp only at c4 fz
  (refine wpList_step fun K hK => ?_; replace hK := hide hK; go_simp; refine unhide hK _ _ ?_; clear hK K)
  clear c4 fz
  have hB := unhide hB2
  clear hB2
  generalize World.setCell _ _ _ = u2 at *
  refine wpList_nil ?_
  replace hB := hide hB
  go_upto_region 7 with fail
  replace hB := unhide hB
  refine wp_region_lit ?_
  refine list_val (.agg (dkv sa sn sc pa pn pc dd lf oo)) (by kernel_rfl) (exec_arr _ 31 (.tmp 1) rfl (w.heap.size) (by kernel_rfl) (dkv sa sn sc pa pn pc dd lf oo) 31 _ (hB.get 0 (x := ⟨w.heap.size, dkv sa sn sc pa pn pc dd lf oo, 31⟩) rfl) Try.underlying31 rfl (by rw [Try.infoRD]; rfl)) ?_
  simp only [Act.put, List.setIfInBounds_toArray, List.set_cons_zero, List.set_cons_succ, List.getElem_toArray, List.getElem_cons_zero, List.getElem_cons_succ]
  refine list_store 31 (.tmp 2) (.tmp 20) (w.heap.size + 1) (dkv sa sn sc pa pn pc dd lf oo) 31 (dkv none 0 0 none 0 0 false 0 0) (by kernel_rfl) rfl (by kernel_rfl) (by kernel_rfl) (hB.get 1 (x := ⟨w.heap.size + 1, dkv none 0 0 none 0 0 false 0 0, 31⟩) rfl) (by rw [Try.infoRD]; rfl) rfl (dkv_one ..) ?_
  replace hB := hB.set 1 (x := ⟨w.heap.size + 1, dkv none 0 0 none 0 0 false 0 0, 31⟩) rfl (dkv sa sn sc pa pn pc dd lf oo)
  simp only [List.set_cons_zero, List.set_cons_succ] at hB
  generalize World.setRow _ _ _ = u3 at *
  replace hB : Bl w [⟨w.heap.size, dkv sa sn sc pa pn pc dd lf oo, 31⟩, ⟨w.heap.size + 1, dkv sa sn sc pa pn pc dd lf oo, 31⟩] u3 := hB
  simp only [Act.put, List.setIfInBounds_toArray, List.set_cons_zero, List.set_cons_succ, List.getElem_toArray, List.getElem_cons_zero, List.getElem_cons_succ]
  (refine wpList_step fun K hK => ?_; replace hK := hide hK; go_simp; refine unhide hK _ _ ?_; clear hK K)
  refine wpList_nil ?_
  have hE : (Dk.mk S P dd lf os).doneB = true ∧ (Dk.mk S P dd lf os).doneD.v sa sc pa pc = dkv sa sn sc pa pn pc dd lf oo := by
    refine ⟨by simp [Dk.doneB, hl0], ?_⟩
    unfold Dk.doneD
    rw [if_neg (show ¬ (Dk.mk S P dd lf os).left = 0 from hl0), unhide hsn, unhide hpn, unhide hoo]
    show dkv sa S.length sc pa P.length pc dd (if 0 < lf then lf - 1 else lf) (os + 1) = _
    rw [if_neg hlp]
  replace hB := hide hB
  go_wp2_with fail
  replace hB := unhide hB
  rw [unhide hT]
  exact bodyPost_ret (v := .tuple #[.agg (dkv sa sn sc pa pn pc dd lf oo), .bool true]) (results_cell_tmp Try.results47 _ _ (w.heap.size + 1) 31 (dkv sa sn sc pa pn pc dd lf oo) (0, 0) _ rfl (.bool true) rfl (hB.get 1 (x := ⟨w.heap.size + 1, dkv sa sn sc pa pn pc dd lf oo, 31⟩) rfl) Try.underlying31 rfl (by rw [Try.infoRD]; rfl)) rfl (⟨by rw [hE.1, hE.2], hB.gr⟩)
set_option maxHeartbeats 4000000 in
theorem rarm_ok (S : List (List Int)) (P : List (Nat × List Int)) (dd : Bool) (lf : Int) (os m : Nat) (hD : (Dk.mk S P dd lf os).Ok m) (hm : m ≤ 1000001) (sa : Option Addr) (sc : Nat) (pa : Option Addr) (pc : Nat) (n : Int) (hn1 : -9223372036854775808 ≤ n) (hn2 : n < 9223372036854775808) (w : World) (hR : Rd w sa sc pa pc (Dk.mk S P dd lf os)) :
    Calls Try.prog 35 #[.agg ((Dk.mk S P dd lf os).v sa sc pa pc), .int .i64 n] w (Rdk sa pa ((Dk.mk S P dd lf os).armD n) (Dk.mk S P dd lf os).armE w) := by
  obtain ⟨T, hT⟩ : ∃ T, T = Rdk sa pa ((Dk.mk S P dd lf os).armD n) (Dk.mk S P dd lf os).armE w := ⟨_, rfl⟩
  rw [← hT]
  replace hT := hide hT
  replace hR := hide hR
  obtain ⟨sn, hsn⟩ : ∃ n, n = S.length := ⟨_, rfl⟩
  obtain ⟨pn, hpn⟩ : ∃ n, n = P.length := ⟨_, rfl⟩
  have hs512 : sn ≤ 512 := by rw [hsn]; exact hD.hi1
  have hpm : pn ≤ m := by rw [hpn]; exact hD.num
  have hom : os ≤ m := hD.ops
  have hl1 : -1 ≤ lf := hD.lo
  have hl2 : lf < 9223372036854775808 := hD.hi
  obtain ⟨SD, hSD⟩ : ∃ X, X = dkv sa sn sc pa pn pc dd lf os := ⟨_, rfl⟩
  have e0 : (Dk.mk S P dd lf os).v sa sc pa pc = SD := by rw [hSD, hsn, hpn]; rfl
  rw [e0]
  clear e0
  replace hSD := hide hSD; replace hsn := hide hsn; replace hpn := hide hpn; replace hD := hide hD
  go_enter Try.func35, Try.ntmps35
  go_upto_region 1 with fail
  have hB := (((Bl.nil w).new SD 31).new #[.slice none 0 0, .slice none 0 0, .bool false, .int .i64 0, .int .i64 0] 31)
  simp only [size_alloc, List.nil_append, List.cons_append] at hB
  generalize World.alloc _ _ = u at *
  rw [unhide hSD] at hB
  replace hB : Bl w [⟨w.heap.size, dkv sa sn sc pa pn pc dd lf os, 31⟩, ⟨w.heap.size + 1, dkv none 0 0 none 0 0 false 0 0, 31⟩] u := hB
  refine wp_region_lit ?_
  refine list_val (.pointer (some ⟨w.heap.size, 2, none⟩)) (by kernel_rfl) (by kernel_rfl) ?_
  simp only [Act.put, List.setIfInBounds_toArray, List.set_cons_zero, List.set_cons_succ, List.getElem_toArray, List.getElem_cons_zero, List.getElem_cons_succ]
  refine list_val (.bool dd) (by kernel_rfl) (exec_bool _ (.tmp 6) rfl (w.heap.size) 2 (by kernel_rfl) dd (cell_of (hB.get 0 (x := ⟨w.heap.size, dkv sa sn sc pa pn pc dd lf os, 31⟩) rfl) (i := 2) rfl)) ?_
  simp only [Act.put, List.setIfInBounds_toArray, List.set_cons_zero, List.set_cons_succ, List.getElem_toArray, List.getElem_cons_zero, List.getElem_cons_succ]
  refine wpList_nil ?_
  cases hdd : dd
  case true =>
    subst hdd
    replace hB := hide hB
    go_upto_region 2 with fail
    replace hB := unhide hB
    refine wp_region_lit ?_
    refine list_val (.agg (dkv sa sn sc pa pn pc true lf os)) (by kernel_rfl) (exec_arr _ 31 (.tmp 2) rfl (w.heap.size) (by kernel_rfl) (dkv sa sn sc pa pn pc true lf os) 31 _ (hB.get 0 (x := ⟨w.heap.size, dkv sa sn sc pa pn pc true lf os, 31⟩) rfl) Try.underlying31 rfl (by rw [Try.infoRD]; rfl)) ?_
    simp only [Act.put, List.setIfInBounds_toArray, List.set_cons_zero, List.set_cons_succ, List.getElem_toArray, List.getElem_cons_zero, List.getElem_cons_succ]
    refine list_store 31 (.tmp 4) (.tmp 8) (w.heap.size + 1) (dkv sa sn sc pa pn pc true lf os) 31 (dkv none 0 0 none 0 0 false 0 0) (by kernel_rfl) rfl (by kernel_rfl) (by kernel_rfl) (hB.get 1 (x := ⟨w.heap.size + 1, dkv none 0 0 none 0 0 false 0 0, 31⟩) rfl) (by rw [Try.infoRD]; rfl) rfl (dkv_one ..) ?_
    replace hB := hB.set 1 (x := ⟨w.heap.size + 1, dkv none 0 0 none 0 0 false 0 0, 31⟩) rfl (dkv sa sn sc pa pn pc true lf os)
    simp only [List.set_cons_zero, List.set_cons_succ] at hB
    generalize World.setRow _ _ _ = u1 at *
    replace hB : Bl w [⟨w.heap.size, dkv sa sn sc pa pn pc true lf os, 31⟩, ⟨w.heap.size + 1, dkv sa sn sc pa pn pc true lf os, 31⟩] u1 := hB
    simp only [Act.put, List.setIfInBounds_toArray, List.set_cons_zero, List.set_cons_succ, List.getElem_toArray, List.getElem_cons_zero, List.getElem_cons_succ]
    (refine wpList_step fun K hK => ?_; replace hK := hide hK; go_simp; refine unhide hK _ _ ?_; clear hK K)
    refine wpList_nil ?_
    replace hB := hide hB
    go_wp2_with fail
    replace hB := unhide hB
    rw [unhide hT]
    exact bodyPost_ret (v := .tuple #[.agg (dkv sa sn sc pa pn pc true lf os), .int .i64 7]) (results_cell_tmp Try.results35 _ _ (w.heap.size + 1) 31 (dkv sa sn sc pa pn pc true lf os) (0, 0) _ rfl (.int .i64 7) rfl (hB.get 1 (x := ⟨w.heap.size + 1, dkv sa sn sc pa pn pc true lf os, 31⟩) rfl) Try.underlying31 rfl (by rw [Try.infoRD]; rfl)) rfl (⟨sa, sc, pa, pc, by rw [unhide hsn, unhide hpn]; rfl, (unhide hR).gr hB.gr, Fr2.refl _ _, Fr2.refl _ _, hB.gr⟩)
  case false =>
    subst hdd
    obtain ⟨lg, hlg⟩ : ∃ x, x = if n < -1 then -1 else n := ⟨_, rfl⟩
    replace hlg := hide hlg
    replace hB := hide hB
    go_upto_region 3 with fail
    replace hB := unhide hB
    refine wp_region_lit ?_
    refine list_val (.int .i64 n) (by kernel_rfl) (by kernel_rfl) ?_
    simp only [Act.put, List.setIfInBounds_toArray, List.set_cons_zero, List.set_cons_succ, List.getElem_toArray, List.getElem_cons_zero, List.getElem_cons_succ]
    refine list_val (.int .i64 lg) (by kernel_rfl) (by rw [unhide hlg]; go_simp) ?_
    simp only [Act.put, List.setIfInBounds_toArray, List.set_cons_zero, List.set_cons_succ, List.getElem_toArray, List.getElem_cons_zero, List.getElem_cons_succ]
    refine list_val (.pointer (some ⟨w.heap.size, 3, none⟩)) (by kernel_rfl) (by kernel_rfl) ?_
    simp only [Act.put, List.setIfInBounds_toArray, List.set_cons_zero, List.set_cons_succ, List.getElem_toArray, List.getElem_cons_zero, List.getElem_cons_succ]
    have c4 := cell_of (hB.get 0 (x := ⟨w.heap.size, dkv sa sn sc pa pn pc false lf os, 31⟩) rfl) (i := 3) rfl
    have fz := froz_of (i := 3) (hB.get 0 (x := ⟨w.heap.size, dkv sa sn sc pa pn pc false lf os, 31⟩) rfl)
    have hB2 := hB.cell 0 (x := ⟨w.heap.size, dkv sa sn sc pa pn pc false lf os, 31⟩) rfl 3 (.int .i64 lg)
    simp only [List.set_cons_zero, List.set_cons_succ] at hB2
    replace hB2 : Bl w [⟨w.heap.size, dkv sa sn sc pa pn pc false lg os, 31⟩, ⟨w.heap.size + 1, dkv none 0 0 none 0 0 false 0 0, 31⟩] _ := hB2
    clear hB
    replace hB2 := hide hB2
    dsimp only at c4 fz
    (refine wpList_step fun K hK => ?_; replace hK := hide hK; go_simp; refine unhide hK _ _ ?_; clear hK K)
    clear c4 fz
    have hB := unhide hB2
    clear hB2
    generalize World.setCell _ _ _ = u1 at *
    refine wpList_nil ?_
    replace hB := hide hB
    go_upto_region 4 with fail
    replace hB := unhide hB
    refine wp_region_lit ?_
    refine list_val (.agg (dkv sa sn sc pa pn pc false lg os)) (by kernel_rfl) (exec_arr _ 31 (.tmp 2) rfl (w.heap.size) (by kernel_rfl) (dkv sa sn sc pa pn pc false lg os) 31 _ (hB.get 0 (x := ⟨w.heap.size, dkv sa sn sc pa pn pc false lg os, 31⟩) rfl) Try.underlying31 rfl (by rw [Try.infoRD]; rfl)) ?_
    simp only [Act.put, List.setIfInBounds_toArray, List.set_cons_zero, List.set_cons_succ, List.getElem_toArray, List.getElem_cons_zero, List.getElem_cons_succ]
    refine list_store 31 (.tmp 4) (.tmp 12) (w.heap.size + 1) (dkv sa sn sc pa pn pc false lg os) 31 (dkv none 0 0 none 0 0 false 0 0) (by kernel_rfl) rfl (by kernel_rfl) (by kernel_rfl) (hB.get 1 (x := ⟨w.heap.size + 1, dkv none 0 0 none 0 0 false 0 0, 31⟩) rfl) (by rw [Try.infoRD]; rfl) rfl (dkv_one ..) ?_
    replace hB := hB.set 1 (x := ⟨w.heap.size + 1, dkv none 0 0 none 0 0 false 0 0, 31⟩) rfl (dkv sa sn sc pa pn pc false lg os)
    simp only [List.set_cons_zero, List.set_cons_succ] at hB
    generalize World.setRow _ _ _ = u2 at *
    replace hB : Bl w [⟨w.heap.size, dkv sa sn sc pa pn pc false lg os, 31⟩, ⟨w.heap.size + 1, dkv sa sn sc pa pn pc false lg os, 31⟩] u2 := hB
    simp only [Act.put, List.setIfInBounds_toArray, List.set_cons_zero, List.set_cons_succ, List.getElem_toArray, List.getElem_cons_zero, List.getElem_cons_succ]
    (refine wpList_step fun K hK => ?_; replace hK := hide hK; go_simp; refine unhide hK _ _ ?_; clear hK K)
    refine wpList_nil ?_
    replace hB := hide hB
    go_wp2_with fail
    replace hB := unhide hB
    rw [unhide hT]
    exact bodyPost_ret (v := .tuple #[.agg (dkv sa sn sc pa pn pc false lg os), .int .i64 0]) (results_cell_tmp Try.results35 _ _ (w.heap.size + 1) 31 (dkv sa sn sc pa pn pc false lg os) (0, 0) _ rfl (.int .i64 0) rfl (hB.get 1 (x := ⟨w.heap.size + 1, dkv sa sn sc pa pn pc false lg os, 31⟩) rfl) Try.underlying31 rfl (by rw [Try.infoRD]; rfl)) rfl (⟨sa, sc, pa, pc, by rw [unhide hsn, unhide hpn, unhide hlg]; rfl, ⟨((unhide hR).gr hB.gr).sf, ((unhide hR).gr hB.gr).pn⟩, Fr2.refl _ _, Fr2.refl _ _, hB.gr⟩)
theorem Try.infoBz : (Try.prog.info? 39).map (fun i => (i.zero, i.size, i.bytes)) = some (some (.agg (kc ZB)), 64, 64) := by kernel_rfl
/-- sectors are made -/
theorem make_blocks (w : World) {ops : Array Oper} {rest : List Oper} {o : Oper} {a : Act} {Q : Exit → Act → World → Prop} (hgd : o.guard = none) (l c : Operand) (hop : o.op = Op.makeSlice 28 l c) (n : Nat) (hl : a.eval l = .int .i64 n) (hc : a.eval c = .int .i64 n) (hn : n ≤ 100000)
    (h : wpList Try.prog ops Q rest (a.put o.dst (.slice (some ⟨w.heap.size, 0, none⟩) n n)) (w.alloc (.cells (kc (List.replicate (n * 64) 0)) 39 (0, 0)))) : wpList Try.prog ops Q (o :: rest) a w := by
  obtain ⟨i, h2, h3, h4, h5⟩ := info_parts Try.infoBz
  have hrun := run_make (P := Try.prog) w 28 39 i (.agg (kc ZB)) Try.underlying28 h2 h3 .i64 .i64 (n : Int) (n : Int) (by omega) (by omega) (by rw [h5]; omega) (by omega)
  rw [h4] at hrun
  have e : madeCells (Value.agg (kc ZB)).cells (n * 64) = kc (List.replicate (n * 64) 0) := by
    apply Array.ext
    · simp [size_madeCells, kc]
    · intro i h1 h2
      have h6 : i % 64 < 64 := Nat.mod_lt _ (by omega)
      have h7 : (kc ZB)[i % 64]! = Value.int .u8 0 := by
        have h10 : ZB.getD (i % 64) 0 = 0 := by
          unfold ZB
          rw [List.getD_eq_getElem?_getD, List.getElem?_replicate, if_pos h6]
          rfl
        rw [getElem!_def, kc_get ZB (i % 64) h6, h10]
      have h8 : (Value.agg (kc ZB)).cells = kc ZB := rfl
      have h9 : (kc ZB).size = 64 := rfl
      simp only [madeCells, h8, h9, Array.getElem_map, Array.getElem_range, h7]
      unfold kc
      simp
  simp only [Int.toNat_natCast, e] at hrun
  rw [wpList, if_pos (by simp [Region.wanted, hgd])]
  refine Or.inl ?_
  unfold Oper.wp
  simp [execOp, hop, hl, hc, hrun, Result.andThen]
  exact h
/-- a disk that is not there -/
def ZD : Array Value := dkv none 0 0 none 0 0 false 0 0
def Rnw (n : Int) (w : World) (r : Ending) (w' : World) : Prop := if 1 ≤ n ∧ n ≤ 512 then Rdk none none (dk0 n.toNat) 0 w r w' else r = .returned (.tuple #[.agg ZD, .int .i64 2]) ∧ Gr w w'
theorem range_rep {w : World} {g : Nat} {t : TypeId} (n : Nat) (h : w.heap[g]? = some (.cells (kc (List.replicate (n * 64) 0)) t (0, 0))) : Ls 64 w (some ⟨g, 0, none⟩) n n ((List.replicate n ZB).map bv) ∨ 9223372036854775808 ≤ n := by
  rcases Nat.lt_or_ge n 9223372036854775808 with hn | hn
  · refine .inl ⟨by simp, ?_, .inr ⟨g, 0, rfl, ?_⟩, Nat.le_refl _, hn, fun p e => by have e3 := Option.some.inj e; rw [← e3]; exact lt_of_block h⟩
    · intro r hr
      obtain ⟨b, hb, rfl⟩ := List.mem_map.1 hr
      rw [List.eq_of_mem_replicate hb]
      rfl
    · have e : ((List.replicate n ZB).map bv).flatten = (List.replicate (n * 64) (0 : Int)).map (Value.int .u8) := by
        rw [List.map_replicate, List.map_replicate, show bv ZB = List.replicate 64 (Value.int .u8 0) from by unfold bv ZB; rw [List.map_replicate]]
        rw [List.flatten_replicate_replicate]
      rw [e]
      exact range_row h
  · exact .inr hn
set_option maxHeartbeats 4000000 in
theorem rnew_ok (n : Int) (w : World) : Calls Try.prog 11 #[.int .i64 n] w (Rnw n w) := by
  obtain ⟨T, hT⟩ : ∃ T, T = Rnw n w := ⟨_, rfl⟩
  rw [← hT]
  replace hT := hide hT
  go_enter Try.func11, Try.ntmps11
  go_upto_region 1 with fail
  have hB := ((Bl.nil w).new #[.slice none 0 0, .slice none 0 0, .bool false, .int .i64 0, .int .i64 0] 31)
  simp only [size_alloc, List.nil_append, List.cons_append] at hB
  generalize World.alloc _ _ = u at *
  replace hB : Bl w [⟨w.heap.size, ZD, 31⟩] u := hB
  by_cases h1 : n < 1
  · skip
    refine wp_region_lit ?_
    refine list_val (.int .i64 n) (by kernel_rfl) (by kernel_rfl) ?_
    simp only [Act.put, List.setIfInBounds_toArray, List.set_cons_zero, List.set_cons_succ, List.getElem_toArray, List.getElem_cons_zero, List.getElem_cons_succ]
    refine list_val (.bool true) (by kernel_rfl) (by go_simp) ?_
    simp only [Act.put, List.setIfInBounds_toArray, List.set_cons_zero, List.set_cons_succ, List.getElem_toArray, List.getElem_cons_zero, List.getElem_cons_succ]
    refine list_val (.bool true) (by kernel_rfl) (by kernel_rfl) ?_
    simp only [Act.put, List.setIfInBounds_toArray, List.set_cons_zero, List.set_cons_succ, List.getElem_toArray, List.getElem_cons_zero, List.getElem_cons_succ]
    refine wpList_step fun K hK => ?_
    rw [if_neg (ne_true_of_eq_false (by kernel_rfl))]
    refine hK _ _ ?_
    clear hK K
    simp only [Act.put, List.setIfInBounds_toArray, List.set_cons_zero, List.set_cons_succ, List.getElem_toArray, List.getElem_cons_zero, List.getElem_cons_succ]
    refine wpList_step fun K hK => ?_
    rw [if_neg (ne_true_of_eq_false (by kernel_rfl))]
    refine hK _ _ ?_
    clear hK K
    simp only [Act.put, List.setIfInBounds_toArray, List.set_cons_zero, List.set_cons_succ, List.getElem_toArray, List.getElem_cons_zero, List.getElem_cons_succ]
    refine list_val (.bool true) (by kernel_rfl) (by kernel_rfl) ?_
    simp only [Act.put, List.setIfInBounds_toArray, List.set_cons_zero, List.set_cons_succ, List.getElem_toArray, List.getElem_cons_zero, List.getElem_cons_succ]
    refine wpList_nil ?_
    replace hB := hide hB
    go_upto_region 2 with fail
    replace hB := unhide hB
    refine wp_region_lit ?_
    refine list_val (.agg ZD) (by kernel_rfl) (by kernel_rfl) ?_
    simp only [Act.put, List.setIfInBounds_toArray, List.set_cons_zero, List.set_cons_succ, List.getElem_toArray, List.getElem_cons_zero, List.getElem_cons_succ]
    refine list_store 31 (.tmp 2) (.tmp 10) (w.heap.size) (ZD) 31 (ZD) (by kernel_rfl) rfl (by kernel_rfl) (by kernel_rfl) (hB.get 0 (x := ⟨w.heap.size, ZD, 31⟩) rfl) (by rw [Try.infoRD]; rfl) rfl (dkv_one ..) ?_
    replace hB := hB.set 0 (x := ⟨w.heap.size, ZD, 31⟩) rfl (ZD)
    simp only [List.set_cons_zero, List.set_cons_succ] at hB
    generalize World.setRow _ _ _ = u1 at *
    replace hB : Bl w [⟨w.heap.size, ZD, 31⟩] u1 := hB
    simp only [Act.put, List.setIfInBounds_toArray, List.set_cons_zero, List.set_cons_succ, List.getElem_toArray, List.getElem_cons_zero, List.getElem_cons_succ]
    (refine wpList_step fun K hK => ?_; replace hK := hide hK; go_simp; refine unhide hK _ _ ?_; clear hK K)
    refine wpList_nil ?_
    replace hB := hide hB
    go_wp2_with fail
    replace hB := unhide hB
    rw [unhide hT]
    exact bodyPost_ret (v := .tuple #[.agg (ZD), .int .i64 2]) (results_cell_tmp Try.results11 _ _ (w.heap.size) 31 (ZD) (0, 0) _ rfl (.int .i64 2) rfl (hB.get 0 (x := ⟨w.heap.size, ZD, 31⟩) rfl) Try.underlying31 rfl (by rw [Try.infoRD]; rfl)) rfl (by unfold Rnw; rw [if_neg (by omega)]; exact ⟨rfl, hB.gr⟩)
  by_cases h2 : 512 < n
  · skip
    refine wp_region_lit ?_
    refine list_val (.int .i64 n) (by kernel_rfl) (by kernel_rfl) ?_
    simp only [Act.put, List.setIfInBounds_toArray, List.set_cons_zero, List.set_cons_succ, List.getElem_toArray, List.getElem_cons_zero, List.getElem_cons_succ]
    refine list_val (.bool false) (by kernel_rfl) (by go_simp) ?_
    simp only [Act.put, List.setIfInBounds_toArray, List.set_cons_zero, List.set_cons_succ, List.getElem_toArray, List.getElem_cons_zero, List.getElem_cons_succ]
    refine list_val (.bool false) (by kernel_rfl) (by kernel_rfl) ?_
    simp only [Act.put, List.setIfInBounds_toArray, List.set_cons_zero, List.set_cons_succ, List.getElem_toArray, List.getElem_cons_zero, List.getElem_cons_succ]
    refine list_val (.int .i64 n) (by kernel_rfl) (by kernel_rfl) ?_
    simp only [Act.put, List.setIfInBounds_toArray, List.set_cons_zero, List.set_cons_succ, List.getElem_toArray, List.getElem_cons_zero, List.getElem_cons_succ]
    refine list_val (.bool true) (by kernel_rfl) (by go_simp) ?_
    simp only [Act.put, List.setIfInBounds_toArray, List.set_cons_zero, List.set_cons_succ, List.getElem_toArray, List.getElem_cons_zero, List.getElem_cons_succ]
    refine list_val (.bool true) (by kernel_rfl) (by kernel_rfl) ?_
    simp only [Act.put, List.setIfInBounds_toArray, List.set_cons_zero, List.set_cons_succ, List.getElem_toArray, List.getElem_cons_zero, List.getElem_cons_succ]
    refine wpList_nil ?_
    replace hB := hide hB
    go_upto_region 2 with fail
    replace hB := unhide hB
    refine wp_region_lit ?_
    refine list_val (.agg ZD) (by kernel_rfl) (by kernel_rfl) ?_
    simp only [Act.put, List.setIfInBounds_toArray, List.set_cons_zero, List.set_cons_succ, List.getElem_toArray, List.getElem_cons_zero, List.getElem_cons_succ]
    refine list_store 31 (.tmp 2) (.tmp 10) (w.heap.size) (ZD) 31 (ZD) (by kernel_rfl) rfl (by kernel_rfl) (by kernel_rfl) (hB.get 0 (x := ⟨w.heap.size, ZD, 31⟩) rfl) (by rw [Try.infoRD]; rfl) rfl (dkv_one ..) ?_
    replace hB := hB.set 0 (x := ⟨w.heap.size, ZD, 31⟩) rfl (ZD)
    simp only [List.set_cons_zero, List.set_cons_succ] at hB
    generalize World.setRow _ _ _ = u1 at *
    replace hB : Bl w [⟨w.heap.size, ZD, 31⟩] u1 := hB
    simp only [Act.put, List.setIfInBounds_toArray, List.set_cons_zero, List.set_cons_succ, List.getElem_toArray, List.getElem_cons_zero, List.getElem_cons_succ]
    (refine wpList_step fun K hK => ?_; replace hK := hide hK; go_simp; refine unhide hK _ _ ?_; clear hK K)
    refine wpList_nil ?_
    replace hB := hide hB
    go_wp2_with fail
    replace hB := unhide hB
    rw [unhide hT]
    exact bodyPost_ret (v := .tuple #[.agg (ZD), .int .i64 2]) (results_cell_tmp Try.results11 _ _ (w.heap.size) 31 (ZD) (0, 0) _ rfl (.int .i64 2) rfl (hB.get 0 (x := ⟨w.heap.size, ZD, 31⟩) rfl) Try.underlying31 rfl (by rw [Try.infoRD]; rfl)) rfl (by unfold Rnw; rw [if_neg (by omega)]; exact ⟨rfl, hB.gr⟩)
  refine wp_region_lit ?_
  refine list_val (.int .i64 n) (by kernel_rfl) (by kernel_rfl) ?_
  simp only [Act.put, List.setIfInBounds_toArray, List.set_cons_zero, List.set_cons_succ, List.getElem_toArray, List.getElem_cons_zero, List.getElem_cons_succ]
  refine list_val (.bool false) (by kernel_rfl) (by go_simp) ?_
  simp only [Act.put, List.setIfInBounds_toArray, List.set_cons_zero, List.set_cons_succ, List.getElem_toArray, List.getElem_cons_zero, List.getElem_cons_succ]
  refine list_val (.bool false) (by kernel_rfl) (by kernel_rfl) ?_
  simp only [Act.put, List.setIfInBounds_toArray, List.set_cons_zero, List.set_cons_succ, List.getElem_toArray, List.getElem_cons_zero, List.getElem_cons_succ]
  refine list_val (.int .i64 n) (by kernel_rfl) (by kernel_rfl) ?_
  simp only [Act.put, List.setIfInBounds_toArray, List.set_cons_zero, List.set_cons_succ, List.getElem_toArray, List.getElem_cons_zero, List.getElem_cons_succ]
  refine list_val (.bool false) (by kernel_rfl) (by go_simp) ?_
  simp only [Act.put, List.setIfInBounds_toArray, List.set_cons_zero, List.set_cons_succ, List.getElem_toArray, List.getElem_cons_zero, List.getElem_cons_succ]
  refine list_val (.bool false) (by kernel_rfl) (by kernel_rfl) ?_
  simp only [Act.put, List.setIfInBounds_toArray, List.set_cons_zero, List.set_cons_succ, List.getElem_toArray, List.getElem_cons_zero, List.getElem_cons_succ]
  refine wpList_nil ?_
  obtain ⟨k, rfl⟩ := Int.eq_ofNat_of_zero_le (show 0 ≤ n by omega)
  replace hB := hide hB
  go_upto_region 3 with fail
  replace hB := unhide hB
  refine wp_region_lit ?_
  refine list_val (.int .i64 (k : Int)) (by kernel_rfl) (by kernel_rfl) ?_
  simp only [Act.put, List.setIfInBounds_toArray, List.set_cons_zero, List.set_cons_succ, List.getElem_toArray, List.getElem_cons_zero, List.getElem_cons_succ]
  refine make_blocks u rfl (.tmp 11) (.tmp 11) rfl k rfl rfl (by omega) ?_
  simp only [Act.put, List.setIfInBounds_toArray, List.set_cons_zero, List.set_cons_succ, List.getElem_toArray, List.getElem_cons_zero, List.getElem_cons_succ]
  replace hB := hB.new (kc (List.replicate (k * 64) 0)) 39
  simp only [List.nil_append, List.cons_append] at hB
  generalize World.alloc _ _ = u1 at *
  generalize u.heap.size = g5 at *
  refine list_val (.agg (dkv (some ⟨g5, 0, none⟩) k k none 0 0 false (-1) 0)) (by kernel_rfl) (by kernel_rfl) ?_
  simp only [Act.put, List.setIfInBounds_toArray, List.set_cons_zero, List.set_cons_succ, List.getElem_toArray, List.getElem_cons_zero, List.getElem_cons_succ]
  refine list_store 31 (.tmp 2) (.tmp 13) (w.heap.size) (dkv (some ⟨g5, 0, none⟩) k k none 0 0 false (-1) 0) 31 (ZD) (by kernel_rfl) rfl (by kernel_rfl) (by kernel_rfl) (hB.get 0 (x := ⟨w.heap.size, ZD, 31⟩) rfl) (by rw [Try.infoRD]; rfl) rfl (dkv_one ..) ?_
  replace hB := hB.set 0 (x := ⟨w.heap.size, ZD, 31⟩) rfl (dkv (some ⟨g5, 0, none⟩) k k none 0 0 false (-1) 0)
  simp only [List.set_cons_zero, List.set_cons_succ] at hB
  generalize World.setRow _ _ _ = u2 at *
  replace hB : Bl w [⟨w.heap.size, dkv (some ⟨g5, 0, none⟩) k k none 0 0 false (-1) 0, 31⟩, ⟨g5, kc (List.replicate (k * 64) 0), 39⟩] u2 := hB
  simp only [Act.put, List.setIfInBounds_toArray, List.set_cons_zero, List.set_cons_succ, List.getElem_toArray, List.getElem_cons_zero, List.getElem_cons_succ]
  (refine wpList_step fun K hK => ?_; replace hK := hide hK; go_simp; refine unhide hK _ _ ?_; clear hK K)
  refine wpList_nil ?_
  have hL := range_rep k (hB.get 1 (x := ⟨g5, kc (List.replicate (k * 64) 0), 39⟩) rfl)
  replace hB := hide hB
  go_wp2_with fail
  replace hB := unhide hB
  rw [unhide hT]
  exact bodyPost_ret (v := .tuple #[.agg (dkv (some ⟨g5, 0, none⟩) k k none 0 0 false (-1) 0), .int .i64 0]) (results_cell_tmp Try.results11 _ _ (w.heap.size) 31 (dkv (some ⟨g5, 0, none⟩) k k none 0 0 false (-1) 0) (0, 0) _ rfl (.int .i64 0) rfl (hB.get 0 (x := ⟨w.heap.size, dkv (some ⟨g5, 0, none⟩) k k none 0 0 false (-1) 0, 31⟩) rfl) Try.underlying31 rfl (by rw [Try.infoRD]; rfl)) rfl (by
    unfold Rnw
    rw [if_pos (by omega)]
    refine ⟨some ⟨g5, 0, none⟩, k, none, 0, ?_, ⟨?_, ?_⟩, Fr2.new none (hB.own 1 (x := ⟨g5, kc (List.replicate (k * 64) 0), 39⟩) rfl), Fr2.refl _ _, hB.gr⟩
    · show _ = Ending.returned (.tuple #[.agg (dkv (some ⟨g5, 0, none⟩) (List.replicate k ZB).length k none 0 0 false (-1) 0), .int .i64 0])
      rw [List.length_replicate]
    · show Ls 64 _ (some ⟨g5, 0, none⟩) (List.replicate k ZB).length k ((List.replicate k ZB).map bv)
      rw [List.length_replicate]
      rcases hL with h | h
      · exact h
      · omega
    · exact ⟨rfl, (fun r hr => by cases hr), .inl rfl, Nat.le_refl _, by omega, (fun p e => by cases e)⟩)
end Go.Proofs.Ythgchjdjacbcgaa
