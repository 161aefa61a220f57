/-
  The reference: all, live, Crash.
-/
import Derived.Test.YthgchjdjacbcgaaDkE
import Derived.Test.YthgchjdjacbcgaaUntil
namespace Go.Proofs.Ythgchjdjacbcgaa
open Go.RowKit
set_option maxRecDepth 100000
set_option linter.unusedSimpArgs false
set_option linter.unusedVariables false
theorem Try.infoWz : (Try.prog.info? 73).map (fun i => (i.zero, i.size, i.bytes)) = some (some (.agg (wv (0, ZB)).toArray), 65, 72) := by kernel_rfl
theorem Try.infoKz : (Try.prog.info? 4).map (fun i => (i.zero, i.size, i.bytes)) = some (some (.bool false), 1, 1) := by kernel_rfl
theorem lt_b : Lt 28 39 64 64 := by
  obtain ⟨i, h1, h2, h3, h4⟩ := info_parts Try.infoBz
  exact ⟨Try.underlying28, ⟨i, _, h1, h2, h3, h4, rfl⟩, by decide, by decide⟩
theorem lt_w : Lt 29 73 65 72 := by
  obtain ⟨i, h1, h2, h3, h4⟩ := info_parts Try.infoWz
  exact ⟨Try.underlying29, ⟨i, _, h1, h2, h3, h4, rfl⟩, by decide, by decide⟩
theorem lt_k : Lt 35 4 1 1 := by
  obtain ⟨i, h1, h2, h3, h4⟩ := info_parts Try.infoKz
  exact ⟨Try.underlying35, ⟨i, _, h1, h2, h3, h4, rfl⟩, by decide, by decide⟩
/-- bools are made -/
theorem make_bools (w : World) {ops : Array Oper} {rest : List Oper} {o : Oper} {a : Act} {Q : Exit → Act → World → Prop} (hgd : o.guard = none) (l c : Operand) (hop : o.op = Op.makeSlice 35 l c) (n m : Nat) (hl : a.eval l = .int .i64 n) (hc : a.eval c = .int .i64 m) (hnm : n ≤ m) (hn : m ≤ 281474976710656)
    (h : wpList Try.prog ops Q rest (a.put o.dst (.slice (some ⟨w.heap.size, 0, none⟩) n m)) (w.alloc (.cells (bc (List.replicate m false)) 4 (0, 0)))) : wpList Try.prog ops Q (o :: rest) a w := by
  obtain ⟨i, h2, h3, h4, h5⟩ := info_parts Try.infoKz
  have hrun := run_make (P := Try.prog) w 35 4 i (.bool false) Try.underlying35 h2 h3 .i64 .i64 (n : Int) (m : Int) (by omega) (by omega) (by rw [h5]; omega) (by omega)
  rw [h4] at hrun
  have e : madeCells (Value.bool false).cells m = bc (List.replicate m false) := by
    apply Array.ext
    · simp [size_madeCells, bc]
    · intro i h1 h2
      have : i % 1 = 0 := Nat.mod_one i
      simp [madeCells, Value.cells, this, bc]
  simp only [Int.toNat_natCast, Nat.mul_one, e] at hrun
  rw [wpList, if_pos (by simp [Region.wanted, hgd])]
  refine Or.inl ?_
  unfold Oper.wp
  simp [execOp, hop, hl, hc, hrun, Result.andThen]
  exact h
theorem Bl.grownR {w v v' : World} {L : List Blk} (h : Bl w L v) {k : Nat} {e : TypeId} {b : Nat} {x : Value} {R : List (List Value)} (ho : Or_ k e b v x R) (hb : w.heap.size ≤ b) (g : v.grownBy v' x.ownBlock) (ht : ∀ y ∈ L, y.t ≠ e) : Bl w L v' := by
  refine ⟨grown_owned ho.2 hb h.gr g, fun y hy => ⟨?_, (h.at_ y hy).2⟩, h.ne⟩
  have h1 := (h.at_ y hy).1
  rw [g.block y.g (lt_of_block h1) ?_]
  · exact h1
  · intro e2
    rcases ho.2.2 with ⟨rfl, _⟩ | ⟨p, cap, cur, rfl, _, h4, _⟩
    · simp [Value.ownBlock] at e2
    · have e3 : y.g = p := by simpa [Value.ownBlock] using e2
      rw [e3, h4] at h1
      have := Option.some.inj h1
      unfold Blk.obj at this
      injection this with _ h6 _
      exact ht y hy h6.symm
theorem Bl.apart {w v : World} {L : List Blk} (h : Bl w L v) {g : Nat} {c : Array Value} {t : TypeId} (hg : v.heap[g]? = some (.cells c t (0, 0))) (ht : ∀ y ∈ L, y.t ≠ t) : ∀ y ∈ L, y.g ≠ g := by
  intro y hy e
  have h1 := (h.at_ y hy).1
  rw [e, hg] at h1
  have := Option.some.inj h1
  unfold Blk.obj at this
  injection this with _ h6 _
  exact ht y hy h6.symm
/-- the first j of n are true -/
def flt (j n : Nat) : List Bool := List.replicate j true ++ List.replicate (n - j) false
theorem flt_len (j n : Nat) (h : j ≤ n) : (flt j n).length = n := by unfold flt; simp; omega
theorem flt_set (j n : Nat) (h : j < n) : (flt j n).set j true = flt (j + 1) n := by
  unfold flt
  rw [List.set_append_right _ _ (by simp), List.length_replicate, Nat.sub_self, show n - j = (n - (j + 1)) + 1 from by omega, List.replicate_succ, List.set_cons_zero, List.replicate_succ', List.append_assoc]
  rfl
theorem flt_all (n : Nat) : flt n n = List.replicate n true := by unfold flt; simp
/-- what all answers -/
def Ral (n : Nat) (w : World) (r : Ending) (w' : World) : Prop := ∃ g, r = .returned (.slice (some ⟨g, 0, none⟩) n n) ∧ w.heap.size ≤ g ∧ w'.heap[g]? = some (.cells (bc (List.replicate n true)) 4 (0, 0)) ∧ Gr w w'
set_option maxHeartbeats 4000000 in
theorem rall_ok (S : List (List Int)) (P : List (Nat × List Int)) (dd : Bool) (lf : Int) (os m : Nat) (hD : (Dk.mk S P dd lf os).Ok m) (hm : m ≤ 1000001) (sa : Option Addr) (sc : Nat) (pa : Option Addr) (pc : Nat) (w : World) :
    Calls Try.prog 49 #[.agg ((Dk.mk S P dd lf os).v sa sc pa pc)] w (Ral P.length w) := by
  obtain ⟨T, hT⟩ : ∃ T, T = Ral P.length w := ⟨_, rfl⟩
  rw [← hT]
  replace hT := hide hT

  obtain ⟨sn, hsn⟩ : ∃ n, n = S.length := ⟨_, rfl⟩
  obtain ⟨pn, hpn⟩ : ∃ n, n = P.length := ⟨_, rfl⟩
  have hs512 : sn ≤ 512 := by rw [hsn]; exact hD.hi1
  have hpm : pn ≤ m := by rw [hpn]; exact hD.num
  have hom : os ≤ m := hD.ops
  have hl1 : -1 ≤ lf := hD.lo
  have hl2 : lf < 9223372036854775808 := hD.hi
  obtain ⟨SD, hSD⟩ : ∃ X, X = dkv sa sn sc pa pn pc dd lf os := ⟨_, rfl⟩
  have e0 : (Dk.mk S P dd lf os).v sa sc pa pc = SD := by rw [hSD, hsn, hpn]; rfl
  rw [e0]
  clear e0
  replace hSD := hide hSD; replace hsn := hide hsn; replace hpn := hide hpn; replace hD := hide hD
  go_enter Try.func49, Try.ntmps49
  go_upto_region 1 with fail
  have hB := ((Bl.nil w).new SD 31)
  simp only [size_alloc, List.nil_append, List.cons_append] at hB
  generalize World.alloc _ _ = u at *
  rw [unhide hSD] at hB
  replace hB : Bl w [⟨w.heap.size, dkv sa sn sc pa pn pc dd lf os, 31⟩] u := hB
  refine wp_region_lit ?_
  refine list_val (.pointer (some ⟨w.heap.size, 1, none⟩)) (by kernel_rfl) (by kernel_rfl) ?_
  simp only [Act.put, List.setIfInBounds_toArray, List.set_cons_zero, List.set_cons_succ, List.getElem_toArray, List.getElem_cons_zero, List.getElem_cons_succ]
  refine list_val (.slice pa pn pc) (by kernel_rfl) (exec_sw _ (.tmp 5) rfl (w.heap.size) 1 (by kernel_rfl) pa pn pc (cell_of (hB.get 0 (x := ⟨w.heap.size, dkv sa sn sc pa pn pc dd lf os, 31⟩) rfl) (i := 1) rfl)) ?_
  simp only [Act.put, List.setIfInBounds_toArray, List.set_cons_zero, List.set_cons_succ, List.getElem_toArray, List.getElem_cons_zero, List.getElem_cons_succ]
  refine list_val (.int .i64 pn) (by kernel_rfl) (by kernel_rfl) ?_
  simp only [Act.put, List.setIfInBounds_toArray, List.set_cons_zero, List.set_cons_succ, List.getElem_toArray, List.getElem_cons_zero, List.getElem_cons_succ]
  refine make_bools u rfl (.tmp 7) (.tmp 7) rfl pn pn rfl rfl (Nat.le_refl _) (by omega) ?_
  simp only [Act.put, List.setIfInBounds_toArray, List.set_cons_zero, List.set_cons_succ, List.getElem_toArray, List.getElem_cons_zero, List.getElem_cons_succ]
  replace hB := hB.new (bc (List.replicate pn false)) 4
  simp only [List.nil_append, List.cons_append] at hB
  generalize World.alloc _ _ = u1 at *
  generalize u.heap.size = gk at *
  (refine wpList_step fun K hK => ?_; replace hK := hide hK; go_simp; refine unhide hK _ _ ?_; clear hK K)
  refine wpList_nil ?_
  have e0 : flt 0 pn = List.replicate pn false := by unfold flt; simp
  rw [← e0] at hB
  clear e0
  replace hB := hide hB
  go_wp2_with fail
  go_loopw [11] (fun i wr => ∃ j : Nat, j ≤ pn ∧ i = .int .i64 j ∧ Hid (Bl w [⟨w.heap.size, dkv sa sn sc pa pn pc dd lf os, 31⟩, ⟨gk, bc (flt j pn), 4⟩] wr)) (fun i _ => pn - (intOf i).toNat)
  case atStart => exact ⟨0, by omega, rfl, hB⟩
  case round =>
  clear hB
  obtain ⟨j, hj, rfl, hB⟩ := hrel
  by_cases hjl : j < pn
  · have jI : (j : Int) < (pn : Int) := by omega
    have c0 := cell_of (i := j) ((unhide hB).get 1 (x := ⟨gk, bc (flt j pn), 4⟩) rfl) (Array.getElem?_eq_getElem (by dsimp only; rw [bc_size, flt_len _ _ hj]; exact hjl))
    have fz := froz_of (i := j) ((unhide hB).get 1 (x := ⟨gk, bc (flt j pn), 4⟩) rfl)
    have hB2 := (unhide hB).cell 1 (x := ⟨gk, bc (flt j pn), 4⟩) rfl j (.bool true)
    simp only [List.set_cons_zero, List.set_cons_succ, bc_set, flt_set j pn hjl] at hB2
    clear hB
    replace hB2 := hide hB2
    dsimp only at c0 fz
    generalize (bc (flt j pn))[j]'_ = z at c0
    go_wp2_with fail
    go_roundw
    case rel => exact ⟨j + 1, by omega, by go_num, hB2⟩
    case measure => simp [intOf]; omega
  have jI : ¬ (j : Int) < (pn : Int) := by omega
  have hP : Hid (Ral P.length w (.returned (.slice (some ⟨gk, 0, none⟩) pn pn)) wr) := by
    have e : j = pn := by omega
    have h := (unhide hB).get 1 (x := ⟨gk, bc (flt j pn), 4⟩) rfl
    dsimp only at h
    rw [e, flt_all] at h
    refine ⟨gk, by rw [unhide hpn], (unhide hB).own 1 (x := ⟨gk, bc (flt j pn), 4⟩) rfl, ?_, (unhide hB).gr⟩
    rw [← unhide hpn]
    exact h
  clear hB
  go_wp2_with fail
  rw [unhide hT]
  exact unhide hP
/-- what live answers -/
def Rlv (D : Dk) (w : World) (r : Ending) (w' : World) : Prop := ∃ sa sc, r = .returned (.agg (D.v sa sc none 0)) ∧ Rd w' sa sc none 0 D ∧ Fr2 w none sa ∧ Gr w w'
theorem bv_one' (b : List Int) : ∀ u ∈ bv b, u.oneCell' = true := by
  intro u hu
  obtain ⟨x, _, rfl⟩ := List.mem_map.1 hu
  rfl
theorem wv_one' (x : Nat × List Int) : ∀ u ∈ wv x, u.oneCell' = true := by
  intro u hu
  unfold wv at hu
  rcases List.mem_cons.1 hu with rfl | hu
  · rfl
  · exact bv_one' _ u hu
theorem bv_rows {S : List (List Int)} (h : ∀ b ∈ S, BB b) : ∀ r ∈ S.map bv, r.length = 64 := by
  intro r hr
  obtain ⟨b, hb, rfl⟩ := List.mem_map.1 hr
  rw [bv_len]
  exact (h b hb).1
theorem maps_one {S : List (List Int)} : ∀ r ∈ S.map bv, ∀ u ∈ r, u.oneCell' = true := by
  intro r hr
  obtain ⟨b, _, rfl⟩ := List.mem_map.1 hr
  exact bv_one' b
theorem mapw_one {P : List (Nat × List Int)} : ∀ r ∈ P.map wv, ∀ u ∈ r, u.oneCell' = true := by
  intro r hr
  obtain ⟨b, _, rfl⟩ := List.mem_map.1 hr
  exact wv_one' b
set_option maxHeartbeats 4000000 in
theorem rlive_ok (S : List (List Int)) (P : List (Nat × List Int)) (dd : Bool) (lf : Int) (os m : Nat) (hD : (Dk.mk S P dd lf os).Ok m) (hm : m ≤ 1000001) (sa : Option Addr) (sc : Nat) (pa : Option Addr) (pc : Nat) (keep : List Bool) (ka : Option Addr) (kn kp : Nat) (w : World) (hR : Rd w sa sc pa pc (Dk.mk S P dd lf os)) (hK : Kp w ka kn kp keep) :
    Calls Try.prog 48 #[.agg ((Dk.mk S P dd lf os).v sa sc pa pc), .slice ka kn kp] w (Rlv ((Dk.mk S P dd lf os).live keep) w) := by
  obtain ⟨T, hT⟩ : ∃ T, T = Rlv ((Dk.mk S P dd lf os).live keep) w := ⟨_, rfl⟩
  rw [← hT]
  replace hT := hide hT
  replace hR := hide hR
  obtain ⟨sn, hsn⟩ : ∃ n, n = S.length := ⟨_, rfl⟩
  obtain ⟨pn, hpn⟩ : ∃ n, n = P.length := ⟨_, rfl⟩
  have hs512 : sn ≤ 512 := by rw [hsn]; exact hD.hi1
  have hpm : pn ≤ m := by rw [hpn]; exact hD.num
  have hom : os ≤ m := hD.ops
  have hl1 : -1 ≤ lf := hD.lo
  have hl2 : lf < 9223372036854775808 := hD.hi
  obtain ⟨SD, hSD⟩ : ∃ X, X = dkv sa sn sc pa pn pc dd lf os := ⟨_, rfl⟩
  have e0 : (Dk.mk S P dd lf os).v sa sc pa pc = SD := by rw [hSD, hsn, hpn]; rfl
  rw [e0]
  clear e0
  replace hSD := hide hSD; replace hsn := hide hsn; replace hpn := hide hpn; replace hD := hide hD
  have hs1 : 1 ≤ sn := by rw [unhide hsn]; exact (unhide hD).lo1
  replace hK := hide hK
  go_enter Try.func48, Try.ntmps48
  go_upto_region 1 with fail
  have hB := (((Bl.nil w).new SD 31).new #[.slice none 0 0, .slice none 0 0, .bool false, .int .i64 0, .int .i64 0] 31)
  simp only [size_alloc, List.nil_append, List.cons_append] at hB
  generalize World.alloc _ _ = u at *
  rw [unhide hSD] at hB
  replace hB : Bl w [⟨w.heap.size, dkv sa sn sc pa pn pc dd lf os, 31⟩, ⟨w.heap.size + 1, dkv none 0 0 none 0 0 false 0 0, 31⟩] u := hB
  refine wp_region_lit ?_
  refine list_valw (.slice (some ⟨u.heap.size, 0, none⟩) 0 0) (u.alloc (.cells (kc []) 39 (0, 0))) (by kernel_rfl) (by kernel_rfl) ?_
  have ob0 : Or_ 64 39 u.heap.size (u.alloc (.cells (kc []) 39 (0, 0))) (.slice (some ⟨u.heap.size, 0, none⟩) 0 0) [] := ⟨(fun r hr => by cases hr), rfl, .inr ⟨u.heap.size, 0, kc [], rfl, Nat.le_refl _, blk_new _ _, Nat.le_refl _, by unfold maxLen; omega, rfl, rfl⟩⟩
  have huz := hB.gr.size
  have hGv := (Gr.refl u).alloc (.cells (kc []) 39 (0, 0))
  replace hB := hB.more hGv
  have hvz := hGv.size
  clear hGv
  generalize World.alloc _ _ = u1 at *
  generalize u.heap.size = uz at *
  simp only [Act.put, List.setIfInBounds_toArray, List.set_cons_zero, List.set_cons_succ, List.getElem_toArray, List.getElem_cons_zero, List.getElem_cons_succ]
  refine list_val (.pointer (some ⟨w.heap.size, 0, none⟩)) (by kernel_rfl) (by kernel_rfl) ?_
  simp only [Act.put, List.setIfInBounds_toArray, List.set_cons_zero, List.set_cons_succ, List.getElem_toArray, List.getElem_cons_zero, List.getElem_cons_succ]
  refine list_val (.slice sa sn sc) (by kernel_rfl) (exec_sb _ (.tmp 9) rfl (w.heap.size) 0 (by kernel_rfl) sa sn sc (cell_of (hB.get 0 (x := ⟨w.heap.size, dkv sa sn sc pa pn pc dd lf os, 31⟩) rfl) (i := 0) rfl)) ?_
  simp only [Act.put, List.setIfInBounds_toArray, List.set_cons_zero, List.set_cons_succ, List.getElem_toArray, List.getElem_cons_zero, List.getElem_cons_succ]
  refine wpList_step fun K_ hQ => ?_
  rw [if_pos (by kernel_rfl)]
  refine app_rows lt_b (.tmp 8) (.tmp 10) rfl uz _ [] rfl ob0 sa sn sc (S.map bv) rfl (by have h := ((unhide hR).gr hB.gr).sf; rw [unhide hsn]; exact h) maps_one (by simp only [List.length_nil, Nat.zero_add]; omega) hvz ?_
  intro v2_ u2 ob2 hgr
  replace hB := hB.grownR ob0 huz hgr (by intro y hy; simp only [List.mem_cons, List.not_mem_nil, or_false] at hy; rcases hy with rfl | rfl <;> (show (31 : Nat) ≠ 39; decide))
  rw [List.nil_append] at ob2
  obtain ⟨gs, sc2, C, rfl, hgs, hgC, hsc, hscm, hCl, hCov⟩ := ob2.some (by intro e; have h9 : (S.map bv).length = 0 := (by rw [e]; rfl); rw [List.length_map] at h9; have := unhide hsn; omega)
  rw [List.length_map, ← unhide hsn] at hsc ⊢
  replace hB := hB.add ⟨gs, C.toArray, 39⟩ hgC (Nat.le_trans huz hgs) (hB.apart hgC (by intro y hy; simp only [List.mem_cons, List.not_mem_nil, or_false] at hy; rcases hy with rfl | rfl <;> (show (31 : Nat) ≠ 39; decide)))
  simp only [List.cons_append, List.nil_append] at hB
  clear ob0 ob2 hgr hgC hgs huz hvz
  refine hQ _ _ ?_
  clear hQ K_
  simp only [Act.put, List.setIfInBounds_toArray, List.set_cons_zero, List.set_cons_succ, List.getElem_toArray, List.getElem_cons_zero, List.getElem_cons_succ]
  (refine wpList_step fun K hK => ?_; replace hK := hide hK; go_simp; refine unhide hK _ _ ?_; clear hK K)
  refine wpList_nil ?_
  replace hB := hide hB
  go_upto_region 2 with fail
  replace hB := unhide hB
  refine wp_region_lit ?_
  refine list_val (.pointer (some ⟨w.heap.size, 1, none⟩)) (by kernel_rfl) (by kernel_rfl) ?_
  simp only [Act.put, List.setIfInBounds_toArray, List.set_cons_zero, List.set_cons_succ, List.getElem_toArray, List.getElem_cons_zero, List.getElem_cons_succ]
  refine list_val (.slice pa pn pc) (by kernel_rfl) (exec_sw _ (.tmp 12) rfl (w.heap.size) 1 (by kernel_rfl) pa pn pc (cell_of (hB.get 0 (x := ⟨w.heap.size, dkv sa sn sc pa pn pc dd lf os, 31⟩) rfl) (i := 1) rfl)) ?_
  simp only [Act.put, List.setIfInBounds_toArray, List.set_cons_zero, List.set_cons_succ, List.getElem_toArray, List.getElem_cons_zero, List.getElem_cons_succ]
  refine list_val (.int .i64 pn) (by kernel_rfl) (by kernel_rfl) ?_
  simp only [Act.put, List.setIfInBounds_toArray, List.set_cons_zero, List.set_cons_succ, List.getElem_toArray, List.getElem_cons_zero, List.getElem_cons_succ]
  refine list_val (.int .i64 0) (by kernel_rfl) (by kernel_rfl) ?_
  simp only [Act.put, List.setIfInBounds_toArray, List.set_cons_zero, List.set_cons_succ, List.getElem_toArray, List.getElem_cons_zero, List.getElem_cons_succ]
  refine wpList_nil ?_
  have hscx : sn * 64 ≤ sc2 * 64 := Nat.mul_le_mul_right _ hsc
  obtain ⟨cz, hcz⟩ : ∃ z, z = sc2 * 64 := ⟨_, rfl⟩
  rw [← hcz] at hCl hscx
  replace hcz := hide hcz
  replace hCov : Hid (Cov C ((liv S P keep 0).map bv).flatten) := hCov
  replace hB := hide hB
  go_wp2_with fail
  go_loopw [15] (fun i wr => ∃ j : Nat, ∃ C : List Value, j ≤ pn ∧ i = .int .i64 j ∧ C.length = cz ∧ Hid (Cov C ((liv S P keep j).map bv).flatten) ∧ Hid (Bl w [⟨w.heap.size, dkv sa sn sc pa pn pc dd lf os, 31⟩, ⟨w.heap.size + 1, dkv none 0 0 none 0 0 false 0 0, 31⟩, ⟨gs, C.toArray, 39⟩] wr)) (fun i _ => pn - (intOf i).toNat)
  case atStart => exact ⟨0, C, by omega, rfl, hCl, hCov, hB⟩
  case round =>
  clear hB hCov hCl C
  obtain ⟨j, C, hj, rfl, hCl, hCov, hB⟩ := hrel
  by_cases hjl : j < pn
  · skip
    obtain ⟨p2, o2, rfl, hrw⟩ := (unhide hR).pn.at_ j (by show j < P.length; rw [← unhide hpn]; exact hjl)
    rw [getD_map wv P j (0, []) [] (by rw [← unhide hpn]; exact hjl)] at hrw
    have hx := (unhide hD).pnd _ (mem_of_getD (d := (0, [])) (by show j < P.length; rw [← unhide hpn]; exact hjl))
    have hnx : Hid (liv S P keep (j + 1) = if keep.getD j false then (liv S P keep j).set (P.getD j (0, [])).1 (P.getD j (0, [])).2 else liv S P keep j) := rfl
    obtain ⟨⟨ai, ab⟩, hab⟩ : ∃ x, x = P.getD j (0, []) := ⟨_, rfl⟩
    rw [← hab] at hrw hx hnx
    have hal : ab.length = 64 := hx.2.1
    have hai : ai < sn := by rw [unhide hsn]; exact hx.1
    have hwl : (wv (ai, ab)).length = 65 := by rw [wv_len, hal]
    have hlb : Hid (∀ b ∈ liv S P keep j, BB b) := liv_bb (unhide hD).blk (fun x hx => ((unhide hD).pnd x hx).2) keep j (by rw [← unhide hpn]; exact hj)
    replace hab := hide hab; replace hx := hide hx; replace hrw := hide hrw
    have jI : (j : Int) < (pn : Int) := by omega
    go_upto_region 4 with fail
    replace hB := unhide hB
    refine wp_region_lit ?_
    refine list_val (.int .i64 j) (by kernel_rfl) (by kernel_rfl) ?_
    simp only [Act.put, List.setIfInBounds_toArray, List.set_cons_zero, List.set_cons_succ, List.getElem_toArray, List.getElem_cons_zero, List.getElem_cons_succ]
    refine list_val (.pointer (some ⟨p2, o2 + 65 * j, none⟩)) (by kernel_rfl) (exec_iw _ (.tmp 13) (.tmp 15) rfl p2 o2 pn pc j rfl rfl hjl) ?_
    simp only [Act.put, List.setIfInBounds_toArray, List.set_cons_zero, List.set_cons_succ, List.getElem_toArray, List.getElem_cons_zero, List.getElem_cons_succ]
    refine list_val (.agg ((wv (ai, ab)).toArray)) (by kernel_rfl) (exec_row _ 73 (.tmp 18) rfl p2 (o2 + 65 * j) (by kernel_rfl) (wv (ai, ab)) _ (range_gr (unhide hrw) hB.gr) Try.underlying73 rfl (by rw [Try.infoW, hwl])) ?_
    simp only [Act.put, List.setIfInBounds_toArray, List.set_cons_zero, List.set_cons_succ, List.getElem_toArray, List.getElem_cons_zero, List.getElem_cons_succ]
    refine list_valw (.pointer (some ⟨wr.heap.size, 0, none⟩)) (wr.alloc (.cells ((wv (0, ZB)).toArray) 73 (0, 0))) (by kernel_rfl) (by kernel_rfl) ?_
    replace hB := hB.new ((wv (0, ZB)).toArray) 73
    simp only [List.nil_append, List.cons_append] at hB
    generalize World.alloc _ _ = v1 at *
    generalize wr.heap.size = g8 at *
    replace hB : Bl w [⟨w.heap.size, dkv sa sn sc (some ⟨p2, o2, none⟩) pn pc dd lf os, 31⟩, ⟨w.heap.size + 1, dkv none 0 0 none 0 0 false 0 0, 31⟩, ⟨gs, C.toArray, 39⟩, ⟨g8, (wv (0, ZB)).toArray, 73⟩] v1 := hB
    simp only [Act.put, List.setIfInBounds_toArray, List.set_cons_zero, List.set_cons_succ, List.getElem_toArray, List.getElem_cons_zero, List.getElem_cons_succ]
    (refine wpList_step fun K hK => ?_; replace hK := hide hK; go_simp; refine unhide hK _ _ ?_; clear hK K)
    refine list_store 73 (.tmp 7) (.tmp 19) g8 ((wv (ai, ab)).toArray) 73 ((wv (0, ZB)).toArray) (by kernel_rfl) rfl (by kernel_rfl) (by kernel_rfl) (hB.get 3 (x := ⟨g8, (wv (0, ZB)).toArray, 73⟩) rfl) (by rw [Try.infoW, List.size_toArray, hwl]) ((show ((wv (0, ZB)).toArray).size = 65 from rfl).trans (by rw [List.size_toArray, hwl])) (wv_one _) ?_
    replace hB := hB.set 3 (x := ⟨g8, (wv (0, ZB)).toArray, 73⟩) rfl ((wv (ai, ab)).toArray)
    simp only [List.set_cons_zero, List.set_cons_succ] at hB
    generalize World.setRow _ _ _ = v2 at *
    replace hB : Bl w [⟨w.heap.size, dkv sa sn sc (some ⟨p2, o2, none⟩) pn pc dd lf os, 31⟩, ⟨w.heap.size + 1, dkv none 0 0 none 0 0 false 0 0, 31⟩, ⟨gs, C.toArray, 39⟩, ⟨g8, (wv (ai, ab)).toArray, 73⟩] v2 := hB
    simp only [Act.put, List.setIfInBounds_toArray, List.set_cons_zero, List.set_cons_succ, List.getElem_toArray, List.getElem_cons_zero, List.getElem_cons_succ]
    refine wpList_nil ?_
    replace hB := hide hB
    go_upto_region 5 with fail
    replace hB := unhide hB
    by_cases hjk : j < kn
    · skip
      have kI : (j : Int) < (kn : Int) := by omega
      obtain ⟨p3, o3, rfl, hkc⟩ := (unhide hK).at_ j hjk
      obtain ⟨kb, hkb⟩ : ∃ x, x = keep.getD j false := ⟨_, rfl⟩
      replace hkc := hide hkc; replace hkb := hide hkb
      cases kb
      case false =>
        refine wp_region_lit ?_
        refine list_val (.int .i64 j) (by kernel_rfl) (by kernel_rfl) ?_
        simp only [Act.put, List.setIfInBounds_toArray, List.set_cons_zero, List.set_cons_succ, List.getElem_toArray, List.getElem_cons_zero, List.getElem_cons_succ]
        refine list_val (.slice (some ⟨p3, o3, none⟩) kn kp) (by kernel_rfl) (by kernel_rfl) ?_
        simp only [Act.put, List.setIfInBounds_toArray, List.set_cons_zero, List.set_cons_succ, List.getElem_toArray, List.getElem_cons_zero, List.getElem_cons_succ]
        refine list_val (.int .i64 kn) (by kernel_rfl) (by kernel_rfl) ?_
        simp only [Act.put, List.setIfInBounds_toArray, List.set_cons_zero, List.set_cons_succ, List.getElem_toArray, List.getElem_cons_zero, List.getElem_cons_succ]
        refine list_val (.bool true) (by kernel_rfl) (by go_simp) ?_
        simp only [Act.put, List.setIfInBounds_toArray, List.set_cons_zero, List.set_cons_succ, List.getElem_toArray, List.getElem_cons_zero, List.getElem_cons_succ]
        refine list_val (.bool true) (by kernel_rfl) (by kernel_rfl) ?_
        simp only [Act.put, List.setIfInBounds_toArray, List.set_cons_zero, List.set_cons_succ, List.getElem_toArray, List.getElem_cons_zero, List.getElem_cons_succ]
        refine list_val (.slice (some ⟨p3, o3, none⟩) kn kp) (by kernel_rfl) (by kernel_rfl) ?_
        simp only [Act.put, List.setIfInBounds_toArray, List.set_cons_zero, List.set_cons_succ, List.getElem_toArray, List.getElem_cons_zero, List.getElem_cons_succ]
        refine list_val (.int .i64 j) (by kernel_rfl) (by kernel_rfl) ?_
        simp only [Act.put, List.setIfInBounds_toArray, List.set_cons_zero, List.set_cons_succ, List.getElem_toArray, List.getElem_cons_zero, List.getElem_cons_succ]
        refine list_val (.pointer (some ⟨p3, o3 + j, none⟩)) (by kernel_rfl) (exec_ik _ (.tmp 25) (.tmp 26) rfl p3 o3 kn kp j rfl rfl hjk) ?_
        simp only [Act.put, List.setIfInBounds_toArray, List.set_cons_zero, List.set_cons_succ, List.getElem_toArray, List.getElem_cons_zero, List.getElem_cons_succ]
        refine list_val (.bool false) (by kernel_rfl) (exec_bool _ (.tmp 27) rfl p3 (o3 + j) (by kernel_rfl) false (hB.gr.cell (by have h := unhide hkc; rw [← unhide hkb] at h; exact h))) ?_
        simp only [Act.put, List.setIfInBounds_toArray, List.set_cons_zero, List.set_cons_succ, List.getElem_toArray, List.getElem_cons_zero, List.getElem_cons_succ]
        refine list_val (.bool false) (by kernel_rfl) (by kernel_rfl) ?_
        simp only [Act.put, List.setIfInBounds_toArray, List.set_cons_zero, List.set_cons_succ, List.getElem_toArray, List.getElem_cons_zero, List.getElem_cons_succ]
        refine wpList_nil ?_
        have hB3 : Hid (Bl w [⟨w.heap.size, dkv sa sn sc (some ⟨p2, o2, none⟩) pn pc dd lf os, 31⟩, ⟨w.heap.size + 1, dkv none 0 0 none 0 0 false 0 0, 31⟩, ⟨gs, C.toArray, 39⟩] _) := Bl.left (M := [⟨g8, (wv (ai, ab)).toArray, 73⟩]) hB
        clear hB
        go_wp2_with fail
        go_roundw
        case rel => exact ⟨j + 1, C, by omega, by go_num, hCl, (by show Cov C ((liv S P keep (j + 1)).map bv).flatten; rw [unhide hnx, ← unhide hkb]; exact unhide hCov), hB3⟩
        case measure => simp [intOf]; omega
      case true =>
        refine wp_region_lit ?_
        refine list_val (.int .i64 j) (by kernel_rfl) (by kernel_rfl) ?_
        simp only [Act.put, List.setIfInBounds_toArray, List.set_cons_zero, List.set_cons_succ, List.getElem_toArray, List.getElem_cons_zero, List.getElem_cons_succ]
        refine list_val (.slice (some ⟨p3, o3, none⟩) kn kp) (by kernel_rfl) (by kernel_rfl) ?_
        simp only [Act.put, List.setIfInBounds_toArray, List.set_cons_zero, List.set_cons_succ, List.getElem_toArray, List.getElem_cons_zero, List.getElem_cons_succ]
        refine list_val (.int .i64 kn) (by kernel_rfl) (by kernel_rfl) ?_
        simp only [Act.put, List.setIfInBounds_toArray, List.set_cons_zero, List.set_cons_succ, List.getElem_toArray, List.getElem_cons_zero, List.getElem_cons_succ]
        refine list_val (.bool true) (by kernel_rfl) (by go_simp) ?_
        simp only [Act.put, List.setIfInBounds_toArray, List.set_cons_zero, List.set_cons_succ, List.getElem_toArray, List.getElem_cons_zero, List.getElem_cons_succ]
        refine list_val (.bool true) (by kernel_rfl) (by kernel_rfl) ?_
        simp only [Act.put, List.setIfInBounds_toArray, List.set_cons_zero, List.set_cons_succ, List.getElem_toArray, List.getElem_cons_zero, List.getElem_cons_succ]
        refine list_val (.slice (some ⟨p3, o3, none⟩) kn kp) (by kernel_rfl) (by kernel_rfl) ?_
        simp only [Act.put, List.setIfInBounds_toArray, List.set_cons_zero, List.set_cons_succ, List.getElem_toArray, List.getElem_cons_zero, List.getElem_cons_succ]
        refine list_val (.int .i64 j) (by kernel_rfl) (by kernel_rfl) ?_
        simp only [Act.put, List.setIfInBounds_toArray, List.set_cons_zero, List.set_cons_succ, List.getElem_toArray, List.getElem_cons_zero, List.getElem_cons_succ]
        refine list_val (.pointer (some ⟨p3, o3 + j, none⟩)) (by kernel_rfl) (exec_ik _ (.tmp 25) (.tmp 26) rfl p3 o3 kn kp j rfl rfl hjk) ?_
        simp only [Act.put, List.setIfInBounds_toArray, List.set_cons_zero, List.set_cons_succ, List.getElem_toArray, List.getElem_cons_zero, List.getElem_cons_succ]
        refine list_val (.bool true) (by kernel_rfl) (exec_bool _ (.tmp 27) rfl p3 (o3 + j) (by kernel_rfl) true (hB.gr.cell (by have h := unhide hkc; rw [← unhide hkb] at h; exact h))) ?_
        simp only [Act.put, List.setIfInBounds_toArray, List.set_cons_zero, List.set_cons_succ, List.getElem_toArray, List.getElem_cons_zero, List.getElem_cons_succ]
        refine list_val (.bool true) (by kernel_rfl) (by kernel_rfl) ?_
        simp only [Act.put, List.setIfInBounds_toArray, List.set_cons_zero, List.set_cons_succ, List.getElem_toArray, List.getElem_cons_zero, List.getElem_cons_succ]
        refine wpList_nil ?_
        replace hB := hide hB
        go_upto_region 6 with fail
        replace hB := unhide hB
        refine wp_region_lit ?_
        refine list_val (.slice (some ⟨gs, 0, none⟩) sn sc2) (by kernel_rfl) (by kernel_rfl) ?_
        simp only [Act.put, List.setIfInBounds_toArray, List.set_cons_zero, List.set_cons_succ, List.getElem_toArray, List.getElem_cons_zero, List.getElem_cons_succ]
        refine list_val (.pointer (some ⟨g8, 0, none⟩)) (by kernel_rfl) (by kernel_rfl) ?_
        simp only [Act.put, List.setIfInBounds_toArray, List.set_cons_zero, List.set_cons_succ, List.getElem_toArray, List.getElem_cons_zero, List.getElem_cons_succ]
        refine list_val (.int .i64 (ai : Int)) (by kernel_rfl) (exec_i64 _ (.tmp 31) rfl g8 0 (by kernel_rfl) _ (cell_of (hB.get 3 (x := ⟨g8, (wv (ai, ab)).toArray, 73⟩) rfl) (i := 0) rfl)) ?_
        simp only [Act.put, List.setIfInBounds_toArray, List.set_cons_zero, List.set_cons_succ, List.getElem_toArray, List.getElem_cons_zero, List.getElem_cons_succ]
        refine list_val (.pointer (some ⟨g8, 1, none⟩)) (by kernel_rfl) (by kernel_rfl) ?_
        simp only [Act.put, List.setIfInBounds_toArray, List.set_cons_zero, List.set_cons_succ, List.getElem_toArray, List.getElem_cons_zero, List.getElem_cons_succ]
        refine list_val (.agg (kc ab)) (by kernel_rfl) (exec_row _ 39 (.tmp 33) rfl g8 1 (by kernel_rfl) (bv ab) _ (fun q_ v_ hq => cell_of (hB.get 3 (x := ⟨g8, (wv (ai, ab)).toArray, 73⟩) rfl) (by unfold wv; rw [List.getElem?_toArray, Nat.add_comm, List.getElem?_cons_succ]; exact hq)) Try.underlying39 rfl (by rw [Try.infoB, bv_len, hal])) ?_
        simp only [Act.put, List.setIfInBounds_toArray, List.set_cons_zero, List.set_cons_succ, List.getElem_toArray, List.getElem_cons_zero, List.getElem_cons_succ]
        refine list_val (.pointer (some ⟨gs, 0 + 64 * ai, none⟩)) (by kernel_rfl) (exec_ib _ (.tmp 30) (.tmp 32) rfl gs 0 sn sc2 ai rfl rfl hai) ?_
        simp only [Act.put, List.setIfInBounds_toArray, List.set_cons_zero, List.set_cons_succ, List.getElem_toArray, List.getElem_cons_zero, List.getElem_cons_succ]
        have hli : ai < (liv S P keep j).length := by rw [liv_len, ← unhide hsn]; exact hai
        have hC3 : Hid (Cov (sp C (64 * ai) (bv ab)) ((liv S P keep (j + 1)).map bv).flatten) := by
          show Cov _ ((liv S P keep (j + 1)).map bv).flatten
          rw [unhide hnx, ← unhide hkb]
          have h := cov_set 64 (by omega) C ((liv S P keep j).map bv) (bv_rows (unhide hlb)) ai (by rw [List.length_map]; exact hli) (bv ab) (by rw [bv_len, hal]) (by rw [List.length_map, liv_len, ← unhide hsn, hCl]; exact hscx) (unhide hCov)
          rw [← List.map_set] at h
          exact h
        have hgC := (hB.get 2 (x := ⟨gs, C.toArray, 39⟩) rfl)
        dsimp only at hgC
        refine wpList_step fun K_ hQ => ?_
        refine list_store_mid 39 (.tmp 35) (.tmp 34) gs (0 + 64 * ai) (kc ab) (by kernel_rfl) rfl (by kernel_rfl) (by kernel_rfl) (there_of hgC (by rw [kc_size, hal, hCl, Nat.zero_add]; omega)) (by rw [Try.infoB, kc_size, hal]) (kc_one _) ?_
        refine hQ _ _ ?_
        clear hQ K_
        have hbs := setCells_bt ((kc ab).toList) v2 gs (0 + 64 * ai)
        have hcl := setCells_heap ((kc ab).toList) v2 gs (0 + 64 * ai) C 39 hgC
        have e9 : (kc ab).toList = bv ab := by unfold kc bv; simp
        rw [e9, Nat.zero_add] at hcl hbs
        rw [e9, Nat.zero_add]
        have hB4 := hB.but hbs 2 (x := ⟨gs, C.toArray, 39⟩) rfl rfl hcl
        simp only [List.set_cons_zero, List.set_cons_succ] at hB4
        clear hB hcl hbs hgC e9
        generalize World.setCells _ _ _ _ = v3 at *
        have hB := hB4
        clear hB4
        simp only [Act.put, List.setIfInBounds_toArray, List.set_cons_zero, List.set_cons_succ, List.getElem_toArray, List.getElem_cons_zero, List.getElem_cons_succ]
        refine wpList_nil ?_
        have hB3 : Hid (Bl w [⟨w.heap.size, dkv sa sn sc (some ⟨p2, o2, none⟩) pn pc dd lf os, 31⟩, ⟨w.heap.size + 1, dkv none 0 0 none 0 0 false 0 0, 31⟩, ⟨gs, (sp C (64 * ai) (bv ab)).toArray, 39⟩] _) := Bl.left (M := [⟨g8, (wv (ai, ab)).toArray, 73⟩]) hB
        clear hB
        go_wp2_with fail
        go_roundw
        case rel => exact ⟨j + 1, (sp C (64 * ai) (bv ab)), by omega, by go_num, by rw [sp_length]; exact hCl, hC3, hB3⟩
        case measure => simp [intOf]; omega
    have kI : ¬ (j : Int) < (kn : Int) := by omega
    have hkf : keep.getD j false = false := by
      rw [List.getD_eq_getElem?_getD, List.getElem?_eq_none (by rw [(unhide hK).len]; omega)]
      rfl
    refine wp_region_lit ?_
    refine list_val (.int .i64 j) (by kernel_rfl) (by kernel_rfl) ?_
    simp only [Act.put, List.setIfInBounds_toArray, List.set_cons_zero, List.set_cons_succ, List.getElem_toArray, List.getElem_cons_zero, List.getElem_cons_succ]
    refine list_val (.slice ka kn kp) (by kernel_rfl) (by kernel_rfl) ?_
    simp only [Act.put, List.setIfInBounds_toArray, List.set_cons_zero, List.set_cons_succ, List.getElem_toArray, List.getElem_cons_zero, List.getElem_cons_succ]
    refine list_val (.int .i64 kn) (by kernel_rfl) (by kernel_rfl) ?_
    simp only [Act.put, List.setIfInBounds_toArray, List.set_cons_zero, List.set_cons_succ, List.getElem_toArray, List.getElem_cons_zero, List.getElem_cons_succ]
    refine list_val (.bool false) (by kernel_rfl) (by go_simp) ?_
    simp only [Act.put, List.setIfInBounds_toArray, List.set_cons_zero, List.set_cons_succ, List.getElem_toArray, List.getElem_cons_zero, List.getElem_cons_succ]
    refine list_val (.bool false) (by kernel_rfl) (by kernel_rfl) ?_
    simp only [Act.put, List.setIfInBounds_toArray, List.set_cons_zero, List.set_cons_succ, List.getElem_toArray, List.getElem_cons_zero, List.getElem_cons_succ]
    refine wpList_step fun K hK => ?_
    rw [if_neg (ne_true_of_eq_false (by kernel_rfl))]
    refine hK _ _ ?_
    clear hK K
    simp only [Act.put, List.setIfInBounds_toArray, List.set_cons_zero, List.set_cons_succ, List.getElem_toArray, List.getElem_cons_zero, List.getElem_cons_succ]
    refine wpList_step fun K hK => ?_
    rw [if_neg (ne_true_of_eq_false (by kernel_rfl))]
    refine hK _ _ ?_
    clear hK K
    simp only [Act.put, List.setIfInBounds_toArray, List.set_cons_zero, List.set_cons_succ, List.getElem_toArray, List.getElem_cons_zero, List.getElem_cons_succ]
    refine wpList_step fun K hK => ?_
    rw [if_neg (ne_true_of_eq_false (by kernel_rfl))]
    refine hK _ _ ?_
    clear hK K
    simp only [Act.put, List.setIfInBounds_toArray, List.set_cons_zero, List.set_cons_succ, List.getElem_toArray, List.getElem_cons_zero, List.getElem_cons_succ]
    refine wpList_step fun K hK => ?_
    rw [if_neg (ne_true_of_eq_false (by kernel_rfl))]
    refine hK _ _ ?_
    clear hK K
    simp only [Act.put, List.setIfInBounds_toArray, List.set_cons_zero, List.set_cons_succ, List.getElem_toArray, List.getElem_cons_zero, List.getElem_cons_succ]
    refine list_val (.bool false) (by kernel_rfl) (by kernel_rfl) ?_
    simp only [Act.put, List.setIfInBounds_toArray, List.set_cons_zero, List.set_cons_succ, List.getElem_toArray, List.getElem_cons_zero, List.getElem_cons_succ]
    refine wpList_nil ?_
    replace hkf := hide hkf
    have hB3 : Hid (Bl w [⟨w.heap.size, dkv sa sn sc (some ⟨p2, o2, none⟩) pn pc dd lf os, 31⟩, ⟨w.heap.size + 1, dkv none 0 0 none 0 0 false 0 0, 31⟩, ⟨gs, C.toArray, 39⟩] _) := Bl.left (M := [⟨g8, (wv (ai, ab)).toArray, 73⟩]) hB
    clear hB
    go_wp2_with fail
    go_roundw
    case rel => exact ⟨j + 1, C, by omega, by go_num, hCl, (by show Cov C ((liv S P keep (j + 1)).map bv).flatten; rw [unhide hnx, unhide hkf]; exact unhide hCov), hB3⟩
    case measure => simp [intOf]; omega
  have jI : ¬ (j : Int) < (pn : Int) := by omega
  have e : j = P.length := by have := unhide hpn; omega
  go_upto_region 8 with fail
  replace hB := unhide hB
  refine wp_region_lit ?_
  refine list_val (.slice (some ⟨gs, 0, none⟩) sn sc2) (by kernel_rfl) (by kernel_rfl) ?_
  simp only [Act.put, List.setIfInBounds_toArray, List.set_cons_zero, List.set_cons_succ, List.getElem_toArray, List.getElem_cons_zero, List.getElem_cons_succ]
  refine list_val (.pointer (some ⟨w.heap.size, 0, none⟩)) (by kernel_rfl) (by kernel_rfl) ?_
  simp only [Act.put, List.setIfInBounds_toArray, List.set_cons_zero, List.set_cons_succ, List.getElem_toArray, List.getElem_cons_zero, List.getElem_cons_succ]
  have c4 := cell_of (hB.get 0 (x := ⟨w.heap.size, dkv sa sn sc pa pn pc dd lf os, 31⟩) rfl) (i := 0) rfl
  have fz := froz_of (i := 0) (hB.get 0 (x := ⟨w.heap.size, dkv sa sn sc pa pn pc dd lf os, 31⟩) rfl)
  have hB2 := hB.cell 0 (x := ⟨w.heap.size, dkv sa sn sc pa pn pc dd lf os, 31⟩) rfl 0 (.slice (some ⟨gs, 0, none⟩) sn sc2)
  simp only [List.set_cons_zero, List.set_cons_succ] at hB2
  replace hB2 : Bl w [⟨w.heap.size, dkv (some ⟨gs, 0, none⟩) sn sc2 pa pn pc dd lf os, 31⟩, ⟨w.heap.size + 1, dkv none 0 0 none 0 0 false 0 0, 31⟩, ⟨gs, C.toArray, 39⟩] _ := hB2
  clear hB
  replace hB2 := hide hB2
  dsimp only at c4 fz
  (refine wpList_step fun K hK => ?_; replace hK := hide hK; go_simp; refine unhide hK _ _ ?_; clear hK K)
  clear c4 fz
  have hB := unhide hB2
  clear hB2
  generalize World.setCell _ _ _ = v4 at *
  refine list_val (.pointer (some ⟨w.heap.size, 1, none⟩)) (by kernel_rfl) (by kernel_rfl) ?_
  simp only [Act.put, List.setIfInBounds_toArray, List.set_cons_zero, List.set_cons_succ, List.getElem_toArray, List.getElem_cons_zero, List.getElem_cons_succ]
  have c4 := cell_of (hB.get 0 (x := ⟨w.heap.size, dkv (some ⟨gs, 0, none⟩) sn sc2 pa pn pc dd lf os, 31⟩) rfl) (i := 1) rfl
  have fz := froz_of (i := 1) (hB.get 0 (x := ⟨w.heap.size, dkv (some ⟨gs, 0, none⟩) sn sc2 pa pn pc dd lf os, 31⟩) rfl)
  have hB2 := hB.cell 0 (x := ⟨w.heap.size, dkv (some ⟨gs, 0, none⟩) sn sc2 pa pn pc dd lf os, 31⟩) rfl 1 (.slice none 0 0)
  simp only [List.set_cons_zero, List.set_cons_succ] at hB2
  replace hB2 : Bl w [⟨w.heap.size, dkv (some ⟨gs, 0, none⟩) sn sc2 none 0 0 dd lf os, 31⟩, ⟨w.heap.size + 1, dkv none 0 0 none 0 0 false 0 0, 31⟩, ⟨gs, C.toArray, 39⟩] _ := hB2
  clear hB
  replace hB2 := hide hB2
  dsimp only at c4 fz
  (refine wpList_step fun K hK => ?_; replace hK := hide hK; go_simp; refine unhide hK _ _ ?_; clear hK K)
  clear c4 fz
  have hB := unhide hB2
  clear hB2
  generalize World.setCell _ _ _ = v5 at *
  refine wpList_nil ?_
  replace hB := hide hB
  go_upto_region 9 with fail
  replace hB := unhide hB
  refine wp_region_lit ?_
  refine list_val (.agg (dkv (some ⟨gs, 0, none⟩) sn sc2 none 0 0 dd lf os)) (by kernel_rfl) (exec_arr _ 31 (.tmp 2) rfl (w.heap.size) (by kernel_rfl) (dkv (some ⟨gs, 0, none⟩) sn sc2 none 0 0 dd lf os) 31 _ (hB.get 0 (x := ⟨w.heap.size, dkv (some ⟨gs, 0, none⟩) sn sc2 none 0 0 dd lf os, 31⟩) rfl) Try.underlying31 rfl (by rw [Try.infoRD]; rfl)) ?_
  simp only [Act.put, List.setIfInBounds_toArray, List.set_cons_zero, List.set_cons_succ, List.getElem_toArray, List.getElem_cons_zero, List.getElem_cons_succ]
  refine list_store 31 (.tmp 4) (.tmp 40) (w.heap.size + 1) (dkv (some ⟨gs, 0, none⟩) sn sc2 none 0 0 dd lf os) 31 (dkv none 0 0 none 0 0 false 0 0) (by kernel_rfl) rfl (by kernel_rfl) (by kernel_rfl) (hB.get 1 (x := ⟨w.heap.size + 1, dkv none 0 0 none 0 0 false 0 0, 31⟩) rfl) (by rw [Try.infoRD]; rfl) rfl (dkv_one ..) ?_
  replace hB := hB.set 1 (x := ⟨w.heap.size + 1, dkv none 0 0 none 0 0 false 0 0, 31⟩) rfl (dkv (some ⟨gs, 0, none⟩) sn sc2 none 0 0 dd lf os)
  simp only [List.set_cons_zero, List.set_cons_succ] at hB
  generalize World.setRow _ _ _ = v6 at *
  replace hB : Bl w [⟨w.heap.size, dkv (some ⟨gs, 0, none⟩) sn sc2 none 0 0 dd lf os, 31⟩, ⟨w.heap.size + 1, dkv (some ⟨gs, 0, none⟩) sn sc2 none 0 0 dd lf os, 31⟩, ⟨gs, C.toArray, 39⟩] v6 := hB
  simp only [Act.put, List.setIfInBounds_toArray, List.set_cons_zero, List.set_cons_succ, List.getElem_toArray, List.getElem_cons_zero, List.getElem_cons_succ]
  refine wpList_nil ?_
  have hr := cov_range (hB.get 2 (x := ⟨gs, C.toArray, 39⟩) rfl) (unhide hCov)
  rw [e] at hr
  have hlv : Hid (Rd v6 (some ⟨gs, 0, none⟩) sc2 none 0 ((Dk.mk S P dd lf os).live keep)) := by
    refine ⟨⟨?_, ?_, .inr ⟨gs, 0, rfl, ?_⟩, ?_, by unfold maxLen at hscm; omega, fun p e => by have e3 := Option.some.inj e; rw [← e3]; exact lt_of_block (hB.get 2 (x := ⟨gs, C.toArray, 39⟩) rfl)⟩, ⟨rfl, (fun r hr => by cases hr), .inl rfl, Nat.le_refl _, by omega, (fun p e => by cases e)⟩⟩
    · rw [List.length_map]
    · exact bv_rows ((unhide hD).live keep).blk
    · exact hr
    · show (liv S P keep P.length).length ≤ sc2
      rw [liv_len, ← unhide hsn]
      exact hsc
  clear hr
  replace hB := hide hB
  go_wp2_with fail
  replace hB := unhide hB
  rw [unhide hT]
  exact bodyPost_ret (v := .agg (dkv (some ⟨gs, 0, none⟩) sn sc2 none 0 0 dd lf os)) (results_cell_row Try.results48 _ _ (w.heap.size + 1) 31 (dkv (some ⟨gs, 0, none⟩) sn sc2 none 0 0 dd lf os) (0, 0) _ rfl (hB.get 1 (x := ⟨w.heap.size + 1, dkv (some ⟨gs, 0, none⟩) sn sc2 none 0 0 dd lf os, 31⟩) rfl) Try.underlying31 rfl (by rw [Try.infoRD]; rfl)) rfl ⟨some ⟨gs, 0, none⟩, sc2, by
    have e2 : ((Dk.mk S P dd lf os).live keep).v (some ⟨gs, 0, none⟩) sc2 none 0 = dkv (some ⟨gs, 0, none⟩) sn sc2 none 0 0 dd lf os := by
      show dkv _ (liv S P keep P.length).length sc2 none 0 0 dd lf os = _
      rw [liv_len, ← unhide hsn]
    rw [e2], unhide hlv, Fr2.new none (hB.own 2 (x := ⟨gs, C.toArray, 39⟩) rfl), hB.gr⟩
end Go.Proofs.Ythgchjdjacbcgaa
