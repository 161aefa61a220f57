/-
  Of layer 11: what the proofs lean on.
-/
import Derived.Test.YtomihjeiaignnaaDoorRows
import Derived.ChangeOld
import Derived.SizedLaws
import Derived.LaidMore
import Derived.Stop.Joined
import Derived.ProofKit
import Derived.OpenShut
import Derived.Laws.BytesArg
import Derived.ChangeKeysEq
import Derived.WideShapes
import Derived.Deep.DeepAppendWide
import Derived.Test.YtomihjeiaignnaaDoorK7
namespace Go.Proofs.YtomihjeiaignnaaDoor
open Go.ChangeShapes Go.WideShapes Go.ChangeAt Go.RowKit
set_option maxRecDepth 100000
theorem wf_byte {x : Int} (h : (Lit.int .u8 x).wf = true) : 0 ≤ x ∧ x < 256 := by
  have := bounds_u8 h
  omega
theorem open_word {W : World} {base : Nat} {v : Value} {H : Type} {enc : TypeId × Value → H} {d : DataW H} {p : List MemPlace} (hv : Value.okWide Tryd.prog W .any base 3 v) (h : DataW.Trod enc Tryd.prog W 0 (fun _ => true) true 3 v d p) : ∃ n, v = .int .i64 n ∧ -9223372036854775808 ≤ n ∧ n < 9223372036854775808 := by
  obtain ⟨n, h1, _, _, h4⟩ := open_int Tryd.underlying3 hv h
  have := bounds_i64 h4
  exact ⟨n, h1, by omega⟩
theorem Tryd.bytes5 : Tryd.prog.bytesOf 5 = 1 := by kernel_rfl
theorem open_bytes {H : Type} {enc : TypeId × Value → H} {W : World} {a : Option Addr} {len cap : Nat} {d : DataW H} {p : List MemPlace}
    (h : DataW.Trod enc Tryd.prog W 0 (fun _ => true) true 32 (.slice a len cap) d p) (hw : ∀ elems spare, d = .slice elems spare → (elems.length + spare.length) * Tryd.prog.bytesOf 5 ≤ reachBytes) :
    ∃ l, IsB l ∧ l.length = len ∧ Sl W a l ∧ len ≤ cap ∧ cap ≤ 140737488351232 := by
  obtain ⟨fuel, hf⟩ := h
  rcases open_ints Tryd.underlying32 Tryd.underlying5 (by kernel_rfl) hf with ⟨hcs, _⟩ | ⟨x, l, c, zs, hcs, _, hl, hm, hz, hx, hcell, hwz⟩
  · simp [Value.cells] at hcs
    obtain ⟨rfl, rfl, rfl⟩ := hcs
    exact ⟨[], (by intro x hx; cases hx), rfl, .inl rfl, by omega, by omega⟩
  · simp [Value.cells] at hcs
    obtain ⟨rfl, rfl, rfl⟩ := hcs
    simp only [Prod.mk.injEq] at hx
    simp only [if_true] at hz
    have := hw _ _ hx.1
    rw [Tryd.bytes5] at this
    simp only [lits, List.length_map, List.length_take, List.length_drop, reachBytes] at this
    refine ⟨zs.take len, fun y hy => wf_byte (hwz y (List.mem_of_mem_take hy)), by simp; omega, ?_, by omega, by omega⟩
    rcases Nat.eq_zero_or_pos len with h0 | h0
    · left
      subst h0
      rfl
    · right
      obtain ⟨b, off, spot⟩ := x
      have hspot : spot = none := by simpa [Addr.add] using World.cell?_spot (hcell 0 (by omega))
      subst hspot
      refine ⟨b, off, rfl, fun i hi => ?_⟩
      have hi2 : i < len := by rw [List.length_take] at hi; omega
      have := hcell i (by omega)
      rw [Addr.add_mid] at this
      rw [this, List.getD_eq_getElem?_getD, List.getD_eq_getElem?_getD, List.getElem?_take, if_pos hi2]
end Go.Proofs.YtomihjeiaignnaaDoor

namespace Go.Proofs.YtomihjeiaignnaaDoor
open Go.RowKit
set_option maxRecDepth 100000
set_option linter.unusedSimpArgs false
set_option linter.unusedVariables false
theorem exec_neB {a : Act} {o : Oper} (w : World) (x y : Operand) (ho : o.op = .binOp .neq 50 x y 50) (b : List Int) (hb : b.length = 64) (hx : a.eval x = .agg (kc b)) (hy : a.eval y = .agg (kc b)) : (execOp a.eval o).run Tryd.prog w = .ok (.value (.bool false)) w := by
  have h := eq_B b b hb hb w
  rw [show decide (b = b) = true from decide_eq_true rfl] at h
  unfold execOp
  simp only [ho, hx, hy]
  go_simp
set_option maxHeartbeats 4000000 in
theorem dops_p (g : Nat) (D : Dk) (sg sc : Nat) (C : List Value) (pa : Option Addr) (pc : Nat) (l : Int) (w : World) (hP : Pd g D w sg sc C pa pc l) : Calls Tryd.prog 30 #[P0 g] w (Vl (.int .i64 (D.ops : Int)) w) := by
  obtain ⟨T, hT⟩ : ∃ T, T = Vl (.int .i64 (D.ops : Int)) w := ⟨_, rfl⟩
  rw [← hT]
  replace hT := hide hT
  obtain ⟨dd, hdd⟩ : ∃ x, x = D.dead := ⟨_, rfl⟩
  obtain ⟨sn, hsn⟩ : ∃ n, n = D.safe.length := ⟨_, rfl⟩
  obtain ⟨pn, hpn⟩ : ∃ n, n = D.pend.length := ⟨_, rfl⟩
  obtain ⟨os, hos⟩ : ∃ n, n = D.ops := ⟨_, rfl⟩
  have hcl := hP.cel
  rw [← hdd, ← hsn, ← hpn, ← hos] at hcl
  replace hdd := hide hdd; replace hsn := hide hsn; replace hpn := hide hpn; replace hos := hide hos; replace hcl := hide hcl; replace hP := hide hP
  go_enter Tryd.func30, Tryd.ntmps30
  go_upto_region 1 with fail
  refine wp_region_lit ?_
  refine list_val (.pointer (some ⟨g, 0, none⟩)) (by kernel_rfl) (by kernel_rfl) ?_
  simp only [Act.put, List.setIfInBounds_toArray, List.set_cons_zero, List.set_cons_succ, List.getElem_toArray, List.getElem_cons_zero, List.getElem_cons_succ]
  refine list_val (.bool false) (by kernel_rfl) (by kernel_rfl) ?_
  simp only [Act.put, List.setIfInBounds_toArray, List.set_cons_zero, List.set_cons_succ, List.getElem_toArray, List.getElem_cons_zero, List.getElem_cons_succ]
  refine wpList_nil ?_
  go_upto_region 3 with fail
  refine wp_region_lit ?_
  refine list_val (.pointer (some ⟨g, 0, none⟩)) (by kernel_rfl) (by kernel_rfl) ?_
  simp only [Act.put, List.setIfInBounds_toArray, List.set_cons_zero, List.set_cons_succ, List.getElem_toArray, List.getElem_cons_zero, List.getElem_cons_succ]
  refine list_val (.pointer (some ⟨g, 0, none⟩)) (by kernel_rfl) (by kernel_rfl) ?_
  simp only [Act.put, List.setIfInBounds_toArray, List.set_cons_zero, List.set_cons_succ, List.getElem_toArray, List.getElem_cons_zero, List.getElem_cons_succ]
  refine list_val (.pointer (some ⟨g, 3, none⟩)) (by kernel_rfl) (by kernel_rfl) ?_
  simp only [Act.put, List.setIfInBounds_toArray, List.set_cons_zero, List.set_cons_succ, List.getElem_toArray, List.getElem_cons_zero, List.getElem_cons_succ]
  refine list_val (.int .i64 os) (by kernel_rfl) (exec_i64 _ (.tmp 7) rfl g 3 (by kernel_rfl) os (cell_of (unhide hcl) (i := 3) rfl)) ?_
  simp only [Act.put, List.setIfInBounds_toArray, List.set_cons_zero, List.set_cons_succ, List.getElem_toArray, List.getElem_cons_zero, List.getElem_cons_succ]
  (refine wpList_step fun K hK => ?_; replace hK := hide hK; go_simp; refine unhide hK _ _ ?_; clear hK K)
  refine wpList_nil ?_
  have hZ : Hid (Vl (.int .i64 (D.ops : Int)) w (.returned (.int .i64 (os : Int))) w) := ⟨by rw [unhide hos], Gr.refl w⟩
  go_wp2_with fail
  rw [unhide hT]
  exact unhide hZ
theorem dops_ok (F : List Nat) (g m : Nat) (D : Dk) (hD : D.Ok m) (hm : m ≤ 1000000) (w : World) (h : Lies F g D w) : Calls Tryd.prog 30 #[P0 g] w (Vl (.int .i64 (D.ops : Int)) w) := by
  obtain ⟨sg, sc, C, pa, pc, l, h, rfl⟩ := h
  exact dops_p g D sg sc C pa pc l w h
set_option maxHeartbeats 4000000 in
theorem settle_c (g : Nat) (D : Dk) (sg sc : Nat) (C : List Value) (pa : Option Addr) (pc : Nat) (l : Int) (keep : List Bool) (kb : Nat) (m : Nat) (hD : D.Ok m) (hm : m ≤ 1000001) (w : World) (hP : Pd g D w sg sc C pa pc l) (hC : ∀ (v : World), Chg [g, sg] [g, sg] w v → ∀ j : Nat, j < D.pend.length → Calls Tryd.prog 58 #[.int .i64 (j : Int), .pointer (some ⟨kb, 0, none⟩)] v (Vl (.bool (keep.getD j false)) v)) : Calls Tryd.prog 57 #[P0 g, .func (.func 58) #[] #[.pointer (some ⟨kb, 0, none⟩)]] w (Stl g (D.live keep) sg sc l w) := by
  obtain ⟨T, hT⟩ : ∃ T, T = Stl g (D.live keep) sg sc l w := ⟨_, rfl⟩
  rw [← hT]
  replace hT := hide hT
  obtain ⟨S, hS⟩ : ∃ x, x = D.safe := ⟨_, rfl⟩
  obtain ⟨P, hPp⟩ : ∃ x, x = D.pend := ⟨_, rfl⟩
  obtain ⟨dd, hdd⟩ : ∃ x, x = D.dead := ⟨_, rfl⟩
  obtain ⟨sn, hsn⟩ : ∃ n, n = D.safe.length := ⟨_, rfl⟩
  obtain ⟨pn, hpn⟩ : ∃ n, n = D.pend.length := ⟨_, rfl⟩
  obtain ⟨os, hos⟩ : ∃ n, n = D.ops := ⟨_, rfl⟩
  have hcl := hP.cel
  rw [← hdd, ← hsn, ← hpn, ← hos] at hcl
  replace hdd := hide hdd; replace hsn := hide hsn; replace hpn := hide hpn; replace hos := hide hos; replace hcl := hide hcl; replace hP := hide hP
  have hpm : pn ≤ 1000001 := by rw [unhide hpn]; exact Nat.le_trans hD.num hm
  have hs512 : sn ≤ 512 := by rw [unhide hsn]; exact hD.hi1
  have hB := (unhide hP).two (F := [g, sg]) (by simp) (by simp)
  rw [← unhide hdd, ← unhide hsn, ← unhide hpn, ← unhide hos] at hB
  have hCl := (unhide hP).len
  have hsc : sn ≤ sc := by rw [unhide hsn]; exact (unhide hP).cap
  have hCov : Cov C (S.map bv).flatten := by rw [hS]; exact (unhide hP).cov
  have hlsn : Hid (S.length = sn) := by show S.length = sn; rw [hS, unhide hsn]
  have hlpn : Hid (P.length = pn) := by show P.length = pn; rw [hPp, unhide hpn]
  have hDS : Hid (∀ b ∈ S, BB b) := by show ∀ b ∈ S, BB b; rw [hS]; exact hD.blk
  have hDP : Hid (∀ x ∈ P, x.1 < S.length ∧ BB x.2) := by show ∀ x ∈ P, x.1 < S.length ∧ BB x.2; rw [hS, hPp]; exact hD.pnd
  have hls : Hid (Ls 65 w pa pn pc (P.map wv)) := by show Ls 65 w pa pn pc (P.map wv); rw [hPp, unhide hpn]; exact (unhide hP).pls
  have hpf : Hid (∀ i, blkOf pa = some i → i ∉ [g, sg]) := fun i hi => by have := (unhide hP).pg_ne hi; simp [this.1, this.2]
  rw [← unhide hpn] at hC
  replace hD := hide hD; replace hB := hide hB; replace hC := hide hC; replace hS := hide hS; replace hPp := hide hPp
  go_enter Tryd.func57, Tryd.ntmps57
  go_upto_region 0 with fail
  replace hB := unhide hB
  refine wp_region_lit ?_
  refine list_val (.pointer (some ⟨g, 0, none⟩)) (by kernel_rfl) (by kernel_rfl) ?_
  simp only [Act.put, List.setIfInBounds_toArray, List.set_cons_zero, List.set_cons_succ, List.getElem_toArray, List.getElem_cons_zero, List.getElem_cons_succ]
  refine list_val (.pointer (some ⟨g, 0, none⟩)) (by kernel_rfl) (by kernel_rfl) ?_
  simp only [Act.put, List.setIfInBounds_toArray, List.set_cons_zero, List.set_cons_succ, List.getElem_toArray, List.getElem_cons_zero, List.getElem_cons_succ]
  refine list_val (.pointer (some ⟨g, 1, none⟩)) (by kernel_rfl) (by kernel_rfl) ?_
  simp only [Act.put, List.setIfInBounds_toArray, List.set_cons_zero, List.set_cons_succ, List.getElem_toArray, List.getElem_cons_zero, List.getElem_cons_succ]
  refine list_val (.slice pa pn pc) (by kernel_rfl) (exec_spw _ (.tmp 8) rfl g 1 (by kernel_rfl) pa pn pc (cell_of (hB.get 0 (x := ⟨g, pdv (some ⟨sg, 0, none⟩) sn sc pa pn pc l os dd, 77⟩) rfl) (i := 1) rfl)) ?_
  simp only [Act.put, List.setIfInBounds_toArray, List.set_cons_zero, List.set_cons_succ, List.getElem_toArray, List.getElem_cons_zero, List.getElem_cons_succ]
  refine list_val (.int .i64 pn) (by kernel_rfl) (by kernel_rfl) ?_
  simp only [Act.put, List.setIfInBounds_toArray, List.set_cons_zero, List.set_cons_succ, List.getElem_toArray, List.getElem_cons_zero, List.getElem_cons_succ]
  refine list_val (.int .i64 0) (by kernel_rfl) (by kernel_rfl) ?_
  simp only [Act.put, List.setIfInBounds_toArray, List.set_cons_zero, List.set_cons_succ, List.getElem_toArray, List.getElem_cons_zero, List.getElem_cons_succ]
  refine wpList_nil ?_
  have hscx : sn * 64 ≤ sc * 64 := Nat.mul_le_mul_right _ hsc
  obtain ⟨cz, hcz⟩ : ∃ z, z = sc * 64 := ⟨_, rfl⟩
  rw [← hcz] at hCl hscx
  replace hcz := hide hcz
  replace hCov : Hid (Cov C ((liv S P keep 0).map bv).flatten) := hCov
  replace hB := hide hB
  go_wp2_with fail
  go_loopw [11] (fun i wr => ∃ j : Nat, ∃ C : List Value, j ≤ pn ∧ i = .int .i64 j ∧ C.length = cz ∧ Hid (Cov C ((liv S P keep j).map bv).flatten) ∧ Hid (Bc [g, sg] w [⟨g, pdv (some ⟨sg, 0, none⟩) sn sc pa pn pc l os dd, 77⟩, ⟨sg, C.toArray, 50⟩] wr)) (fun i _ => pn - (intOf i).toNat)
  case atStart => exact ⟨0, C, by omega, rfl, hCl, hCov, hB⟩
  case round =>
  clear hB hCov hCl
  obtain ⟨j, C2, hj, rfl, hCl, hCov, hB⟩ := hrel
  by_cases hjl : j < pn
  · skip
    obtain ⟨p2, o2, rfl, hrw⟩ := (unhide hls).at_ j hjl
    rw [getD_map wv P j (0, []) [] (by rw [unhide hlpn]; exact hjl)] at hrw
    have hx := unhide hDP _ (mem_of_getD (d := (0, [])) (by rw [unhide hlpn]; exact hjl))
    have hnx : Hid (liv S P keep (j + 1) = if keep.getD j false then (liv S P keep j).set (P.getD j (0, [])).1 (P.getD j (0, [])).2 else liv S P keep j) := rfl
    obtain ⟨⟨ai, ab⟩, hab⟩ : ∃ x, x = P.getD j (0, []) := ⟨_, rfl⟩
    rw [← hab] at hrw hx hnx
    have hal : ab.length = 64 := hx.2.1
    have hai : ai < sn := by rw [← unhide hlsn]; exact hx.1
    have hwl : (wv (ai, ab)).length = 65 := by rw [wv_len, hal]
    have hlb : Hid (∀ b ∈ liv S P keep j, BB b) := liv_bb (unhide hDS) (fun x hx => (unhide hDP x hx).2) keep j (by rw [unhide hlpn]; exact hj)
    have hp2 : p2 ∉ [g, sg] := unhide hpf p2 rfl
    replace hab := hide hab; replace hx := hide hx; replace hrw := hide hrw; replace hp2 := hide hp2
    have jI : (j : Int) < (pn : Int) := by omega
    go_upto_region 2 with fail
    replace hB := unhide hB
    refine wp_region_lit ?_
    refine list_val (.int .i64 j) (by kernel_rfl) (by kernel_rfl) ?_
    simp only [Act.put, List.setIfInBounds_toArray, List.set_cons_zero, List.set_cons_succ, List.getElem_toArray, List.getElem_cons_zero, List.getElem_cons_succ]
    refine list_val (.pointer (some ⟨p2, o2 + 65 * j, none⟩)) (by kernel_rfl) (exec_ipw _ (.tmp 9) (.tmp 11) rfl p2 o2 pn pc j rfl rfl hjl) ?_
    simp only [Act.put, List.setIfInBounds_toArray, List.set_cons_zero, List.set_cons_succ, List.getElem_toArray, List.getElem_cons_zero, List.getElem_cons_succ]
    refine list_val (.agg ((wv (ai, ab)).toArray)) (by kernel_rfl) (exec_row _ 99 (.tmp 14) rfl p2 (o2 + 65 * j) (by kernel_rfl) (wv (ai, ab)) _ (range_chg (unhide hrw) hB.chg (unhide hp2)) Tryd.underlying99 rfl (by rw [Tryd.infoPW, hwl])) ?_
    simp only [Act.put, List.setIfInBounds_toArray, List.set_cons_zero, List.set_cons_succ, List.getElem_toArray, List.getElem_cons_zero, List.getElem_cons_succ]
    refine list_valw (.pointer (some ⟨wr.heap.size, 0, none⟩)) (wr.alloc (.cells ((wv (0, ZB)).toArray) 99 (0, 0))) (by kernel_rfl) (by kernel_rfl) ?_
    replace hB := hB.new ((wv (0, ZB)).toArray) 99
    simp only [List.nil_append, List.cons_append] at hB
    generalize World.alloc _ _ = v1 at *
    generalize wr.heap.size = g8 at *
    replace hB : Bc [g, sg] w [⟨g, pdv (some ⟨sg, 0, none⟩) sn sc (some ⟨p2, o2, none⟩) pn pc l os dd, 77⟩, ⟨sg, C2.toArray, 50⟩, ⟨g8, (wv (0, ZB)).toArray, 99⟩] v1 := hB
    simp only [Act.put, List.setIfInBounds_toArray, List.set_cons_zero, List.set_cons_succ, List.getElem_toArray, List.getElem_cons_zero, List.getElem_cons_succ]
    (refine wpList_step fun K hK => ?_; replace hK := hide hK; go_simp; refine unhide hK _ _ ?_; clear hK K)
    refine list_store 99 (.tmp 5) (.tmp 15) g8 ((wv (ai, ab)).toArray) 99 ((wv (0, ZB)).toArray) (by kernel_rfl) rfl (by kernel_rfl) (by kernel_rfl) (hB.get 2 (x := ⟨g8, (wv (0, ZB)).toArray, 99⟩) rfl) (by rw [Tryd.infoPW, List.size_toArray, hwl]) ((show ((wv (0, ZB)).toArray).size = 65 from rfl).trans (by rw [List.size_toArray, hwl])) (wv_one _) ?_
    replace hB := hB.set 2 (x := ⟨g8, (wv (0, ZB)).toArray, 99⟩) rfl ((wv (ai, ab)).toArray)
    simp only [List.set_cons_zero, List.set_cons_succ] at hB
    generalize World.setRow _ _ _ = v2 at *
    replace hB : Bc [g, sg] w [⟨g, pdv (some ⟨sg, 0, none⟩) sn sc (some ⟨p2, o2, none⟩) pn pc l os dd, 77⟩, ⟨sg, C2.toArray, 50⟩, ⟨g8, (wv (ai, ab)).toArray, 99⟩] v2 := hB
    simp only [Act.put, List.setIfInBounds_toArray, List.set_cons_zero, List.set_cons_succ, List.getElem_toArray, List.getElem_cons_zero, List.getElem_cons_succ]
    refine wpList_nil ?_
    replace hB := hide hB
    go_upto_region 3 with fail
    replace hB := unhide hB
    refine wp_region_lit ?_
    refine list_val (.func (.func 58) #[] #[.pointer (some ⟨kb, 0, none⟩)]) (by kernel_rfl) (by kernel_rfl) ?_
    simp only [Act.put, List.setIfInBounds_toArray, List.set_cons_zero, List.set_cons_succ, List.getElem_toArray, List.getElem_cons_zero, List.getElem_cons_succ]
    refine list_val (.int .i64 j) (by kernel_rfl) (by kernel_rfl) ?_
    simp only [Act.put, List.setIfInBounds_toArray, List.set_cons_zero, List.set_cons_succ, List.getElem_toArray, List.getElem_cons_zero, List.getElem_cons_succ]
    refine list_call 58 #[.int .i64 (j : Int), .pointer (some ⟨kb, 0, none⟩)] (by kernel_rfl) (by kernel_rfl) ((unhide hC _ hB.chg j hjl).mono ?_)
    rintro r v3 ⟨rfl, hG⟩
    refine ⟨_, rfl, ?_⟩
    replace hB := hB.more hG
    clear hG
    obtain ⟨kb_, hkb⟩ : ∃ x, x = keep.getD j false := ⟨_, rfl⟩
    rw [← hkb]
    replace hkb := hide hkb
    simp only [Act.put, List.setIfInBounds_toArray, List.set_cons_zero, List.set_cons_succ, List.getElem_toArray, List.getElem_cons_zero, List.getElem_cons_succ]
    refine wpList_nil ?_
    cases kb_
    case false =>
      have hB3 : Hid (Bc [g, sg] w [⟨g, pdv (some ⟨sg, 0, none⟩) sn sc (some ⟨p2, o2, none⟩) pn pc l os dd, 77⟩, ⟨sg, C2.toArray, 50⟩] _) := Bc.left (M := [⟨g8, (wv (ai, ab)).toArray, 99⟩]) hB
      clear hB
      go_wp2_with fail
      go_roundw
      case rel => exact ⟨j + 1, C2, by omega, by go_num, hCl, (by show Cov C2 ((liv S P keep (j + 1)).map bv).flatten; rw [unhide hnx, ← unhide hkb]; exact unhide hCov), hB3⟩
      case measure => simp [intOf]; omega
    case true =>
      go_upto_region 4 with fail
      replace hB := hB
      refine anyC_start 9 (fun v => Bc [g, sg] w [⟨g, pdv (some ⟨sg, 0, none⟩) sn sc (some ⟨p2, o2, none⟩) pn pc l os dd, 77⟩, ⟨sg, C2.toArray, 50⟩, ⟨g8, (wv (ai, ab)).toArray, 99⟩] v) (by kernel_rfl) ?_
      replace hB := hB.drew
      generalize World.drew _ = x0 at *
      simp only [List.size_toArray, List.length_cons, List.length_nil, Array.replicate, List.replicate]
      refine anyC_take (i := 0) (v := (.pointer (some ⟨g, 0, none⟩))) (fun v => Bc [g, sg] w [⟨g, pdv (some ⟨sg, 0, none⟩) sn sc (some ⟨p2, o2, none⟩) pn pc l os dd, 77⟩, ⟨sg, C2.toArray, 50⟩, ⟨g8, (wv (ai, ab)).toArray, 99⟩] v) (fun _ h_ => h_) (.inr (by kernel_rfl)) rfl (by kernel_rfl) (by kernel_rfl) (by kernel_rfl) (by decide) (by kernel_rfl) (by decide) (fun _ _ _ h => h) (.inl ⟨by kernel_rfl, fun x_ hu => by kernel_rfl⟩) hB ?_
      simp only [Act.put, List.setIfInBounds_toArray, List.set_cons_zero, List.set_cons_succ, List.getElem_toArray, List.getElem_cons_zero, List.getElem_cons_succ]
      refine anyC_take (i := 1) (v := (.pointer (some ⟨g, 0, none⟩))) (fun v => Bc [g, sg] w [⟨g, pdv (some ⟨sg, 0, none⟩) sn sc (some ⟨p2, o2, none⟩) pn pc l os dd, 77⟩, ⟨sg, C2.toArray, 50⟩, ⟨g8, (wv (ai, ab)).toArray, 99⟩] v) (fun _ h_ => h_) (.inr (by kernel_rfl)) rfl (by kernel_rfl) (by kernel_rfl) (by kernel_rfl) (by decide) (by kernel_rfl) (by decide) (fun _ _ _ h => h) (.inl ⟨by kernel_rfl, fun x_ hu => by kernel_rfl⟩) hB ?_
      simp only [Act.put, List.setIfInBounds_toArray, List.set_cons_zero, List.set_cons_succ, List.getElem_toArray, List.getElem_cons_zero, List.getElem_cons_succ]
      refine anyC_take (i := 2) (v := (.pointer (some ⟨g, 0, none⟩))) (fun v => Bc [g, sg] w [⟨g, pdv (some ⟨sg, 0, none⟩) sn sc (some ⟨p2, o2, none⟩) pn pc l os dd, 77⟩, ⟨sg, C2.toArray, 50⟩, ⟨g8, (wv (ai, ab)).toArray, 99⟩] v) (fun _ h_ => h_) (.inr (by kernel_rfl)) rfl (by kernel_rfl) (by kernel_rfl) (by kernel_rfl) (by decide) (by kernel_rfl) (by decide) (fun _ _ _ h => h) (.inl ⟨by kernel_rfl, fun x_ hu => by kernel_rfl⟩) hB ?_
      simp only [Act.put, List.setIfInBounds_toArray, List.set_cons_zero, List.set_cons_succ, List.getElem_toArray, List.getElem_cons_zero, List.getElem_cons_succ]
      refine anyC_take (i := 3) (v := (.slice (some ⟨sg, 0, none⟩) sn sc)) (fun v => Bc [g, sg] w [⟨g, pdv (some ⟨sg, 0, none⟩) sn sc (some ⟨p2, o2, none⟩) pn pc l os dd, 77⟩, ⟨sg, C2.toArray, 50⟩, ⟨g8, (wv (ai, ab)).toArray, 99⟩] v) (fun _ h_ => h_) (.inr (by kernel_rfl)) rfl (by kernel_rfl) (by kernel_rfl) (by kernel_rfl) (by decide) (by kernel_rfl) (by decide) (fun _ _ _ h => h) (.inl ⟨by kernel_rfl, fun x_ hu => exec_sb _ (.tmp 21) rfl g 0 (by kernel_rfl) (some ⟨sg, 0, none⟩) sn sc (cell_of (hu.get 0 (x := ⟨g, pdv (some ⟨sg, 0, none⟩) sn sc (some ⟨p2, o2, none⟩) pn pc l os dd, 77⟩) rfl) (i := 0) rfl)⟩) hB ?_
      simp only [Act.put, List.setIfInBounds_toArray, List.set_cons_zero, List.set_cons_succ, List.getElem_toArray, List.getElem_cons_zero, List.getElem_cons_succ]
      refine anyC_take (i := 4) (v := (.pointer (some ⟨g8, 0, none⟩))) (fun v => Bc [g, sg] w [⟨g, pdv (some ⟨sg, 0, none⟩) sn sc (some ⟨p2, o2, none⟩) pn pc l os dd, 77⟩, ⟨sg, C2.toArray, 50⟩, ⟨g8, (wv (ai, ab)).toArray, 99⟩] v) (fun _ h_ => h_) (.inr (by kernel_rfl)) rfl (by kernel_rfl) (by kernel_rfl) (by kernel_rfl) (by decide) (by kernel_rfl) (by decide) (fun _ _ _ h => h) (.inl ⟨by kernel_rfl, fun x_ hu => by kernel_rfl⟩) hB ?_
      simp only [Act.put, List.setIfInBounds_toArray, List.set_cons_zero, List.set_cons_succ, List.getElem_toArray, List.getElem_cons_zero, List.getElem_cons_succ]
      refine anyC_take (i := 5) (v := (.int .i64 (ai : Int))) (fun v => Bc [g, sg] w [⟨g, pdv (some ⟨sg, 0, none⟩) sn sc (some ⟨p2, o2, none⟩) pn pc l os dd, 77⟩, ⟨sg, C2.toArray, 50⟩, ⟨g8, (wv (ai, ab)).toArray, 99⟩] v) (fun _ h_ => h_) (.inr (by kernel_rfl)) rfl (by kernel_rfl) (by kernel_rfl) (by kernel_rfl) (by decide) (by kernel_rfl) (by decide) (fun _ _ _ h => h) (.inl ⟨by kernel_rfl, fun x_ hu => exec_i64 _ (.tmp 23) rfl g8 0 (by kernel_rfl) _ (cell_of (hu.get 2 (x := ⟨g8, (wv (ai, ab)).toArray, 99⟩) rfl) (i := 0) rfl)⟩) hB ?_
      simp only [Act.put, List.setIfInBounds_toArray, List.set_cons_zero, List.set_cons_succ, List.getElem_toArray, List.getElem_cons_zero, List.getElem_cons_succ]
      refine anyC_take (i := 6) (v := (.pointer (some ⟨g8, 1, none⟩))) (fun v => Bc [g, sg] w [⟨g, pdv (some ⟨sg, 0, none⟩) sn sc (some ⟨p2, o2, none⟩) pn pc l os dd, 77⟩, ⟨sg, C2.toArray, 50⟩, ⟨g8, (wv (ai, ab)).toArray, 99⟩] v) (fun _ h_ => h_) (.inr (by kernel_rfl)) rfl (by kernel_rfl) (by kernel_rfl) (by kernel_rfl) (by decide) (by kernel_rfl) (by decide) (fun _ _ _ h => h) (.inl ⟨by kernel_rfl, fun x_ hu => by kernel_rfl⟩) hB ?_
      simp only [Act.put, List.setIfInBounds_toArray, List.set_cons_zero, List.set_cons_succ, List.getElem_toArray, List.getElem_cons_zero, List.getElem_cons_succ]
      refine anyC_take (i := 7) (v := (.agg (kc ab))) (fun v => Bc [g, sg] w [⟨g, pdv (some ⟨sg, 0, none⟩) sn sc (some ⟨p2, o2, none⟩) pn pc l os dd, 77⟩, ⟨sg, C2.toArray, 50⟩, ⟨g8, (wv (ai, ab)).toArray, 99⟩] v) (fun _ h_ => h_) (.inr (by kernel_rfl)) rfl (by kernel_rfl) (by kernel_rfl) (by kernel_rfl) (by decide) (by kernel_rfl) (by decide) (fun _ _ _ h => h) (.inl ⟨by kernel_rfl, fun x_ hu => exec_row _ 50 (.tmp 25) rfl g8 1 (by kernel_rfl) (bv ab) _ (fun q_ v_ hq => cell_of (hu.get 2 (x := ⟨g8, (wv (ai, ab)).toArray, 99⟩) rfl) (by unfold wv; rw [List.getElem?_toArray, Nat.add_comm, List.getElem?_cons_succ]; exact hq)) Tryd.underlying50 rfl (by rw [Tryd.infoB, bv_len, hal])⟩) hB ?_
      simp only [Act.put, List.setIfInBounds_toArray, List.set_cons_zero, List.set_cons_succ, List.getElem_toArray, List.getElem_cons_zero, List.getElem_cons_succ]
      refine anyC_take (i := 8) (v := (.pointer (some ⟨sg, 0 + 64 * ai, none⟩))) (fun v => Bc [g, sg] w [⟨g, pdv (some ⟨sg, 0, none⟩) sn sc (some ⟨p2, o2, none⟩) pn pc l os dd, 77⟩, ⟨sg, C2.toArray, 50⟩, ⟨g8, (wv (ai, ab)).toArray, 99⟩] v) (fun _ h_ => h_) (.inr (by kernel_rfl)) rfl (by kernel_rfl) (by kernel_rfl) (by kernel_rfl) (by decide) (by kernel_rfl) (by decide) (fun _ _ _ h => h) (.inl ⟨by kernel_rfl, fun x_ hu => exec_ib _ (.tmp 22) (.tmp 24) rfl sg 0 sn sc ai rfl rfl hai⟩) hB ?_
      simp only [Act.put, List.setIfInBounds_toArray, List.set_cons_zero, List.set_cons_succ, List.getElem_toArray, List.getElem_cons_zero, List.getElem_cons_succ]
      refine anyC_last (by kernel_rfl) rfl (fun K_ hQ => ?_)
      have hli : ai < (liv S P keep j).length := by rw [liv_len, unhide hlsn]; exact hai
      have hC3 : Hid (Cov (sp C2 (64 * ai) (bv ab)) ((liv S P keep (j + 1)).map bv).flatten) := by
        show Cov _ ((liv S P keep (j + 1)).map bv).flatten
        rw [unhide hnx, ← unhide hkb]
        have h := cov_set 64 (by omega) C2 ((liv S P keep j).map bv) (bv_rows (unhide hlb)) ai (by rw [List.length_map]; exact hli) (bv ab) (by rw [bv_len, hal]) (by rw [List.length_map, liv_len, unhide hlsn, hCl]; exact hscx) (unhide hCov)
        rw [← List.map_set] at h
        exact h
      have hgC := (hB.get 1 (x := ⟨sg, C2.toArray, 50⟩) rfl)
      dsimp only at hgC
      refine list_store_mid 50 (.tmp 27) (.tmp 26) sg (0 + 64 * ai) (kc ab) (by kernel_rfl) rfl (by kernel_rfl) (by kernel_rfl) (there_of hgC (by rw [kc_size, hal, hCl, Nat.zero_add]; omega)) (by rw [Tryd.infoB, kc_size, hal]) (kc_one _) ?_
      refine hQ.out _ _ ?_
      clear hQ K_
      have hbs := setCells_bt ((kc ab).toList) x0 sg (0 + 64 * ai)
      have hcl2 := setCells_heap ((kc ab).toList) x0 sg (0 + 64 * ai) C2 50 hgC
      have e9 : (kc ab).toList = bv ab := by unfold kc bv; simp
      rw [e9, Nat.zero_add] at hcl2 hbs
      rw [e9, Nat.zero_add]
      have hB4 := hB.but hbs 1 (x := ⟨sg, C2.toArray, 50⟩) rfl rfl hcl2
      simp only [List.set_cons_zero, List.set_cons_succ] at hB4
      clear hB hcl2 hbs hgC e9
      generalize World.setCells _ _ _ _ = v9 at *
      have hB := hB4
      clear hB4
      simp only [Act.put, List.setIfInBounds_toArray, List.set_cons_zero, List.set_cons_succ, List.getElem_toArray, List.getElem_cons_zero, List.getElem_cons_succ]
      refine any_done (by kernel_rfl) ?_
      have hB3 : Hid (Bc [g, sg] w [⟨g, pdv (some ⟨sg, 0, none⟩) sn sc (some ⟨p2, o2, none⟩) pn pc l os dd, 77⟩, ⟨sg, (sp C2 (64 * ai) (bv ab)).toArray, 50⟩] _) := Bc.left (M := [⟨g8, (wv (ai, ab)).toArray, 99⟩]) hB
      clear hB
      go_wp2_with fail
      go_roundw
      case rel => exact ⟨j + 1, (sp C2 (64 * ai) (bv ab)), by omega, by go_num, by rw [sp_length]; exact hCl, hC3, hB3⟩
      case measure => simp [intOf]; omega
  have jI : ¬ (j : Int) < (pn : Int) := by omega
  have e : j = P.length := by rw [unhide hlpn]; omega
  go_upto_region 6 with fail
  replace hB := unhide hB
  refine wp_region_lit ?_
  refine list_val (.pointer (some ⟨g, 0, none⟩)) (by kernel_rfl) (by kernel_rfl) ?_
  simp only [Act.put, List.setIfInBounds_toArray, List.set_cons_zero, List.set_cons_succ, List.getElem_toArray, List.getElem_cons_zero, List.getElem_cons_succ]
  refine list_val (.pointer (some ⟨g, 0, none⟩)) (by kernel_rfl) (by kernel_rfl) ?_
  simp only [Act.put, List.setIfInBounds_toArray, List.set_cons_zero, List.set_cons_succ, List.getElem_toArray, List.getElem_cons_zero, List.getElem_cons_succ]
  refine list_val (.pointer (some ⟨g, 1, none⟩)) (by kernel_rfl) (by kernel_rfl) ?_
  simp only [Act.put, List.setIfInBounds_toArray, List.set_cons_zero, List.set_cons_succ, List.getElem_toArray, List.getElem_cons_zero, List.getElem_cons_succ]
  have c4 := cell_of (hB.get 0 (x := ⟨g, pdv (some ⟨sg, 0, none⟩) sn sc pa pn pc l os dd, 77⟩) rfl) (i := 1) rfl
  have fz := froz_of (i := 1) (hB.get 0 (x := ⟨g, pdv (some ⟨sg, 0, none⟩) sn sc pa pn pc l os dd, 77⟩) rfl)
  have hB2 := hB.cell 0 (x := ⟨g, pdv (some ⟨sg, 0, none⟩) sn sc pa pn pc l os dd, 77⟩) rfl 1 (.slice none 0 0)
  simp only [List.set_cons_zero, List.set_cons_succ] at hB2
  replace hB2 : Bc [g, sg] w [⟨g, pdv (some ⟨sg, 0, none⟩) sn sc none 0 0 l os dd, 77⟩, ⟨sg, C2.toArray, 50⟩] _ := hB2
  clear hB
  replace hB2 := hide hB2
  dsimp only at c4 fz
  (refine wpList_step fun K hK => ?_; replace hK := hide hK; go_simp; refine unhide hK _ _ ?_; clear hK K)
  clear c4 fz
  have hB := unhide hB2
  clear hB2
  generalize World.setCell _ _ _ = v4 at *
  refine wpList_nil ?_
  have hZ : Hid (Stl g (D.live keep) sg sc l w (.returned (.tuple #[])) v4) := by
    have hl : (liv S P keep P.length).length = sn := by rw [liv_len, unhide hlsn]
    have hd1 : (D.live keep).safe = liv S P keep P.length := by
      show liv D.safe D.pend keep D.pend.length = _
      rw [unhide hS, unhide hPp]
    refine ⟨rfl, C2, ⟨?_, ?_, ?_, ?_, ?_, (unhide hP).max, ?_, (unhide hP).lf⟩, hB.chg⟩
    · rw [hd1, hl]
      show v4.heap[g]? = some (.cells (pdv (some ⟨sg, 0, none⟩) sn sc none 0 0 l D.ops D.dead) _ (0, 0))
      rw [← unhide hos, ← unhide hdd]
      exact (hB.get 0 (x := ⟨g, pdv (some ⟨sg, 0, none⟩) sn sc none 0 0 l os dd, 77⟩) rfl)
    · exact (hB.get 1 (x := ⟨sg, C2.toArray, 50⟩) rfl)
    · rw [hd1, ← e]
      exact unhide hCov
    · rw [hCl]
      exact unhide hcz
    · rw [hd1, hl]
      exact hsc
    · exact ⟨(fun r hr => by cases hr), rfl, .inl ⟨rfl, rfl⟩⟩
  replace hB := hide hB
  go_wp2_with fail
  rw [unhide hT]
  exact bodyPost_end (results_none Tryd.results57 _ _ _) rfl (unhide hZ)
theorem exec_upto {a : Act} {o : Oper} (w : World) (x y : Operand) (ho : o.op = .slice 32 x none (some y) none) (s : Option Addr) (len cap n : Nat) (hx : a.eval x = .slice s len cap) (hy : a.eval y = .int .i64 n) (hc : len ≤ cap) (hn : n ≤ len) :
    (execOp a.eval o).run Tryd.prog w = .ok (.value (.slice (if cap = 0 then s else s.map (·.add 0)) n cap)) w := by
  have h1 : (0 : Int) ≤ n := by omega
  have h2 : (n : Int) ≤ cap := by omega
  have hu : Tryd.prog.underlying 32 = some (.slice (Tryd.prog.elem 32)) := by kernel_rfl
  have hz : (sizeOf (Tryd.prog.elem 32)).run Tryd.prog w = .ok 1 w := by kernel_rfl
  simp [execOp, ho, hx, hy, run_sliceAt_slice _ _ _ _ _ _ hu, run_slice_h _ _ _ _ _ hu _ _ h1 h2, hz, sliced]
set_option maxHeartbeats 4000000 in
theorem on_few (F : List Nat) (gd m : Nat) (D : Dk) (hD : D.Ok m) (hm : m ≤ 900000) (hn : D.safe.length < 64) (w : World) (hL : Lies F gd D w) : Calls Tryd.prog 35 #[P0 gd] w (Vl (.tuple #[.pointer none, .int .i64 2]) w) := by
  obtain ⟨T, hT⟩ : ∃ T, T = Vl (.tuple #[.pointer none, .int .i64 2]) w := ⟨_, rfl⟩
  rw [← hT]
  replace hT := hide hT
  have h512 := hD.hi1
  obtain ⟨n, hnn⟩ : ∃ n, n = D.safe.length := ⟨_, rfl⟩
  rw [← hnn] at hn h512
  replace hD := hide hD; replace hL := hide hL; replace hnn := hide hnn
  go_enter Tryd.func35, Tryd.ntmps35
  go_upto_region 1 with fail
  refine wp_region_lit ?_
  refine list_val (.pointer (some ⟨gd, 0, none⟩)) (by kernel_rfl) (by kernel_rfl) ?_
  simp only [Act.put, List.setIfInBounds_toArray, List.set_cons_zero, List.set_cons_succ, List.getElem_toArray, List.getElem_cons_zero, List.getElem_cons_succ]
  refine list_val (.bool false) (by kernel_rfl) (by kernel_rfl) ?_
  simp only [Act.put, List.setIfInBounds_toArray, List.set_cons_zero, List.set_cons_succ, List.getElem_toArray, List.getElem_cons_zero, List.getElem_cons_succ]
  refine wpList_nil ?_
  have hB := Bl.nil w
  replace hB := hide hB
  go_upto_region 3 with fail
  replace hB := unhide hB
  have hnI : (n : Int) < 64 := by omega
  refine wp_region_lit ?_
  refine list_val (.pointer (some ⟨gd, 0, none⟩)) (by kernel_rfl) (by kernel_rfl) ?_
  simp only [Act.put, List.setIfInBounds_toArray, List.set_cons_zero, List.set_cons_succ, List.getElem_toArray, List.getElem_cons_zero, List.getElem_cons_succ]
  refine list_call 42 #[.pointer (some ⟨gd, 0, none⟩)] (by kernel_rfl) (by kernel_rfl) ((dlen_ok F gd m D (unhide hD) (by omega) _ ((unhide hL).gr hB.gr)).mono ?_)
  rintro r u1 ⟨rfl, hg⟩
  refine ⟨_, rfl, ?_⟩
  rw [← unhide hnn]
  replace hB := hB.more hg
  clear hg
  simp only [Act.put, List.setIfInBounds_toArray, List.set_cons_zero, List.set_cons_succ, List.getElem_toArray, List.getElem_cons_zero, List.getElem_cons_succ]
  refine list_val (.bool true) (by kernel_rfl) (by go_simp) ?_
  simp only [Act.put, List.setIfInBounds_toArray, List.set_cons_zero, List.set_cons_succ, List.getElem_toArray, List.getElem_cons_zero, List.getElem_cons_succ]
  refine wpList_nil ?_
  have hZ : Hid (Vl (.tuple #[.pointer none, .int .i64 2]) w (.returned (.tuple #[.pointer none, .int .i64 2])) u1) := ⟨rfl, hB.gr⟩
  replace hB := hide hB
  go_wp2_with fail
  rw [unhide hT]
  exact unhide hZ
theorem on_nil (w : World) : Calls Tryd.prog 35 #[.pointer none] w (Vl (.tuple #[.pointer none, .int .i64 1]) w) := by
  obtain ⟨T, hT⟩ : ∃ T, T = Vl (.tuple #[.pointer none, .int .i64 1]) w := ⟨_, rfl⟩
  rw [← hT]
  replace hT := hide hT
  go_enter Tryd.func35, Tryd.ntmps35
  go_wp2_with fail
  rw [unhide hT]
  exact ⟨rfl, Gr.refl w⟩
theorem etake_nil (a : Option Addr) (n c : Nat) (w : World) : Calls Tryd.prog 13 #[.pointer none, .slice a n c] w (Vl (.int .i64 1) w) := by
  obtain ⟨T, hT⟩ : ∃ T, T = Vl (.int .i64 1) w := ⟨_, rfl⟩
  rw [← hT]
  replace hT := hide hT
  go_enter Tryd.func13, Tryd.ntmps13
  go_wp2_with fail
  rw [unhide hT]
  exact ⟨rfl, Gr.refl w⟩
theorem esync_nil (w : World) : Calls Tryd.prog 29 #[.pointer none] w (Vl (.int .i64 1) w) := by
  obtain ⟨T, hT⟩ : ∃ T, T = Vl (.int .i64 1) w := ⟨_, rfl⟩
  rw [← hT]
  replace hT := hide hT
  go_enter Tryd.func29, Tryd.ntmps29
  go_wp2_with fail
  rw [unhide hT]
  exact ⟨rfl, Gr.refl w⟩
theorem eturn_nil (w : World) : Calls Tryd.prog 20 #[.pointer none] w (Vl (.int .u64 0) w) := by
  obtain ⟨T, hT⟩ : ∃ T, T = Vl (.int .u64 0) w := ⟨_, rfl⟩
  rw [← hT]
  replace hT := hide hT
  go_enter Tryd.func20, Tryd.ntmps20
  go_wp2_with fail
  rw [unhide hT]
  exact ⟨rfl, Gr.refl w⟩
theorem eroom_nil (w : World) : Calls Tryd.prog 14 #[.pointer none] w (Vl (.int .i64 0) w) := by
  obtain ⟨T, hT⟩ : ∃ T, T = Vl (.int .i64 0) w := ⟨_, rfl⟩
  rw [← hT]
  replace hT := hide hT
  go_enter Tryd.func14, Tryd.ntmps14
  go_wp2_with fail
  rw [unhide hT]
  exact ⟨rfl, Gr.refl w⟩
theorem eslots_nil (w : World) : Calls Tryd.prog 23 #[.pointer none] w (Vl (.int .i64 0) w) := by
  obtain ⟨T, hT⟩ : ∃ T, T = Vl (.int .i64 0) w := ⟨_, rfl⟩
  rw [← hT]
  replace hT := hide hT
  go_enter Tryd.func23, Tryd.ntmps23
  go_wp2_with fail
  rw [unhide hT]
  exact ⟨rfl, Gr.refl w⟩
theorem edisk_nil (w : World) : Calls Tryd.prog 12 #[.pointer none] w (Vl (.pointer none) w) := by
  obtain ⟨T, hT⟩ : ∃ T, T = Vl (.pointer none) w := ⟨_, rfl⟩
  rw [← hT]
  replace hT := hide hT
  go_enter Tryd.func12, Tryd.ntmps12
  go_wp2_with fail
  rw [unhide hT]
  exact ⟨rfl, Gr.refl w⟩
theorem sreach_nil (i : Int) (w : World) : Calls Tryd.prog 54 #[.pointer none, .int .i64 i] w (Vl (.int .i64 1) w) := by
  obtain ⟨T, hT⟩ : ∃ T, T = Vl (.int .i64 1) w := ⟨_, rfl⟩
  rw [← hT]
  replace hT := hide hT
  go_enter Tryd.func54, Tryd.ntmps54
  go_wp2_with fail
  rw [unhide hT]
  exact ⟨rfl, Gr.refl w⟩
theorem esnap_nil (w : World) : Calls Tryd.prog 17 #[.pointer none] w (fun r w' => ∃ a c, r = .returned (.tuple #[.slice a 0 c, .int .i64 1]) ∧ Gr w w') := by
  obtain ⟨T, hT⟩ : ∃ T : Ending → World → Prop, T = (fun r w' => ∃ a c, r = .returned (.tuple #[.slice a 0 c, .int .i64 1]) ∧ Gr w w') := ⟨_, rfl⟩
  rw [← hT]
  replace hT := hide hT
  go_enter Tryd.func17, Tryd.ntmps17
  go_wp2_with fail
  rw [unhide hT]
  exact ⟨none, 0, rfl, Gr.refl w⟩
set_option maxHeartbeats 4000000 in
theorem eslot_nil (i : Int) (w : World) : Calls Tryd.prog 28 #[.pointer none, .int .i64 i] w (Rrd ZB 1 w) := by
  obtain ⟨T, hT⟩ : ∃ T, T = Rrd ZB 1 w := ⟨_, rfl⟩
  rw [← hT]
  replace hT := hide hT
  go_enter Tryd.func28, Tryd.ntmps28
  go_upto_region 1 with fail
  have hB := ((Bl.nil w).new #[.int .u8 0, .int .u8 0, .int .u8 0, .int .u8 0, .int .u8 0, .int .u8 0, .int .u8 0, .int .u8 0, .int .u8 0, .int .u8 0, .int .u8 0, .int .u8 0, .int .u8 0, .int .u8 0, .int .u8 0, .int .u8 0, .int .u8 0, .int .u8 0, .int .u8 0, .int .u8 0, .int .u8 0, .int .u8 0, .int .u8 0, .int .u8 0, .int .u8 0, .int .u8 0, .int .u8 0, .int .u8 0, .int .u8 0, .int .u8 0, .int .u8 0, .int .u8 0, .int .u8 0, .int .u8 0, .int .u8 0, .int .u8 0, .int .u8 0, .int .u8 0, .int .u8 0, .int .u8 0, .int .u8 0, .int .u8 0, .int .u8 0, .int .u8 0, .int .u8 0, .int .u8 0, .int .u8 0, .int .u8 0, .int .u8 0, .int .u8 0, .int .u8 0, .int .u8 0, .int .u8 0, .int .u8 0, .int .u8 0, .int .u8 0, .int .u8 0, .int .u8 0, .int .u8 0, .int .u8 0, .int .u8 0, .int .u8 0, .int .u8 0, .int .u8 0] 50)
  simp only [size_alloc, List.nil_append, List.cons_append] at hB
  generalize World.alloc _ _ = u at *
  replace hB : Bl w [⟨w.heap.size, kc ZB, 50⟩] u := hB
  refine wp_region_lit ?_
  refine list_val (.pointer none) (by kernel_rfl) (by kernel_rfl) ?_
  simp only [Act.put, List.setIfInBounds_toArray, List.set_cons_zero, List.set_cons_succ, List.getElem_toArray, List.getElem_cons_zero, List.getElem_cons_succ]
  refine list_val (.int .i64 i) (by kernel_rfl) (by kernel_rfl) ?_
  simp only [Act.put, List.setIfInBounds_toArray, List.set_cons_zero, List.set_cons_succ, List.getElem_toArray, List.getElem_cons_zero, List.getElem_cons_succ]
  refine list_call 54 #[.pointer none, .int .i64 i] (by kernel_rfl) (by kernel_rfl) ((sreach_nil i _).mono ?_)
  rintro r u1 ⟨rfl, hg⟩
  refine ⟨_, rfl, ?_⟩
  replace hB := hB.more hg
  clear hg
  simp only [Act.put, List.setIfInBounds_toArray, List.set_cons_zero, List.set_cons_succ, List.getElem_toArray, List.getElem_cons_zero, List.getElem_cons_succ]
  (refine wpList_step fun K hK => ?_; replace hK := hide hK; go_simp; refine unhide hK _ _ ?_; clear hK K)
  refine wpList_nil ?_
  replace hB := hide hB
  go_upto_region 3 with fail
  replace hB := unhide hB
  refine wp_region_lit ?_
  refine list_val (.agg (kc ZB)) (by kernel_rfl) (by kernel_rfl) ?_
  simp only [Act.put, List.setIfInBounds_toArray, List.set_cons_zero, List.set_cons_succ, List.getElem_toArray, List.getElem_cons_zero, List.getElem_cons_succ]
  refine list_val (.int .i64 1) (by kernel_rfl) (by kernel_rfl) ?_
  simp only [Act.put, List.setIfInBounds_toArray, List.set_cons_zero, List.set_cons_succ, List.getElem_toArray, List.getElem_cons_zero, List.getElem_cons_succ]
  refine list_store 50 (.tmp 4) (.tmp 12) (w.heap.size) (kc ZB) 50 (kc ZB) (by kernel_rfl) rfl (by kernel_rfl) (by kernel_rfl) (hB.get 0 (x := ⟨w.heap.size, kc ZB, 50⟩) rfl) (by rw [Tryd.infoB, kc_size, ZB_len]) ((show (kc ZB).size = 64 from rfl).trans ((kc_size _).trans ZB_len).symm) (kc_one _) ?_
  replace hB := hB.set 0 (x := ⟨w.heap.size, kc ZB, 50⟩) rfl (kc ZB)
  simp only [List.set_cons_zero, List.set_cons_succ] at hB
  generalize World.setRow _ _ _ = u9 at *
  replace hB : Bl w [⟨w.heap.size, kc ZB, 50⟩] u9 := hB
  simp only [Act.put, List.setIfInBounds_toArray, List.set_cons_zero, List.set_cons_succ, List.getElem_toArray, List.getElem_cons_zero, List.getElem_cons_succ]
  (refine wpList_step fun K hK => ?_; replace hK := hide hK; go_simp; refine unhide hK _ _ ?_; clear hK K)
  refine wpList_nil ?_
  replace hB := hide hB
  go_wp2_with fail
  replace hB := unhide hB
  rw [unhide hT]
  exact bodyPost_ret (v := .tuple #[.agg (kc ZB), .int .i64 1]) (results_cell_tmp Tryd.results28 _ _ (w.heap.size) 50 (kc ZB) (0, 0) _ rfl (.int .i64 1) rfl (hB.get 0 (x := ⟨w.heap.size, kc ZB, 50⟩) rfl) Tryd.underlying50 rfl ((by rw [Tryd.infoB]; rfl))) rfl (⟨rfl, hB.gr⟩)
set_option maxHeartbeats 4000000 in
theorem eput_nil (i : Int) (b : List Int) (hb : BB b) (w : World) : Calls Tryd.prog 27 #[.pointer none, .int .i64 i, .agg (kc b)] w (Vl (.int .i64 1) w) := by
  obtain ⟨T, hT⟩ : ∃ T, T = Vl (.int .i64 1) w := ⟨_, rfl⟩
  rw [← hT]
  replace hT := hide hT
  obtain ⟨SK, hSK⟩ : ∃ X, X = kc b := ⟨_, rfl⟩
  rw [← hSK]
  clear hSK
  go_enter Tryd.func27, Tryd.ntmps27
  go_upto_region 1 with fail
  have hB := ((Bl.nil w).new SK 50)
  simp only [size_alloc, List.nil_append, List.cons_append] at hB
  generalize World.alloc _ _ = u at *
  replace hB : Bl w [⟨w.heap.size, SK, 50⟩] u := hB
  refine wp_region_lit ?_
  refine list_val (.pointer none) (by kernel_rfl) (by kernel_rfl) ?_
  simp only [Act.put, List.setIfInBounds_toArray, List.set_cons_zero, List.set_cons_succ, List.getElem_toArray, List.getElem_cons_zero, List.getElem_cons_succ]
  refine list_val (.int .i64 i) (by kernel_rfl) (by kernel_rfl) ?_
  simp only [Act.put, List.setIfInBounds_toArray, List.set_cons_zero, List.set_cons_succ, List.getElem_toArray, List.getElem_cons_zero, List.getElem_cons_succ]
  refine list_call 54 #[.pointer none, .int .i64 i] (by kernel_rfl) (by kernel_rfl) ((sreach_nil i _).mono ?_)
  rintro r u1 ⟨rfl, hg⟩
  refine ⟨_, rfl, ?_⟩
  replace hB := hB.more hg
  clear hg
  simp only [Act.put, List.setIfInBounds_toArray, List.set_cons_zero, List.set_cons_succ, List.getElem_toArray, List.getElem_cons_zero, List.getElem_cons_succ]
  (refine wpList_step fun K hK => ?_; replace hK := hide hK; go_simp; refine unhide hK _ _ ?_; clear hK K)
  refine wpList_nil ?_
  have hZ : Hid (Vl (.int .i64 1) w (.returned (.int .i64 1)) u1) := ⟨rfl, hB.gr⟩
  replace hB := hide hB
  go_wp2_with fail
  rw [unhide hT]
  exact unhide hZ
set_option maxHeartbeats 4000000 in
theorem eformat_few (F : List Nat) (gd m : Nat) (D : Dk) (hD : D.Ok m) (hm : m ≤ 900000) (hn : D.safe.length < 64) (w : World) (hL : Lies F gd D w) (hf : Fst w) : Calls Tryd.prog 11 #[P0 gd] w (Vl (.tuple #[.pointer none, .int .i64 2]) w) := by
  obtain ⟨T, hT⟩ : ∃ T, T = Vl (.tuple #[.pointer none, .int .i64 2]) w := ⟨_, rfl⟩
  rw [← hT]
  replace hT := hide hT
  replace hL := hide hL; replace hD := hide hD
  go_enter Tryd.func11, Tryd.ntmps11
  go_upto_region 1 with fail
  refine wp_region_lit ?_
  refine list_val (.pointer (some ⟨gd, 0, none⟩)) (by kernel_rfl) (by kernel_rfl) ?_
  simp only [Act.put, List.setIfInBounds_toArray, List.set_cons_zero, List.set_cons_succ, List.getElem_toArray, List.getElem_cons_zero, List.getElem_cons_succ]
  refine list_call 35 #[P0 gd] (by kernel_rfl) (by kernel_rfl) ((on_few F gd m D (unhide hD) hm hn w (unhide hL)).mono ?_)
  rintro r u1 ⟨rfl, hg⟩
  refine ⟨_, rfl, ?_⟩
  simp only [Act.put, List.setIfInBounds_toArray, List.set_cons_zero, List.set_cons_succ, List.getElem_toArray, List.getElem_cons_zero, List.getElem_cons_succ]
  refine list_val (.tuple #[.pointer none, .int .i64 2]) (by kernel_rfl) (by kernel_rfl) ?_
  simp only [Act.put, List.setIfInBounds_toArray, List.set_cons_zero, List.set_cons_succ, List.getElem_toArray, List.getElem_cons_zero, List.getElem_cons_succ]
  refine list_val (.pointer none) (by kernel_rfl) (by kernel_rfl) ?_
  simp only [Act.put, List.setIfInBounds_toArray, List.set_cons_zero, List.set_cons_succ, List.getElem_toArray, List.getElem_cons_zero, List.getElem_cons_succ]
  refine list_val (.int .i64 2) (by kernel_rfl) (by kernel_rfl) ?_
  simp only [Act.put, List.setIfInBounds_toArray, List.set_cons_zero, List.set_cons_succ, List.getElem_toArray, List.getElem_cons_zero, List.getElem_cons_succ]
  (refine wpList_step fun K hK => ?_; replace hK := hide hK; go_simp; refine unhide hK _ _ ?_; clear hK K)
  (refine wpList_step fun K hK => ?_; replace hK := hide hK; go_simp; refine unhide hK _ _ ?_; clear hK K)
  refine wpList_nil ?_
  have hZ : Hid (Vl (.tuple #[.pointer none, .int .i64 2]) w (.returned (.tuple #[.pointer none, .int .i64 2])) u1) := ⟨rfl, hg⟩
  replace hg := hide hg
  go_wp2_with fail
  rw [unhide hT]
  exact unhide hZ
set_option maxHeartbeats 4000000 in
theorem eformat_nil (w : World) : Calls Tryd.prog 11 #[.pointer none] w (Vl (.tuple #[.pointer none, .int .i64 1]) w) := by
  obtain ⟨T, hT⟩ : ∃ T, T = Vl (.tuple #[.pointer none, .int .i64 1]) w := ⟨_, rfl⟩
  rw [← hT]
  replace hT := hide hT
  go_enter Tryd.func11, Tryd.ntmps11
  go_upto_region 1 with fail
  refine wp_region_lit ?_
  refine list_val (.pointer none) (by kernel_rfl) (by kernel_rfl) ?_
  simp only [Act.put, List.setIfInBounds_toArray, List.set_cons_zero, List.set_cons_succ, List.getElem_toArray, List.getElem_cons_zero, List.getElem_cons_succ]
  refine list_call 35 #[.pointer none] (by kernel_rfl) (by kernel_rfl) ((on_nil w).mono ?_)
  rintro r u1 ⟨rfl, hg⟩
  refine ⟨_, rfl, ?_⟩
  simp only [Act.put, List.setIfInBounds_toArray, List.set_cons_zero, List.set_cons_succ, List.getElem_toArray, List.getElem_cons_zero, List.getElem_cons_succ]
  refine list_val (.tuple #[.pointer none, .int .i64 1]) (by kernel_rfl) (by kernel_rfl) ?_
  simp only [Act.put, List.setIfInBounds_toArray, List.set_cons_zero, List.set_cons_succ, List.getElem_toArray, List.getElem_cons_zero, List.getElem_cons_succ]
  refine list_val (.pointer none) (by kernel_rfl) (by kernel_rfl) ?_
  simp only [Act.put, List.setIfInBounds_toArray, List.set_cons_zero, List.set_cons_succ, List.getElem_toArray, List.getElem_cons_zero, List.getElem_cons_succ]
  refine list_val (.int .i64 1) (by kernel_rfl) (by kernel_rfl) ?_
  simp only [Act.put, List.setIfInBounds_toArray, List.set_cons_zero, List.set_cons_succ, List.getElem_toArray, List.getElem_cons_zero, List.getElem_cons_succ]
  (refine wpList_step fun K hK => ?_; replace hK := hide hK; go_simp; refine unhide hK _ _ ?_; clear hK K)
  (refine wpList_step fun K hK => ?_; replace hK := hide hK; go_simp; refine unhide hK _ _ ?_; clear hK K)
  refine wpList_nil ?_
  have hZ : Hid (Vl (.tuple #[.pointer none, .int .i64 1]) w (.returned (.tuple #[.pointer none, .int .i64 1])) u1) := ⟨rfl, hg⟩
  replace hg := hide hg
  go_wp2_with fail
  rw [unhide hT]
  exact unhide hZ
set_option maxHeartbeats 4000000 in
theorem eopen_few (F : List Nat) (gd m : Nat) (D : Dk) (hD : D.Ok m) (hm : m ≤ 900000) (hn : D.safe.length < 64) (w : World) (hL : Lies F gd D w) (hf : Fst w) : Calls Tryd.prog 18 #[P0 gd] w (Vl (.tuple #[.pointer none, .int .i64 2]) w) := by
  obtain ⟨T, hT⟩ : ∃ T, T = Vl (.tuple #[.pointer none, .int .i64 2]) w := ⟨_, rfl⟩
  rw [← hT]
  replace hT := hide hT
  replace hL := hide hL; replace hD := hide hD
  go_enter Tryd.func18, Tryd.ntmps18
  go_upto_region 1 with fail
  refine wp_region_lit ?_
  refine list_val (.pointer (some ⟨gd, 0, none⟩)) (by kernel_rfl) (by kernel_rfl) ?_
  simp only [Act.put, List.setIfInBounds_toArray, List.set_cons_zero, List.set_cons_succ, List.getElem_toArray, List.getElem_cons_zero, List.getElem_cons_succ]
  refine list_call 35 #[P0 gd] (by kernel_rfl) (by kernel_rfl) ((on_few F gd m D (unhide hD) hm hn w (unhide hL)).mono ?_)
  rintro r u1 ⟨rfl, hg⟩
  refine ⟨_, rfl, ?_⟩
  simp only [Act.put, List.setIfInBounds_toArray, List.set_cons_zero, List.set_cons_succ, List.getElem_toArray, List.getElem_cons_zero, List.getElem_cons_succ]
  refine list_val (.tuple #[.pointer none, .int .i64 2]) (by kernel_rfl) (by kernel_rfl) ?_
  simp only [Act.put, List.setIfInBounds_toArray, List.set_cons_zero, List.set_cons_succ, List.getElem_toArray, List.getElem_cons_zero, List.getElem_cons_succ]
  refine list_val (.pointer none) (by kernel_rfl) (by kernel_rfl) ?_
  simp only [Act.put, List.setIfInBounds_toArray, List.set_cons_zero, List.set_cons_succ, List.getElem_toArray, List.getElem_cons_zero, List.getElem_cons_succ]
  refine list_val (.int .i64 2) (by kernel_rfl) (by kernel_rfl) ?_
  simp only [Act.put, List.setIfInBounds_toArray, List.set_cons_zero, List.set_cons_succ, List.getElem_toArray, List.getElem_cons_zero, List.getElem_cons_succ]
  (refine wpList_step fun K hK => ?_; replace hK := hide hK; go_simp; refine unhide hK _ _ ?_; clear hK K)
  (refine wpList_step fun K hK => ?_; replace hK := hide hK; go_simp; refine unhide hK _ _ ?_; clear hK K)
  refine wpList_nil ?_
  have hZ : Hid (Vl (.tuple #[.pointer none, .int .i64 2]) w (.returned (.tuple #[.pointer none, .int .i64 2])) u1) := ⟨rfl, hg⟩
  replace hg := hide hg
  go_wp2_with fail
  rw [unhide hT]
  exact unhide hZ
set_option maxHeartbeats 4000000 in
theorem eopen_nil (w : World) : Calls Tryd.prog 18 #[.pointer none] w (Vl (.tuple #[.pointer none, .int .i64 1]) w) := by
  obtain ⟨T, hT⟩ : ∃ T, T = Vl (.tuple #[.pointer none, .int .i64 1]) w := ⟨_, rfl⟩
  rw [← hT]
  replace hT := hide hT
  go_enter Tryd.func18, Tryd.ntmps18
  go_upto_region 1 with fail
  refine wp_region_lit ?_
  refine list_val (.pointer none) (by kernel_rfl) (by kernel_rfl) ?_
  simp only [Act.put, List.setIfInBounds_toArray, List.set_cons_zero, List.set_cons_succ, List.getElem_toArray, List.getElem_cons_zero, List.getElem_cons_succ]
  refine list_call 35 #[.pointer none] (by kernel_rfl) (by kernel_rfl) ((on_nil w).mono ?_)
  rintro r u1 ⟨rfl, hg⟩
  refine ⟨_, rfl, ?_⟩
  simp only [Act.put, List.setIfInBounds_toArray, List.set_cons_zero, List.set_cons_succ, List.getElem_toArray, List.getElem_cons_zero, List.getElem_cons_succ]
  refine list_val (.tuple #[.pointer none, .int .i64 1]) (by kernel_rfl) (by kernel_rfl) ?_
  simp only [Act.put, List.setIfInBounds_toArray, List.set_cons_zero, List.set_cons_succ, List.getElem_toArray, List.getElem_cons_zero, List.getElem_cons_succ]
  refine list_val (.pointer none) (by kernel_rfl) (by kernel_rfl) ?_
  simp only [Act.put, List.setIfInBounds_toArray, List.set_cons_zero, List.set_cons_succ, List.getElem_toArray, List.getElem_cons_zero, List.getElem_cons_succ]
  refine list_val (.int .i64 1) (by kernel_rfl) (by kernel_rfl) ?_
  simp only [Act.put, List.setIfInBounds_toArray, List.set_cons_zero, List.set_cons_succ, List.getElem_toArray, List.getElem_cons_zero, List.getElem_cons_succ]
  (refine wpList_step fun K hK => ?_; replace hK := hide hK; go_simp; refine unhide hK _ _ ?_; clear hK K)
  (refine wpList_step fun K hK => ?_; replace hK := hide hK; go_simp; refine unhide hK _ _ ?_; clear hK K)
  refine wpList_nil ?_
  have hZ : Hid (Vl (.tuple #[.pointer none, .int .i64 1]) w (.returned (.tuple #[.pointer none, .int .i64 1])) u1) := ⟨rfl, hg⟩
  replace hg := hide hg
  go_wp2_with fail
  rw [unhide hT]
  exact unhide hZ
end Go.Proofs.YtomihjeiaignnaaDoor
