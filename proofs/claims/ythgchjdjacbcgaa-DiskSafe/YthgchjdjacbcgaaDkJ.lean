/-
  The laws' own helpers: what an op does by the document.
-/
import Derived.Test.YthgchjdjacbcgaaDkI
namespace Go.Proofs.Ythgchjdjacbcgaa
open Go.RowKit
set_option maxRecDepth 100000
set_option linter.unusedSimpArgs false
set_option linter.unusedVariables false
theorem results_cell2_tmp {P : Program} {fn : Func} {p q s : Tmp} {ty ty2 : TypeId} (h : fn.results = #[.cell p ty, .cell q ty2, .tmp s]) (tmps : Array Value) (w : World) (g g2 : Nat) (t t2 : TypeId) (cs cs2 : Array Value) (fr fr2 : Nat × Nat) (d d2 : TypeDesc)
    (hp : tmps.getD p undef = .pointer (some ⟨g, 0, none⟩)) (hq : tmps.getD q undef = .pointer (some ⟨g2, 0, none⟩)) (v : Value) (hs : tmps.getD s undef = v) (hg : w.heap[g]? = some (.cells cs t fr)) (hg2 : w.heap[g2]? = some (.cells cs2 t2 fr2))
    (hu : P.underlying ty = some d) (hd : (match d with | .struct _ | .array _ _ => true | _ => false) = true) (hi : (P.info? ty).map (·.size) = some cs.size)
    (hu2 : P.underlying ty2 = some d2) (hd2 : (match d2 with | .struct _ | .array _ _ => true | _ => false) = true) (hi2 : (P.info? ty2).map (·.size) = some cs2.size) :
    (results fn tmps).run P w = .ok (.tuple #[.agg cs, .agg cs2, v]) w := by
  have hp' : tmps[p]?.getD undef = .pointer (some ⟨g, 0, none⟩) := by simpa using hp
  have hq' : tmps[q]?.getD undef = .pointer (some ⟨g2, 0, none⟩) := by simpa using hq
  have hs' : tmps[s]?.getD undef = v := by simpa using hs
  simp [results, h, hp', hq', hs', asAddr, run_loadVar_row w g t ty cs fr d hg hu hd hi, run_loadVar_row w g2 t2 ty2 cs2 fr2 d2 hg2 hu2 hd2 hi2]
/-- what an op does -/
def Dk.opD (D : Dk) (o : Opl) : Dk := match o.k with
  | 0 => D
  | 1 => D.writeD o.at_ (blkL o.fill)
  | 2 => D.syncD
  | 3 => D.armD o.at_
  | _ => D.crashD o.keep
def Dk.opB (D : Dk) (o : Opl) : List Int := match o.k with
  | 0 => D.readB o.at_
  | _ => ZB
def Dk.opE (D : Dk) (o : Opl) : Int := match o.k with
  | 0 => D.readE o.at_
  | 1 => D.writeE o.at_
  | 2 => D.syncE
  | 3 => D.armE
  | _ => 0
theorem Dk.Ok.op {D : Dk} {m : Nat} (h : D.Ok m) (o : Opl) (ho : o.Ok) : (D.opD o).Ok (m + 1) := by
  unfold Dk.opD
  split
  · exact h.up (by omega)
  · exact h.write _ _ (blkL_bb _)
  · exact h.sync
  · exact (h.arm _ ho.a2).up (by omega)
  · exact (h.crash _).up (by omega)
theorem Dk.opB_bb {D : Dk} {m : Nat} (h : D.Ok m) (o : Opl) : BB (D.opB o) := by
  unfold Dk.opB
  split
  · exact Dk.readB_bb h _
  · exact ZB_bb
def Rwt (sa0 pa0 : Option Addr) (D : Dk) (b : List Int) (e : Int) (w : World) (r : Ending) (w' : World) : Prop := ∃ sa sc pa pc, r = .returned (.tuple #[.agg (D.v sa sc pa pc), .agg (kc b), .int .i64 e]) ∧ Rd w' sa sc pa pc D ∧ Fr2 w sa0 sa ∧ Fr2 w pa0 pa ∧ Gr w w'
set_option maxHeartbeats 4000000 in
theorem want_ok (S : List (List Int)) (P : List (Nat × List Int)) (dd : Bool) (lf : Int) (os m : Nat) (hD : (Dk.mk S P dd lf os).Ok m) (hm : m ≤ 1000000) (sa : Option Addr) (sc : Nat) (pa : Option Addr) (pc : Nat) (o : Opl) (ho : o.Ok) (ka : Option Addr) (kn kp : Nat) (w : World) (hR : Rd w sa sc pa pc (Dk.mk S P dd lf os)) (hK : Kp w ka kn kp o.keep) :
    Calls Try.prog 14 #[.agg ((Dk.mk S P dd lf os).v sa sc pa pc), .agg (opv o ka kn kp)] w (Rwt sa pa ((Dk.mk S P dd lf os).opD o) ((Dk.mk S P dd lf os).opB o) ((Dk.mk S P dd lf os).opE o) w) := by
  obtain ⟨T, hT⟩ : ∃ T, T = Rwt sa pa ((Dk.mk S P dd lf os).opD o) ((Dk.mk S P dd lf os).opB o) ((Dk.mk S P dd lf os).opE o) w := ⟨_, rfl⟩
  rw [← hT]
  replace hT := hide hT
  replace hR := hide hR
  obtain ⟨sn, hsn⟩ : ∃ n, n = S.length := ⟨_, rfl⟩
  obtain ⟨pn, hpn⟩ : ∃ n, n = P.length := ⟨_, rfl⟩
  have hs512 : sn ≤ 512 := by rw [hsn]; exact hD.hi1
  have hpm : pn ≤ m := by rw [hpn]; exact hD.num
  have hom : os ≤ m := hD.ops
  have hl1 : -1 ≤ lf := hD.lo
  have hl2 : lf < 9223372036854775808 := hD.hi
  obtain ⟨SD, hSD⟩ : ∃ X, X = dkv sa sn sc pa pn pc dd lf os := ⟨_, rfl⟩
  have e0 : (Dk.mk S P dd lf os).v sa sc pa pc = SD := by rw [hSD, hsn, hpn]; rfl
  rw [e0]
  clear e0
  replace hSD := hide hSD; replace hsn := hide hsn; replace hpn := hide hpn; replace hD := hide hD
  obtain ⟨SO, hSO⟩ : ∃ X, X = opv o ka kn kp := ⟨_, rfl⟩
  rw [← hSO]
  replace hSO := hide hSO; replace hK := hide hK; replace ho := hide ho
  go_enter Try.func14, Try.ntmps14
  go_upto_region 2 with fail
  have hB := (((((Bl.nil w).new SD 31).new SO 37).new #[.slice none 0 0, .slice none 0 0, .bool false, .int .i64 0, .int .i64 0] 31).new #[.int .u8 0, .int .u8 0, .int .u8 0, .int .u8 0, .int .u8 0, .int .u8 0, .int .u8 0, .int .u8 0, .int .u8 0, .int .u8 0, .int .u8 0, .int .u8 0, .int .u8 0, .int .u8 0, .int .u8 0, .int .u8 0, .int .u8 0, .int .u8 0, .int .u8 0, .int .u8 0, .int .u8 0, .int .u8 0, .int .u8 0, .int .u8 0, .int .u8 0, .int .u8 0, .int .u8 0, .int .u8 0, .int .u8 0, .int .u8 0, .int .u8 0, .int .u8 0, .int .u8 0, .int .u8 0, .int .u8 0, .int .u8 0, .int .u8 0, .int .u8 0, .int .u8 0, .int .u8 0, .int .u8 0, .int .u8 0, .int .u8 0, .int .u8 0, .int .u8 0, .int .u8 0, .int .u8 0, .int .u8 0, .int .u8 0, .int .u8 0, .int .u8 0, .int .u8 0, .int .u8 0, .int .u8 0, .int .u8 0, .int .u8 0, .int .u8 0, .int .u8 0, .int .u8 0, .int .u8 0, .int .u8 0, .int .u8 0, .int .u8 0, .int .u8 0] 39)
  simp only [size_alloc, List.nil_append, List.cons_append] at hB
  generalize World.alloc _ _ = u at *
  rw [unhide hSD, unhide hSO] at hB
  replace hB : Bl w [⟨w.heap.size, dkv sa sn sc pa pn pc dd lf os, 31⟩, ⟨w.heap.size + 1, opv o ka kn kp, 37⟩, ⟨w.heap.size + 1 + 1, dkv none 0 0 none 0 0 false 0 0, 31⟩, ⟨w.heap.size + 1 + 1 + 1, kc ZB, 39⟩] u := hB
  refine wp_region_lit ?_
  refine list_val (.agg (opv o ka kn kp)) (by kernel_rfl) (exec_arr _ 37 (.tmp 3) rfl (w.heap.size + 1) (by kernel_rfl) (opv o ka kn kp) 37 _ (hB.get 1 (x := ⟨w.heap.size + 1, opv o ka kn kp, 37⟩) rfl) Try.underlying37 rfl (by rw [Try.infoO]; rfl)) ?_
  simp only [Act.put, List.setIfInBounds_toArray, List.set_cons_zero, List.set_cons_succ, List.getElem_toArray, List.getElem_cons_zero, List.getElem_cons_succ]
  refine list_call 29 #[.agg (opv o ka kn kp)] (by kernel_rfl) (by kernel_rfl) ((kind_ok o (unhide ho) ka kn kp _).mono ?_)
  rintro r v1 ⟨rfl, hg⟩
  refine ⟨_, rfl, ?_⟩
  replace hB := hB.more hg
  obtain ⟨kk, hkk⟩ : ∃ kk, kk = o.k := ⟨_, rfl⟩
  rw [← hkk]
  have hk5 : kk < 5 := by rw [hkk]; exact o.k_lt
  clear hg
  simp only [Act.put, List.setIfInBounds_toArray, List.set_cons_zero, List.set_cons_succ, List.getElem_toArray, List.getElem_cons_zero, List.getElem_cons_succ]
  refine wpList_nil ?_
  have hcs : kk = 0 ∨ kk = 1 ∨ kk = 2 ∨ kk = 3 ∨ kk = 4 := by omega
  rcases hcs with rfl | rfl | rfl | rfl | rfl
  · skip
    have hop : Hid ((Dk.mk S P dd lf os).opD o = (Dk.mk S P dd lf os) ∧ (Dk.mk S P dd lf os).opB o = (Dk.mk S P dd lf os).readB o.at_ ∧ (Dk.mk S P dd lf os).opE o = (Dk.mk S P dd lf os).readE o.at_) := ⟨by unfold Dk.opD; rw [← hkk] <;> rfl, by unfold Dk.opB; rw [← hkk] <;> rfl, by unfold Dk.opE; rw [← hkk] <;> rfl⟩
    replace hkk := hide hkk
    replace hB := hide hB
    go_upto_region 5 with fail
    replace hB := unhide hB
    refine wp_region_lit ?_
    refine list_val (.agg (dkv sa sn sc pa pn pc dd lf os)) (by kernel_rfl) (exec_arr _ 31 (.tmp 2) rfl (w.heap.size) (by kernel_rfl) (dkv sa sn sc pa pn pc dd lf os) 31 _ (hB.get 0 (x := ⟨w.heap.size, dkv sa sn sc pa pn pc dd lf os, 31⟩) rfl) Try.underlying31 rfl (by rw [Try.infoRD]; rfl)) ?_
    simp only [Act.put, List.setIfInBounds_toArray, List.set_cons_zero, List.set_cons_succ, List.getElem_toArray, List.getElem_cons_zero, List.getElem_cons_succ]
    refine list_val (.pointer (some ⟨w.heap.size + 1, 1, none⟩)) (by kernel_rfl) (by kernel_rfl) ?_
    simp only [Act.put, List.setIfInBounds_toArray, List.set_cons_zero, List.set_cons_succ, List.getElem_toArray, List.getElem_cons_zero, List.getElem_cons_succ]
    refine list_val (.int .i64 o.at_) (by kernel_rfl) (exec_i64 _ (.tmp 20) rfl (w.heap.size + 1) 1 (by kernel_rfl) o.at_ (cell_of (hB.get 1 (x := ⟨w.heap.size + 1, opv o ka kn kp, 37⟩) rfl) (i := 1) rfl)) ?_
    simp only [Act.put, List.setIfInBounds_toArray, List.set_cons_zero, List.set_cons_succ, List.getElem_toArray, List.getElem_cons_zero, List.getElem_cons_succ]
    have e0 : dkv sa sn sc pa pn pc dd lf os = (Dk.mk S P dd lf os).v sa sc pa pc := by rw [unhide hsn, unhide hpn]; rfl
    rw [e0]
    refine list_call 18 #[.agg ((Dk.mk S P dd lf os).v sa sc pa pc), .int .i64 o.at_] (by kernel_rfl) (by kernel_rfl) ((rread_ok S P dd lf os m (unhide hD) (by omega) sa sc pa pc o.at_ _ ((unhide hR).gr hB.gr)).mono ?_)
    rintro r v2 ⟨rfl, hg⟩
    refine ⟨_, rfl, ?_⟩
    rw [← e0]
    clear e0
    replace hB := hB.more hg
    have hbb := Dk.readB_bb (unhide hD) o.at_
    obtain ⟨b, hb⟩ : ∃ b, b = (Dk.mk S P dd lf os).readB o.at_ := ⟨_, rfl⟩
    obtain ⟨e, he⟩ : ∃ e, e = (Dk.mk S P dd lf os).readE o.at_ := ⟨_, rfl⟩
    rw [← hb, ← he]
    rw [← hb] at hbb
    have hbl := hbb.1
    replace hb := hide hb; replace he := hide he
    clear hg hbb
    simp only [Act.put, List.setIfInBounds_toArray, List.set_cons_zero, List.set_cons_succ, List.getElem_toArray, List.getElem_cons_zero, List.getElem_cons_succ]
    refine list_val (.tuple #[.agg (kc b), .int .i64 e]) (by kernel_rfl) (by kernel_rfl) ?_
    simp only [Act.put, List.setIfInBounds_toArray, List.set_cons_zero, List.set_cons_succ, List.getElem_toArray, List.getElem_cons_zero, List.getElem_cons_succ]
    refine list_val (.agg (kc b)) (by kernel_rfl) (by kernel_rfl) ?_
    simp only [Act.put, List.setIfInBounds_toArray, List.set_cons_zero, List.set_cons_succ, List.getElem_toArray, List.getElem_cons_zero, List.getElem_cons_succ]
    refine list_val (.int .i64 e) (by kernel_rfl) (by kernel_rfl) ?_
    simp only [Act.put, List.setIfInBounds_toArray, List.set_cons_zero, List.set_cons_succ, List.getElem_toArray, List.getElem_cons_zero, List.getElem_cons_succ]
    refine list_valw (.pointer (some ⟨v2.heap.size, 0, none⟩)) (v2.alloc (.cells (kc ZB) 39 (0, 0))) (by kernel_rfl) (by kernel_rfl) ?_
    replace hB := hB.new (kc ZB) 39
    simp only [List.nil_append, List.cons_append] at hB
    generalize World.alloc _ _ = v3 at *
    generalize v2.heap.size = g8 at *
    replace hB : Bl w [⟨w.heap.size, dkv sa sn sc pa pn pc dd lf os, 31⟩, ⟨w.heap.size + 1, opv o ka kn kp, 37⟩, ⟨w.heap.size + 1 + 1, dkv none 0 0 none 0 0 false 0 0, 31⟩, ⟨w.heap.size + 1 + 1 + 1, kc ZB, 39⟩, ⟨g8, kc ZB, 39⟩] v3 := hB
    simp only [Act.put, List.setIfInBounds_toArray, List.set_cons_zero, List.set_cons_succ, List.getElem_toArray, List.getElem_cons_zero, List.getElem_cons_succ]
    refine list_store 39 (.tmp 8) (.tmp 23) (g8) (kc b) 39 (kc ZB) (by kernel_rfl) rfl (by kernel_rfl) (by kernel_rfl) (hB.get 4 (x := ⟨g8, kc ZB, 39⟩) rfl) (by rw [Try.infoB, kc_size, hbl]) ((show (kc ZB).size = 64 from rfl).trans ((kc_size _).trans hbl).symm) (kc_one _) ?_
    replace hB := hB.set 4 (x := ⟨g8, kc ZB, 39⟩) rfl (kc b)
    simp only [List.set_cons_zero, List.set_cons_succ] at hB
    generalize World.setRow _ _ _ = v4 at *
    replace hB : Bl w [⟨w.heap.size, dkv sa sn sc pa pn pc dd lf os, 31⟩, ⟨w.heap.size + 1, opv o ka kn kp, 37⟩, ⟨w.heap.size + 1 + 1, dkv none 0 0 none 0 0 false 0 0, 31⟩, ⟨w.heap.size + 1 + 1 + 1, kc ZB, 39⟩, ⟨g8, kc b, 39⟩] v4 := hB
    simp only [Act.put, List.setIfInBounds_toArray, List.set_cons_zero, List.set_cons_succ, List.getElem_toArray, List.getElem_cons_zero, List.getElem_cons_succ]
    (refine wpList_step fun K hK => ?_; replace hK := hide hK; go_simp; refine unhide hK _ _ ?_; clear hK K)
    refine wpList_nil ?_
    replace hB := hide hB
    go_upto_region 6 with fail
    replace hB := unhide hB
    refine any_start (S := fun v => v.heap[w.heap.size]? = some (.cells (dkv sa sn sc pa pn pc dd lf os) 31 (0, 0)) ∧ v.heap[g8]? = some (.cells (kc b) 39 (0, 0))) (by kernel_rfl) ?_
    replace hB := hB.drew
    generalize World.drew _ = x0 at *
    simp only [List.size_toArray, List.length_cons, List.length_nil, Array.replicate, List.replicate]
    refine any_take (i := 0) (v := (.agg (dkv sa sn sc pa pn pc dd lf os))) #[false, false, false, false, false, false] rfl (by kernel_rfl) (by kernel_rfl) (by kernel_rfl) (by kernel_rfl) (fun _ _ _ h => h) (.inl ⟨by kernel_rfl, fun x_ hu => exec_arr _ 31 (.tmp 2) rfl (w.heap.size) (by kernel_rfl) (dkv sa sn sc pa pn pc dd lf os) 31 _ hu.1 Try.underlying31 rfl (by rw [Try.infoRD]; rfl)⟩) ⟨(hB.get 0 (x := ⟨w.heap.size, dkv sa sn sc pa pn pc dd lf os, 31⟩) rfl), (hB.get 4 (x := ⟨g8, kc b, 39⟩) rfl)⟩ ?_
    simp only [Act.put, List.setIfInBounds_toArray, List.set_cons_zero, List.set_cons_succ, List.getElem_toArray, List.getElem_cons_zero, List.getElem_cons_succ]
    refine any_take (i := 1) (v := (.agg (kc b))) #[true, false, false, false, false, false] rfl (by kernel_rfl) (by kernel_rfl) (by kernel_rfl) (by kernel_rfl) (fun _ _ _ h => h) (.inl ⟨by kernel_rfl, fun x_ hu => exec_arr _ 39 (.tmp 8) rfl g8 (by kernel_rfl) (kc b) 39 _ hu.2 Try.underlying39 rfl (by rw [Try.infoB, kc_size, hbl])⟩) ⟨(hB.get 0 (x := ⟨w.heap.size, dkv sa sn sc pa pn pc dd lf os, 31⟩) rfl), (hB.get 4 (x := ⟨g8, kc b, 39⟩) rfl)⟩ ?_
    simp only [Act.put, List.setIfInBounds_toArray, List.set_cons_zero, List.set_cons_succ, List.getElem_toArray, List.getElem_cons_zero, List.getElem_cons_succ]
    refine any_take (i := 2) (v := (.int .i64 e)) #[true, true, false, false, false, false] rfl (by kernel_rfl) (by kernel_rfl) (by kernel_rfl) (by kernel_rfl) (fun _ _ _ h => h) (.inl ⟨by kernel_rfl, fun x_ hu => by kernel_rfl⟩) ⟨(hB.get 0 (x := ⟨w.heap.size, dkv sa sn sc pa pn pc dd lf os, 31⟩) rfl), (hB.get 4 (x := ⟨g8, kc b, 39⟩) rfl)⟩ ?_
    simp only [Act.put, List.setIfInBounds_toArray, List.set_cons_zero, List.set_cons_succ, List.getElem_toArray, List.getElem_cons_zero, List.getElem_cons_succ]
    refine any_one (i := 3) (by kernel_rfl) rfl (fun K_ hQ => ?_)
    rw [if_pos (by kernel_rfl)]
    refine wp_store_row 31 (.tmp 4) (.tmp 25) rfl (w.heap.size + 1 + 1) (dkv sa sn sc pa pn pc dd lf os) (by kernel_rfl) (by kernel_rfl) 31 (dkv none 0 0 none 0 0 false 0 0) (hB.get 2 (x := ⟨w.heap.size + 1 + 1, dkv none 0 0 none 0 0 false 0 0, 31⟩) rfl) (by rw [Try.infoRD]; rfl) rfl (dkv_one ..) ?_
    replace hB := hB.set 2 (x := ⟨w.heap.size + 1 + 1, dkv none 0 0 none 0 0 false 0 0, 31⟩) rfl (dkv sa sn sc pa pn pc dd lf os)
    simp only [List.set_cons_zero, List.set_cons_succ] at hB
    generalize World.setRow _ _ _ = x1 at *
    replace hB : Bl w [⟨w.heap.size, dkv sa sn sc pa pn pc dd lf os, 31⟩, ⟨w.heap.size + 1, opv o ka kn kp, 37⟩, ⟨w.heap.size + 1 + 1, dkv sa sn sc pa pn pc dd lf os, 31⟩, ⟨w.heap.size + 1 + 1 + 1, kc ZB, 39⟩, ⟨g8, kc b, 39⟩] x1 := hB
    refine hQ.out _ _ ⟨(hB.get 0 (x := ⟨w.heap.size, dkv sa sn sc pa pn pc dd lf os, 31⟩) rfl), (hB.get 4 (x := ⟨g8, kc b, 39⟩) rfl)⟩ (fun _ => ?_)
    clear hQ K_
    simp only [Act.put, List.setIfInBounds_toArray, List.set_cons_zero, List.set_cons_succ, List.getElem_toArray, List.getElem_cons_zero, List.getElem_cons_succ]
    refine any_one (i := 4) (by kernel_rfl) rfl (fun K_ hQ => ?_)
    rw [if_pos (by kernel_rfl)]
    refine wp_store_row 39 (.tmp 5) (.tmp 26) rfl (w.heap.size + 1 + 1 + 1) (kc b) (by kernel_rfl) (by kernel_rfl) 39 (kc ZB) (hB.get 3 (x := ⟨w.heap.size + 1 + 1 + 1, kc ZB, 39⟩) rfl) (by rw [Try.infoB, kc_size, hbl]) ((show (kc ZB).size = 64 from rfl).trans ((kc_size b).trans hbl).symm) (kc_one _) ?_
    replace hB := hB.set 3 (x := ⟨w.heap.size + 1 + 1 + 1, kc ZB, 39⟩) rfl (kc b)
    simp only [List.set_cons_zero, List.set_cons_succ] at hB
    generalize World.setRow _ _ _ = x2 at *
    replace hB : Bl w [⟨w.heap.size, dkv sa sn sc pa pn pc dd lf os, 31⟩, ⟨w.heap.size + 1, opv o ka kn kp, 37⟩, ⟨w.heap.size + 1 + 1, dkv sa sn sc pa pn pc dd lf os, 31⟩, ⟨w.heap.size + 1 + 1 + 1, kc b, 39⟩, ⟨g8, kc b, 39⟩] x2 := hB
    refine hQ.out _ _ ⟨(hB.get 0 (x := ⟨w.heap.size, dkv sa sn sc pa pn pc dd lf os, 31⟩) rfl), (hB.get 4 (x := ⟨g8, kc b, 39⟩) rfl)⟩ (fun _ => ?_)
    clear hQ K_
    simp only [Act.put, List.setIfInBounds_toArray, List.set_cons_zero, List.set_cons_succ, List.getElem_toArray, List.getElem_cons_zero, List.getElem_cons_succ]
    refine any_one (i := 5) (by kernel_rfl) rfl (fun K_ hQ => ?_)
    replace hQ := hide hQ
    go_simp
    refine (unhide hQ).out _ _ ⟨(hB.get 0 (x := ⟨w.heap.size, dkv sa sn sc pa pn pc dd lf os, 31⟩) rfl), (hB.get 4 (x := ⟨g8, kc b, 39⟩) rfl)⟩ (fun _ => ?_)
    clear hQ K_
    refine any_done (by kernel_rfl) ?_
    replace hB := hide hB
    go_wp2_with fail
    replace hB := unhide hB
    rw [unhide hT]
    exact bodyPost_ret (v := .tuple #[.agg (dkv sa sn sc pa pn pc dd lf os), .agg (kc b), .int .i64 e]) (results_cell2_tmp Try.results14 _ _ (w.heap.size + 1 + 1) (w.heap.size + 1 + 1 + 1) 31 39 (dkv sa sn sc pa pn pc dd lf os) (kc b) (0, 0) (0, 0) _ _ rfl rfl (.int .i64 e) rfl (hB.get 2 (x := ⟨w.heap.size + 1 + 1, dkv sa sn sc pa pn pc dd lf os, 31⟩) rfl) (hB.get 3 (x := ⟨w.heap.size + 1 + 1 + 1, kc b, 39⟩) rfl) Try.underlying31 rfl (by rw [Try.infoRD]; rfl) Try.underlying39 rfl (by rw [Try.infoB, kc_size, hbl])) rfl (by
      rw [(unhide hop).1, (unhide hop).2.1, (unhide hop).2.2, ← unhide hb, ← unhide he]
      exact ⟨sa, sc, pa, pc, by rw [unhide hsn, unhide hpn]; rfl, (unhide hR).gr hB.gr, Fr2.refl _ _, Fr2.refl _ _, hB.gr⟩)
  · skip
    have hop : Hid ((Dk.mk S P dd lf os).opD o = (Dk.mk S P dd lf os).writeD o.at_ (blkL o.fill) ∧ (Dk.mk S P dd lf os).opB o = ZB ∧ (Dk.mk S P dd lf os).opE o = (Dk.mk S P dd lf os).writeE o.at_) := ⟨by unfold Dk.opD; rw [← hkk] <;> rfl, by unfold Dk.opB; rw [← hkk] <;> rfl, by unfold Dk.opE; rw [← hkk] <;> rfl⟩
    replace hkk := hide hkk
    replace hB := hide hB
    go_upto_region 8 with fail
    replace hB := unhide hB
    refine anyC_start 6 (fun v => Bl w [⟨w.heap.size, dkv sa sn sc pa pn pc dd lf os, 31⟩, ⟨w.heap.size + 1, opv o ka kn kp, 37⟩, ⟨w.heap.size + 1 + 1, dkv none 0 0 none 0 0 false 0 0, 31⟩, ⟨w.heap.size + 1 + 1 + 1, kc ZB, 39⟩] v) (by kernel_rfl) ?_
    replace hB := hB.drew
    generalize World.drew _ = x0 at *
    simp only [List.size_toArray, List.length_cons, List.length_nil, Array.replicate, List.replicate]
    refine anyC_take (i := 0) (v := (.agg (dkv sa sn sc pa pn pc dd lf os))) (fun v => Bl w [⟨w.heap.size, dkv sa sn sc pa pn pc dd lf os, 31⟩, ⟨w.heap.size + 1, opv o ka kn kp, 37⟩, ⟨w.heap.size + 1 + 1, dkv none 0 0 none 0 0 false 0 0, 31⟩, ⟨w.heap.size + 1 + 1 + 1, kc ZB, 39⟩] v) (fun _ h_ => h_) (.inr (by kernel_rfl)) rfl (by kernel_rfl) (by kernel_rfl) (by kernel_rfl) (by decide) (by kernel_rfl) (by decide) (fun _ _ _ h => h) (.inl ⟨by kernel_rfl, fun x_ hu => exec_arr _ 31 (.tmp 2) rfl (w.heap.size) (by kernel_rfl) (dkv sa sn sc pa pn pc dd lf os) 31 _ (hu.get 0 (x := ⟨w.heap.size, dkv sa sn sc pa pn pc dd lf os, 31⟩) rfl) Try.underlying31 rfl (by rw [Try.infoRD]; rfl)⟩) hB ?_
    simp only [Act.put, List.setIfInBounds_toArray, List.set_cons_zero, List.set_cons_succ, List.getElem_toArray, List.getElem_cons_zero, List.getElem_cons_succ]
    refine anyC_take (i := 1) (v := (.pointer (some ⟨w.heap.size + 1, 1, none⟩))) (fun _ => True) (fun _ _ => trivial) (.inl (fun _ => trivial)) rfl (by kernel_rfl) (by kernel_rfl) (by kernel_rfl) (by decide) (by kernel_rfl) (by decide) (fun _ _ _ h => h) (.inl ⟨by kernel_rfl, fun x_ hu => by kernel_rfl⟩) hB ?_
    simp only [Act.put, List.setIfInBounds_toArray, List.set_cons_zero, List.set_cons_succ, List.getElem_toArray, List.getElem_cons_zero, List.getElem_cons_succ]
    refine anyC_take (i := 2) (v := (.int .i64 o.at_)) (fun v => Bl w [⟨w.heap.size, dkv sa sn sc pa pn pc dd lf os, 31⟩, ⟨w.heap.size + 1, opv o ka kn kp, 37⟩, ⟨w.heap.size + 1 + 1, dkv none 0 0 none 0 0 false 0 0, 31⟩, ⟨w.heap.size + 1 + 1 + 1, kc ZB, 39⟩] v) (fun _ h_ => h_) (.inr (by kernel_rfl)) rfl (by kernel_rfl) (by kernel_rfl) (by kernel_rfl) (by decide) (by kernel_rfl) (by decide) (fun _ _ _ h => h) (.inl ⟨by kernel_rfl, fun x_ hu => exec_i64 _ (.tmp 32) rfl (w.heap.size + 1) 1 (by kernel_rfl) o.at_ (cell_of (hu.get 1 (x := ⟨w.heap.size + 1, opv o ka kn kp, 37⟩) rfl) (i := 1) rfl)⟩) hB ?_
    simp only [Act.put, List.setIfInBounds_toArray, List.set_cons_zero, List.set_cons_succ, List.getElem_toArray, List.getElem_cons_zero, List.getElem_cons_succ]
    refine anyC_take (i := 3) (v := (.pointer (some ⟨w.heap.size + 1, 2, none⟩))) (fun _ => True) (fun _ _ => trivial) (.inl (fun _ => trivial)) rfl (by kernel_rfl) (by kernel_rfl) (by kernel_rfl) (by decide) (by kernel_rfl) (by decide) (fun _ _ _ h => h) (.inl ⟨by kernel_rfl, fun x_ hu => by kernel_rfl⟩) hB ?_
    simp only [Act.put, List.setIfInBounds_toArray, List.set_cons_zero, List.set_cons_succ, List.getElem_toArray, List.getElem_cons_zero, List.getElem_cons_succ]
    refine anyC_one (i := 4) (by kernel_rfl) rfl (fun K_ hQ => ?_)
    refine step_val (.int .u8 o.fill) x0 (by kernel_rfl) (exec_b _ (.tmp 34) rfl (w.heap.size + 1) 2 (by kernel_rfl) o.fill (cell_of (hB.get 1 (x := ⟨w.heap.size + 1, opv o ka kn kp, 37⟩) rfl) (i := 2) rfl)) ?_
    refine hQ.out _ _ hB (fun _ => ?_)
    clear hQ K_
    simp only [Act.put, List.setIfInBounds_toArray, List.set_cons_zero, List.set_cons_succ, List.getElem_toArray, List.getElem_cons_zero, List.getElem_cons_succ]
    refine anyC_one (i := 5) (by kernel_rfl) rfl (fun K_ hQ => ?_)
    refine step_callw (by kernel_rfl) 30 #[.int .u8 o.fill] (by kernel_rfl) ((block_ok o.fill _).mono ?_)
    rintro r x1 ⟨rfl, hg⟩
    refine ⟨_, rfl, ?_⟩
    replace hB := hB.more hg
    clear hg
    refine hQ.out _ _ hB (fun _ => ?_)
    clear hQ K_
    simp only [Act.put, List.setIfInBounds_toArray, List.set_cons_zero, List.set_cons_succ, List.getElem_toArray, List.getElem_cons_zero, List.getElem_cons_succ]
    refine anyC_last (by kernel_rfl) rfl (fun K_ hQ => ?_)
    have e0 : dkv sa sn sc pa pn pc dd lf os = (Dk.mk S P dd lf os).v sa sc pa pc := by rw [unhide hsn, unhide hpn]; rfl
    have h9 := rwrite_ok S P dd lf os m (unhide hD) hm sa sc pa pc o.at_ (blkL o.fill) (blkL_bb _) x1 ((unhide hR).gr hB.gr)
    rw [← e0] at h9
    clear e0
    refine step_callw (by kernel_rfl) 33 #[.agg (dkv sa sn sc pa pn pc dd lf os), .int .i64 o.at_, .agg (kc (blkL o.fill))] (by kernel_rfl) ((h9).mono ?_)
    rintro r v2 ⟨sb, sd, pb, pd, rfl, hR1, hf1, hf2, hg⟩
    refine ⟨_, rfl, ?_⟩
    clear h9
    have hlt3 := lt_of_block (hB.get 3 (x := ⟨w.heap.size + 1 + 1 + 1, kc ZB, 39⟩) rfl)
    dsimp only at hlt3
    have q0 := hf1.far (unhide hR).sf.low (Nat.le_refl _) (show w.heap.size < x1.heap.size by omega)
    have q2 := hf1.far (unhide hR).sf.low (show w.heap.size ≤ w.heap.size + 1 + 1 by omega) (show w.heap.size + 1 + 1 < x1.heap.size by omega)
    have q3 := hf1.far (unhide hR).sf.low (show w.heap.size ≤ w.heap.size + 1 + 1 + 1 by omega) (show w.heap.size + 1 + 1 + 1 < x1.heap.size by omega)
    have r0 := hf2.far (unhide hR).pn.low (Nat.le_refl _) (show w.heap.size < x1.heap.size by omega)
    have r2 := hf2.far (unhide hR).pn.low (show w.heap.size ≤ w.heap.size + 1 + 1 by omega) (show w.heap.size + 1 + 1 < x1.heap.size by omega)
    have r3 := hf2.far (unhide hR).pn.low (show w.heap.size ≤ w.heap.size + 1 + 1 + 1 by omega) (show w.heap.size + 1 + 1 + 1 < x1.heap.size by omega)
    have hf1w := hf1.trans hB.gr.size
    have hf2w := hf2.trans hB.gr.size
    replace hB := hB.more hg
    clear hg hlt3
    obtain ⟨D1, hD1⟩ : ∃ D, D = (Dk.mk S P dd lf os).writeD o.at_ (blkL o.fill) := ⟨_, rfl⟩
    rw [← hD1] at hR1 ⊢
    obtain ⟨e, he⟩ : ∃ e, e = (Dk.mk S P dd lf os).writeE o.at_ := ⟨_, rfl⟩
    rw [← he]
    replace hD1 := hide hD1; replace he := hide he
    refine hQ.out _ _ ?_
    clear hQ K_
    simp only [Act.put, List.setIfInBounds_toArray, List.set_cons_zero, List.set_cons_succ, List.getElem_toArray, List.getElem_cons_zero, List.getElem_cons_succ]
    refine any_take (i := 7) (v := (.tuple #[.agg (D1.v sb sd pb pd), .int .i64 e])) #[true, true, true, true, true, true, true, false, false, false, false, false] rfl (by kernel_rfl) (by kernel_rfl) (by kernel_rfl) (by kernel_rfl) (fun _ _ _ h => h) (.inl ⟨by kernel_rfl, fun x_ hu => by kernel_rfl⟩) trivial ?_
    simp only [Act.put, List.setIfInBounds_toArray, List.set_cons_zero, List.set_cons_succ, List.getElem_toArray, List.getElem_cons_zero, List.getElem_cons_succ]
    refine any_take (i := 8) (v := (.agg (D1.v sb sd pb pd))) #[true, true, true, true, true, true, true, true, false, false, false, false] rfl (by kernel_rfl) (by kernel_rfl) (by kernel_rfl) (by kernel_rfl) (fun _ _ _ h => h) (.inl ⟨by kernel_rfl, fun x_ hu => by kernel_rfl⟩) trivial ?_
    simp only [Act.put, List.setIfInBounds_toArray, List.set_cons_zero, List.set_cons_succ, List.getElem_toArray, List.getElem_cons_zero, List.getElem_cons_succ]
    refine any_take (i := 9) (v := (.int .i64 e)) #[true, true, true, true, true, true, true, true, true, false, false, false] rfl (by kernel_rfl) (by kernel_rfl) (by kernel_rfl) (by kernel_rfl) (fun _ _ _ h => h) (.inl ⟨by kernel_rfl, fun x_ hu => by kernel_rfl⟩) trivial ?_
    simp only [Act.put, List.setIfInBounds_toArray, List.set_cons_zero, List.set_cons_succ, List.getElem_toArray, List.getElem_cons_zero, List.getElem_cons_succ]
    refine any_one (i := 10) (by kernel_rfl) rfl (fun K_ hQ => ?_)
    rw [if_pos (by kernel_rfl)]
    replace hR1 := hR1.bt ((Bt.refl (w.heap.size) v2).row_self (D1.v sb sd pb pd)) q0 r0
    refine wp_store_row 31 (.tmp 2) (.tmp 38) rfl (w.heap.size) (D1.v sb sd pb pd) (by kernel_rfl) (by kernel_rfl) 31 (dkv sa sn sc pa pn pc dd lf os) (hB.get 0 (x := ⟨w.heap.size, dkv sa sn sc pa pn pc dd lf os, 31⟩) rfl) (by rw [Try.infoRD]; rfl) rfl (dkv_one ..) ?_
    replace hB := hB.set 0 (x := ⟨w.heap.size, dkv sa sn sc pa pn pc dd lf os, 31⟩) rfl (D1.v sb sd pb pd)
    simp only [List.set_cons_zero, List.set_cons_succ] at hB
    generalize World.setRow _ _ _ = y1 at *
    replace hB : Bl w [⟨w.heap.size, D1.v sb sd pb pd, 31⟩, ⟨w.heap.size + 1, opv o ka kn kp, 37⟩, ⟨w.heap.size + 1 + 1, dkv none 0 0 none 0 0 false 0 0, 31⟩, ⟨w.heap.size + 1 + 1 + 1, kc ZB, 39⟩] y1 := hB
    refine hQ.out _ _ trivial (fun _ => ?_)
    clear hQ K_
    simp only [Act.put, List.setIfInBounds_toArray, List.set_cons_zero, List.set_cons_succ, List.getElem_toArray, List.getElem_cons_zero, List.getElem_cons_succ]
    refine any_one (i := 11) (by kernel_rfl) rfl (fun K_ hQ => ?_)
    replace hQ := hide hQ
    go_simp
    refine (unhide hQ).out _ _ trivial (fun _ => ?_)
    clear hQ K_
    refine any_done (by kernel_rfl) ?_
    replace hR1 := hide hR1
    replace hB := hide hB
    go_upto_region 13 with fail
    replace hB := unhide hB
    replace hR1 := unhide hR1
    refine wp_region_lit ?_
    refine list_val (.agg (D1.v sb sd pb pd)) (by kernel_rfl) (exec_arr _ 31 (.tmp 2) rfl (w.heap.size) (by kernel_rfl) (D1.v sb sd pb pd) 31 _ (hB.get 0 (x := ⟨w.heap.size, D1.v sb sd pb pd, 31⟩) rfl) Try.underlying31 rfl (by rw [Try.infoRD]; rfl)) ?_
    simp only [Act.put, List.setIfInBounds_toArray, List.set_cons_zero, List.set_cons_succ, List.getElem_toArray, List.getElem_cons_zero, List.getElem_cons_succ]
    refine list_val (.agg (kc ZB)) (by kernel_rfl) (by kernel_rfl) ?_
    simp only [Act.put, List.setIfInBounds_toArray, List.set_cons_zero, List.set_cons_succ, List.getElem_toArray, List.getElem_cons_zero, List.getElem_cons_succ]
    refine list_val (.int .i64 e) (by kernel_rfl) (by kernel_rfl) ?_
    simp only [Act.put, List.setIfInBounds_toArray, List.set_cons_zero, List.set_cons_succ, List.getElem_toArray, List.getElem_cons_zero, List.getElem_cons_succ]
    replace hR1 := hR1.bt ((Bt.refl (w.heap.size + 1 + 1) y1).row_self (D1.v sb sd pb pd)) q2 r2
    refine list_store 31 (.tmp 4) (.tmp 56) (w.heap.size + 1 + 1) (D1.v sb sd pb pd) 31 (dkv none 0 0 none 0 0 false 0 0) (by kernel_rfl) rfl (by kernel_rfl) (by kernel_rfl) (hB.get 2 (x := ⟨w.heap.size + 1 + 1, dkv none 0 0 none 0 0 false 0 0, 31⟩) rfl) (by rw [Try.infoRD]; rfl) rfl (dkv_one ..) ?_
    replace hB := hB.set 2 (x := ⟨w.heap.size + 1 + 1, dkv none 0 0 none 0 0 false 0 0, 31⟩) rfl (D1.v sb sd pb pd)
    simp only [List.set_cons_zero, List.set_cons_succ] at hB
    generalize World.setRow _ _ _ = y2 at *
    replace hB : Bl w [⟨w.heap.size, D1.v sb sd pb pd, 31⟩, ⟨w.heap.size + 1, opv o ka kn kp, 37⟩, ⟨w.heap.size + 1 + 1, D1.v sb sd pb pd, 31⟩, ⟨w.heap.size + 1 + 1 + 1, kc ZB, 39⟩] y2 := hB
    simp only [Act.put, List.setIfInBounds_toArray, List.set_cons_zero, List.set_cons_succ, List.getElem_toArray, List.getElem_cons_zero, List.getElem_cons_succ]
    replace hR1 := hR1.bt ((Bt.refl (w.heap.size + 1 + 1 + 1) y2).row_self (kc ZB)) q3 r3
    refine list_store 39 (.tmp 5) (.tmp 57) (w.heap.size + 1 + 1 + 1) (kc ZB) 39 (kc ZB) (by kernel_rfl) rfl (by kernel_rfl) (by kernel_rfl) (hB.get 3 (x := ⟨w.heap.size + 1 + 1 + 1, kc ZB, 39⟩) rfl) (by rw [Try.infoB, kc_size, ZB_len]) ((show (kc ZB).size = 64 from rfl).trans ((kc_size _).trans ZB_len).symm) (kc_one _) ?_
    replace hB := hB.set 3 (x := ⟨w.heap.size + 1 + 1 + 1, kc ZB, 39⟩) rfl (kc ZB)
    simp only [List.set_cons_zero, List.set_cons_succ] at hB
    generalize World.setRow _ _ _ = y3 at *
    replace hB : Bl w [⟨w.heap.size, D1.v sb sd pb pd, 31⟩, ⟨w.heap.size + 1, opv o ka kn kp, 37⟩, ⟨w.heap.size + 1 + 1, D1.v sb sd pb pd, 31⟩, ⟨w.heap.size + 1 + 1 + 1, kc ZB, 39⟩] y3 := hB
    simp only [Act.put, List.setIfInBounds_toArray, List.set_cons_zero, List.set_cons_succ, List.getElem_toArray, List.getElem_cons_zero, List.getElem_cons_succ]
    (refine wpList_step fun K hK => ?_; replace hK := hide hK; go_simp; refine unhide hK _ _ ?_; clear hK K)
    refine wpList_nil ?_
    replace hR1 := hide hR1
    replace hB := hide hB
    go_wp2_with fail
    replace hB := unhide hB
    rw [unhide hT]
    exact bodyPost_ret (v := .tuple #[.agg (D1.v sb sd pb pd), .agg (kc ZB), .int .i64 e]) (results_cell2_tmp Try.results14 _ _ (w.heap.size + 1 + 1) (w.heap.size + 1 + 1 + 1) 31 39 (D1.v sb sd pb pd) (kc ZB) (0, 0) (0, 0) _ _ rfl rfl (.int .i64 e) rfl (hB.get 2 (x := ⟨w.heap.size + 1 + 1, D1.v sb sd pb pd, 31⟩) rfl) (hB.get 3 (x := ⟨w.heap.size + 1 + 1 + 1, kc ZB, 39⟩) rfl) Try.underlying31 rfl (by rw [Try.infoRD]; rfl) Try.underlying39 rfl (by rw [Try.infoB]; rfl)) rfl (by
      rw [(unhide hop).1, (unhide hop).2.1, (unhide hop).2.2, ← unhide hD1, ← unhide he]
      exact ⟨sb, sd, pb, pd, rfl, unhide hR1, hf1w, hf2w, hB.gr⟩)
  · skip
    have hop : Hid ((Dk.mk S P dd lf os).opD o = (Dk.mk S P dd lf os).syncD ∧ (Dk.mk S P dd lf os).opB o = ZB ∧ (Dk.mk S P dd lf os).opE o = (Dk.mk S P dd lf os).syncE) := ⟨by unfold Dk.opD; rw [← hkk] <;> rfl, by unfold Dk.opB; rw [← hkk] <;> rfl, by unfold Dk.opE; rw [← hkk] <;> rfl⟩
    replace hkk := hide hkk
    replace hB := hide hB
    go_upto_region 10 with fail
    replace hB := unhide hB
    refine wp_region_lit ?_
    refine list_val (.agg (dkv sa sn sc pa pn pc dd lf os)) (by kernel_rfl) (exec_arr _ 31 (.tmp 2) rfl (w.heap.size) (by kernel_rfl) (dkv sa sn sc pa pn pc dd lf os) 31 _ (hB.get 0 (x := ⟨w.heap.size, dkv sa sn sc pa pn pc dd lf os, 31⟩) rfl) Try.underlying31 rfl (by rw [Try.infoRD]; rfl)) ?_
    simp only [Act.put, List.setIfInBounds_toArray, List.set_cons_zero, List.set_cons_succ, List.getElem_toArray, List.getElem_cons_zero, List.getElem_cons_succ]
    have e0 : dkv sa sn sc pa pn pc dd lf os = (Dk.mk S P dd lf os).v sa sc pa pc := by rw [unhide hsn, unhide hpn]; rfl
    rw [e0]
    refine list_call 34 #[.agg ((Dk.mk S P dd lf os).v sa sc pa pc)] (by kernel_rfl) (by kernel_rfl) ((rsync_ok S P dd lf os m (unhide hD) hm sa sc pa pc _ ((unhide hR).gr hB.gr)).mono ?_)
    rintro r v2 ⟨sb, sd, pb, pd, rfl, hR1, hf1, hf2, hg⟩
    refine ⟨_, rfl, ?_⟩
    rw [← e0]
    clear e0
    have hlt3 := lt_of_block (hB.get 3 (x := ⟨w.heap.size + 1 + 1 + 1, kc ZB, 39⟩) rfl)
    dsimp only at hlt3
    have q0 := hf1.far (unhide hR).sf.low (Nat.le_refl _) (show w.heap.size < v1.heap.size by omega)
    have q2 := hf1.far (unhide hR).sf.low (show w.heap.size ≤ w.heap.size + 1 + 1 by omega) (show w.heap.size + 1 + 1 < v1.heap.size by omega)
    have q3 := hf1.far (unhide hR).sf.low (show w.heap.size ≤ w.heap.size + 1 + 1 + 1 by omega) (show w.heap.size + 1 + 1 + 1 < v1.heap.size by omega)
    have r0 := hf2.far (unhide hR).pn.low (Nat.le_refl _) (show w.heap.size < v1.heap.size by omega)
    have r2 := hf2.far (unhide hR).pn.low (show w.heap.size ≤ w.heap.size + 1 + 1 by omega) (show w.heap.size + 1 + 1 < v1.heap.size by omega)
    have r3 := hf2.far (unhide hR).pn.low (show w.heap.size ≤ w.heap.size + 1 + 1 + 1 by omega) (show w.heap.size + 1 + 1 + 1 < v1.heap.size by omega)
    have hf1w := hf1.trans hB.gr.size
    have hf2w := hf2.trans hB.gr.size
    replace hB := hB.more hg
    clear hg hlt3
    obtain ⟨D1, hD1⟩ : ∃ D, D = (Dk.mk S P dd lf os).syncD := ⟨_, rfl⟩
    rw [← hD1] at hR1 ⊢
    obtain ⟨e, he⟩ : ∃ e, e = (Dk.mk S P dd lf os).syncE := ⟨_, rfl⟩
    rw [← he]
    replace hD1 := hide hD1; replace he := hide he
    simp only [Act.put, List.setIfInBounds_toArray, List.set_cons_zero, List.set_cons_succ, List.getElem_toArray, List.getElem_cons_zero, List.getElem_cons_succ]
    refine list_val (.tuple #[.agg (D1.v sb sd pb pd), .int .i64 e]) (by kernel_rfl) (by kernel_rfl) ?_
    simp only [Act.put, List.setIfInBounds_toArray, List.set_cons_zero, List.set_cons_succ, List.getElem_toArray, List.getElem_cons_zero, List.getElem_cons_succ]
    refine list_val (.agg (D1.v sb sd pb pd)) (by kernel_rfl) (by kernel_rfl) ?_
    simp only [Act.put, List.setIfInBounds_toArray, List.set_cons_zero, List.set_cons_succ, List.getElem_toArray, List.getElem_cons_zero, List.getElem_cons_succ]
    refine list_val (.int .i64 e) (by kernel_rfl) (by kernel_rfl) ?_
    simp only [Act.put, List.setIfInBounds_toArray, List.set_cons_zero, List.set_cons_succ, List.getElem_toArray, List.getElem_cons_zero, List.getElem_cons_succ]
    replace hR1 := hR1.bt ((Bt.refl (w.heap.size) v2).row_self (D1.v sb sd pb pd)) q0 r0
    refine list_store 31 (.tmp 2) (.tmp 45) (w.heap.size) (D1.v sb sd pb pd) 31 (dkv sa sn sc pa pn pc dd lf os) (by kernel_rfl) rfl (by kernel_rfl) (by kernel_rfl) (hB.get 0 (x := ⟨w.heap.size, dkv sa sn sc pa pn pc dd lf os, 31⟩) rfl) (by rw [Try.infoRD]; rfl) rfl (dkv_one ..) ?_
    replace hB := hB.set 0 (x := ⟨w.heap.size, dkv sa sn sc pa pn pc dd lf os, 31⟩) rfl (D1.v sb sd pb pd)
    simp only [List.set_cons_zero, List.set_cons_succ] at hB
    generalize World.setRow _ _ _ = y1 at *
    replace hB : Bl w [⟨w.heap.size, D1.v sb sd pb pd, 31⟩, ⟨w.heap.size + 1, opv o ka kn kp, 37⟩, ⟨w.heap.size + 1 + 1, dkv none 0 0 none 0 0 false 0 0, 31⟩, ⟨w.heap.size + 1 + 1 + 1, kc ZB, 39⟩] y1 := hB
    simp only [Act.put, List.setIfInBounds_toArray, List.set_cons_zero, List.set_cons_succ, List.getElem_toArray, List.getElem_cons_zero, List.getElem_cons_succ]
    (refine wpList_step fun K hK => ?_; replace hK := hide hK; go_simp; refine unhide hK _ _ ?_; clear hK K)
    refine wpList_nil ?_
    replace hR1 := hide hR1
    replace hB := hide hB
    go_upto_region 13 with fail
    replace hB := unhide hB
    replace hR1 := unhide hR1
    refine wp_region_lit ?_
    refine list_val (.agg (D1.v sb sd pb pd)) (by kernel_rfl) (exec_arr _ 31 (.tmp 2) rfl (w.heap.size) (by kernel_rfl) (D1.v sb sd pb pd) 31 _ (hB.get 0 (x := ⟨w.heap.size, D1.v sb sd pb pd, 31⟩) rfl) Try.underlying31 rfl (by rw [Try.infoRD]; rfl)) ?_
    simp only [Act.put, List.setIfInBounds_toArray, List.set_cons_zero, List.set_cons_succ, List.getElem_toArray, List.getElem_cons_zero, List.getElem_cons_succ]
    refine list_val (.agg (kc ZB)) (by kernel_rfl) (by kernel_rfl) ?_
    simp only [Act.put, List.setIfInBounds_toArray, List.set_cons_zero, List.set_cons_succ, List.getElem_toArray, List.getElem_cons_zero, List.getElem_cons_succ]
    refine list_val (.int .i64 e) (by kernel_rfl) (by kernel_rfl) ?_
    simp only [Act.put, List.setIfInBounds_toArray, List.set_cons_zero, List.set_cons_succ, List.getElem_toArray, List.getElem_cons_zero, List.getElem_cons_succ]
    replace hR1 := hR1.bt ((Bt.refl (w.heap.size + 1 + 1) y1).row_self (D1.v sb sd pb pd)) q2 r2
    refine list_store 31 (.tmp 4) (.tmp 56) (w.heap.size + 1 + 1) (D1.v sb sd pb pd) 31 (dkv none 0 0 none 0 0 false 0 0) (by kernel_rfl) rfl (by kernel_rfl) (by kernel_rfl) (hB.get 2 (x := ⟨w.heap.size + 1 + 1, dkv none 0 0 none 0 0 false 0 0, 31⟩) rfl) (by rw [Try.infoRD]; rfl) rfl (dkv_one ..) ?_
    replace hB := hB.set 2 (x := ⟨w.heap.size + 1 + 1, dkv none 0 0 none 0 0 false 0 0, 31⟩) rfl (D1.v sb sd pb pd)
    simp only [List.set_cons_zero, List.set_cons_succ] at hB
    generalize World.setRow _ _ _ = y2 at *
    replace hB : Bl w [⟨w.heap.size, D1.v sb sd pb pd, 31⟩, ⟨w.heap.size + 1, opv o ka kn kp, 37⟩, ⟨w.heap.size + 1 + 1, D1.v sb sd pb pd, 31⟩, ⟨w.heap.size + 1 + 1 + 1, kc ZB, 39⟩] y2 := hB
    simp only [Act.put, List.setIfInBounds_toArray, List.set_cons_zero, List.set_cons_succ, List.getElem_toArray, List.getElem_cons_zero, List.getElem_cons_succ]
    replace hR1 := hR1.bt ((Bt.refl (w.heap.size + 1 + 1 + 1) y2).row_self (kc ZB)) q3 r3
    refine list_store 39 (.tmp 5) (.tmp 57) (w.heap.size + 1 + 1 + 1) (kc ZB) 39 (kc ZB) (by kernel_rfl) rfl (by kernel_rfl) (by kernel_rfl) (hB.get 3 (x := ⟨w.heap.size + 1 + 1 + 1, kc ZB, 39⟩) rfl) (by rw [Try.infoB, kc_size, ZB_len]) ((show (kc ZB).size = 64 from rfl).trans ((kc_size _).trans ZB_len).symm) (kc_one _) ?_
    replace hB := hB.set 3 (x := ⟨w.heap.size + 1 + 1 + 1, kc ZB, 39⟩) rfl (kc ZB)
    simp only [List.set_cons_zero, List.set_cons_succ] at hB
    generalize World.setRow _ _ _ = y3 at *
    replace hB : Bl w [⟨w.heap.size, D1.v sb sd pb pd, 31⟩, ⟨w.heap.size + 1, opv o ka kn kp, 37⟩, ⟨w.heap.size + 1 + 1, D1.v sb sd pb pd, 31⟩, ⟨w.heap.size + 1 + 1 + 1, kc ZB, 39⟩] y3 := hB
    simp only [Act.put, List.setIfInBounds_toArray, List.set_cons_zero, List.set_cons_succ, List.getElem_toArray, List.getElem_cons_zero, List.getElem_cons_succ]
    (refine wpList_step fun K hK => ?_; replace hK := hide hK; go_simp; refine unhide hK _ _ ?_; clear hK K)
    refine wpList_nil ?_
    replace hR1 := hide hR1
    replace hB := hide hB
    go_wp2_with fail
    replace hB := unhide hB
    rw [unhide hT]
    exact bodyPost_ret (v := .tuple #[.agg (D1.v sb sd pb pd), .agg (kc ZB), .int .i64 e]) (results_cell2_tmp Try.results14 _ _ (w.heap.size + 1 + 1) (w.heap.size + 1 + 1 + 1) 31 39 (D1.v sb sd pb pd) (kc ZB) (0, 0) (0, 0) _ _ rfl rfl (.int .i64 e) rfl (hB.get 2 (x := ⟨w.heap.size + 1 + 1, D1.v sb sd pb pd, 31⟩) rfl) (hB.get 3 (x := ⟨w.heap.size + 1 + 1 + 1, kc ZB, 39⟩) rfl) Try.underlying31 rfl (by rw [Try.infoRD]; rfl) Try.underlying39 rfl (by rw [Try.infoB]; rfl)) rfl (by
      rw [(unhide hop).1, (unhide hop).2.1, (unhide hop).2.2, ← unhide hD1, ← unhide he]
      exact ⟨sb, sd, pb, pd, rfl, unhide hR1, hf1w, hf2w, hB.gr⟩)
  · skip
    have hop : Hid ((Dk.mk S P dd lf os).opD o = (Dk.mk S P dd lf os).armD o.at_ ∧ (Dk.mk S P dd lf os).opB o = ZB ∧ (Dk.mk S P dd lf os).opE o = (Dk.mk S P dd lf os).armE) := ⟨by unfold Dk.opD; rw [← hkk] <;> rfl, by unfold Dk.opB; rw [← hkk] <;> rfl, by unfold Dk.opE; rw [← hkk] <;> rfl⟩
    replace hkk := hide hkk
    replace hB := hide hB
    go_upto_region 12 with fail
    replace hB := unhide hB
    refine wp_region_lit ?_
    refine list_val (.agg (dkv sa sn sc pa pn pc dd lf os)) (by kernel_rfl) (exec_arr _ 31 (.tmp 2) rfl (w.heap.size) (by kernel_rfl) (dkv sa sn sc pa pn pc dd lf os) 31 _ (hB.get 0 (x := ⟨w.heap.size, dkv sa sn sc pa pn pc dd lf os, 31⟩) rfl) Try.underlying31 rfl (by rw [Try.infoRD]; rfl)) ?_
    simp only [Act.put, List.setIfInBounds_toArray, List.set_cons_zero, List.set_cons_succ, List.getElem_toArray, List.getElem_cons_zero, List.getElem_cons_succ]
    refine list_val (.pointer (some ⟨w.heap.size + 1, 1, none⟩)) (by kernel_rfl) (by kernel_rfl) ?_
    simp only [Act.put, List.setIfInBounds_toArray, List.set_cons_zero, List.set_cons_succ, List.getElem_toArray, List.getElem_cons_zero, List.getElem_cons_succ]
    refine list_val (.int .i64 o.at_) (by kernel_rfl) (exec_i64 _ (.tmp 51) rfl (w.heap.size + 1) 1 (by kernel_rfl) o.at_ (cell_of (hB.get 1 (x := ⟨w.heap.size + 1, opv o ka kn kp, 37⟩) rfl) (i := 1) rfl)) ?_
    simp only [Act.put, List.setIfInBounds_toArray, List.set_cons_zero, List.set_cons_succ, List.getElem_toArray, List.getElem_cons_zero, List.getElem_cons_succ]
    have e0 : dkv sa sn sc pa pn pc dd lf os = (Dk.mk S P dd lf os).v sa sc pa pc := by rw [unhide hsn, unhide hpn]; rfl
    rw [e0]
    refine list_call 35 #[.agg ((Dk.mk S P dd lf os).v sa sc pa pc), .int .i64 o.at_] (by kernel_rfl) (by kernel_rfl) ((rarm_ok S P dd lf os m (unhide hD) (by omega) sa sc pa pc o.at_ (unhide ho).a1 (unhide ho).a2 _ ((unhide hR).gr hB.gr)).mono ?_)
    rintro r v2 ⟨sb, sd, pb, pd, rfl, hR1, hf1, hf2, hg⟩
    refine ⟨_, rfl, ?_⟩
    rw [← e0]
    clear e0
    have hlt3 := lt_of_block (hB.get 3 (x := ⟨w.heap.size + 1 + 1 + 1, kc ZB, 39⟩) rfl)
    dsimp only at hlt3
    have q0 := hf1.far (unhide hR).sf.low (Nat.le_refl _) (show w.heap.size < v1.heap.size by omega)
    have q2 := hf1.far (unhide hR).sf.low (show w.heap.size ≤ w.heap.size + 1 + 1 by omega) (show w.heap.size + 1 + 1 < v1.heap.size by omega)
    have q3 := hf1.far (unhide hR).sf.low (show w.heap.size ≤ w.heap.size + 1 + 1 + 1 by omega) (show w.heap.size + 1 + 1 + 1 < v1.heap.size by omega)
    have r0 := hf2.far (unhide hR).pn.low (Nat.le_refl _) (show w.heap.size < v1.heap.size by omega)
    have r2 := hf2.far (unhide hR).pn.low (show w.heap.size ≤ w.heap.size + 1 + 1 by omega) (show w.heap.size + 1 + 1 < v1.heap.size by omega)
    have r3 := hf2.far (unhide hR).pn.low (show w.heap.size ≤ w.heap.size + 1 + 1 + 1 by omega) (show w.heap.size + 1 + 1 + 1 < v1.heap.size by omega)
    have hf1w := hf1.trans hB.gr.size
    have hf2w := hf2.trans hB.gr.size
    replace hB := hB.more hg
    clear hg hlt3
    obtain ⟨D1, hD1⟩ : ∃ D, D = (Dk.mk S P dd lf os).armD o.at_ := ⟨_, rfl⟩
    rw [← hD1] at hR1 ⊢
    obtain ⟨e, he⟩ : ∃ e, e = (Dk.mk S P dd lf os).armE := ⟨_, rfl⟩
    rw [← he]
    replace hD1 := hide hD1; replace he := hide he
    simp only [Act.put, List.setIfInBounds_toArray, List.set_cons_zero, List.set_cons_succ, List.getElem_toArray, List.getElem_cons_zero, List.getElem_cons_succ]
    refine list_val (.tuple #[.agg (D1.v sb sd pb pd), .int .i64 e]) (by kernel_rfl) (by kernel_rfl) ?_
    simp only [Act.put, List.setIfInBounds_toArray, List.set_cons_zero, List.set_cons_succ, List.getElem_toArray, List.getElem_cons_zero, List.getElem_cons_succ]
    refine list_val (.agg (D1.v sb sd pb pd)) (by kernel_rfl) (by kernel_rfl) ?_
    simp only [Act.put, List.setIfInBounds_toArray, List.set_cons_zero, List.set_cons_succ, List.getElem_toArray, List.getElem_cons_zero, List.getElem_cons_succ]
    refine list_val (.int .i64 e) (by kernel_rfl) (by kernel_rfl) ?_
    simp only [Act.put, List.setIfInBounds_toArray, List.set_cons_zero, List.set_cons_succ, List.getElem_toArray, List.getElem_cons_zero, List.getElem_cons_succ]
    replace hR1 := hR1.bt ((Bt.refl (w.heap.size) v2).row_self (D1.v sb sd pb pd)) q0 r0
    refine list_store 31 (.tmp 2) (.tmp 54) (w.heap.size) (D1.v sb sd pb pd) 31 (dkv sa sn sc pa pn pc dd lf os) (by kernel_rfl) rfl (by kernel_rfl) (by kernel_rfl) (hB.get 0 (x := ⟨w.heap.size, dkv sa sn sc pa pn pc dd lf os, 31⟩) rfl) (by rw [Try.infoRD]; rfl) rfl (dkv_one ..) ?_
    replace hB := hB.set 0 (x := ⟨w.heap.size, dkv sa sn sc pa pn pc dd lf os, 31⟩) rfl (D1.v sb sd pb pd)
    simp only [List.set_cons_zero, List.set_cons_succ] at hB
    generalize World.setRow _ _ _ = y1 at *
    replace hB : Bl w [⟨w.heap.size, D1.v sb sd pb pd, 31⟩, ⟨w.heap.size + 1, opv o ka kn kp, 37⟩, ⟨w.heap.size + 1 + 1, dkv none 0 0 none 0 0 false 0 0, 31⟩, ⟨w.heap.size + 1 + 1 + 1, kc ZB, 39⟩] y1 := hB
    simp only [Act.put, List.setIfInBounds_toArray, List.set_cons_zero, List.set_cons_succ, List.getElem_toArray, List.getElem_cons_zero, List.getElem_cons_succ]
    (refine wpList_step fun K hK => ?_; replace hK := hide hK; go_simp; refine unhide hK _ _ ?_; clear hK K)
    refine wpList_nil ?_
    replace hR1 := hide hR1
    replace hB := hide hB
    go_upto_region 13 with fail
    replace hB := unhide hB
    replace hR1 := unhide hR1
    refine wp_region_lit ?_
    refine list_val (.agg (D1.v sb sd pb pd)) (by kernel_rfl) (exec_arr _ 31 (.tmp 2) rfl (w.heap.size) (by kernel_rfl) (D1.v sb sd pb pd) 31 _ (hB.get 0 (x := ⟨w.heap.size, D1.v sb sd pb pd, 31⟩) rfl) Try.underlying31 rfl (by rw [Try.infoRD]; rfl)) ?_
    simp only [Act.put, List.setIfInBounds_toArray, List.set_cons_zero, List.set_cons_succ, List.getElem_toArray, List.getElem_cons_zero, List.getElem_cons_succ]
    refine list_val (.agg (kc ZB)) (by kernel_rfl) (by kernel_rfl) ?_
    simp only [Act.put, List.setIfInBounds_toArray, List.set_cons_zero, List.set_cons_succ, List.getElem_toArray, List.getElem_cons_zero, List.getElem_cons_succ]
    refine list_val (.int .i64 e) (by kernel_rfl) (by kernel_rfl) ?_
    simp only [Act.put, List.setIfInBounds_toArray, List.set_cons_zero, List.set_cons_succ, List.getElem_toArray, List.getElem_cons_zero, List.getElem_cons_succ]
    replace hR1 := hR1.bt ((Bt.refl (w.heap.size + 1 + 1) y1).row_self (D1.v sb sd pb pd)) q2 r2
    refine list_store 31 (.tmp 4) (.tmp 56) (w.heap.size + 1 + 1) (D1.v sb sd pb pd) 31 (dkv none 0 0 none 0 0 false 0 0) (by kernel_rfl) rfl (by kernel_rfl) (by kernel_rfl) (hB.get 2 (x := ⟨w.heap.size + 1 + 1, dkv none 0 0 none 0 0 false 0 0, 31⟩) rfl) (by rw [Try.infoRD]; rfl) rfl (dkv_one ..) ?_
    replace hB := hB.set 2 (x := ⟨w.heap.size + 1 + 1, dkv none 0 0 none 0 0 false 0 0, 31⟩) rfl (D1.v sb sd pb pd)
    simp only [List.set_cons_zero, List.set_cons_succ] at hB
    generalize World.setRow _ _ _ = y2 at *
    replace hB : Bl w [⟨w.heap.size, D1.v sb sd pb pd, 31⟩, ⟨w.heap.size + 1, opv o ka kn kp, 37⟩, ⟨w.heap.size + 1 + 1, D1.v sb sd pb pd, 31⟩, ⟨w.heap.size + 1 + 1 + 1, kc ZB, 39⟩] y2 := hB
    simp only [Act.put, List.setIfInBounds_toArray, List.set_cons_zero, List.set_cons_succ, List.getElem_toArray, List.getElem_cons_zero, List.getElem_cons_succ]
    replace hR1 := hR1.bt ((Bt.refl (w.heap.size + 1 + 1 + 1) y2).row_self (kc ZB)) q3 r3
    refine list_store 39 (.tmp 5) (.tmp 57) (w.heap.size + 1 + 1 + 1) (kc ZB) 39 (kc ZB) (by kernel_rfl) rfl (by kernel_rfl) (by kernel_rfl) (hB.get 3 (x := ⟨w.heap.size + 1 + 1 + 1, kc ZB, 39⟩) rfl) (by rw [Try.infoB, kc_size, ZB_len]) ((show (kc ZB).size = 64 from rfl).trans ((kc_size _).trans ZB_len).symm) (kc_one _) ?_
    replace hB := hB.set 3 (x := ⟨w.heap.size + 1 + 1 + 1, kc ZB, 39⟩) rfl (kc ZB)
    simp only [List.set_cons_zero, List.set_cons_succ] at hB
    generalize World.setRow _ _ _ = y3 at *
    replace hB : Bl w [⟨w.heap.size, D1.v sb sd pb pd, 31⟩, ⟨w.heap.size + 1, opv o ka kn kp, 37⟩, ⟨w.heap.size + 1 + 1, D1.v sb sd pb pd, 31⟩, ⟨w.heap.size + 1 + 1 + 1, kc ZB, 39⟩] y3 := hB
    simp only [Act.put, List.setIfInBounds_toArray, List.set_cons_zero, List.set_cons_succ, List.getElem_toArray, List.getElem_cons_zero, List.getElem_cons_succ]
    (refine wpList_step fun K hK => ?_; replace hK := hide hK; go_simp; refine unhide hK _ _ ?_; clear hK K)
    refine wpList_nil ?_
    replace hR1 := hide hR1
    replace hB := hide hB
    go_wp2_with fail
    replace hB := unhide hB
    rw [unhide hT]
    exact bodyPost_ret (v := .tuple #[.agg (D1.v sb sd pb pd), .agg (kc ZB), .int .i64 e]) (results_cell2_tmp Try.results14 _ _ (w.heap.size + 1 + 1) (w.heap.size + 1 + 1 + 1) 31 39 (D1.v sb sd pb pd) (kc ZB) (0, 0) (0, 0) _ _ rfl rfl (.int .i64 e) rfl (hB.get 2 (x := ⟨w.heap.size + 1 + 1, D1.v sb sd pb pd, 31⟩) rfl) (hB.get 3 (x := ⟨w.heap.size + 1 + 1 + 1, kc ZB, 39⟩) rfl) Try.underlying31 rfl (by rw [Try.infoRD]; rfl) Try.underlying39 rfl (by rw [Try.infoB]; rfl)) rfl (by
      rw [(unhide hop).1, (unhide hop).2.1, (unhide hop).2.2, ← unhide hD1, ← unhide he]
      exact ⟨sb, sd, pb, pd, rfl, unhide hR1, hf1w, hf2w, hB.gr⟩)
  · skip
    have hop : Hid ((Dk.mk S P dd lf os).opD o = (Dk.mk S P dd lf os).crashD o.keep ∧ (Dk.mk S P dd lf os).opB o = ZB ∧ (Dk.mk S P dd lf os).opE o = 0) := ⟨by unfold Dk.opD; rw [← hkk] <;> rfl, by unfold Dk.opB; rw [← hkk] <;> rfl, by unfold Dk.opE; rw [← hkk] <;> rfl⟩
    replace hkk := hide hkk
    replace hB := hide hB
    go_upto_region 3 with fail
    replace hB := unhide hB
    refine wp_region_lit ?_
    refine list_val (.agg (dkv sa sn sc pa pn pc dd lf os)) (by kernel_rfl) (exec_arr _ 31 (.tmp 2) rfl (w.heap.size) (by kernel_rfl) (dkv sa sn sc pa pn pc dd lf os) 31 _ (hB.get 0 (x := ⟨w.heap.size, dkv sa sn sc pa pn pc dd lf os, 31⟩) rfl) Try.underlying31 rfl (by rw [Try.infoRD]; rfl)) ?_
    simp only [Act.put, List.setIfInBounds_toArray, List.set_cons_zero, List.set_cons_succ, List.getElem_toArray, List.getElem_cons_zero, List.getElem_cons_succ]
    refine list_val (.pointer (some ⟨w.heap.size + 1, 3, none⟩)) (by kernel_rfl) (by kernel_rfl) ?_
    simp only [Act.put, List.setIfInBounds_toArray, List.set_cons_zero, List.set_cons_succ, List.getElem_toArray, List.getElem_cons_zero, List.getElem_cons_succ]
    refine list_val (.slice ka kn kp) (by kernel_rfl) (exec_sk _ (.tmp 13) rfl (w.heap.size + 1) 3 (by kernel_rfl) ka kn kp (cell_of (hB.get 1 (x := ⟨w.heap.size + 1, opv o ka kn kp, 37⟩) rfl) (i := 3) rfl)) ?_
    simp only [Act.put, List.setIfInBounds_toArray, List.set_cons_zero, List.set_cons_succ, List.getElem_toArray, List.getElem_cons_zero, List.getElem_cons_succ]
    have e0 : dkv sa sn sc pa pn pc dd lf os = (Dk.mk S P dd lf os).v sa sc pa pc := by rw [unhide hsn, unhide hpn]; rfl
    rw [e0]
    refine list_call 36 #[.agg ((Dk.mk S P dd lf os).v sa sc pa pc), .slice ka kn kp] (by kernel_rfl) (by kernel_rfl) ((rcrash_ok S P dd lf os m (unhide hD) (by omega) sa sc pa pc o.keep ka kn kp _ ((unhide hR).gr hB.gr) ((unhide hK).gr hB.gr)).mono ?_)
    rintro r v2 ⟨sb, sd, rfl, hR1, hf1, hg⟩
    refine ⟨_, rfl, ?_⟩
    rw [← e0]
    clear e0
    have hf2 : Fr2 v1 pa none := Fr2.none _ _
    replace hf1 : Fr2 v1 sa sb := fun p_ h_ => by rcases hf1 p_ h_ with h | h; cases h; exact .inr h
    have hlt3 := lt_of_block (hB.get 3 (x := ⟨w.heap.size + 1 + 1 + 1, kc ZB, 39⟩) rfl)
    dsimp only at hlt3
    have q0 := hf1.far (unhide hR).sf.low (Nat.le_refl _) (show w.heap.size < v1.heap.size by omega)
    have q2 := hf1.far (unhide hR).sf.low (show w.heap.size ≤ w.heap.size + 1 + 1 by omega) (show w.heap.size + 1 + 1 < v1.heap.size by omega)
    have q3 := hf1.far (unhide hR).sf.low (show w.heap.size ≤ w.heap.size + 1 + 1 + 1 by omega) (show w.heap.size + 1 + 1 + 1 < v1.heap.size by omega)
    have r0 := hf2.far (unhide hR).pn.low (Nat.le_refl _) (show w.heap.size < v1.heap.size by omega)
    have r2 := hf2.far (unhide hR).pn.low (show w.heap.size ≤ w.heap.size + 1 + 1 by omega) (show w.heap.size + 1 + 1 < v1.heap.size by omega)
    have r3 := hf2.far (unhide hR).pn.low (show w.heap.size ≤ w.heap.size + 1 + 1 + 1 by omega) (show w.heap.size + 1 + 1 + 1 < v1.heap.size by omega)
    have hf1w := hf1.trans hB.gr.size
    have hf2w := hf2.trans hB.gr.size
    replace hB := hB.more hg
    clear hg hlt3
    obtain ⟨D1, hD1⟩ : ∃ D, D = (Dk.mk S P dd lf os).crashD o.keep := ⟨_, rfl⟩
    rw [← hD1] at hR1 ⊢
    replace hD1 := hide hD1
    simp only [Act.put, List.setIfInBounds_toArray, List.set_cons_zero, List.set_cons_succ, List.getElem_toArray, List.getElem_cons_zero, List.getElem_cons_succ]
    replace hR1 := hR1.bt ((Bt.refl (w.heap.size) v2).row_self (D1.v sb sd none 0)) q0 r0
    refine list_store 31 (.tmp 2) (.tmp 15) (w.heap.size) (D1.v sb sd none 0) 31 (dkv sa sn sc pa pn pc dd lf os) (by kernel_rfl) rfl (by kernel_rfl) (by kernel_rfl) (hB.get 0 (x := ⟨w.heap.size, dkv sa sn sc pa pn pc dd lf os, 31⟩) rfl) (by rw [Try.infoRD]; rfl) rfl (dkv_one ..) ?_
    replace hB := hB.set 0 (x := ⟨w.heap.size, dkv sa sn sc pa pn pc dd lf os, 31⟩) rfl (D1.v sb sd none 0)
    simp only [List.set_cons_zero, List.set_cons_succ] at hB
    generalize World.setRow _ _ _ = y1 at *
    replace hB : Bl w [⟨w.heap.size, D1.v sb sd none 0, 31⟩, ⟨w.heap.size + 1, opv o ka kn kp, 37⟩, ⟨w.heap.size + 1 + 1, dkv none 0 0 none 0 0 false 0 0, 31⟩, ⟨w.heap.size + 1 + 1 + 1, kc ZB, 39⟩] y1 := hB
    simp only [Act.put, List.setIfInBounds_toArray, List.set_cons_zero, List.set_cons_succ, List.getElem_toArray, List.getElem_cons_zero, List.getElem_cons_succ]
    refine wpList_nil ?_
    replace hR1 := hide hR1
    replace hB := hide hB
    go_upto_region 13 with fail
    replace hB := unhide hB
    replace hR1 := unhide hR1
    refine wp_region_lit ?_
    refine list_val (.agg (D1.v sb sd none 0)) (by kernel_rfl) (exec_arr _ 31 (.tmp 2) rfl (w.heap.size) (by kernel_rfl) (D1.v sb sd none 0) 31 _ (hB.get 0 (x := ⟨w.heap.size, D1.v sb sd none 0, 31⟩) rfl) Try.underlying31 rfl (by rw [Try.infoRD]; rfl)) ?_
    simp only [Act.put, List.setIfInBounds_toArray, List.set_cons_zero, List.set_cons_succ, List.getElem_toArray, List.getElem_cons_zero, List.getElem_cons_succ]
    refine list_val (.agg (kc ZB)) (by kernel_rfl) (by kernel_rfl) ?_
    simp only [Act.put, List.setIfInBounds_toArray, List.set_cons_zero, List.set_cons_succ, List.getElem_toArray, List.getElem_cons_zero, List.getElem_cons_succ]
    refine list_val (.int .i64 0) (by kernel_rfl) (by kernel_rfl) ?_
    simp only [Act.put, List.setIfInBounds_toArray, List.set_cons_zero, List.set_cons_succ, List.getElem_toArray, List.getElem_cons_zero, List.getElem_cons_succ]
    replace hR1 := hR1.bt ((Bt.refl (w.heap.size + 1 + 1) y1).row_self (D1.v sb sd none 0)) q2 r2
    refine list_store 31 (.tmp 4) (.tmp 56) (w.heap.size + 1 + 1) (D1.v sb sd none 0) 31 (dkv none 0 0 none 0 0 false 0 0) (by kernel_rfl) rfl (by kernel_rfl) (by kernel_rfl) (hB.get 2 (x := ⟨w.heap.size + 1 + 1, dkv none 0 0 none 0 0 false 0 0, 31⟩) rfl) (by rw [Try.infoRD]; rfl) rfl (dkv_one ..) ?_
    replace hB := hB.set 2 (x := ⟨w.heap.size + 1 + 1, dkv none 0 0 none 0 0 false 0 0, 31⟩) rfl (D1.v sb sd none 0)
    simp only [List.set_cons_zero, List.set_cons_succ] at hB
    generalize World.setRow _ _ _ = y2 at *
    replace hB : Bl w [⟨w.heap.size, D1.v sb sd none 0, 31⟩, ⟨w.heap.size + 1, opv o ka kn kp, 37⟩, ⟨w.heap.size + 1 + 1, D1.v sb sd none 0, 31⟩, ⟨w.heap.size + 1 + 1 + 1, kc ZB, 39⟩] y2 := hB
    simp only [Act.put, List.setIfInBounds_toArray, List.set_cons_zero, List.set_cons_succ, List.getElem_toArray, List.getElem_cons_zero, List.getElem_cons_succ]
    replace hR1 := hR1.bt ((Bt.refl (w.heap.size + 1 + 1 + 1) y2).row_self (kc ZB)) q3 r3
    refine list_store 39 (.tmp 5) (.tmp 57) (w.heap.size + 1 + 1 + 1) (kc ZB) 39 (kc ZB) (by kernel_rfl) rfl (by kernel_rfl) (by kernel_rfl) (hB.get 3 (x := ⟨w.heap.size + 1 + 1 + 1, kc ZB, 39⟩) rfl) (by rw [Try.infoB, kc_size, ZB_len]) ((show (kc ZB).size = 64 from rfl).trans ((kc_size _).trans ZB_len).symm) (kc_one _) ?_
    replace hB := hB.set 3 (x := ⟨w.heap.size + 1 + 1 + 1, kc ZB, 39⟩) rfl (kc ZB)
    simp only [List.set_cons_zero, List.set_cons_succ] at hB
    generalize World.setRow _ _ _ = y3 at *
    replace hB : Bl w [⟨w.heap.size, D1.v sb sd none 0, 31⟩, ⟨w.heap.size + 1, opv o ka kn kp, 37⟩, ⟨w.heap.size + 1 + 1, D1.v sb sd none 0, 31⟩, ⟨w.heap.size + 1 + 1 + 1, kc ZB, 39⟩] y3 := hB
    simp only [Act.put, List.setIfInBounds_toArray, List.set_cons_zero, List.set_cons_succ, List.getElem_toArray, List.getElem_cons_zero, List.getElem_cons_succ]
    (refine wpList_step fun K hK => ?_; replace hK := hide hK; go_simp; refine unhide hK _ _ ?_; clear hK K)
    refine wpList_nil ?_
    replace hR1 := hide hR1
    replace hB := hide hB
    go_wp2_with fail
    replace hB := unhide hB
    rw [unhide hT]
    exact bodyPost_ret (v := .tuple #[.agg (D1.v sb sd none 0), .agg (kc ZB), .int .i64 0]) (results_cell2_tmp Try.results14 _ _ (w.heap.size + 1 + 1) (w.heap.size + 1 + 1 + 1) 31 39 (D1.v sb sd none 0) (kc ZB) (0, 0) (0, 0) _ _ rfl rfl (.int .i64 0) rfl (hB.get 2 (x := ⟨w.heap.size + 1 + 1, D1.v sb sd none 0, 31⟩) rfl) (hB.get 3 (x := ⟨w.heap.size + 1 + 1 + 1, kc ZB, 39⟩) rfl) Try.underlying31 rfl (by rw [Try.infoRD]; rfl) Try.underlying39 rfl (by rw [Try.infoB]; rfl)) rfl (by
      rw [(unhide hop).1, (unhide hop).2.1, (unhide hop).2.2, ← unhide hD1]
      exact ⟨sb, sd, none, 0, rfl, unhide hR1, hf1w, hf2w, hB.gr⟩)
end Go.Proofs.Ythgchjdjacbcgaa
