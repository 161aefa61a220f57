/-
  The reference: the next bytes of dice.
-/
import Derived.Test.YtdfcdklnngfhkaaDoorDiR
namespace Go.Proofs.YtdfcdklnngfhkaaDoor
open Go.RowKit
set_option maxRecDepth 100000
set_option linter.unusedSimpArgs false
set_option linter.unusedVariables false
/-- the stream's bytes from a place on -/
def stf (K : List Int) (t i : Nat) : Int := sf K ZN 0 (t + i)
def nxl (K : List Int) (t n : Nat) : List Int := (List.range n).map (stf K t)
theorem nxl_len (K : List Int) (t n : Nat) : (nxl K t n).length = n := by simp [nxl]
theorem bts_isB (W : List Int) : IsB (bts W) := fun x hx => by
  unfold bts at hx
  obtain ⟨i, _, rfl⟩ := List.mem_map.1 hx
  unfold btf
  omega
theorem bk_isB (K N : List Int) (c : Int) : IsB (bk K N c) := bts_isB _
theorem nxl_isB (K : List Int) (t n : Nat) : IsB (nxl K t n) := fun x hx => by
  unfold nxl at hx
  obtain ⟨i, _, rfl⟩ := List.mem_map.1 hx
  exact (bk_isB K ZN _).at_ _
theorem stf_of (K : List Int) (t i a : Nat) (ha : a = t + i) : stf K t i = (bk K ZN (cn 0 (a / 64))).getD (a % 64) 0 := by rw [ha]; rfl
theorem nxl_append (K : List Int) (t n m : Nat) : nxl K t (n + m) = nxl K t n ++ nxl K (t + n) m := by
  unfold nxl
  rw [List.range_add, List.map_append, List.map_map]
  refine congrArg (fun z => (List.range n).map (stf K t) ++ z) (List.map_congr_left fun i _ => ?_)
  rw [Function.comp_apply, stf, stf, Nat.add_assoc]
/-- what Bytes of the reference answers -/
def Rby (K : List Int) (t n : Nat) (w : World) (r : Ending) (w' : World) : Prop := ∃ g, r = .returned (.tuple #[.agg (dcl K (t + n)), .slice (some ⟨g, 0, none⟩) n n]) ∧ w.heap.size ≤ g ∧ w'.heap[g]? = some (.cells (kc (nxl K t n)) 5 (0, 0)) ∧ Gr w w'
set_option maxHeartbeats 4000000 in
theorem rbytes_ok (K : List Int) (hK : K.length = 32) (hKb : IsB K) (t n : Nat) (ht : t ≤ 1099511627776) (hn : n ≤ 100000) (w : World) : Calls Tryd.prog 13 #[.agg (dcl K t), .int .i64 n] w (Rby K t n w) := by
  obtain ⟨T, hT⟩ : ∃ T, T = Rby K t n w := ⟨_, rfl⟩
  rw [← hT]
  replace hT := hide hT
  obtain ⟨SD, hSD⟩ : ∃ S, S = dcl K t := ⟨_, rfl⟩
  rw [← hSD]
  replace hSD := hide hSD
  replace hKb := hide hKb
  have n0 : (0 : Int) ≤ (n : Int) := by omega
  go_enter Tryd.func13, Tryd.ntmps13
  go_upto_region 1 with fail
  have hB := ((Bl.nil w).new SD 30).new #[.int .u8 0, .int .u8 0, .int .u8 0, .int .u8 0, .int .u8 0, .int .u8 0, .int .u8 0, .int .u8 0, .int .u8 0, .int .u8 0, .int .u8 0, .int .u8 0, .int .u8 0, .int .u8 0, .int .u8 0, .int .u8 0, .int .u8 0, .int .u8 0, .int .u8 0, .int .u8 0, .int .u8 0, .int .u8 0, .int .u8 0, .int .u8 0, .int .u8 0, .int .u8 0, .int .u8 0, .int .u8 0, .int .u8 0, .int .u8 0, .int .u8 0, .int .u8 0, .int .i64 0] 30
  simp only [size_alloc, List.nil_append, List.cons_append] at hB
  generalize World.alloc _ _ = u at *
  rw [unhide hSD] at hB
  replace hB : Bl w [⟨w.heap.size, dcl K t, 30⟩, ⟨w.heap.size + 1, dcl ZK 0, 30⟩] u := hB
  refine wp_region_lit ?_
  refine list_val (.int .i64 n) (by kernel_rfl) (by kernel_rfl) ?_
  simp only [Act.put, List.setIfInBounds_toArray, List.set_cons_zero, List.set_cons_succ, List.getElem_toArray, List.getElem_cons_zero, List.getElem_cons_succ]
  refine wpList_make_room u rfl (.tmp 10) (.tmp 10) rfl n n n n rfl rfl rfl rfl (Nat.le_refl _) (by omega) ?_
  simp only [Act.put, List.setIfInBounds_toArray, List.set_cons_zero, List.set_cons_succ, List.getElem_toArray, List.getElem_cons_zero, List.getElem_cons_succ]
  replace hB := hB.new (kc (List.replicate n 0)) 5
  simp only [List.nil_append, List.cons_append] at hB
  generalize World.alloc _ _ = u1 at *
  generalize u.heap.size = g5 at *
  (refine wpList_step fun K hK => ?_; replace hK := hide hK; go_simp; refine unhide hK _ _ ?_; clear hK K)
  refine wpList_nil ?_
  replace hB := hide hB
  go_upto_region 2 with fail
  replace hB := unhide hB
  refine wp_region_lit ?_
  replace hB := hide hB
  (refine wpList_step fun K hK => ?_; replace hK := hide hK; go_simp; refine unhide hK _ _ ?_; clear hK K)
  replace hB := (unhide hB).new #[.int .u8 0, .int .u8 0, .int .u8 0, .int .u8 0, .int .u8 0, .int .u8 0, .int .u8 0, .int .u8 0, .int .u8 0, .int .u8 0, .int .u8 0, .int .u8 0, .int .u8 0, .int .u8 0, .int .u8 0, .int .u8 0, .int .u8 0, .int .u8 0, .int .u8 0, .int .u8 0, .int .u8 0, .int .u8 0, .int .u8 0, .int .u8 0, .int .u8 0, .int .u8 0, .int .u8 0, .int .u8 0, .int .u8 0, .int .u8 0, .int .u8 0, .int .u8 0, .int .u8 0, .int .u8 0, .int .u8 0, .int .u8 0, .int .u8 0, .int .u8 0, .int .u8 0, .int .u8 0, .int .u8 0, .int .u8 0, .int .u8 0, .int .u8 0, .int .u8 0, .int .u8 0, .int .u8 0, .int .u8 0, .int .u8 0, .int .u8 0, .int .u8 0, .int .u8 0, .int .u8 0, .int .u8 0, .int .u8 0, .int .u8 0, .int .u8 0, .int .u8 0, .int .u8 0, .int .u8 0, .int .u8 0, .int .u8 0, .int .u8 0, .int .u8 0] 69
  simp only [List.nil_append, List.cons_append] at hB
  generalize World.alloc _ _ = u2 at *
  generalize u1.heap.size = g6 at *
  replace hB : Bl w [⟨w.heap.size, dcl K t, 30⟩, ⟨w.heap.size + 1, dcl ZK 0, 30⟩, ⟨g5, kc (List.replicate n 0), 5⟩, ⟨g6, kc Z64, 69⟩] u2 := hB
  refine wpList_nil ?_
  replace hB := hide hB
  go_wp2_with fail
  go_loopw [8] (fun i wr => ∃ k : Nat, ∃ D m : List Int, k ≤ n ∧ i = .int .i64 k ∧ Hid (D.length = 64) ∧ Hid (k = 0 ∨ D = bk K ZN (cn 0 ((t + k - 1) / 64))) ∧ Hid (m = fil (stf K t) k (List.replicate n 0)) ∧ Hid (Bl w [⟨w.heap.size, dcl K t, 30⟩, ⟨w.heap.size + 1, dcl ZK 0, 30⟩, ⟨g5, kc m, 5⟩, ⟨g6, kc D, 69⟩] wr)) (fun i _ => n - (intOf i).toNat)
  case atStart => exact ⟨0, Z64, List.replicate n 0, by omega, rfl, rfl, .inl rfl, (fil_zero _ _).symm, hB⟩
  case round =>
  clear hB
  obtain ⟨k, D, m, hk, rfl, hDl, hDk, hm, hB⟩ := hrel
  have hml : Hid (m.length = n) := by
    show m.length = n
    rw [unhide hm, fil_len _ _ _ (by rw [List.length_replicate]; omega), List.length_replicate]
  have c0 : wr.cell? ⟨w.heap.size, 32, none⟩ = some (.int .i64 (t : Int)) := cell_of ((unhide hB).get 0 (x := ⟨w.heap.size, dcl K t, 30⟩) rfl) (dcl_get hK t)
  by_cases hkl : k < n
  · have kI : (k : Int) < (n : Int) := by omega
    obtain ⟨a, ha⟩ : ∃ a, a = t + k := ⟨_, rfl⟩
    have a1 : (t : Int) + (k : Int) = (a : Int) := by omega
    have a2 : IntKind.i64.wrap (a : Int) = (a : Int) := by rw [IntKind.wrap_i64]; omega
    obtain ⟨r, hr⟩ : ∃ r, r = a % 64 := ⟨_, rfl⟩
    obtain ⟨q, hq⟩ : ∃ q, q = a / 64 := ⟨_, rfl⟩
    have r64 : r < 64 := by omega
    have r64I : (r : Int) < 64 := by omega
    have a3 : Int.tmod (a : Int) 64 = (r : Int) := by rw [Int.tmod_eq_emod_of_nonneg (by omega)]; omega
    have a4 : Int.tdiv (a : Int) 64 = (q : Int) := by rw [Int.tdiv_eq_ediv_of_nonneg (by omega)]; omega
    have a5 : IntKind.u32.wrap (q : Int) = cn 0 q := by rw [IntKind.wrap_u32]; unfold cn; omega
    have a6 : IntKind.i64.wrap (q : Int) = (q : Int) := by rw [IntKind.wrap_i64]; omega
    have hst : Hid (stf K t k = (bk K ZN (cn 0 q)).getD r 0) := by
      have h := stf_of K t k a ha
      rw [← hq, ← hr] at h
      exact h
    have hm2 : Hid (m.set k (stf K t k) = fil (stf K t) (k + 1) (List.replicate n 0)) := by
      rw [unhide hm]
      exact fil_set _ _ _ (by rw [List.length_replicate]; exact hkl)
    have hnext : Hid ((t + (k + 1) - 1) / 64 = q) := by show (t + (k + 1) - 1) / 64 = q; omega
    replace hq := hide hq; replace hr := hide hr; replace ha := hide ha
    go_upto_region 7 with fail
    by_cases hk0 : k = 0
    · replace hk0 := hide hk0
      refine wp_region_lit ?_
      refine list_val (.int .i64 k) (by kernel_rfl) (by kernel_rfl) ?_
      simp only [Act.put, List.setIfInBounds_toArray, List.set_cons_zero, List.set_cons_succ, List.getElem_toArray, List.getElem_cons_zero, List.getElem_cons_succ]
      refine list_val (.bool true) (by kernel_rfl) (by have k0 : (k : Int) = 0 := (by have h9 := unhide hk0; omega); have k1 := unhide hk0; go_simp) ?_
      simp only [Act.put, List.setIfInBounds_toArray, List.set_cons_zero, List.set_cons_succ, List.getElem_toArray, List.getElem_cons_zero, List.getElem_cons_succ]
      refine list_val (.bool true) (by kernel_rfl) (by kernel_rfl) ?_
      simp only [Act.put, List.setIfInBounds_toArray, List.set_cons_zero, List.set_cons_succ, List.getElem_toArray, List.getElem_cons_zero, List.getElem_cons_succ]
      refine wpList_step fun K hK => ?_
      rw [if_neg (ne_true_of_eq_false (by kernel_rfl))]
      refine hK _ _ ?_
      clear hK K
      simp only [Act.put, List.setIfInBounds_toArray, List.set_cons_zero, List.set_cons_succ, List.getElem_toArray, List.getElem_cons_zero, List.getElem_cons_succ]
      refine wpList_step fun K hK => ?_
      rw [if_neg (ne_true_of_eq_false (by kernel_rfl))]
      refine hK _ _ ?_
      clear hK K
      simp only [Act.put, List.setIfInBounds_toArray, List.set_cons_zero, List.set_cons_succ, List.getElem_toArray, List.getElem_cons_zero, List.getElem_cons_succ]
      refine wpList_step fun K hK => ?_
      rw [if_neg (ne_true_of_eq_false (by kernel_rfl))]
      refine hK _ _ ?_
      clear hK K
      simp only [Act.put, List.setIfInBounds_toArray, List.set_cons_zero, List.set_cons_succ, List.getElem_toArray, List.getElem_cons_zero, List.getElem_cons_succ]
      refine list_val (.bool true) (by kernel_rfl) (by kernel_rfl) ?_
      simp only [Act.put, List.setIfInBounds_toArray, List.set_cons_zero, List.set_cons_succ, List.getElem_toArray, List.getElem_cons_zero, List.getElem_cons_succ]
      refine wpList_nil ?_
      go_upto_region 8 with fail
      replace hB := unhide hB
      refine wp_region_lit ?_
      refine list_val (.pointer (some ⟨w.heap.size, 0, none⟩)) (by kernel_rfl) (by kernel_rfl) ?_
      simp only [Act.put, List.setIfInBounds_toArray, List.set_cons_zero, List.set_cons_succ, List.getElem_toArray, List.getElem_cons_zero, List.getElem_cons_succ]
      refine list_val (.agg (kc K)) (by kernel_rfl) (exec_row _ 28 (.tmp 28) rfl (w.heap.size) 0 (by kernel_rfl) (K.map (Value.int .u8)) _ (dcl_key (hB.get 0 (x := ⟨w.heap.size, dcl K t, 30⟩) rfl)) Tryd.underlying28 rfl (by rw [Tryd.infoKey, List.length_map, hK])) ?_
      simp only [Act.put, List.setIfInBounds_toArray, List.set_cons_zero, List.set_cons_succ, List.getElem_toArray, List.getElem_cons_zero, List.getElem_cons_succ]
      refine list_val (.int .i64 a) (by kernel_rfl) (by kernel_rfl) ?_
      simp only [Act.put, List.setIfInBounds_toArray, List.set_cons_zero, List.set_cons_succ, List.getElem_toArray, List.getElem_cons_zero, List.getElem_cons_succ]
      refine list_val (.int .i64 q) (by kernel_rfl) (by go_simp) ?_
      simp only [Act.put, List.setIfInBounds_toArray, List.set_cons_zero, List.set_cons_succ, List.getElem_toArray, List.getElem_cons_zero, List.getElem_cons_succ]
      refine list_val (.int .u32 (cn 0 q)) (by kernel_rfl) (by go_simp) ?_
      simp only [Act.put, List.setIfInBounds_toArray, List.set_cons_zero, List.set_cons_succ, List.getElem_toArray, List.getElem_cons_zero, List.getElem_cons_succ]
      refine list_val (.agg (kc ZN)) (by kernel_rfl) (by kernel_rfl) ?_
      simp only [Act.put, List.setIfInBounds_toArray, List.set_cons_zero, List.set_cons_succ, List.getElem_toArray, List.getElem_cons_zero, List.getElem_cons_succ]
      refine list_call 28 #[.agg (kc K), .int .u32 (cn 0 q), .agg (kc ZN)] (by kernel_rfl) (by kernel_rfl) ((rblock_ok K ZN hK rfl (unhide hKb) ZN_isB (cn 0 q) _).mono ?_)
      rintro r v1 ⟨rfl, hg⟩
      refine ⟨_, rfl, ?_⟩
      replace hB := hB.more hg
      clear hg
      obtain ⟨E, hDq0⟩ : ∃ E, E = bk K ZN (cn 0 q) := ⟨_, rfl⟩
      rw [← hDq0]
      have hEl : Hid (E.length = 64) := by rw [hDq0]; exact bk_len _ _ _
      replace hDq0 := hide hDq0
      simp only [Act.put, List.setIfInBounds_toArray, List.set_cons_zero, List.set_cons_succ, List.getElem_toArray, List.getElem_cons_zero, List.getElem_cons_succ]
      refine list_store 69 (.tmp 7) (.tmp 34) (g6) (kc E) 69 (kc D) (by kernel_rfl) rfl (by kernel_rfl) (by kernel_rfl) (hB.get 3 (x := ⟨g6, kc D, 69⟩) rfl) (by rw [Tryd.info64, kc_size, (unhide hEl)]) (((kc_size D).trans (unhide hDl)).trans ((kc_size _).trans (unhide hEl)).symm) (kc_one _) ?_
      replace hB := hB.set 3 (x := ⟨g6, kc D, 69⟩) rfl (kc E)
      simp only [List.set_cons_zero, List.set_cons_succ] at hB
      generalize World.setRow _ _ _ = v2 at *
      simp only [Act.put, List.setIfInBounds_toArray, List.set_cons_zero, List.set_cons_succ, List.getElem_toArray, List.getElem_cons_zero, List.getElem_cons_succ]
      refine wpList_nil ?_
      have hDq : Hid (E = bk K ZN (cn 0 q)) := hDq0
      have hx : Hid (E.getD r 0 = stf K t k) := by
        show E.getD r 0 = _
        rw [unhide hst, unhide hDq]
      replace hB := hide hB
      go_upto_region 9 with fail
      replace hB := unhide hB
      refine wp_region_lit ?_
      refine list_val (.slice (some ⟨g5, 0, none⟩) n n) (by kernel_rfl) (by kernel_rfl) ?_
      simp only [Act.put, List.setIfInBounds_toArray, List.set_cons_zero, List.set_cons_succ, List.getElem_toArray, List.getElem_cons_zero, List.getElem_cons_succ]
      refine list_val (.int .i64 k) (by kernel_rfl) (by kernel_rfl) ?_
      simp only [Act.put, List.setIfInBounds_toArray, List.set_cons_zero, List.set_cons_succ, List.getElem_toArray, List.getElem_cons_zero, List.getElem_cons_succ]
      refine list_val (.int .i64 a) (by kernel_rfl) (by kernel_rfl) ?_
      simp only [Act.put, List.setIfInBounds_toArray, List.set_cons_zero, List.set_cons_succ, List.getElem_toArray, List.getElem_cons_zero, List.getElem_cons_succ]
      refine list_val (.int .i64 r) (by kernel_rfl) (by go_simp) ?_
      simp only [Act.put, List.setIfInBounds_toArray, List.set_cons_zero, List.set_cons_succ, List.getElem_toArray, List.getElem_cons_zero, List.getElem_cons_succ]
      refine list_val (.pointer (some ⟨g6, r, none⟩)) (by kernel_rfl) (by go_simp) ?_
      simp only [Act.put, List.setIfInBounds_toArray, List.set_cons_zero, List.set_cons_succ, List.getElem_toArray, List.getElem_cons_zero, List.getElem_cons_succ]
      refine list_val (.int .u8 (stf K t k)) (by kernel_rfl) (exec_b _ (.tmp 39) rfl g6 r (by kernel_rfl) _ (by have h := kc_cell (hB.get 3 (x := ⟨g6, kc E, 69⟩) rfl) r (by have h9 := unhide hEl; omega); rw [unhide hx] at h; exact h)) ?_
      simp only [Act.put, List.setIfInBounds_toArray, List.set_cons_zero, List.set_cons_succ, List.getElem_toArray, List.getElem_cons_zero, List.getElem_cons_succ]
      refine list_val (.pointer (some ⟨g5, k, none⟩)) (by kernel_rfl) (by go_simp) ?_
      simp only [Act.put, List.setIfInBounds_toArray, List.set_cons_zero, List.set_cons_succ, List.getElem_toArray, List.getElem_cons_zero, List.getElem_cons_succ]
      have c4 := kc_cell (hB.get 2 (x := ⟨g5, kc m, 5⟩) rfl) k (by rw [unhide hml]; exact hkl)
      have fz := froz_of (i := k) (hB.get 2 (x := ⟨g5, kc m, 5⟩) rfl)
      generalize m.getD k 0 = z at c4
      have hB2 := hB.cell 2 (x := ⟨g5, kc m, 5⟩) rfl k (.int .u8 (stf K t k))
      simp only [List.set_cons_zero, List.set_cons_succ, kc_set] at hB2
      clear hB
      replace hB2 := hide hB2
      generalize stf K t k = y at *
      dsimp only at c4 fz
      (refine wpList_step fun K hK => ?_; replace hK := hide hK; go_simp; refine unhide hK _ _ ?_; clear hK K)
      clear c4 fz
      refine wpList_nil ?_
      clear a1 a2 a3 a4 a5 a6 c0
      go_wp2_with fail
      go_roundw
      case rel => exact ⟨k + 1, E, _, by omega, by go_num, hEl, .inr (by rw [unhide hnext]; exact unhide hDq), hm2, hB2⟩
      case measure => simp [intOf]; omega
    · replace hk0 := hide hk0
      by_cases hr0 : r = 0
      · replace hr0 := hide hr0
        refine wp_region_lit ?_
        refine list_val (.int .i64 k) (by kernel_rfl) (by kernel_rfl) ?_
        simp only [Act.put, List.setIfInBounds_toArray, List.set_cons_zero, List.set_cons_succ, List.getElem_toArray, List.getElem_cons_zero, List.getElem_cons_succ]
        refine list_val (.bool false) (by kernel_rfl) (by have k0 : ¬ (k : Int) = 0 := (by have h9 := unhide hk0; omega); have k1 := unhide hk0; go_simp) ?_
        simp only [Act.put, List.setIfInBounds_toArray, List.set_cons_zero, List.set_cons_succ, List.getElem_toArray, List.getElem_cons_zero, List.getElem_cons_succ]
        refine list_val (.bool false) (by kernel_rfl) (by kernel_rfl) ?_
        simp only [Act.put, List.setIfInBounds_toArray, List.set_cons_zero, List.set_cons_succ, List.getElem_toArray, List.getElem_cons_zero, List.getElem_cons_succ]
        refine list_val (.int .i64 a) (by kernel_rfl) (by kernel_rfl) ?_
        simp only [Act.put, List.setIfInBounds_toArray, List.set_cons_zero, List.set_cons_succ, List.getElem_toArray, List.getElem_cons_zero, List.getElem_cons_succ]
        refine list_val (.int .i64 r) (by kernel_rfl) (by go_simp) ?_
        simp only [Act.put, List.setIfInBounds_toArray, List.set_cons_zero, List.set_cons_succ, List.getElem_toArray, List.getElem_cons_zero, List.getElem_cons_succ]
        refine list_val (.bool true) (by kernel_rfl) (by have r0 : (r : Int) = 0 := (by have h9 := unhide hr0; omega); have r1 := unhide hr0; go_simp) ?_
        simp only [Act.put, List.setIfInBounds_toArray, List.set_cons_zero, List.set_cons_succ, List.getElem_toArray, List.getElem_cons_zero, List.getElem_cons_succ]
        refine list_val (.bool true) (by kernel_rfl) (by kernel_rfl) ?_
        simp only [Act.put, List.setIfInBounds_toArray, List.set_cons_zero, List.set_cons_succ, List.getElem_toArray, List.getElem_cons_zero, List.getElem_cons_succ]
        refine wpList_nil ?_
        go_upto_region 8 with fail
        replace hB := unhide hB
        refine wp_region_lit ?_
        refine list_val (.pointer (some ⟨w.heap.size, 0, none⟩)) (by kernel_rfl) (by kernel_rfl) ?_
        simp only [Act.put, List.setIfInBounds_toArray, List.set_cons_zero, List.set_cons_succ, List.getElem_toArray, List.getElem_cons_zero, List.getElem_cons_succ]
        refine list_val (.agg (kc K)) (by kernel_rfl) (exec_row _ 28 (.tmp 28) rfl (w.heap.size) 0 (by kernel_rfl) (K.map (Value.int .u8)) _ (dcl_key (hB.get 0 (x := ⟨w.heap.size, dcl K t, 30⟩) rfl)) Tryd.underlying28 rfl (by rw [Tryd.infoKey, List.length_map, hK])) ?_
        simp only [Act.put, List.setIfInBounds_toArray, List.set_cons_zero, List.set_cons_succ, List.getElem_toArray, List.getElem_cons_zero, List.getElem_cons_succ]
        refine list_val (.int .i64 a) (by kernel_rfl) (by kernel_rfl) ?_
        simp only [Act.put, List.setIfInBounds_toArray, List.set_cons_zero, List.set_cons_succ, List.getElem_toArray, List.getElem_cons_zero, List.getElem_cons_succ]
        refine list_val (.int .i64 q) (by kernel_rfl) (by go_simp) ?_
        simp only [Act.put, List.setIfInBounds_toArray, List.set_cons_zero, List.set_cons_succ, List.getElem_toArray, List.getElem_cons_zero, List.getElem_cons_succ]
        refine list_val (.int .u32 (cn 0 q)) (by kernel_rfl) (by go_simp) ?_
        simp only [Act.put, List.setIfInBounds_toArray, List.set_cons_zero, List.set_cons_succ, List.getElem_toArray, List.getElem_cons_zero, List.getElem_cons_succ]
        refine list_val (.agg (kc ZN)) (by kernel_rfl) (by kernel_rfl) ?_
        simp only [Act.put, List.setIfInBounds_toArray, List.set_cons_zero, List.set_cons_succ, List.getElem_toArray, List.getElem_cons_zero, List.getElem_cons_succ]
        refine list_call 28 #[.agg (kc K), .int .u32 (cn 0 q), .agg (kc ZN)] (by kernel_rfl) (by kernel_rfl) ((rblock_ok K ZN hK rfl (unhide hKb) ZN_isB (cn 0 q) _).mono ?_)
        rintro r v1 ⟨rfl, hg⟩
        refine ⟨_, rfl, ?_⟩
        replace hB := hB.more hg
        clear hg
        obtain ⟨E, hDq0⟩ : ∃ E, E = bk K ZN (cn 0 q) := ⟨_, rfl⟩
        rw [← hDq0]
        have hEl : Hid (E.length = 64) := by rw [hDq0]; exact bk_len _ _ _
        replace hDq0 := hide hDq0
        simp only [Act.put, List.setIfInBounds_toArray, List.set_cons_zero, List.set_cons_succ, List.getElem_toArray, List.getElem_cons_zero, List.getElem_cons_succ]
        refine list_store 69 (.tmp 7) (.tmp 34) (g6) (kc E) 69 (kc D) (by kernel_rfl) rfl (by kernel_rfl) (by kernel_rfl) (hB.get 3 (x := ⟨g6, kc D, 69⟩) rfl) (by rw [Tryd.info64, kc_size, (unhide hEl)]) (((kc_size D).trans (unhide hDl)).trans ((kc_size _).trans (unhide hEl)).symm) (kc_one _) ?_
        replace hB := hB.set 3 (x := ⟨g6, kc D, 69⟩) rfl (kc E)
        simp only [List.set_cons_zero, List.set_cons_succ] at hB
        generalize World.setRow _ _ _ = v2 at *
        simp only [Act.put, List.setIfInBounds_toArray, List.set_cons_zero, List.set_cons_succ, List.getElem_toArray, List.getElem_cons_zero, List.getElem_cons_succ]
        refine wpList_nil ?_
        have hDq : Hid (E = bk K ZN (cn 0 q)) := hDq0
        have hx : Hid (E.getD r 0 = stf K t k) := by
          show E.getD r 0 = _
          rw [unhide hst, unhide hDq]
        replace hB := hide hB
        go_upto_region 9 with fail
        replace hB := unhide hB
        refine wp_region_lit ?_
        refine list_val (.slice (some ⟨g5, 0, none⟩) n n) (by kernel_rfl) (by kernel_rfl) ?_
        simp only [Act.put, List.setIfInBounds_toArray, List.set_cons_zero, List.set_cons_succ, List.getElem_toArray, List.getElem_cons_zero, List.getElem_cons_succ]
        refine list_val (.int .i64 k) (by kernel_rfl) (by kernel_rfl) ?_
        simp only [Act.put, List.setIfInBounds_toArray, List.set_cons_zero, List.set_cons_succ, List.getElem_toArray, List.getElem_cons_zero, List.getElem_cons_succ]
        refine list_val (.int .i64 a) (by kernel_rfl) (by kernel_rfl) ?_
        simp only [Act.put, List.setIfInBounds_toArray, List.set_cons_zero, List.set_cons_succ, List.getElem_toArray, List.getElem_cons_zero, List.getElem_cons_succ]
        refine list_val (.int .i64 r) (by kernel_rfl) (by go_simp) ?_
        simp only [Act.put, List.setIfInBounds_toArray, List.set_cons_zero, List.set_cons_succ, List.getElem_toArray, List.getElem_cons_zero, List.getElem_cons_succ]
        refine list_val (.pointer (some ⟨g6, r, none⟩)) (by kernel_rfl) (by go_simp) ?_
        simp only [Act.put, List.setIfInBounds_toArray, List.set_cons_zero, List.set_cons_succ, List.getElem_toArray, List.getElem_cons_zero, List.getElem_cons_succ]
        refine list_val (.int .u8 (stf K t k)) (by kernel_rfl) (exec_b _ (.tmp 39) rfl g6 r (by kernel_rfl) _ (by have h := kc_cell (hB.get 3 (x := ⟨g6, kc E, 69⟩) rfl) r (by have h9 := unhide hEl; omega); rw [unhide hx] at h; exact h)) ?_
        simp only [Act.put, List.setIfInBounds_toArray, List.set_cons_zero, List.set_cons_succ, List.getElem_toArray, List.getElem_cons_zero, List.getElem_cons_succ]
        refine list_val (.pointer (some ⟨g5, k, none⟩)) (by kernel_rfl) (by go_simp) ?_
        simp only [Act.put, List.setIfInBounds_toArray, List.set_cons_zero, List.set_cons_succ, List.getElem_toArray, List.getElem_cons_zero, List.getElem_cons_succ]
        have c4 := kc_cell (hB.get 2 (x := ⟨g5, kc m, 5⟩) rfl) k (by rw [unhide hml]; exact hkl)
        have fz := froz_of (i := k) (hB.get 2 (x := ⟨g5, kc m, 5⟩) rfl)
        generalize m.getD k 0 = z at c4
        have hB2 := hB.cell 2 (x := ⟨g5, kc m, 5⟩) rfl k (.int .u8 (stf K t k))
        simp only [List.set_cons_zero, List.set_cons_succ, kc_set] at hB2
        clear hB
        replace hB2 := hide hB2
        generalize stf K t k = y at *
        dsimp only at c4 fz
        (refine wpList_step fun K hK => ?_; replace hK := hide hK; go_simp; refine unhide hK _ _ ?_; clear hK K)
        clear c4 fz
        refine wpList_nil ?_
        clear a1 a2 a3 a4 a5 a6 c0
        go_wp2_with fail
        go_roundw
        case rel => exact ⟨k + 1, E, _, by omega, by go_num, hEl, .inr (by rw [unhide hnext]; exact unhide hDq), hm2, hB2⟩
        case measure => simp [intOf]; omega
      · have hDq0 : Hid (D = bk K ZN (cn 0 q)) := by
          rcases unhide hDk with h | h
          · exact absurd h (unhide hk0)
          · have e : (t + k - 1) / 64 = q := by have h1 := unhide hq; have h2 := unhide hr; have h3 := unhide ha; omega
            rw [e] at h
            exact h
        replace hr0 := hide hr0
        refine wp_region_lit ?_
        refine list_val (.int .i64 k) (by kernel_rfl) (by kernel_rfl) ?_
        simp only [Act.put, List.setIfInBounds_toArray, List.set_cons_zero, List.set_cons_succ, List.getElem_toArray, List.getElem_cons_zero, List.getElem_cons_succ]
        refine list_val (.bool false) (by kernel_rfl) (by have k0 : ¬ (k : Int) = 0 := (by have h9 := unhide hk0; omega); have k1 := unhide hk0; go_simp) ?_
        simp only [Act.put, List.setIfInBounds_toArray, List.set_cons_zero, List.set_cons_succ, List.getElem_toArray, List.getElem_cons_zero, List.getElem_cons_succ]
        refine list_val (.bool false) (by kernel_rfl) (by kernel_rfl) ?_
        simp only [Act.put, List.setIfInBounds_toArray, List.set_cons_zero, List.set_cons_succ, List.getElem_toArray, List.getElem_cons_zero, List.getElem_cons_succ]
        refine list_val (.int .i64 a) (by kernel_rfl) (by kernel_rfl) ?_
        simp only [Act.put, List.setIfInBounds_toArray, List.set_cons_zero, List.set_cons_succ, List.getElem_toArray, List.getElem_cons_zero, List.getElem_cons_succ]
        refine list_val (.int .i64 r) (by kernel_rfl) (by go_simp) ?_
        simp only [Act.put, List.setIfInBounds_toArray, List.set_cons_zero, List.set_cons_succ, List.getElem_toArray, List.getElem_cons_zero, List.getElem_cons_succ]
        refine list_val (.bool false) (by kernel_rfl) (by have r0 : ¬ (r : Int) = 0 := (by have h9 := unhide hr0; omega); have r1 := unhide hr0; go_simp) ?_
        simp only [Act.put, List.setIfInBounds_toArray, List.set_cons_zero, List.set_cons_succ, List.getElem_toArray, List.getElem_cons_zero, List.getElem_cons_succ]
        refine list_val (.bool false) (by kernel_rfl) (by kernel_rfl) ?_
        simp only [Act.put, List.setIfInBounds_toArray, List.set_cons_zero, List.set_cons_succ, List.getElem_toArray, List.getElem_cons_zero, List.getElem_cons_succ]
        refine wpList_nil ?_
        replace hB := unhide hB
        have hDq : Hid (D = bk K ZN (cn 0 q)) := hDq0
        have hx : Hid (D.getD r 0 = stf K t k) := by
          show D.getD r 0 = _
          rw [unhide hst, unhide hDq]
        replace hB := hide hB
        go_upto_region 9 with fail
        replace hB := unhide hB
        refine wp_region_lit ?_
        refine list_val (.slice (some ⟨g5, 0, none⟩) n n) (by kernel_rfl) (by kernel_rfl) ?_
        simp only [Act.put, List.setIfInBounds_toArray, List.set_cons_zero, List.set_cons_succ, List.getElem_toArray, List.getElem_cons_zero, List.getElem_cons_succ]
        refine list_val (.int .i64 k) (by kernel_rfl) (by kernel_rfl) ?_
        simp only [Act.put, List.setIfInBounds_toArray, List.set_cons_zero, List.set_cons_succ, List.getElem_toArray, List.getElem_cons_zero, List.getElem_cons_succ]
        refine list_val (.int .i64 a) (by kernel_rfl) (by kernel_rfl) ?_
        simp only [Act.put, List.setIfInBounds_toArray, List.set_cons_zero, List.set_cons_succ, List.getElem_toArray, List.getElem_cons_zero, List.getElem_cons_succ]
        refine list_val (.int .i64 r) (by kernel_rfl) (by go_simp) ?_
        simp only [Act.put, List.setIfInBounds_toArray, List.set_cons_zero, List.set_cons_succ, List.getElem_toArray, List.getElem_cons_zero, List.getElem_cons_succ]
        refine list_val (.pointer (some ⟨g6, r, none⟩)) (by kernel_rfl) (by go_simp) ?_
        simp only [Act.put, List.setIfInBounds_toArray, List.set_cons_zero, List.set_cons_succ, List.getElem_toArray, List.getElem_cons_zero, List.getElem_cons_succ]
        refine list_val (.int .u8 (stf K t k)) (by kernel_rfl) (exec_b _ (.tmp 39) rfl g6 r (by kernel_rfl) _ (by have h := kc_cell (hB.get 3 (x := ⟨g6, kc D, 69⟩) rfl) r (by have h9 := unhide hDl; omega); rw [unhide hx] at h; exact h)) ?_
        simp only [Act.put, List.setIfInBounds_toArray, List.set_cons_zero, List.set_cons_succ, List.getElem_toArray, List.getElem_cons_zero, List.getElem_cons_succ]
        refine list_val (.pointer (some ⟨g5, k, none⟩)) (by kernel_rfl) (by go_simp) ?_
        simp only [Act.put, List.setIfInBounds_toArray, List.set_cons_zero, List.set_cons_succ, List.getElem_toArray, List.getElem_cons_zero, List.getElem_cons_succ]
        have c4 := kc_cell (hB.get 2 (x := ⟨g5, kc m, 5⟩) rfl) k (by rw [unhide hml]; exact hkl)
        have fz := froz_of (i := k) (hB.get 2 (x := ⟨g5, kc m, 5⟩) rfl)
        generalize m.getD k 0 = z at c4
        have hB2 := hB.cell 2 (x := ⟨g5, kc m, 5⟩) rfl k (.int .u8 (stf K t k))
        simp only [List.set_cons_zero, List.set_cons_succ, kc_set] at hB2
        clear hB
        replace hB2 := hide hB2
        generalize stf K t k = y at *
        dsimp only at c4 fz
        (refine wpList_step fun K hK => ?_; replace hK := hide hK; go_simp; refine unhide hK _ _ ?_; clear hK K)
        clear c4 fz
        refine wpList_nil ?_
        clear a1 a2 a3 a4 a5 a6 c0
        go_wp2_with fail
        go_roundw
        case rel => exact ⟨k + 1, D, _, by omega, by go_num, hDl, .inr (by rw [unhide hnext]; exact unhide hDq), hm2, hB2⟩
        case measure => simp [intOf]; omega
  have kI : ¬ (k : Int) < (n : Int) := by omega
  have e : k = n := by omega
  have hM : Hid (m = nxl K t n) := by
    show m = nxl K t n
    rw [unhide hm, e]
    have h := fil_all (stf K t) (List.replicate n 0)
    rw [List.length_replicate] at h
    exact h
  obtain ⟨t2, ht2⟩ : ∃ x, x = t + n := ⟨_, rfl⟩
  have b1 : (t : Int) + (n : Int) = (t2 : Int) := by omega
  have b2 : IntKind.i64.wrap (t2 : Int) = (t2 : Int) := by rw [IntKind.wrap_i64]; omega
  replace ht2 := hide ht2
  clear hm hDk
  go_upto_region 10 with fail
  replace hB := unhide hB
  refine wp_region_lit ?_
  refine list_val (.pointer (some ⟨w.heap.size, 32, none⟩)) (by kernel_rfl) (by kernel_rfl) ?_
  simp only [Act.put, List.setIfInBounds_toArray, List.set_cons_zero, List.set_cons_succ, List.getElem_toArray, List.getElem_cons_zero, List.getElem_cons_succ]
  refine list_val (.int .i64 t) (by kernel_rfl) (exec_i64 _ (.tmp 42) rfl (w.heap.size) 32 (by kernel_rfl) t c0) ?_
  simp only [Act.put, List.setIfInBounds_toArray, List.set_cons_zero, List.set_cons_succ, List.getElem_toArray, List.getElem_cons_zero, List.getElem_cons_succ]
  refine list_val (.int .i64 n) (by kernel_rfl) (by kernel_rfl) ?_
  simp only [Act.put, List.setIfInBounds_toArray, List.set_cons_zero, List.set_cons_succ, List.getElem_toArray, List.getElem_cons_zero, List.getElem_cons_succ]
  refine list_val (.int .i64 t2) (by kernel_rfl) (by go_simp) ?_
  simp only [Act.put, List.setIfInBounds_toArray, List.set_cons_zero, List.set_cons_succ, List.getElem_toArray, List.getElem_cons_zero, List.getElem_cons_succ]
  refine list_val (.pointer (some ⟨w.heap.size, 32, none⟩)) (by kernel_rfl) (by kernel_rfl) ?_
  simp only [Act.put, List.setIfInBounds_toArray, List.set_cons_zero, List.set_cons_succ, List.getElem_toArray, List.getElem_cons_zero, List.getElem_cons_succ]
  have c4 : wr.cell? ⟨w.heap.size, 32, none⟩ = some (.int .i64 (t : Int)) := c0
  have fz := froz_of (i := 32) (hB.get 0 (x := ⟨w.heap.size, dcl K t, 30⟩) rfl)
  have hB2 := hB.cell 0 (x := ⟨w.heap.size, dcl K t, 30⟩) rfl 32 (.int .i64 (t2 : Int))
  simp only [List.set_cons_zero, List.set_cons_succ, dcl_set hK] at hB2
  clear hB
  replace hB2 := hide hB2
  dsimp only at fz
  (refine wpList_step fun K hK => ?_; replace hK := hide hK; go_simp; refine unhide hK _ _ ?_; clear hK K)
  clear c4 fz c0
  have hB := unhide hB2
  clear hB2
  generalize World.setCell _ _ _ = u5 at *
  refine wpList_nil ?_
  replace hB := hide hB
  go_upto_region 11 with fail
  replace hB := unhide hB
  refine wp_region_lit ?_
  refine list_val (.agg (dcl K t2)) (by kernel_rfl) (exec_arr _ 30 (.tmp 2) rfl (w.heap.size) (by kernel_rfl) (dcl K t2) 30 _ (hB.get 0 (x := ⟨w.heap.size, dcl K t2, 30⟩) rfl) Tryd.underlying30 rfl (by rw [Tryd.infoD, dcl_size hK])) ?_
  simp only [Act.put, List.setIfInBounds_toArray, List.set_cons_zero, List.set_cons_succ, List.getElem_toArray, List.getElem_cons_zero, List.getElem_cons_succ]
  refine list_val (.slice (some ⟨g5, 0, none⟩) n n) (by kernel_rfl) (by kernel_rfl) ?_
  simp only [Act.put, List.setIfInBounds_toArray, List.set_cons_zero, List.set_cons_succ, List.getElem_toArray, List.getElem_cons_zero, List.getElem_cons_succ]
  refine list_store 30 (.tmp 4) (.tmp 47) (w.heap.size + 1) (dcl K t2) 30 (dcl ZK 0) (by kernel_rfl) rfl (by kernel_rfl) (by kernel_rfl) (hB.get 1 (x := ⟨w.heap.size + 1, dcl ZK 0, 30⟩) rfl) (by rw [Tryd.infoD, dcl_size hK]) ((show (dcl ZK 0).size = 33 from rfl).trans (dcl_size hK t2).symm) (dcl_one _ _) ?_
  replace hB := hB.set 1 (x := ⟨w.heap.size + 1, dcl ZK 0, 30⟩) rfl (dcl K t2)
  simp only [List.set_cons_zero, List.set_cons_succ] at hB
  generalize World.setRow _ _ _ = u6 at *
  simp only [Act.put, List.setIfInBounds_toArray, List.set_cons_zero, List.set_cons_succ, List.getElem_toArray, List.getElem_cons_zero, List.getElem_cons_succ]
  (refine wpList_step fun K hK => ?_; replace hK := hide hK; go_simp; refine unhide hK _ _ ?_; clear hK K)
  refine wpList_nil ?_
  replace hB := hide hB
  go_wp2_with fail
  replace hB := unhide hB
  rw [unhide hT]
  exact bodyPost_ret (v := .tuple #[.agg (dcl K t2), .slice (some ⟨g5, 0, none⟩) n n]) (results_cell_tmp Tryd.results13 _ _ (w.heap.size + 1) 30 (dcl K t2) (0, 0) _ rfl (.slice (some ⟨g5, 0, none⟩) n n) rfl (hB.get 1 (x := ⟨w.heap.size + 1, dcl K t2, 30⟩) rfl) Tryd.underlying30 rfl (by rw [Tryd.infoD, dcl_size hK])) rfl ⟨g5, by rw [unhide ht2], hB.own 2 (x := ⟨g5, kc m, 5⟩) rfl, by rw [← unhide hM]; exact hB.get 2 (x := ⟨g5, kc m, 5⟩) rfl, hB.gr⟩
end Go.Proofs.YtdfcdklnngfhkaaDoor
