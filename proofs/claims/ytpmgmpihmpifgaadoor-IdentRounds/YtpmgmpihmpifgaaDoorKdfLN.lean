/-
  Several texts in one.
-/
import Derived.Test.YtpmgmpihmpifgaaDoorKdfK
import Derived.Laws.IdiomStrings
/-
  The document's lengths and labels.
-/
namespace Go.Proofs.YtpmgmpihmpifgaaDoor
open Go.RowKit
set_option maxRecDepth 100000
set_option linter.unusedSimpArgs false
set_option linter.unusedVariables false

set_option maxHeartbeats 2000000 in
theorem rlow_ok (X : Nat) (hX : X < 4294967296) (w : World) : Calls Tryd.prog 94 #[.int .u64 X, .int .i64 4] w (Putd [] X 0 w) := by
  obtain ⟨T, hT⟩ : ∃ T, T = Putd [] X 0 w := ⟨_, rfl⟩
  rw [← hT]
  replace hT := hide hT
  go_enter Tryd.func94, Tryd.ntmps94
  go_upto_region 1 with fail
  refine wp_region_lit ?_
  iterate 1 (refine wpList_step fun K hK => ?_; replace hK := hide hK; go_simp; refine unhide hK _ _ ?_; clear hK K)
  refine wpList_make_room w rfl (.tmp 7) (.tmp 7) rfl 4 4 4 4 (by kernel_rfl) (by kernel_rfl) (by omega) (by omega) (by omega) (by omega) ?_
  have hv := blk_new w (.cells (kc (List.replicate 4 0)) 5 (0, 0))
  have hg := (Gr.refl w).alloc (.cells (kc (List.replicate 4 0)) 5 (0, 0))
  generalize World.alloc _ _ = u1 at *
  simp only [Act.put, List.setIfInBounds_toArray, List.set_cons_zero, List.set_cons_succ, List.getElem_toArray, List.getElem_cons_zero, List.getElem_cons_succ]
  replace hv : Hid (u1.heap[w.heap.size]? = some (.cells (kc (lwz [] X 0)) 5 (0, 0))) := hv
  replace hg := hide hg
  iterate 1 (refine wpList_step fun K hK => ?_; replace hK := hide hK; go_simp; refine unhide hK _ _ ?_; clear hK K)
  refine wpList_nil ?_
  go_wp2_with fail
  go_loopw [6, 0] (fun i x wr => ∃ k : Nat, k ≤ 4 ∧ i = .int .i64 (k : Int) ∧ x = .int .u64 ((X / 256 ^ k : Nat) : Int) ∧ Hid (wr.heap[w.heap.size]? = some (.cells (kc (lwz [] X k)) 5 (0, 0))) ∧ Hid (Gr w wr)) (fun i _ _ => 4 - (intOf i).toNat)
  case atStart => exact ⟨0, by omega, rfl, by simp, hv, hg⟩
  case round =>
  clear hv hg
  obtain ⟨k, hk, rfl, rfl, hv, hg⟩ := hrel
  by_cases hlt : k < 4
  · obtain ⟨Y, hY⟩ : ∃ Y, Y = X / 256 ^ k := ⟨_, rfl⟩
    obtain ⟨y, hy⟩ : ∃ y : Int, y = ((Y % 256 : Nat) : Int) := ⟨_, rfl⟩
    have hYb : Y < 4294967296 := by rw [hY]; exact Nat.lt_of_le_of_lt (Nat.div_le_self _ _) hX
    have q1 : (k : Int) < 4 := by omega
    have q3 : 0 ≤ (k : Int) ∧ (k : Int) < 4 := by omega
    have q4 : IntKind.i64.wrap ((k : Int) + 1) = (k : Int) + 1 := by rw [IntKind.wrap_i64]; omega
    obtain ⟨Z, hZ⟩ : ∃ Z, Z = X / 256 ^ (k + 1) := ⟨_, rfl⟩
    have e2 : (Y : Int) / 256 = (Z : Int) := by rw [hZ, hY, Nat.pow_succ, ← Nat.div_div_eq_div_mul]; omega
    have e3 : (Y : Int).tdiv 256 = (Z : Int) := by rw [Int.tdiv_eq_ediv_of_nonneg (by omega)]; exact e2
    have e4 : (Y : Int).tmod 256 = y := by rw [Int.tmod_eq_emod_of_nonneg (by omega), hy]; omega
    have e5 : (Y : Int) % 256 = y := by rw [hy]; omega
    have e6 : IntKind.u64.wrap y = y := by rw [IntKind.wrap_u64]; omega
    have e7 : IntKind.u8.wrap y = y := by rw [IntKind.wrap_u8']; omega
    have e8 : IntKind.u64.wrap (Z : Int) = (Z : Int) := by rw [IntKind.wrap_u64]; omega
    have cs := kc_cell (unhide hv) k (by rw [lwz_len _ _ _ (by omega)]; simp; omega)
    have fs := froz_of (i := k) (unhide hv)
    have hv2 := heap_setCell_same wr w.heap.size k _ _ (.int .u8 y) (unhide hv)
    rw [kc_set] at hv2
    have hnx : (lwz [] X k).set k y = lwz [] X (k + 1) := by
      have := lwz_next [] X k hlt
      rw [List.length_nil, Nat.zero_add] at this
      rw [hy, hY]
      exact this
    rw [hnx] at hv2
    have hg2 := (setCells_bt [.int .u8 y] wr w.heap.size k).gr (unhide hg) (Nat.le_refl _)
    replace hg2 : Hid (Gr w (wr.setCell ⟨w.heap.size, k, none⟩ (.int .u8 y))) := hg2
    replace hv2 := hide hv2
    rw [← hY]
    generalize (lwz [] X k).getD k 0 = old at cs
    clear hnx
    replace hY := hide hY
    replace hy := hide hy
    replace hZ := hide hZ
    go_wp2_with fail
    go_roundw
    case rel => exact ⟨k + 1, by omega, by go_num, by rw [unhide hZ], hv2, hg2⟩
    case measure => simp [intOf]; omega
  · have e : k = 4 := by omega
    subst e
    have hP : Hid (Putd [] X 0 w (.returned (.slice (some ⟨w.heap.size, 0, none⟩) 4 4)) wr) := ⟨_, rfl, Nat.le_refl _, by rw [← lwz_all]; exact unhide hv, unhide hg⟩
    clear hlt hv hg
    go_wp2_with fail
    rw [unhide hT]
    exact unhide hP
/-- a text's bytes in a list of their own -/
theorem conv_text (w : World) (t : ByteArray) (ht : t.size ≤ 1000) : ∃ c w', (convert 9 33 (.string t)).run Tryd.prog w = .ok (.slice (some ⟨w.heap.size, 0, none⟩) t.size c) w' ∧ Lb w' (some ⟨w.heap.size, 0, none⟩) t.size c (tb t) ∧ Gr w w' := by
  refine ⟨_, _, run_bytes_of_string w 9 33 5 t Tryd.underlying9 Tryd.underlying33 Tryd.underlying5, ⟨tb_len t, tb_isB t, .inr ⟨_, 0, rfl, fun j hj => ?_⟩, grownCap_ge _ _ _ _, ?_⟩, (Gr.refl w).drew.alloc _⟩
  · rw [tb_len] at hj
    rw [Nat.zero_add]
    refine cell_of (blk_new w.drew _) ?_
    have hj2 : j < t.data.size := hj
    unfold bytesRow tb
    rw [Array.getElem?_append_left (by simpa using hj2)]
    simp [hj2, Array.getElem?_eq_getElem hj2]
  · have := grownCap_le_maxLen w t.size 0 5 (by unfold maxLen; omega)
    unfold maxLen at this
    omega
theorem exec_conv {P : Program} {o : Oper} {a : Act} {w w' : World} {s d : TypeId} (x : Operand) (ho : o.op = .convert s d x) (v r : Value) (hx : a.eval x = v) (h : (convert s d v).run P w = .ok r w') : (execOp a.eval o).run P w = .ok (.value r) w' := by
  simp [execOp, ho, hx, h]
def Rinf (L : List Int) (w : World) (r : Ending) (w' : World) : Prop := ∃ a n c, r = .returned (.slice a n c) ∧ Lb w' a n c L ∧ Gr w w'
set_option maxHeartbeats 2000000 in
theorem rinfo_ok (t : ByteArray) (ht : t.size ≤ 1000) (ps : List (List Int)) (ap : Option Addr) (m cp : Nat) (hm : ps.length = m) (hp : small4 ps) (w : World) (hP : Pr w ap ps) : Calls Tryd.prog 75 #[.string t, .slice ap m cp] w (Rinf (infoL (tb t) ps) w) := by
  obtain ⟨T, hT⟩ : ∃ T, T = Rinf (infoL (tb t) ps) w := ⟨_, rfl⟩
  rw [← hT]
  have hmb : m ≤ 100 := by rw [← hm]; exact hp.1
  have htl : (tb t).length ≤ 1000 := by rw [tb_len]; exact ht
  have e1 : IntKind.u64.wrap (t.size : Int) = (t.size : Int) := by rw [IntKind.wrap_u64]; omega
  replace hT := hide hT
  replace hP := hide hP
  replace hp := hide hp
  replace hm := hide hm
  replace htl := hide htl
  go_enter Tryd.func75, Tryd.ntmps75
  go_upto_region 1 with fail
  refine wp_region_lit ?_
  iterate 3 (refine wpList_step fun K hK => ?_; replace hK := hide hK; go_simp; refine unhide hK _ _ ?_; clear hK K)
  refine list_call 94 #[.int .u64 t.size, .int .i64 4] (by kernel_rfl) (by kernel_rfl) ((rlow_ok t.size (by omega) _).mono ?_)
  rintro r u1 ⟨g, rfl, h1, h2, hg⟩
  refine ⟨_, rfl, ?_⟩
  rw [List.nil_append] at h2
  have hl1 : Hid (Lb u1 (some ⟨g, 0, none⟩) 4 4 (lw t.size 4)) := ⟨lw_len _ _, lw_isB _ _, .inr ⟨g, 0, rfl, kc_at h2⟩, by omega, by omega⟩
  replace hg := hide hg
  clear h1 h2
  simp only [Act.put, List.setIfInBounds_toArray, List.set_cons_zero, List.set_cons_succ, List.getElem_toArray, List.getElem_cons_zero, List.getElem_cons_succ]
  iterate 1 (refine wpList_step fun K hK => ?_; replace hK := hide hK; go_simp; refine unhide hK _ _ ?_; clear hK K)
  obtain ⟨c2, u2, hrun, hl2, hg2⟩ := conv_text u1 t ht
  refine list_valw (.slice (some ⟨u1.heap.size, 0, none⟩) t.size c2) u2 (by kernel_rfl) (exec_conv (.tmp 11) rfl (.string t) _ (by kernel_rfl) hrun) ?_
  replace hl1 := (unhide hl1).gr hg2
  have hG := (unhide hg).trans hg2
  clear hg hrun hg2
  simp only [Act.put, List.setIfInBounds_toArray, List.set_cons_zero, List.set_cons_succ, List.getElem_toArray, List.getElem_cons_zero, List.getElem_cons_succ]
  refine list_call 93 #[.slice (some ⟨g, 0, none⟩) 4 4, .slice (some ⟨u1.heap.size, 0, none⟩) t.size c2] (by kernel_rfl) (by kernel_rfl) ((both_ok (lw t.size 4) (tb t) (some ⟨g, 0, none⟩) (some ⟨u1.heap.size, 0, none⟩) 4 4 t.size c2 (by omega) _ hl1 hl2).mono ?_)
  rintro r u3 ⟨v3, rfl, hO, hg⟩
  refine ⟨_, rfl, ?_⟩
  obtain ⟨a3, c3, rfl, l3⟩ := hO.lb (isB_append (lw_isB _ _) (tb_isB _))
  have e3 : infL (tb t) ps 0 = lw t.size 4 ++ tb t := by unfold infL tpart; rw [tb_len]; simp
  rw [← e3] at l3
  rw [← e3]
  obtain ⟨n3, hn3⟩ : ∃ n3, n3 = (infL (tb t) ps 0).length := ⟨_, rfl⟩
  rw [← hn3] at l3
  rw [← hn3]
  replace l3 := hide l3
  replace hG := hide (hG.trans hg)
  clear hl1 hl2 hO hg e3 hn3
  simp only [Act.put, List.setIfInBounds_toArray, List.set_cons_zero, List.set_cons_succ, List.getElem_toArray, List.getElem_cons_zero, List.getElem_cons_succ]
  iterate 1 (refine wpList_step fun K hK => ?_; replace hK := hide hK; go_simp; refine unhide hK _ _ ?_; clear hK K)
  refine wpList_nil ?_
  go_wp2_with fail
  go_loopw [5, 6] (fun x i wr => ∃ (k n : Nat) (a : Option Addr) (c : Nat), k ≤ m ∧ i = .int .i64 k ∧ x = .slice a n c ∧ Hid (Lb wr a n c (infL (tb t) ps k)) ∧ Hid (Gr w wr)) (fun _ i _ => m - (intOf i).toNat)
  case atStart => exact ⟨0, n3, a3, c3, by omega, rfl, rfl, l3, hG⟩
  case round =>
  clear l3 hG
  obtain ⟨k, n, a, c, hk, rfl, rfl, hO, hG⟩ := hrel
  by_cases hl : k < m
  · have kI : (k : Int) < (m : Int) := by omega
    obtain ⟨p, o, rfl, hq⟩ : ∃ p o, ap = some ⟨p, o, none⟩ ∧ Pq w p o ps := by
      rcases (unhide hP) with h | ⟨p, o, h1, h2⟩
      · have := unhide hm; rw [h] at this; simp at this; omega
      · exact ⟨p, o, h1, h2⟩
    obtain ⟨aP, nP, cP, cc0, hPl, hPb, hPs, hPc, hPm⟩ := hq k (by rw [unhide hm]; exact hl)
    have cc := (unhide hG).cell cc0
    clear hq
    have hnx := hide (infL_next (tb t) ps k (by rw [unhide hm]; exact hl))
    have hPs4 : (ps.getD k []).length ≤ 4096 := (unhide hp).2 _ (by rw [List.getD_eq_getElem?_getD, List.getElem?_eq_getElem (by rw [unhide hm]; exact hl)]; exact List.getElem_mem _)
    have hlen := infL_len (tb t) ps (unhide htl) (unhide hp) k (by rw [unhide hm]; omega)
    rw [(unhide hO).len] at hlen
    generalize ps.getD k [] = P at *
    have hPI : nP ≤ 4096 := by omega
    have hLP : Hid (Lb w aP nP cP P) := ⟨hPl, hPb, hPs, hPc, hPm⟩
    have e2 : IntKind.u64.wrap (nP : Int) = (nP : Int) := by rw [IntKind.wrap_u64]; omega
    clear hPs hPb hPs4 hPc hPm
    replace hPl := hide hPl
    go_upto_region 5 with fail
    refine wp_region_lit ?_
    iterate 7 (refine wpList_step fun K hK => ?_; replace hK := hide hK; go_simp; refine unhide hK _ _ ?_; clear hK K)
    refine list_call 94 #[.int .u64 nP, .int .i64 4] (by kernel_rfl) (by kernel_rfl) ((rlow_ok nP (by omega) _).mono ?_)
    rintro r v1 ⟨g1, rfl, h1, h2, hg⟩
    refine ⟨_, rfl, ?_⟩
    rw [List.nil_append] at h2
    have hl1 : Lb v1 (some ⟨g1, 0, none⟩) 4 4 (lw nP 4) := ⟨lw_len _ _, lw_isB _ _, .inr ⟨g1, 0, rfl, kc_at h2⟩, by omega, by omega⟩
    replace hO := (unhide hO).gr hg
    replace hG := (unhide hG).trans hg
    replace cc := hg.cell cc
    clear hg h1 h2
    simp only [Act.put, List.setIfInBounds_toArray, List.set_cons_zero, List.set_cons_succ, List.getElem_toArray, List.getElem_cons_zero, List.getElem_cons_succ]
    refine list_call 93 #[.slice a n c, .slice (some ⟨g1, 0, none⟩) 4 4] (by kernel_rfl) (by kernel_rfl) ((both_ok (infL (tb t) ps k) (lw nP 4) a (some ⟨g1, 0, none⟩) n c 4 4 (by omega) _ hO hl1).mono ?_)
    rintro r v2 ⟨x2, rfl, hO2, hg⟩
    refine ⟨_, rfl, ?_⟩
    obtain ⟨a2, c2', rfl, l2⟩ := hO2.lb (isB_append hO.isB (lw_isB _ _))
    have hl2 : (infL (tb t) ps k ++ lw nP 4).length = n + 4 := by rw [List.length_append, lw_len, hO.len]
    rw [hl2] at l2
    rw [hl2]
    replace l2 := hide l2
    replace hG := hide (hG.trans hg)
    replace cc := hg.cell cc
    clear hg hO hO2 hl1 hl2
    simp only [Act.put, List.setIfInBounds_toArray, List.set_cons_zero, List.set_cons_succ, List.getElem_toArray, List.getElem_cons_zero, List.getElem_cons_succ]
    iterate 1 (refine wpList_step fun K hK => ?_; replace hK := hide hK; go_simp; refine unhide hK _ _ ?_; clear hK K)
    refine wpList_nil ?_
    go_upto_region 6 with fail
    refine wp_region_lit ?_
    iterate 5 (refine wpList_step fun K hK => ?_; replace hK := hide hK; go_simp; refine unhide hK _ _ ?_; clear hK K)
    refine list_call 93 #[.slice a2 (n + 4) c2', .slice aP nP cP] (by kernel_rfl) (by kernel_rfl) ((both_ok (infL (tb t) ps k ++ lw nP 4) P a2 aP (n + 4) c2' nP cP (by omega) _ (unhide l2) ((unhide hLP).gr (unhide hG))).mono ?_)
    rintro r v3 ⟨x3, rfl, hO3, hg⟩
    refine ⟨_, rfl, ?_⟩
    have e5 : infL (tb t) ps k ++ lw nP 4 ++ P = infL (tb t) ps (k + 1) := by
      rw [unhide hnx]
      unfold tpart
      rw [unhide hPl, ← List.append_assoc]
    have hb5 := isB_append (unhide l2).isB (unhide hLP).isB
    rw [e5] at hO3 hb5
    obtain ⟨a5, c5, rfl, l5⟩ := hO3.lb hb5
    obtain ⟨n5, hn5⟩ : ∃ n5, n5 = (infL (tb t) ps (k + 1)).length := ⟨_, rfl⟩
    rw [← hn5] at l5
    rw [← hn5]
    replace l5 := hide l5
    replace hG := hide ((unhide hG).trans hg)
    clear hg hO3 l2 hn5 e5 hb5
    simp only [Act.put, List.setIfInBounds_toArray, List.set_cons_zero, List.set_cons_succ, List.getElem_toArray, List.getElem_cons_zero, List.getElem_cons_succ]
    iterate 1 (refine wpList_step fun K hK => ?_; replace hK := hide hK; go_simp; refine unhide hK _ _ ?_; clear hK K)
    refine wpList_nil ?_
    clear cc cc0
    go_wp2_with fail
    go_roundw
    case rel => exact ⟨k + 1, n5, a5, c5, by omega, by go_num, rfl, l5, hG⟩
    case measure => simp [intOf]; omega
  · have e : k = m := by omega
    subst e
    have hPd : Hid (Rinf (infoL (tb t) ps) w (.returned (.slice a n c)) wr) := ⟨a, n, c, rfl, by unfold infoL; rw [unhide hm]; exact unhide hO, unhide hG⟩
    clear hO hG
    go_wp2_with fail
    rw [unhide hT]
    exact unhide hPd
end Go.Proofs.YtpmgmpihmpifgaaDoor

/-
  The document's labelled pair.
-/
namespace Go.Proofs.YtpmgmpihmpifgaaDoor
open Go.RowKit
set_option maxRecDepth 100000
set_option linter.unusedSimpArgs false
set_option linter.unusedVariables false

/-- what lies elsewhere stays while a block is written -/
theorem Sl.other {v : World} {a : Option Addr} {D : List Int} {g : Nat} (vs : List Value) (h : Sl v a D) (hf : ∀ x, a = some x → x.block ≠ g) : Sl (v.setCells g 0 vs) a D := by
  rcases h with h | ⟨p, o, h1, h2⟩
  · exact .inl h
  · have hp := hf _ h1
    exact .inr ⟨p, o, h1, fun j hj => (setCells_bt vs v g 0).cell (h2 j hj) hp⟩
set_option maxHeartbeats 2000000 in
theorem rtwo_ok (Ky : List Int) (hKl : Ky.length = 32) (hKb : IsB Ky) (t : ByteArray) (ht : t.size ≤ 1000) (ps : List (List Int)) (ap : Option Addr) (m cp : Nat) (hm : ps.length = m) (hp : small4 ps) (w : World) (hF : Fst w) (hP : Pr w ap ps) :
    Calls Tryd.prog 59 #[.agg (kc Ky), .string t, .slice ap m cp] w (Twod ((spL Ky (infoL (tb t) ps) 64).take 32) ((spL Ky (infoL (tb t) ps) 64).drop 32) w) := by
  obtain ⟨T, hT⟩ : ∃ T, T = Twod ((spL Ky (infoL (tb t) ps) 64).take 32) ((spL Ky (infoL (tb t) ps) 64).drop 32) w := ⟨_, rfl⟩
  rw [← hT]
  obtain ⟨KK, hKK⟩ : ∃ KK, KK = kc Ky := ⟨_, rfl⟩
  rw [← hKK]
  have hKs : KK.size = 32 := by rw [hKK, kc_size, hKl]
  have hIb : IsB (infoL (tb t) ps) := infoL_isB (tb_isB t) hP.isB
  have hIl : (infoL (tb t) ps).length ≤ 1004 + 4100 * ps.length := infL_len (tb t) ps (by rw [tb_len]; exact ht) hp ps.length (Nat.le_refl _)
  have hm100 := hp.1
  replace hT := hide hT
  replace hF := hide hF
  replace hP := hide hP
  replace hp := hide hp
  replace hm := hide hm
  replace hKK := hide hKK
  replace hKb := hide hKb
  replace hIb := hide hIb
  go_enter Tryd.func59, Tryd.ntmps59
  go_upto_region 1 with fail
  have hB := (((Bl.nil w).new KK 25).new #[.int .u8 0, .int .u8 0, .int .u8 0, .int .u8 0, .int .u8 0, .int .u8 0, .int .u8 0, .int .u8 0, .int .u8 0, .int .u8 0, .int .u8 0, .int .u8 0, .int .u8 0, .int .u8 0, .int .u8 0, .int .u8 0, .int .u8 0, .int .u8 0, .int .u8 0, .int .u8 0, .int .u8 0, .int .u8 0, .int .u8 0, .int .u8 0, .int .u8 0, .int .u8 0, .int .u8 0, .int .u8 0, .int .u8 0, .int .u8 0, .int .u8 0, .int .u8 0] 25).new #[.int .u8 0, .int .u8 0, .int .u8 0, .int .u8 0, .int .u8 0, .int .u8 0, .int .u8 0, .int .u8 0, .int .u8 0, .int .u8 0, .int .u8 0, .int .u8 0, .int .u8 0, .int .u8 0, .int .u8 0, .int .u8 0, .int .u8 0, .int .u8 0, .int .u8 0, .int .u8 0, .int .u8 0, .int .u8 0, .int .u8 0, .int .u8 0, .int .u8 0, .int .u8 0, .int .u8 0, .int .u8 0, .int .u8 0, .int .u8 0, .int .u8 0, .int .u8 0] 25
  simp only [List.nil_append, List.cons_append, size_alloc] at hB
  generalize World.alloc _ _ = u1 at *
  replace hB : Bl w [⟨w.heap.size, KK, 25⟩, ⟨w.heap.size + 1, kc Z32, 25⟩, ⟨w.heap.size + 1 + 1, kc Z32, 25⟩] u1 := hB
  refine any_start (S := fun v => v.heap[w.heap.size]? = some (.cells KK 25 (0, 0))) (by kernel_rfl) ?_
  replace hB := hB.drew
  generalize World.drew _ = u2 at *
  simp only [List.size_toArray, List.length_cons, List.length_nil, Array.replicate, List.replicate]
  refine any_take (i := 0) (v := (.agg KK)) #[false, false, false, false, false, false] rfl (by kernel_rfl) (by kernel_rfl) (by kernel_rfl) (by kernel_rfl) (fun _ _ _ h => h) (.inl ⟨by kernel_rfl, fun x_ hu => exec_arr x_ 25 (.tmp 3) rfl w.heap.size (by kernel_rfl) KK 25 _ hu Tryd.underlying25 rfl (by rw [Tryd.infoKey, hKs])⟩) (hB.get 0 (x := ⟨w.heap.size, KK, 25⟩) rfl) ?_
  simp only [Act.put, List.setIfInBounds_toArray, List.set_cons_zero, List.set_cons_succ, List.getElem_toArray, List.getElem_cons_zero, List.getElem_cons_succ]
  refine any_take (i := 1) (v := (.string t)) #[true, false, false, false, false, false] rfl (by kernel_rfl) (by kernel_rfl) (by kernel_rfl) (by kernel_rfl) (fun _ _ _ h => h) (.inl ⟨by kernel_rfl, fun x_ hu => by kernel_rfl⟩) (hB.get 0 (x := ⟨w.heap.size, KK, 25⟩) rfl) ?_
  simp only [Act.put, List.setIfInBounds_toArray, List.set_cons_zero, List.set_cons_succ, List.getElem_toArray, List.getElem_cons_zero, List.getElem_cons_succ]
  refine any_take (i := 2) (v := (.slice ap m cp)) #[true, true, false, false, false, false] rfl (by kernel_rfl) (by kernel_rfl) (by kernel_rfl) (by kernel_rfl) (fun _ _ _ h => h) (.inl ⟨by kernel_rfl, fun x_ hu => by kernel_rfl⟩) (hB.get 0 (x := ⟨w.heap.size, KK, 25⟩) rfl) ?_
  simp only [Act.put, List.setIfInBounds_toArray, List.set_cons_zero, List.set_cons_succ, List.getElem_toArray, List.getElem_cons_zero, List.getElem_cons_succ]
  refine any_one (i := 3) (by kernel_rfl) rfl (fun K hK => ?_)
  refine step_callw (by kernel_rfl) 75 #[.string t, .slice ap m cp] (by kernel_rfl) ((rinfo_ok t ht ps ap m cp (unhide hm) (unhide hp) _ ((unhide hP).gr hB.gr)).mono ?_)
  rintro r y1 ⟨a1, n1, c1, rfl, l1, hg⟩
  refine ⟨_, rfl, ?_⟩
  replace hB := hB.more hg
  have hn1 := l1.len
  clear hg
  refine hK.out _ _ (hB.get 0 (x := ⟨w.heap.size, KK, 25⟩) rfl) (fun _ => ?_)
  clear hK K
  simp only [Act.put, List.setIfInBounds_toArray, List.set_cons_zero, List.set_cons_succ, List.getElem_toArray, List.getElem_cons_zero, List.getElem_cons_succ]
  refine any_one (i := 4) (by kernel_rfl) rfl (fun K hK => ?_)
  rw [unhide hKK]
  refine step_callw (by kernel_rfl) 74 #[.agg (kc Ky), .slice a1 n1 c1, .int .i64 64] (by kernel_rfl) ((rexpand_ok Ky hKl (unhide hKb) (infoL (tb t) ps) a1 n1 c1 64 (by omega) (by omega) _ l1).mono ?_)
  rintro r y2 ⟨a2, c2, rfl, l2, hg⟩
  refine ⟨_, rfl, ?_⟩
  rw [← unhide hKK]
  replace hB := hB.more hg
  clear hg l1
  replace l2 := hide l2
  refine hK.out _ _ (hB.get 0 (x := ⟨w.heap.size, KK, 25⟩) rfl) (fun _ => ?_)
  clear hK K
  simp only [Act.put, List.setIfInBounds_toArray, List.set_cons_zero, List.set_cons_succ, List.getElem_toArray, List.getElem_cons_zero, List.getElem_cons_succ]
  refine any_one (i := 5) (by kernel_rfl) rfl (fun K hK => ?_)
  replace hK := hide hK
  go_simp
  refine (unhide hK).out _ _ (hB.get 0 (x := ⟨w.heap.size, KK, 25⟩) rfl) (fun _ => ?_)
  clear hK K
  refine any_done (by kernel_rfl) ?_
  replace l2 := unhide l2
  obtain ⟨E, hE⟩ : ∃ E, E = spL Ky (infoL (tb t) ps) 64 := ⟨_, rfl⟩
  have hEl : E.length = 64 := by rw [hE]; exact spL_len _ _ _
  rw [← hE] at l2 hT
  clear hE
  have lD := Sl.cutl l2 32 (by omega)
  have lE := Sl.cutr l2 32 (by omega)
  obtain ⟨D1, hD1⟩ : ∃ D, D = E.take 32 := ⟨_, rfl⟩
  obtain ⟨D2, hD2⟩ : ∃ D, D = E.drop 32 := ⟨_, rfl⟩
  have hDl1 : D1.length = 32 := by rw [hD1, List.length_take, hEl]; rfl
  have hDl2 : D2.length = 32 := by rw [hD2, List.length_drop, hEl]
  rw [← hD1] at lD hT
  rw [← hD2] at lE hT
  have hold := l2.old
  have hfr2 : Hid (∀ x, a2 = some x → x.block < y2.heap.size) := fun x hx => by
    rcases hold x hx with h | h
    · exact h
    · rw [h] at hEl; simp at hEl
  have hc64 := l2.cap
  have lD2 : Sl y2 a2 D1 := lD.sl
  obtain ⟨a3, ha3⟩ : ∃ a3, a3 = Option.map (fun x => x.add 32) a2 := ⟨_, rfl⟩
  have lE2 : Sl y2 a3 D2 := by
    have := lE.sl
    rw [if_neg (by omega)] at this
    rw [ha3]
    exact this
  have hfr3 : Hid (∀ x, a3 = some x → x.block < y2.heap.size) := by
    intro x hx
    rw [ha3] at hx
    cases ha2 : a2 with
    | none => rw [ha2] at hx; cases hx
    | some y =>
      rw [ha2] at hx
      have h5 : y.add 32 = x := by simpa using hx
      rw [← h5, add_block]
      exact (unhide hfr2) y ha2
  have hc32 : ¬ c2 = 32 := by omega
  have hcI : (32 : Int) ≤ (c2 : Int) := by omega
  clear hD1 hD2 l2 lD lE hold
  replace ha3 := hide ha3
  replace lD2 := hide lD2
  replace lE2 := hide lE2
  replace hB := hide hB
  go_upto_region 3 with fail
  replace hB := ((unhide hB).new #[.int .u8 0, .int .u8 0, .int .u8 0, .int .u8 0, .int .u8 0, .int .u8 0, .int .u8 0, .int .u8 0, .int .u8 0, .int .u8 0, .int .u8 0, .int .u8 0, .int .u8 0, .int .u8 0, .int .u8 0, .int .u8 0, .int .u8 0, .int .u8 0, .int .u8 0, .int .u8 0, .int .u8 0, .int .u8 0, .int .u8 0, .int .u8 0, .int .u8 0, .int .u8 0, .int .u8 0, .int .u8 0, .int .u8 0, .int .u8 0, .int .u8 0, .int .u8 0] 25).new #[.int .u8 0, .int .u8 0, .int .u8 0, .int .u8 0, .int .u8 0, .int .u8 0, .int .u8 0, .int .u8 0, .int .u8 0, .int .u8 0, .int .u8 0, .int .u8 0, .int .u8 0, .int .u8 0, .int .u8 0, .int .u8 0, .int .u8 0, .int .u8 0, .int .u8 0, .int .u8 0, .int .u8 0, .int .u8 0, .int .u8 0, .int .u8 0, .int .u8 0, .int .u8 0, .int .u8 0, .int .u8 0, .int .u8 0, .int .u8 0, .int .u8 0, .int .u8 0] 25
  simp only [List.nil_append, List.cons_append, size_alloc] at hB
  have hga := ((Gr.refl y2).alloc (.cells #[.int .u8 0, .int .u8 0, .int .u8 0, .int .u8 0, .int .u8 0, .int .u8 0, .int .u8 0, .int .u8 0, .int .u8 0, .int .u8 0, .int .u8 0, .int .u8 0, .int .u8 0, .int .u8 0, .int .u8 0, .int .u8 0, .int .u8 0, .int .u8 0, .int .u8 0, .int .u8 0, .int .u8 0, .int .u8 0, .int .u8 0, .int .u8 0, .int .u8 0, .int .u8 0, .int .u8 0, .int .u8 0, .int .u8 0, .int .u8 0, .int .u8 0, .int .u8 0] 25)).alloc (.cells #[.int .u8 0, .int .u8 0, .int .u8 0, .int .u8 0, .int .u8 0, .int .u8 0, .int .u8 0, .int .u8 0, .int .u8 0, .int .u8 0, .int .u8 0, .int .u8 0, .int .u8 0, .int .u8 0, .int .u8 0, .int .u8 0, .int .u8 0, .int .u8 0, .int .u8 0, .int .u8 0, .int .u8 0, .int .u8 0, .int .u8 0, .int .u8 0, .int .u8 0, .int .u8 0, .int .u8 0, .int .u8 0, .int .u8 0, .int .u8 0, .int .u8 0, .int .u8 0] 25)
  replace lD2 := (unhide lD2).gr hga
  replace lE2 := (unhide lE2).gr hga
  clear hga
  generalize World.alloc _ _ = y5 at *
  generalize y2.heap.size = h9 at *
  replace hB : Bl w [⟨w.heap.size, KK, 25⟩, ⟨w.heap.size + 1, kc Z32, 25⟩, ⟨w.heap.size + 1 + 1, kc Z32, 25⟩, ⟨h9, kc Z32, 25⟩, ⟨h9 + 1, kc Z32, 25⟩] y5 := hB
  refine any_start (S := fun _ => True) (by kernel_rfl) ?_
  replace hB := hB.drew
  replace lD2 := lD2.gr (Gr.refl _).drew
  replace lE2 := lE2.gr (Gr.refl _).drew
  generalize World.drew _ = y5b at *
  simp only [List.size_toArray, List.length_cons, List.length_nil, Array.replicate, List.replicate]
  refine any_take (i := 0) (v := (.slice (some ⟨h9, 0, none⟩) 32 32)) #[false, false, false, false] rfl (by kernel_rfl) (by kernel_rfl) (by kernel_rfl) (by kernel_rfl) (fun _ _ _ h => h) (.inl ⟨by kernel_rfl, fun x_ hu => by go_simp⟩) trivial ?_
  simp only [Act.put, List.setIfInBounds_toArray, List.set_cons_zero, List.set_cons_succ, List.getElem_toArray, List.getElem_cons_zero, List.getElem_cons_succ]
  refine any_take (i := 1) (v := (.slice a2 64 c2)) #[true, false, false, false] rfl (by kernel_rfl) (by kernel_rfl) (by kernel_rfl) (by kernel_rfl) (fun _ _ _ h => h) (.inl ⟨by kernel_rfl, fun x_ hu => by kernel_rfl⟩) trivial ?_
  simp only [Act.put, List.setIfInBounds_toArray, List.set_cons_zero, List.set_cons_succ, List.getElem_toArray, List.getElem_cons_zero, List.getElem_cons_succ]
  refine any_take (i := 2) (v := (.slice a2 32 c2)) #[true, true, false, false] rfl (by kernel_rfl) (by kernel_rfl) (by kernel_rfl) (by kernel_rfl) (fun _ _ _ h => h) (.inl ⟨by kernel_rfl, fun x_ hu => by go_simp⟩) trivial ?_
  simp only [Act.put, List.setIfInBounds_toArray, List.set_cons_zero, List.set_cons_succ, List.getElem_toArray, List.getElem_cons_zero, List.getElem_cons_succ]
  refine any_one (i := 3) (by kernel_rfl) rfl (fun K hK => ?_)
  rw [if_pos (by kernel_rfl)]
  refine copy_wp (.tmp 16) (.tmp 18) rfl (h9) 0 32 32 a2 32 c2 (by kernel_rfl) (by kernel_rfl) (Z32.map (Value.int .u8)) 25 (hB.get 3 (x := ⟨h9, kc Z32, 25⟩) rfl) D1 (by rw [hDl1]; rfl) (by rcases lD2 with h | ⟨p, o, h1, h2⟩; exact .inl h; exact .inr ⟨p, o, h1, h2⟩) (by rw [hDl1]; decide) ?_
  replace lE2 := lE2.other (g := h9) (D1.map (Value.int .u8)) (fun x hx => by have := (unhide hfr3) x hx; omega)
  replace hB := hB.copy 3 (Z := Z32) (D := D1) rfl rfl hDl1
  simp only [List.set_cons_zero, List.set_cons_succ] at hB
  rw [hDl1]
  refine hK.out _ _ trivial (fun _ => ?_)
  clear hK K lD2
  generalize World.setCells _ _ _ _ = y6 at *
  try simp only [Act.put, List.setIfInBounds_toArray, List.set_cons_zero, List.set_cons_succ, List.getElem_toArray, List.getElem_cons_zero, List.getElem_cons_succ]
  refine any_done (by kernel_rfl) ?_
  replace hB := hide hB
  replace lE2 := hide lE2
  go_upto_region 4 with fail
  replace hB := unhide hB
  replace lE2 := unhide lE2
  refine any_start (S := fun _ => True) (by kernel_rfl) ?_
  replace hB := hB.drew
  replace lE2 := lE2.gr (Gr.refl _).drew
  generalize World.drew _ = y6b at *
  simp only [List.size_toArray, List.length_cons, List.length_nil, Array.replicate, List.replicate]
  refine any_take (i := 0) (v := (.slice (some ⟨h9 + 1, 0, none⟩) 32 32)) #[false, false, false, false] rfl (by kernel_rfl) (by kernel_rfl) (by kernel_rfl) (by kernel_rfl) (fun _ _ _ h => h) (.inl ⟨by kernel_rfl, fun x_ hu => by go_simp⟩) trivial ?_
  simp only [Act.put, List.setIfInBounds_toArray, List.set_cons_zero, List.set_cons_succ, List.getElem_toArray, List.getElem_cons_zero, List.getElem_cons_succ]
  refine any_take (i := 1) (v := (.slice a2 64 c2)) #[true, false, false, false] rfl (by kernel_rfl) (by kernel_rfl) (by kernel_rfl) (by kernel_rfl) (fun _ _ _ h => h) (.inl ⟨by kernel_rfl, fun x_ hu => by kernel_rfl⟩) trivial ?_
  simp only [Act.put, List.setIfInBounds_toArray, List.set_cons_zero, List.set_cons_succ, List.getElem_toArray, List.getElem_cons_zero, List.getElem_cons_succ]
  refine any_take (i := 2) (v := (.slice a3 32 (c2 - 32))) #[true, true, false, false] rfl (by kernel_rfl) (by kernel_rfl) (by kernel_rfl) (by kernel_rfl) (fun _ _ _ h => h) (.inl ⟨by kernel_rfl, fun x_ hu => by rw [unhide ha3]; go_simp⟩) trivial ?_
  simp only [Act.put, List.setIfInBounds_toArray, List.set_cons_zero, List.set_cons_succ, List.getElem_toArray, List.getElem_cons_zero, List.getElem_cons_succ]
  refine any_one (i := 3) (by kernel_rfl) rfl (fun K hK => ?_)
  rw [if_pos (by kernel_rfl)]
  refine copy_wp (.tmp 20) (.tmp 22) rfl (h9 + 1) 0 32 32 a3 32 (c2 - 32) (by kernel_rfl) (by kernel_rfl) (Z32.map (Value.int .u8)) 25 (hB.get 4 (x := ⟨h9 + 1, kc Z32, 25⟩) rfl) D2 (by rw [hDl2]; rfl) (by rcases lE2 with h | ⟨p, o, h1, h2⟩; exact .inl h; exact .inr ⟨p, o, h1, h2⟩) (by rw [hDl2]; decide) ?_
  replace hB := hB.copy 4 (Z := Z32) (D := D2) rfl rfl hDl2
  simp only [List.set_cons_zero, List.set_cons_succ] at hB
  rw [hDl2]
  refine hK.out _ _ trivial (fun _ => ?_)
  clear hK K lE2
  generalize World.setCells _ _ _ _ = y7 at *
  try simp only [Act.put, List.setIfInBounds_toArray, List.set_cons_zero, List.set_cons_succ, List.getElem_toArray, List.getElem_cons_zero, List.getElem_cons_succ]
  refine any_done (by kernel_rfl) ?_
  replace hB := hide hB
  go_upto_region 5 with fail
  replace hB := unhide hB
  refine any_start (S := fun v => v.heap[h9]? = some (.cells (kc D1) 25 (0, 0)) ∧ v.heap[h9 + 1]? = some (.cells (kc D2) 25 (0, 0))) (by kernel_rfl) ?_
  replace hB := hB.drew
  generalize World.drew _ = y8 at *
  simp only [List.size_toArray, List.length_cons, List.length_nil, Array.replicate, List.replicate]
  refine any_take (i := 0) (v := (.agg (kc D1))) #[false, false, false, false] rfl (by kernel_rfl) (by kernel_rfl) (by kernel_rfl) (by kernel_rfl) (fun _ _ _ h => h) (.inl ⟨by kernel_rfl, fun x_ hu => exec_arr x_ 25 (.tmp 9) rfl (h9) (by kernel_rfl) (kc D1) 25 _ hu.1 Tryd.underlying25 rfl (by rw [Tryd.infoKey, kc_size, hDl1])⟩) ⟨hB.get 3 (x := ⟨h9, kc D1, 25⟩) rfl, hB.get 4 (x := ⟨h9 + 1, kc D2, 25⟩) rfl⟩ ?_
  simp only [Act.put, List.setIfInBounds_toArray, List.set_cons_zero, List.set_cons_succ, List.getElem_toArray, List.getElem_cons_zero, List.getElem_cons_succ]
  refine any_take (i := 1) (v := (.agg (kc D2))) #[true, false, false, false] rfl (by kernel_rfl) (by kernel_rfl) (by kernel_rfl) (by kernel_rfl) (fun _ _ _ h => h) (.inl ⟨by kernel_rfl, fun x_ hu => exec_arr x_ 25 (.tmp 10) rfl (h9 + 1) (by kernel_rfl) (kc D2) 25 _ hu.2 Tryd.underlying25 rfl (by rw [Tryd.infoKey, kc_size, hDl2])⟩) ⟨hB.get 3 (x := ⟨h9, kc D1, 25⟩) rfl, hB.get 4 (x := ⟨h9 + 1, kc D2, 25⟩) rfl⟩ ?_
  simp only [Act.put, List.setIfInBounds_toArray, List.set_cons_zero, List.set_cons_succ, List.getElem_toArray, List.getElem_cons_zero, List.getElem_cons_succ]
  refine any_one (i := 2) (by kernel_rfl) rfl (fun K hK => ?_)
  rw [if_pos (by kernel_rfl)]
  refine wp_store_row 25 (.tmp 6) (.tmp 24) rfl (w.heap.size + 1) (kc D1) (by kernel_rfl) (by kernel_rfl) 25 (kc Z32) (hB.get 1 (x := ⟨w.heap.size + 1, kc Z32, 25⟩) rfl) (by rw [Tryd.infoKey, kc_size, hDl1]) ((show (kc Z32).size = 32 from rfl).trans ((kc_size _).trans hDl1).symm) (kc_one _) ?_
  replace hB := hB.set 1 (x := ⟨w.heap.size + 1, kc Z32, 25⟩) rfl (kc D1)
  simp only [List.set_cons_zero, List.set_cons_succ] at hB
  refine hK.out _ _ ⟨hB.get 3 (x := ⟨h9, kc D1, 25⟩) rfl, hB.get 4 (x := ⟨h9 + 1, kc D2, 25⟩) rfl⟩ (fun _ => ?_)
  clear hK K
  generalize World.setRow _ _ _ = z1 at *
  try simp only [Act.put, List.setIfInBounds_toArray, List.set_cons_zero, List.set_cons_succ, List.getElem_toArray, List.getElem_cons_zero, List.getElem_cons_succ]
  refine any_one (i := 3) (by kernel_rfl) rfl (fun K hK => ?_)
  rw [if_pos (by kernel_rfl)]
  refine wp_store_row 25 (.tmp 7) (.tmp 25) rfl (w.heap.size + 1 + 1) (kc D2) (by kernel_rfl) (by kernel_rfl) 25 (kc Z32) (hB.get 2 (x := ⟨w.heap.size + 1 + 1, kc Z32, 25⟩) rfl) (by rw [Tryd.infoKey, kc_size, hDl2]) ((show (kc Z32).size = 32 from rfl).trans ((kc_size _).trans hDl2).symm) (kc_one _) ?_
  replace hB := hB.set 2 (x := ⟨w.heap.size + 1 + 1, kc Z32, 25⟩) rfl (kc D2)
  simp only [List.set_cons_zero, List.set_cons_succ] at hB
  refine hK.out _ _ ⟨hB.get 3 (x := ⟨h9, kc D1, 25⟩) rfl, hB.get 4 (x := ⟨h9 + 1, kc D2, 25⟩) rfl⟩ (fun _ => ?_)
  clear hK K
  generalize World.setRow _ _ _ = z2 at *
  try simp only [Act.put, List.setIfInBounds_toArray, List.set_cons_zero, List.set_cons_succ, List.getElem_toArray, List.getElem_cons_zero, List.getElem_cons_succ]
  refine any_done (by kernel_rfl) ?_
  go_wp2_with fail
  rw [unhide hT]
  exact bodyPost_ret (v := .tuple #[.agg (kc D1), .agg (kc D2)]) (results_two Tryd.results59 _ _ (w.heap.size + 1) (w.heap.size + 1 + 1) 25 25 (kc D1) (kc D2) (0, 0) (0, 0) _ rfl rfl (hB.get 1 (x := ⟨w.heap.size + 1, kc D1, 25⟩) rfl) (hB.get 2 (x := ⟨w.heap.size + 1 + 1, kc D2, 25⟩) rfl) Tryd.underlying25 rfl (by rw [Tryd.infoKey, kc_size, hDl1]) (by rw [Tryd.infoKey, kc_size, hDl2])) rfl ⟨rfl, hB.gr⟩
end Go.Proofs.YtpmgmpihmpifgaaDoor

/-
  The steps of a chain.
-/
namespace Go.Proofs.YtpmgmpihmpifgaaDoor
open Go.RowKit
set_option maxRecDepth 100000
set_option linter.unusedSimpArgs false
set_option linter.unusedVariables false

end Go.Proofs.YtpmgmpihmpifgaaDoor

/-
  Two keys that are made while a region's chain goes on: they stay two.
-/
namespace Go.Proofs.YtpmgmpihmpifgaaDoor
open Go.RowKit
set_option maxRecDepth 100000
set_option linter.unusedVariables false

section
variable {P : Program} {md : Region.Mode} {ops : Array Oper} {Q : Exit → Act → World → Prop} {S : World → Prop}
/-- a stage: one of the two is carried out, or the chain's next operation; `all`: it waits for both -/
theorem float3 (J : Bool → Bool → Value → Value → World → Prop) (p1 p2 : Nat) (F : Bool → Bool → Array Bool) (i1 i2 c : Nat) (all : Bool) {b1 b2 : Bool} {q1 q2 : Value} {l : Array Bool} {a : Act} {W : World}
    (hl : l = F b1 b2) (ha : fw2 a p1 p2 q1 q2 = a) (hJ : J b1 b2 q1 q2 W)
    (hS : ∀ v, Gr W v → S v) (hchk : chkM2 md ops F i1 i2 c all = true) (hF1 : ∀ b1 b2, (F b1 b2).setIfInBounds i1 true = F true b2) (hF2 : ∀ b1 b2, (F b1 b2).setIfInBounds i2 true = F b1 true)
    (new1 : ∀ b2 q1 q2 w, Gr W w → J false b2 q1 q2 w → ∀ K : Act → World → Prop, (∀ v w', Gr w w' → J true b2 v q2 w' → K (fw2 a p1 p2 v q2) w') → wpOp P ops Q i1 K (fw2 a p1 p2 q1 q2) w)
    (new2 : ∀ b1 q1 q2 w, Gr W w → J b1 false q1 q2 w → ∀ K : Act → World → Prop, (∀ v w', Gr w w' → J b1 true q1 v w' → K (fw2 a p1 p2 q1 v) w') → wpOp P ops Q i2 K (fw2 a p1 p2 q1 q2) w)
    (next : ∀ b1 b2 q1 q2 w, Gr W w → J b1 b2 q1 q2 w → (all = true → b1 = true ∧ b2 = true) → wpOp P ops Q c (fun a' w' => S w' ∧ Any P md ops Q S ((F b1 b2).setIfInBounds c true) a' w') (fw2 a p1 p2 q1 q2) w) : Any P md ops Q S l a W := by
  refine any_stage (fun l a' w => ∃ b1 b2 q1 q2, l = F b1 b2 ∧ a' = fw2 a p1 p2 q1 q2 ∧ Gr W w ∧ J b1 b2 q1 q2 w) ?_ ⟨b1, b2, q1, q2, hl, ha.symm, Gr.refl W, hJ⟩
  rintro l a' w ⟨b1, b2, q1, q2, rfl, rfl, gr, hJ⟩
  obtain ⟨hne, hr⟩ := chkM2_spec hchk b1 b2
  refine ⟨hne, fun i hi => ?_⟩
  rcases hr i hi with ⟨rfl, rfl⟩ | ⟨rfl, rfl⟩ | ⟨rfl, e⟩
  · exact new1 b2 q1 q2 w gr hJ _ (fun v w' g t => ⟨hS _ (gr.trans g), .inl ⟨true, b2, v, q2, hF1 false b2, rfl, gr.trans g, t⟩⟩)
  · exact new2 b1 q1 q2 w gr hJ _ (fun v w' g t => ⟨hS _ (gr.trans g), .inl ⟨b1, true, q1, v, hF2 b1 false, rfl, gr.trans g, t⟩⟩)
  · exact wpOp_mono (fun a' w' k => ⟨k.1, .inr k.2⟩) (next b1 b2 q1 q2 w gr hJ e)
end
/-- two keys, as far as they are made -/
def KJ (s : Nat) (b1 b2 : Bool) (q1 q2 : Value) (u : World) : Prop := (b1 = true → Kl s u q1) ∧ (b2 = true → Kl s u q2) ∧ (b1 = true → b2 = true → q1 ≠ q2)
theorem KJ.gr {s : Nat} {b1 b2 : Bool} {q1 q2 : Value} {u v : World} (h : KJ s b1 b2 q1 q2 u) (k : Gr u v) : KJ s b1 b2 q1 q2 v := ⟨fun e => (h.1 e).gr k, fun e => (h.2.1 e).gr k, h.2.2⟩
theorem KJ.begin_ (s : Nat) (q1 q2 : Value) (u : World) : KJ s false false q1 q2 u := ⟨(fun e => by cases e), (fun e => by cases e), (fun e => by cases e)⟩
theorem KJ.ne {s : Nat} {u : World} {q : Value} (h : Kl s u q) : q ≠ .pointer (some ⟨u.heap.size, 0, none⟩) := by
  obtain ⟨g, rfl, h2, _⟩ := h
  intro e
  have e2 : g = u.heap.size := by simpa using e
  have := lt_of_block h2
  omega
theorem KJ.make1 {s : Nat} {b2 : Bool} {q1 q2 : Value} {u : World} (h : KJ s false b2 q1 q2 u) (hs : s ≤ u.heap.size) : KJ s true b2 (.pointer (some ⟨u.heap.size, 0, none⟩)) q2 (u.alloc (.cells (kc Z32) 25 (0, 0))) :=
  ⟨fun _ => ⟨_, rfl, blk_new _ _, hs⟩, fun e => (h.2.1 e).gr ((Gr.refl u).alloc _), fun _ e => (KJ.ne (h.2.1 e)).symm⟩
theorem KJ.make2 {s : Nat} {b1 : Bool} {q1 q2 : Value} {u : World} (h : KJ s b1 false q1 q2 u) (hs : s ≤ u.heap.size) : KJ s b1 true q1 (.pointer (some ⟨u.heap.size, 0, none⟩)) (u.alloc (.cells (kc Z32) 25 (0, 0))) :=
  ⟨fun e => (h.1 e).gr ((Gr.refl u).alloc _), fun _ => ⟨_, rfl, blk_new _ _, hs⟩, fun e _ => KJ.ne (h.1 e)⟩
/-- both are made -/
theorem KJ.both {w W : World} {L : List Blk} {q1 q2 : Value} {u : World} (h : KJ W.heap.size true true q1 q2 u) (hB : Bl w L W) (k : Gr W u) : ∃ g1 g2, q1 = .pointer (some ⟨g1, 0, none⟩) ∧ q2 = .pointer (some ⟨g2, 0, none⟩) ∧ Bl w (L ++ [⟨g1, kc Z32, 25⟩, ⟨g2, kc Z32, 25⟩]) u := by
  obtain ⟨g1, rfl, h1, k1⟩ := h.1 rfl
  obtain ⟨g2, rfl, h2, k2⟩ := h.2.1 rfl
  have hne : g1 ≠ g2 := fun e => h.2.2 rfl rfl (by rw [e])
  refine ⟨g1, g2, rfl, rfl, hB.join k _ (fun x hx => ?_) (List.pairwise_cons.2 ⟨fun y hy => by simp at hy; subst hy; exact hne, List.pairwise_singleton _ _⟩)⟩
  simp only [List.mem_cons, List.not_mem_nil, or_false] at hx
  rcases hx with rfl | rfl
  · exact ⟨h1, k1⟩
  · exact ⟨h2, k2⟩
theorem mem_flat {p : List Int} {ps : List (List Int)} (h : p ∈ ps) : p.length ≤ ps.flatten.length := by
  induction ps with
  | nil => cases h
  | cons x r ih =>
    rw [List.flatten_cons, List.length_append]
    rcases List.mem_cons.1 h with rfl | h
    · omega
    · have := ih h
      omega
end Go.Proofs.YtpmgmpihmpifgaaDoor
