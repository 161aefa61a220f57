/-
  The law's spoil and whole.
-/
import Derived.Test.YtcefkkoombmndaaUO
namespace Go.Proofs.Ytcefkkoombmndaa
open Go.RowKit
set_option maxRecDepth 100000
set_option linter.unusedSimpArgs false
set_option linter.unusedVariables false
theorem sp_len : ∀ (vs : List Value) (C : List Value) (o : Nat), (sp C o vs).length = C.length
  | [], C, o => rfl
  | v :: r, C, o => by rw [sp, sp_len r, List.length_set]
theorem Ow.st {k : Nat} {e : TypeId} {b g o : Nat} {w : World} {a : Option Addr} {n : Nat} (h : Ow k e b w a n) {C vs : List Value} {t : TypeId} (hg : w.heap[g]? = some (.cells C.toArray t (0, 0))) : Ow k e b (w.setCells g o vs) a n := by
  rcases h with h | ⟨q, o2, C2, h1, h2, h3, h4⟩
  · exact .inl h
  · by_cases hq : q = g
    · subst hq
      rw [hg] at h3
      injection h3 with h3
      injection h3 with h5 h6 _
      have h5 : C = C2 := by simpa using h5
      subst h5 h6
      exact .inr ⟨q, o2, _, h1, h2, setCells_heap vs w q o C t hg, by rw [sp_len]; exact h4⟩
    · exact .inr ⟨q, o2, C2, h1, h2, by rw [setCells_other vs w g o q hq]; exact h3, h4⟩
theorem below_st {b g o : Nat} {w v : World} {vs : List Value} (h : Below b w v) (hb : b ≤ g) (hw : b ≤ w.heap.size) : Below b w (v.setCells g o vs) := by
  have m := setCells_bt vs v g o
  exact ⟨m.os.trans h.os, m.tape.trans h.tape, m.output.trans h.output, Nat.le_trans h.size m.size, fun i hi => (m.block i (Nat.lt_of_lt_of_le hi (Nat.le_trans hw h.size)) (by omega)).trans (h.block i hi)⟩
set_option maxHeartbeats 4000000 in
theorem spoil_ok (c : Cm) (x : Lc) (b : Nat) (w : World) (hb : b ≤ w.heap.size) (hc : Cin w c x) (ho : Owx b w x) : Calls Try.prog 17 #[.agg (fl [[.int .u32 c.nx], [.slice x.ao x.no x.co], [.int .i64 c.tn], [.int .u32 c.dl], [.slice x.ah x.nh x.ch]])] w (fun r w' => r = .returned (.tuple #[]) ∧ Below b w w') := by
  obtain ⟨T, hT⟩ : ∃ T : Ending → World → Prop, T = (fun r w' => r = .returned (.tuple #[]) ∧ Below b w w') := ⟨_, rfl⟩
  rw [← hT]
  replace hT := hide hT
  have hb1 := hc.o.2.cap
  have hb2 := hc.o.2.max
  have hb3 := hc.h.2.cap
  have hb4 := hc.h.2.max
  replace hc := hide hc
  obtain ⟨A0_, hA0_⟩ : ∃ S_, S_ = fl [[.int .u32 c.nx], [.slice x.ao x.no x.co], [.int .i64 c.tn], [.int .u32 c.dl], [.slice x.ah x.nh x.ch]] := ⟨_, rfl⟩
  rw [← hA0_]
  replace hA0_ := hide hA0_
  go_enter Try.func17, Try.ntmps17
  go_upto_region 1 with fail
  have hB := ((Bl.nil w).new A0_ 26)
  simp only [size_alloc, List.nil_append, List.cons_append] at hB
  rw [unhide hA0_] at hB
  generalize hu_ : World.alloc _ _ = u0
  replace hB : Bl w [⟨w.heap.size, fl [[.int .u32 c.nx], [.slice x.ao x.no x.co], [.int .i64 c.tn], [.int .u32 c.dl], [.slice x.ah x.nh x.ch]], 26⟩] u0 := by
    rw [← hu_]
    rw [unhide hA0_]
    exact hB
  clear hu_ hA0_
  refine wp_region_lit ?_
  refine list_val (.pointer (some ⟨w.heap.size, 1, none⟩)) (by kernel_rfl) (by kernel_rfl) ?_
  simp only [Act.put, List.setIfInBounds_toArray, List.set_cons_zero, List.set_cons_succ, List.getElem_toArray, List.getElem_cons_zero, List.getElem_cons_succ]
  refine list_val (.slice x.ao x.no x.co) (by kernel_rfl) (exec_csO _ (.tmp 4) rfl (w.heap.size) 1 (by kernel_rfl) x.ao x.no x.co (seg_cell (nC  _ _ _ _ _) (hB.get 0 (x := ⟨w.heap.size, fl [[.int .u32 c.nx], [.slice x.ao x.no x.co], [.int .i64 c.tn], [.int .u32 c.dl], [.slice x.ah x.nh x.ch]], 26⟩) rfl) 1 (v := .slice x.ao x.no x.co) rfl rfl)) ?_
  simp only [Act.put, List.setIfInBounds_toArray, List.set_cons_zero, List.set_cons_succ, List.getElem_toArray, List.getElem_cons_zero, List.getElem_cons_succ]
  refine list_val (.int .i64 (x.no : Int)) (by kernel_rfl) (by kernel_rfl) ?_
  simp only [Act.put, List.setIfInBounds_toArray, List.set_cons_zero, List.set_cons_succ, List.getElem_toArray, List.getElem_cons_zero, List.getElem_cons_succ]
  refine list_val (.int .i64 0) (by kernel_rfl) (by kernel_rfl) ?_
  simp only [Act.put, List.setIfInBounds_toArray, List.set_cons_zero, List.set_cons_succ, List.getElem_toArray, List.getElem_cons_zero, List.getElem_cons_succ]
  refine wpList_nil ?_
  have hv : Hid (Below b w u0 ∧ u0.heap[w.heap.size]? = some (.cells (fl [[.int .u32 c.nx], [.slice x.ao x.no x.co], [.int .i64 c.tn], [.int .u32 c.dl], [.slice x.ah x.nh x.ch]]) 26 (0, 0)) ∧ Owx b u0 x) := hide ⟨⟨hB.gr.os, hB.gr.tape, hB.gr.output, hB.gr.size, fun i hi => hB.gr.block i (by omega)⟩, hB.get 0 (x := ⟨w.heap.size, fl [[.int .u32 c.nx], [.slice x.ao x.no x.co], [.int .i64 c.tn], [.int .u32 c.dl], [.slice x.ah x.nh x.ch]], 26⟩) rfl, ho.gr hB.gr⟩
  clear hB ho
  obtain ⟨B0, hB0⟩ : ∃ B0, B0 = w.heap.size := ⟨_, rfl⟩
  have hbB : b ≤ B0 := by omega
  rw [← hB0] at hv ⊢
  replace hB0 := hide hB0
  go_wp2_with fail
  go_loopw [7] (fun i wr => ∃ j : Nat, j ≤ x.no ∧ i = .int .i64 (j : Int) ∧ Hid (Below b w wr ∧ wr.heap[B0]? = some (.cells (fl [[.int .u32 c.nx], [.slice x.ao x.no x.co], [.int .i64 c.tn], [.int .u32 c.dl], [.slice x.ah x.nh x.ch]]) 26 (0, 0)) ∧ Owx b wr x)) (fun i _ => x.no - (intOf i).toNat)
  case atStart => exact ⟨0, by omega, rfl, hv⟩
  case round =>
  clear hv
  obtain ⟨j, hj, rfl, hv⟩ := hrel
  by_cases hlt : j < x.no
  · have jI : (j : Int) < (x.no : Int) := by omega
    obtain ⟨g, o, C, ha, hbg, hg, hol⟩ : ∃ g o C, x.ao = some ⟨g, o, none⟩ ∧ b ≤ g ∧ wr.heap[g]? = some (.cells (C : List Value).toArray 39 (0, 0)) ∧ o + 106 * x.no ≤ C.length := by
      rcases (unhide hv).2.2.o with h | h
      · omega
      · exact h
    have hne : g ≠ B0 := by
      rintro rfl
      have h1 := (unhide hv).2.1
      rw [hg] at h1
      injection h1 with h1
      injection h1 with _ h1 _
      exact absurd h1 (by decide)
    have hB := Bl.nil wr
    replace ha := hide ha; replace hg := hide hg
    replace hB := hide hB
    go_upto_region 3 with fail
    replace hB := unhide hB
    refine wp_region_lit ?_
    refine list_val (.int .i64 (j : Int)) (by kernel_rfl) (by kernel_rfl) ?_
    simp only [Act.put, List.setIfInBounds_toArray, List.set_cons_zero, List.set_cons_succ, List.getElem_toArray, List.getElem_cons_zero, List.getElem_cons_succ]
    (refine wpList_step fun K hK => ?_; replace hK := hide hK; go_simp; refine unhide hK _ _ ?_; clear hK K)
    refine wpList_nil ?_
    replace hB := hide hB
    go_upto_region 4 with fail
    replace hB := unhide hB
    refine wp_region_lit ?_
    refine list_val (.pointer (some ⟨B0, 1, none⟩)) (by kernel_rfl) (by kernel_rfl) ?_
    simp only [Act.put, List.setIfInBounds_toArray, List.set_cons_zero, List.set_cons_succ, List.getElem_toArray, List.getElem_cons_zero, List.getElem_cons_succ]
    refine list_val (.slice x.ao x.no x.co) (by kernel_rfl) (exec_csO _ (.tmp 10) rfl (B0) 1 (by kernel_rfl) x.ao x.no x.co (seg_cell (nC  _ _ _ _ _) (unhide hv).2.1 1 (v := .slice x.ao x.no x.co) rfl rfl)) ?_
    simp only [Act.put, List.setIfInBounds_toArray, List.set_cons_zero, List.set_cons_succ, List.getElem_toArray, List.getElem_cons_zero, List.getElem_cons_succ]
    refine list_val (.int .i64 (j : Int)) (by kernel_rfl) (by kernel_rfl) ?_
    simp only [Act.put, List.setIfInBounds_toArray, List.set_cons_zero, List.set_cons_succ, List.getElem_toArray, List.getElem_cons_zero, List.getElem_cons_succ]
    refine list_val (.agg (fl [[.int .u32 99], bw Z105])) (by kernel_rfl) (bO0 _ (.const (.int .u32 99)) rfl (by kernel_rfl)) ?_
    simp only [Act.put, List.setIfInBounds_toArray, List.set_cons_zero, List.set_cons_succ, List.getElem_toArray, List.getElem_cons_zero, List.getElem_cons_succ]
    refine list_val (.pointer (some ⟨g, o + 106 * j, none⟩)) (by kernel_rfl) (exec_iso _ (.tmp 11) (.tmp 12) rfl g o x.no x.co j (by rw [← unhide ha]; kernel_rfl) (by kernel_rfl) hlt) ?_
    simp only [Act.put, List.setIfInBounds_toArray, List.set_cons_zero, List.set_cons_succ, List.getElem_toArray, List.getElem_cons_zero, List.getElem_cons_succ]
    have hfit : o + 106 * j + (fl [[.int .u32 99], bw Z105]).size ≤ C.length := by
      rw [show (fl [[.int .u32 99], bw Z105]).size = 106 from rfl]
      omega
    refine wpList_step fun K hK => ?_
    refine list_store_mid 39 (.tmp 14) (.tmp 13) g (o + 106 * j) (fl [[.int .u32 99], bw Z105]) (by kernel_rfl) rfl (by kernel_rfl) (by kernel_rfl) (there_of (unhide hg) hfit) (by kernel_rfl) (by decide +kernel) ?_
    refine hK _ _ ?_
    clear hK K
    have hv2 : Hid (Below b w (wr.setCells g (o + 106 * j) (fl [[.int .u32 99], bw Z105]).toList) ∧ (wr.setCells g (o + 106 * j) (fl [[.int .u32 99], bw Z105]).toList).heap[B0]? = some (.cells (fl [[.int .u32 c.nx], [.slice x.ao x.no x.co], [.int .i64 c.tn], [.int .u32 c.dl], [.slice x.ah x.nh x.ch]]) 26 (0, 0)) ∧ Owx b (wr.setCells g (o + 106 * j) (fl [[.int .u32 99], bw Z105]).toList) x) := hide ⟨below_st (unhide hv).1 hbg hb, by rw [setCells_other _ _ _ _ _ (Ne.symm hne)]; exact (unhide hv).2.1, ⟨(unhide hv).2.2.o.st (unhide hg), (unhide hv).2.2.h.st (unhide hg)⟩⟩
    generalize World.setCells _ _ _ _ = wn at *
    clear hv hg
    simp only [Act.put, List.setIfInBounds_toArray, List.set_cons_zero, List.set_cons_succ, List.getElem_toArray, List.getElem_cons_zero, List.getElem_cons_succ]
    refine wpList_nil ?_
    clear hB
    have jw : IntKind.i64.wrap ((j : Int) + 1) = (j : Int) + 1 := by rw [IntKind.wrap_i64]; omega
    go_wp2_with fail
    go_roundw
    case rel => exact ⟨j + 1, by omega, by simp, hv2⟩
    case measure => simp [intOf]; omega
  · have jI : ¬ (j : Int) < (x.no : Int) := by omega
    obtain ⟨w9, hw9⟩ : ∃ w9, w9 = wr := ⟨_, rfl⟩
    rw [← hw9] at hv ⊢
    clear hw9
    have hB := Bl.nil w9
    replace hB := hide hB
    go_upto_region 6 with fail
    replace hB := unhide hB
    refine wp_region_lit ?_
    refine list_val (.pointer (some ⟨B0, 4, none⟩)) (by kernel_rfl) (by kernel_rfl) ?_
    simp only [Act.put, List.setIfInBounds_toArray, List.set_cons_zero, List.set_cons_succ, List.getElem_toArray, List.getElem_cons_zero, List.getElem_cons_succ]
    refine list_val (.slice x.ah x.nh x.ch) (by kernel_rfl) (exec_csI _ (.tmp 16) rfl (B0) 4 (by kernel_rfl) x.ah x.nh x.ch (seg_cell (nC  _ _ _ _ _) (unhide hv).2.1 4 (v := .slice x.ah x.nh x.ch) rfl rfl)) ?_
    simp only [Act.put, List.setIfInBounds_toArray, List.set_cons_zero, List.set_cons_succ, List.getElem_toArray, List.getElem_cons_zero, List.getElem_cons_succ]
    refine list_val (.int .i64 (x.nh : Int)) (by kernel_rfl) (by kernel_rfl) ?_
    simp only [Act.put, List.setIfInBounds_toArray, List.set_cons_zero, List.set_cons_succ, List.getElem_toArray, List.getElem_cons_zero, List.getElem_cons_succ]
    refine list_val (.int .i64 0) (by kernel_rfl) (by kernel_rfl) ?_
    simp only [Act.put, List.setIfInBounds_toArray, List.set_cons_zero, List.set_cons_succ, List.getElem_toArray, List.getElem_cons_zero, List.getElem_cons_succ]
    refine wpList_nil ?_
    clear hB
    go_wp2_with fail
    go_loopw [19] (fun i wr => ∃ j : Nat, j ≤ x.nh ∧ i = .int .i64 (j : Int) ∧ Hid (Below b w wr ∧ wr.heap[B0]? = some (.cells (fl [[.int .u32 c.nx], [.slice x.ao x.no x.co], [.int .i64 c.tn], [.int .u32 c.dl], [.slice x.ah x.nh x.ch]]) 26 (0, 0)) ∧ Owx b wr x)) (fun i _ => x.nh - (intOf i).toNat)
    case atStart => exact ⟨0, by omega, rfl, hv⟩
    case round =>
    clear hv
    obtain ⟨j, hj, rfl, hv⟩ := hrel
    by_cases hlt : j < x.nh
    · have jI : (j : Int) < (x.nh : Int) := by omega
      obtain ⟨g, o, C, ha, hbg, hg, hol⟩ : ∃ g o C, x.ah = some ⟨g, o, none⟩ ∧ b ≤ g ∧ wr.heap[g]? = some (.cells (C : List Value).toArray 47 (0, 0)) ∧ o + 2 * x.nh ≤ C.length := by
        rcases (unhide hv).2.2.h with h | h
        · omega
        · exact h
      have hne : g ≠ B0 := by
        rintro rfl
        have h1 := (unhide hv).2.1
        rw [hg] at h1
        injection h1 with h1
        injection h1 with _ h1 _
        exact absurd h1 (by decide)
      have hB := Bl.nil wr
      replace ha := hide ha; replace hg := hide hg
      replace hB := hide hB
      go_upto_region 8 with fail
      replace hB := unhide hB
      refine wp_region_lit ?_
      refine list_val (.int .i64 (j : Int)) (by kernel_rfl) (by kernel_rfl) ?_
      simp only [Act.put, List.setIfInBounds_toArray, List.set_cons_zero, List.set_cons_succ, List.getElem_toArray, List.getElem_cons_zero, List.getElem_cons_succ]
      (refine wpList_step fun K hK => ?_; replace hK := hide hK; go_simp; refine unhide hK _ _ ?_; clear hK K)
      refine wpList_nil ?_
      replace hB := hide hB
      go_upto_region 9 with fail
      replace hB := unhide hB
      refine wp_region_lit ?_
      refine list_val (.pointer (some ⟨B0, 4, none⟩)) (by kernel_rfl) (by kernel_rfl) ?_
      simp only [Act.put, List.setIfInBounds_toArray, List.set_cons_zero, List.set_cons_succ, List.getElem_toArray, List.getElem_cons_zero, List.getElem_cons_succ]
      refine list_val (.slice x.ah x.nh x.ch) (by kernel_rfl) (exec_csI _ (.tmp 22) rfl (B0) 4 (by kernel_rfl) x.ah x.nh x.ch (seg_cell (nC  _ _ _ _ _) (unhide hv).2.1 4 (v := .slice x.ah x.nh x.ch) rfl rfl)) ?_
      simp only [Act.put, List.setIfInBounds_toArray, List.set_cons_zero, List.set_cons_succ, List.getElem_toArray, List.getElem_cons_zero, List.getElem_cons_succ]
      refine list_val (.int .i64 (j : Int)) (by kernel_rfl) (by kernel_rfl) ?_
      simp only [Act.put, List.setIfInBounds_toArray, List.set_cons_zero, List.set_cons_succ, List.getElem_toArray, List.getElem_cons_zero, List.getElem_cons_succ]
      refine list_val (.agg (fl [[.int .u32 99], [.string ByteArray.empty]])) (by kernel_rfl) (bI0 _ (.const (.int .u32 99)) rfl (by kernel_rfl)) ?_
      simp only [Act.put, List.setIfInBounds_toArray, List.set_cons_zero, List.set_cons_succ, List.getElem_toArray, List.getElem_cons_zero, List.getElem_cons_succ]
      refine list_val (.pointer (some ⟨g, o + 2 * j, none⟩)) (by kernel_rfl) (exec_isi _ (.tmp 23) (.tmp 24) rfl g o x.nh x.ch j (by rw [← unhide ha]; kernel_rfl) (by kernel_rfl) hlt) ?_
      simp only [Act.put, List.setIfInBounds_toArray, List.set_cons_zero, List.set_cons_succ, List.getElem_toArray, List.getElem_cons_zero, List.getElem_cons_succ]
      have hfit : o + 2 * j + (fl [[.int .u32 99], [.string ByteArray.empty]]).size ≤ C.length := by
        rw [show (fl [[.int .u32 99], [.string ByteArray.empty]]).size = 2 from rfl]
        omega
      refine wpList_step fun K hK => ?_
      refine list_store_mid 47 (.tmp 26) (.tmp 25) g (o + 2 * j) (fl [[.int .u32 99], [.string ByteArray.empty]]) (by kernel_rfl) rfl (by kernel_rfl) (by kernel_rfl) (there_of (unhide hg) hfit) (by kernel_rfl) (by decide +kernel) ?_
      refine hK _ _ ?_
      clear hK K
      have hv2 : Hid (Below b w (wr.setCells g (o + 2 * j) (fl [[.int .u32 99], [.string ByteArray.empty]]).toList) ∧ (wr.setCells g (o + 2 * j) (fl [[.int .u32 99], [.string ByteArray.empty]]).toList).heap[B0]? = some (.cells (fl [[.int .u32 c.nx], [.slice x.ao x.no x.co], [.int .i64 c.tn], [.int .u32 c.dl], [.slice x.ah x.nh x.ch]]) 26 (0, 0)) ∧ Owx b (wr.setCells g (o + 2 * j) (fl [[.int .u32 99], [.string ByteArray.empty]]).toList) x) := hide ⟨below_st (unhide hv).1 hbg hb, by rw [setCells_other _ _ _ _ _ (Ne.symm hne)]; exact (unhide hv).2.1, ⟨(unhide hv).2.2.o.st (unhide hg), (unhide hv).2.2.h.st (unhide hg)⟩⟩
      generalize World.setCells _ _ _ _ = wn at *
      clear hv hg
      simp only [Act.put, List.setIfInBounds_toArray, List.set_cons_zero, List.set_cons_succ, List.getElem_toArray, List.getElem_cons_zero, List.getElem_cons_succ]
      refine wpList_nil ?_
      clear hB
      have jw : IntKind.i64.wrap ((j : Int) + 1) = (j : Int) + 1 := by rw [IntKind.wrap_i64]; omega
      go_wp2_with fail
      go_roundw
      case rel => exact ⟨j + 1, by omega, by simp, hv2⟩
      case measure => simp [intOf]; omega
    · have jI : ¬ (j : Int) < (x.nh : Int) := by omega
      go_wp2_with fail
      rw [unhide hT]
      refine ⟨rfl, .tuple #[], ?_, rfl, (unhide hv).1⟩
      kernel_rfl
theorem lz_bk {k g : Nat} {w v : World} {a : Option Addr} {n c : Nat} {R : List (List Value)} (h : Lz k w a n c R) (m : Bt g w v) (hn : n = 0 ∨ blkOf a ≠ some g) : Lz k v a n c R := by
  refine ⟨h.len, h.row, ?_, h.cap, h.max⟩
  rcases h.sl with h1 | ⟨p, o, rfl, h2⟩
  · exact .inl h1
  · rcases hn with hn | hn
    · exact .inl (List.eq_nil_of_length_eq_zero (by rw [h.len, hn]))
    · exact .inr ⟨p, o, rfl, range_bt h2 m (fun e => hn (by rw [← e]; rfl))⟩
theorem Ow.bk {k : Nat} {e : TypeId} {b g : Nat} {w v : World} {a : Option Addr} {n : Nat} (h : Ow k e b w a n) (m : Bt g w v) (hn : n = 0 ∨ blkOf a ≠ some g) : Ow k e b v a n := by
  rcases h with h | ⟨q, o, C, rfl, h2, h3, h4⟩
  · exact .inl h
  · rcases hn with hn | hn
    · exact .inl hn
    · exact .inr ⟨q, o, C, rfl, h2, m.blk h3 (fun e => hn (by rw [← e]; rfl)), h4⟩
theorem ow_new {k : Nat} {e : TypeId} {b : Nat} {w : World} {a : Option Addr} {n : Nat} (h : Ow k e b w a n) : n = 0 ∨ blkOf a ≠ some w.heap.size := by
  rcases h with h | ⟨q, o, C, rfl, h2, h3, h4⟩
  · exact .inl h
  · refine .inr fun e => ?_
    have h5 := lt_of_block h3
    have h6 : q = w.heap.size := Option.some.inj e
    omega
theorem Co.newO {b : Nat} {w : World} {c : Cm} {x : Lc} (h : Co b w c x) : x.no = 0 ∨ blkOf x.ao ≠ some w.heap.size := ow_new h.o.o
theorem Co.newI {b : Nat} {w : World} {c : Cm} {x : Lc} (h : Co b w c x) : x.nh = 0 ∨ blkOf x.ah ≠ some w.heap.size := ow_new h.o.h
theorem Co.bkO {b g : Nat} {w v : World} {c : Cm} {x : Lc} (h : Co b w c x) {C : Array Value} (hg : w.heap[g]? = some (.cells C 39 (0, 0))) (m : Bt g w v) (hn : x.no = 0 ∨ blkOf x.ao ≠ some g) : Co b v c x :=
  ⟨⟨⟨h.i.o.1, lz_bk h.i.o.2 m hn⟩, ⟨h.i.h.1, lz_bz h.i.h.2 h.o.h hg m (by decide)⟩, h.i.nx, h.i.tn, h.i.dl⟩, ⟨h.o.o.bk m hn, h.o.h.bz hg m (by decide)⟩⟩
theorem Co.bkI {b g : Nat} {w v : World} {c : Cm} {x : Lc} (h : Co b w c x) {C : Array Value} (hg : w.heap[g]? = some (.cells C 47 (0, 0))) (m : Bt g w v) (hn : x.nh = 0 ∨ blkOf x.ah ≠ some g) : Co b v c x :=
  ⟨⟨⟨h.i.o.1, lz_bz h.i.o.2 h.o.o hg m (by decide)⟩, ⟨h.i.h.1, lz_bk h.i.h.2 m hn⟩, h.i.nx, h.i.tn, h.i.dl⟩, ⟨h.o.o.bz hg m (by decide), h.o.h.bk m hn⟩⟩
theorem Sh.newO {b : Nat} {w : World} {c : Cm} {x : Lc} (h : Sh b w c x) : blkOf x.ao ≠ some w.heap.size := by
  obtain ⟨g, h1, h2⟩ := h.o
  rw [h1]
  exact or_new h2
theorem Sh.newI {b : Nat} {w : World} {c : Cm} {x : Lc} (h : Sh b w c x) : blkOf x.ah ≠ some w.heap.size := by
  obtain ⟨g, h1, h2⟩ := h.h
  rw [h1]
  exact or_new h2
theorem Rm.bk {k : Nat} {e : TypeId} {b g : Nat} {w v : World} {a : Option Addr} {n c : Nat} {R : List (List Value)} {r : List Value} (h : Rm k e b w a n c R r) (m : Bt g w v) (hn : blkOf a ≠ some g) : Rm k e b v a n c R r := by
  obtain ⟨q, rfl, h2⟩ := h
  exact ⟨q, rfl, or_bk h2 m hn⟩
theorem Sh.bkO {b g : Nat} {w v : World} {c : Cm} {x : Lc} (h : Sh b w c x) {C : Array Value} (hg : w.heap[g]? = some (.cells C 39 (0, 0))) (m : Bt g w v) (hn : blkOf x.ao ≠ some g) : Sh b v c x := ⟨h.o.bk m hn, h.h.bz hg m (by decide)⟩
theorem Sh.bkI {b g : Nat} {w v : World} {c : Cm} {x : Lc} (h : Sh b w c x) {C : Array Value} (hg : w.heap[g]? = some (.cells C 47 (0, 0))) (m : Bt g w v) (hn : blkOf x.ah ≠ some g) : Sh b v c x := ⟨h.o.bz hg m (by decide), h.h.bk m hn⟩
theorem Sh.co {b : Nat} {w : World} {c : Cm} {x : Lc} (h : Sh b w c x) (n : Nums c) : Co b w c x := by
  refine ⟨h.cin n, ?_, ?_⟩
  · obtain ⟨g, h1, h2⟩ := h.o
    rw [h1]
    rcases h2.ow with h3 | ⟨q, o, C, h3, h4, h5, h6⟩
    · omega
    · exact .inr ⟨q, o, C, h3, h4, h5, by omega⟩
  · obtain ⟨g, h1, h2⟩ := h.h
    rw [h1]
    rcases h2.ow with h3 | ⟨q, o, C, h3, h4, h5, h6⟩
    · omega
    · exact .inr ⟨q, o, C, h3, h4, h5, by omega⟩
theorem Rm.base {k : Nat} {e : TypeId} {b d : Nat} {w : World} {a : Option Addr} {n c : Nat} {R : List (List Value)} {r : List Value} (h : Rm k e b w a n c R r) (hd : d ≤ b) : Rm k e d w a n c R r := by
  obtain ⟨q, h1, h2⟩ := h
  exact ⟨q, h1, or_base h2 hd⟩
theorem Sh.base {b d : Nat} {w : World} {c : Cm} {x : Lc} (h : Sh b w c x) (hd : d ≤ b) : Sh d w c x := ⟨h.o.base hd, h.h.base hd⟩
theorem Sh.bz {b g : Nat} {w v : World} {c : Cm} {x : Lc} (h : Sh b w c x) {C : Array Value} {t : TypeId} (hg : w.heap[g]? = some (.cells C t (0, 0))) (m : Bt g w v) (h1 : t ≠ 39 := by decide) (h2 : t ≠ 47 := by decide) : Sh b v c x := ⟨h.o.bz hg m h1, h.h.bz hg m h2⟩
theorem ct_o (c : Cm) : (ct c).O.length ≤ 8 := by unfold ct; dsimp only; rw [List.length_take]; omega
theorem ct_h (c : Cm) : (ct c).H.length ≤ 8 := by unfold ct; dsimp only; rw [List.length_take]; omega
set_option maxHeartbeats 4000000 in
theorem whole_ok (c : Cm) (x y : Lc) (b : Nat) (w : World) (hs : Sh b w c x) (nm : Nums c) (hy : Cin w c y) : Calls Try.prog 18 #[.agg (fl [[.int .u32 c.nx], [.slice x.ao x.no x.co], [.int .i64 c.tn], [.int .u32 c.dl], [.slice x.ah x.nh x.ch]]), .agg (fl [[.int .u32 c.nx], [.slice y.ao y.no y.co], [.int .i64 c.tn], [.int .u32 c.dl], [.slice y.ah y.nh y.ch]])] w (Vl (.bool true) w) := by
  obtain ⟨T, hT⟩ : ∃ T : Ending → World → Prop, T = (Vl (.bool true) w) := ⟨_, rfl⟩
  rw [← hT]
  replace hT := hide hT
  have hc := hs.cin nm
  have hb2 := hc.o.2.max
  have hb4 := hc.h.2.max
  obtain ⟨gO, eO, cO, rO⟩ := hs.o.cell
  obtain ⟨gH, eH, cH, rH⟩ := hs.h.cell
  have kO : Hid (w.cell? ⟨gO, 0 + 106 * x.no, none⟩ = some (.int .u32 77)) := hide (by have h := rO 0 (.int .u32 77) rfl; rwa [Nat.add_zero, ← Nat.zero_add (106 * x.no)] at h)
  have kH : Hid (w.cell? ⟨gH, 0 + 2 * x.nh, none⟩ = some (.int .u32 77)) := hide (by have h := rH 0 (.int .u32 77) rfl; rwa [Nat.add_zero, ← Nat.zero_add (2 * x.nh)] at h)
  clear rO rH hs
  replace hc := hide hc; replace hy := hide hy; replace eO := hide eO; replace eH := hide eH
  obtain ⟨A0_, hA0_⟩ : ∃ S_, S_ = fl [[.int .u32 c.nx], [.slice x.ao x.no x.co], [.int .i64 c.tn], [.int .u32 c.dl], [.slice x.ah x.nh x.ch]] := ⟨_, rfl⟩
  rw [← hA0_]
  replace hA0_ := hide hA0_
  obtain ⟨A1_, hA1_⟩ : ∃ S_, S_ = fl [[.int .u32 c.nx], [.slice y.ao y.no y.co], [.int .i64 c.tn], [.int .u32 c.dl], [.slice y.ah y.nh y.ch]] := ⟨_, rfl⟩
  rw [← hA1_]
  replace hA1_ := hide hA1_
  go_enter Try.func18, Try.ntmps18
  go_upto_region 1 with fail
  have hB := (((Bl.nil w).new A0_ 26).new A1_ 26)
  simp only [size_alloc, List.nil_append, List.cons_append] at hB
  rw [unhide hA0_, unhide hA1_] at hB
  generalize hu_ : World.alloc _ _ = u0
  replace hB : Bl w [⟨w.heap.size, fl [[.int .u32 c.nx], [.slice x.ao x.no x.co], [.int .i64 c.tn], [.int .u32 c.dl], [.slice x.ah x.nh x.ch]], 26⟩, ⟨w.heap.size + 1, fl [[.int .u32 c.nx], [.slice y.ao y.no y.co], [.int .i64 c.tn], [.int .u32 c.dl], [.slice y.ah y.nh y.ch]], 26⟩] u0 := by
    rw [← hu_]
    rw [unhide hA0_, unhide hA1_]
    exact hB
  clear hu_ hA0_ hA1_
  refine any_start (S := fun v_ => v_.heap[w.heap.size]? = some (.cells (fl [[.int .u32 c.nx], [.slice x.ao x.no x.co], [.int .i64 c.tn], [.int .u32 c.dl], [.slice x.ah x.nh x.ch]]) 26 (0, 0)) ∧ v_.heap[w.heap.size + 1]? = some (.cells (fl [[.int .u32 c.nx], [.slice y.ao y.no y.co], [.int .i64 c.tn], [.int .u32 c.dl], [.slice y.ah y.nh y.ch]]) 26 (0, 0)) ∧ Gr w v_) (by kernel_rfl) ?_
  replace hB := hB.drew
  generalize World.drew _ = u1 at *
  simp only [List.size_toArray, List.length_cons, List.length_nil, Array.replicate, List.replicate]
  refine any_take (i := 0) (v := (.agg (fl [[.int .u32 c.nx], [.slice x.ao x.no x.co], [.int .i64 c.tn], [.int .u32 c.dl], [.slice x.ah x.nh x.ch]]))) #[false, false, false, false, false, false, false, false, false, false, false, false, false, false, false, false, false, false, false, false, false, false, false, false, false, false, false, false, false, false, false, false, false, false, false, false] rfl (by kernel_rfl) (by kernel_rfl) (by kernel_rfl) (by kernel_rfl) (fun _ _ _ h => h) (.inl ⟨by kernel_rfl, fun x_ hu => exec_sw _ 26 (.tmp 2) rfl (w.heap.size) (by kernel_rfl) hu.1 NC (nC  _ _ _ _ _) Try.underlying26 rfl (by kernel_rfl)⟩) ⟨(hB.get 0 (x := ⟨w.heap.size, fl [[.int .u32 c.nx], [.slice x.ao x.no x.co], [.int .i64 c.tn], [.int .u32 c.dl], [.slice x.ah x.nh x.ch]], 26⟩) rfl), (hB.get 1 (x := ⟨w.heap.size + 1, fl [[.int .u32 c.nx], [.slice y.ao y.no y.co], [.int .i64 c.tn], [.int .u32 c.dl], [.slice y.ah y.nh y.ch]], 26⟩) rfl), hB.gr⟩ ?_
  simp only [Act.put, List.setIfInBounds_toArray, List.set_cons_zero, List.set_cons_succ, List.getElem_toArray, List.getElem_cons_zero, List.getElem_cons_succ]
  refine any_take (i := 1) (v := (.agg (fl [[.int .u32 c.nx], [.slice y.ao y.no y.co], [.int .i64 c.tn], [.int .u32 c.dl], [.slice y.ah y.nh y.ch]]))) #[true, false, false, false, false, false, false, false, false, false, false, false, false, false, false, false, false, false, false, false, false, false, false, false, false, false, false, false, false, false, false, false, false, false, false, false] rfl (by kernel_rfl) (by kernel_rfl) (by kernel_rfl) (by kernel_rfl) (fun _ _ _ h => h) (.inl ⟨by kernel_rfl, fun x_ hu => exec_sw _ 26 (.tmp 3) rfl (w.heap.size + 1) (by kernel_rfl) hu.2.1 NC (nC  _ _ _ _ _) Try.underlying26 rfl (by kernel_rfl)⟩) ⟨(hB.get 0 (x := ⟨w.heap.size, fl [[.int .u32 c.nx], [.slice x.ao x.no x.co], [.int .i64 c.tn], [.int .u32 c.dl], [.slice x.ah x.nh x.ch]], 26⟩) rfl), (hB.get 1 (x := ⟨w.heap.size + 1, fl [[.int .u32 c.nx], [.slice y.ao y.no y.co], [.int .i64 c.tn], [.int .u32 c.dl], [.slice y.ah y.nh y.ch]], 26⟩) rfl), hB.gr⟩ ?_
  simp only [Act.put, List.setIfInBounds_toArray, List.set_cons_zero, List.set_cons_succ, List.getElem_toArray, List.getElem_cons_zero, List.getElem_cons_succ]
  refine any_one (i := 2) (by kernel_rfl) rfl (fun K hK => ?_)
  refine step_callw (by kernel_rfl) 16 #[.agg (fl [[.int .u32 c.nx], [.slice x.ao x.no x.co], [.int .i64 c.tn], [.int .u32 c.dl], [.slice x.ah x.nh x.ch]]), .agg (fl [[.int .u32 c.nx], [.slice y.ao y.no y.co], [.int .i64 c.tn], [.int .u32 c.dl], [.slice y.ah y.nh y.ch]])] (by kernel_rfl) (((show Calls Try.prog 16 #[.agg (fl [[.int .u32 c.nx], [.slice x.ao x.no x.co], [.int .i64 c.tn], [.int .u32 c.dl], [.slice x.ah x.nh x.ch]]), .agg (fl [[.int .u32 c.nx], [.slice y.ao y.no y.co], [.int .i64 c.tn], [.int .u32 c.dl], [.slice y.ah y.nh y.ch]])] u1 (Vl (.bool true) u1) from by have h := rsame_ok c c x y u1 ((unhide hc).gr hB.gr) ((unhide hy).gr hB.gr); rw [decide_eq_true rfl] at h; exact h)).mono ?_)
  rintro r_ u2 ⟨rfl, hg⟩
  replace hB := hB.more hg
  clear hg
  refine ⟨_, rfl, ?_⟩
  refine hK.out _ _ ⟨(hB.get 0 (x := ⟨w.heap.size, fl [[.int .u32 c.nx], [.slice x.ao x.no x.co], [.int .i64 c.tn], [.int .u32 c.dl], [.slice x.ah x.nh x.ch]], 26⟩) rfl), (hB.get 1 (x := ⟨w.heap.size + 1, fl [[.int .u32 c.nx], [.slice y.ao y.no y.co], [.int .i64 c.tn], [.int .u32 c.dl], [.slice y.ah y.nh y.ch]], 26⟩) rfl), hB.gr⟩ (fun _ => ?_)
  clear hK K
  simp only [Act.put, List.setIfInBounds_toArray, List.set_cons_zero, List.set_cons_succ, List.getElem_toArray, List.getElem_cons_zero, List.getElem_cons_succ]
  refine any_take (i := 3) (v := (.bool true)) #[true, true, true, false, false, false, false, false, false, false, false, false, false, false, false, false, false, false, false, false, false, false, false, false, false, false, false, false, false, false, false, false, false, false, false, false] rfl (by kernel_rfl) (by kernel_rfl) (by kernel_rfl) (by kernel_rfl) (fun _ _ _ h => h) (.inl ⟨by kernel_rfl, fun x_ hu => by kernel_rfl⟩) ⟨(hB.get 0 (x := ⟨w.heap.size, fl [[.int .u32 c.nx], [.slice x.ao x.no x.co], [.int .i64 c.tn], [.int .u32 c.dl], [.slice x.ah x.nh x.ch]], 26⟩) rfl), (hB.get 1 (x := ⟨w.heap.size + 1, fl [[.int .u32 c.nx], [.slice y.ao y.no y.co], [.int .i64 c.tn], [.int .u32 c.dl], [.slice y.ah y.nh y.ch]], 26⟩) rfl), hB.gr⟩ ?_
  simp only [Act.put, List.setIfInBounds_toArray, List.set_cons_zero, List.set_cons_succ, List.getElem_toArray, List.getElem_cons_zero, List.getElem_cons_succ]
  refine any_take (i := 4) (v := (.pointer (some ⟨w.heap.size, 1, none⟩))) #[true, true, true, true, false, false, false, false, false, false, false, false, false, false, false, false, false, false, false, false, false, false, false, false, false, false, false, false, false, false, false, false, false, false, false, false] rfl (by kernel_rfl) (by kernel_rfl) (by kernel_rfl) (by kernel_rfl) (fun _ _ _ h => h) (.inl ⟨by kernel_rfl, fun x_ hu => by kernel_rfl⟩) ⟨(hB.get 0 (x := ⟨w.heap.size, fl [[.int .u32 c.nx], [.slice x.ao x.no x.co], [.int .i64 c.tn], [.int .u32 c.dl], [.slice x.ah x.nh x.ch]], 26⟩) rfl), (hB.get 1 (x := ⟨w.heap.size + 1, fl [[.int .u32 c.nx], [.slice y.ao y.no y.co], [.int .i64 c.tn], [.int .u32 c.dl], [.slice y.ah y.nh y.ch]], 26⟩) rfl), hB.gr⟩ ?_
  simp only [Act.put, List.setIfInBounds_toArray, List.set_cons_zero, List.set_cons_succ, List.getElem_toArray, List.getElem_cons_zero, List.getElem_cons_succ]
  refine any_take (i := 5) (v := (.slice x.ao x.no x.co)) #[true, true, true, true, true, false, false, false, false, false, false, false, false, false, false, false, false, false, false, false, false, false, false, false, false, false, false, false, false, false, false, false, false, false, false, false] rfl (by kernel_rfl) (by kernel_rfl) (by kernel_rfl) (by kernel_rfl) (fun _ _ _ h => h) (.inl ⟨by kernel_rfl, fun x_ hu => exec_csO _ (.tmp 9) rfl (w.heap.size) 1 (by kernel_rfl) x.ao x.no x.co (seg_cell (nC  _ _ _ _ _) hu.1 1 (v := .slice x.ao x.no x.co) rfl rfl)⟩) ⟨(hB.get 0 (x := ⟨w.heap.size, fl [[.int .u32 c.nx], [.slice x.ao x.no x.co], [.int .i64 c.tn], [.int .u32 c.dl], [.slice x.ah x.nh x.ch]], 26⟩) rfl), (hB.get 1 (x := ⟨w.heap.size + 1, fl [[.int .u32 c.nx], [.slice y.ao y.no y.co], [.int .i64 c.tn], [.int .u32 c.dl], [.slice y.ah y.nh y.ch]], 26⟩) rfl), hB.gr⟩ ?_
  simp only [Act.put, List.setIfInBounds_toArray, List.set_cons_zero, List.set_cons_succ, List.getElem_toArray, List.getElem_cons_zero, List.getElem_cons_succ]
  refine any_take (i := 6) (v := (.pointer (some ⟨w.heap.size, 1, none⟩))) #[true, true, true, true, true, true, false, false, false, false, false, false, false, false, false, false, false, false, false, false, false, false, false, false, false, false, false, false, false, false, false, false, false, false, false, false] rfl (by kernel_rfl) (by kernel_rfl) (by kernel_rfl) (by kernel_rfl) (fun _ _ _ h => h) (.inl ⟨by kernel_rfl, fun x_ hu => by kernel_rfl⟩) ⟨(hB.get 0 (x := ⟨w.heap.size, fl [[.int .u32 c.nx], [.slice x.ao x.no x.co], [.int .i64 c.tn], [.int .u32 c.dl], [.slice x.ah x.nh x.ch]], 26⟩) rfl), (hB.get 1 (x := ⟨w.heap.size + 1, fl [[.int .u32 c.nx], [.slice y.ao y.no y.co], [.int .i64 c.tn], [.int .u32 c.dl], [.slice y.ah y.nh y.ch]], 26⟩) rfl), hB.gr⟩ ?_
  simp only [Act.put, List.setIfInBounds_toArray, List.set_cons_zero, List.set_cons_succ, List.getElem_toArray, List.getElem_cons_zero, List.getElem_cons_succ]
  refine any_take (i := 7) (v := (.slice x.ao x.no x.co)) #[true, true, true, true, true, true, true, false, false, false, false, false, false, false, false, false, false, false, false, false, false, false, false, false, false, false, false, false, false, false, false, false, false, false, false, false] rfl (by kernel_rfl) (by kernel_rfl) (by kernel_rfl) (by kernel_rfl) (fun _ _ _ h => h) (.inl ⟨by kernel_rfl, fun x_ hu => exec_csO _ (.tmp 11) rfl (w.heap.size) 1 (by kernel_rfl) x.ao x.no x.co (seg_cell (nC  _ _ _ _ _) hu.1 1 (v := .slice x.ao x.no x.co) rfl rfl)⟩) ⟨(hB.get 0 (x := ⟨w.heap.size, fl [[.int .u32 c.nx], [.slice x.ao x.no x.co], [.int .i64 c.tn], [.int .u32 c.dl], [.slice x.ah x.nh x.ch]], 26⟩) rfl), (hB.get 1 (x := ⟨w.heap.size + 1, fl [[.int .u32 c.nx], [.slice y.ao y.no y.co], [.int .i64 c.tn], [.int .u32 c.dl], [.slice y.ah y.nh y.ch]], 26⟩) rfl), hB.gr⟩ ?_
  simp only [Act.put, List.setIfInBounds_toArray, List.set_cons_zero, List.set_cons_succ, List.getElem_toArray, List.getElem_cons_zero, List.getElem_cons_succ]
  refine any_take (i := 8) (v := (.int .i64 (x.no : Int))) #[true, true, true, true, true, true, true, true, false, false, false, false, false, false, false, false, false, false, false, false, false, false, false, false, false, false, false, false, false, false, false, false, false, false, false, false] rfl (by kernel_rfl) (by kernel_rfl) (by kernel_rfl) (by kernel_rfl) (fun _ _ _ h => h) (.inl ⟨by kernel_rfl, fun x_ hu => by kernel_rfl⟩) ⟨(hB.get 0 (x := ⟨w.heap.size, fl [[.int .u32 c.nx], [.slice x.ao x.no x.co], [.int .i64 c.tn], [.int .u32 c.dl], [.slice x.ah x.nh x.ch]], 26⟩) rfl), (hB.get 1 (x := ⟨w.heap.size + 1, fl [[.int .u32 c.nx], [.slice y.ao y.no y.co], [.int .i64 c.tn], [.int .u32 c.dl], [.slice y.ah y.nh y.ch]], 26⟩) rfl), hB.gr⟩ ?_
  simp only [Act.put, List.setIfInBounds_toArray, List.set_cons_zero, List.set_cons_succ, List.getElem_toArray, List.getElem_cons_zero, List.getElem_cons_succ]
  refine any_take (i := 9) (v := (.int .i64 ((x.no + 1 : Nat) : Int))) #[true, true, true, true, true, true, true, true, true, false, false, false, false, false, false, false, false, false, false, false, false, false, false, false, false, false, false, false, false, false, false, false, false, false, false, false] rfl (by kernel_rfl) (by kernel_rfl) (by kernel_rfl) (by kernel_rfl) (fun _ _ _ h => h) (.inl ⟨by kernel_rfl, fun x_ hu => add_i _ (.tmp 13) (.const (.int .i64 1)) (x.no : Int) 1 rfl (by kernel_rfl) (by kernel_rfl) _ (by omega) (by omega)⟩) ⟨(hB.get 0 (x := ⟨w.heap.size, fl [[.int .u32 c.nx], [.slice x.ao x.no x.co], [.int .i64 c.tn], [.int .u32 c.dl], [.slice x.ah x.nh x.ch]], 26⟩) rfl), (hB.get 1 (x := ⟨w.heap.size + 1, fl [[.int .u32 c.nx], [.slice y.ao y.no y.co], [.int .i64 c.tn], [.int .u32 c.dl], [.slice y.ah y.nh y.ch]], 26⟩) rfl), hB.gr⟩ ?_
  simp only [Act.put, List.setIfInBounds_toArray, List.set_cons_zero, List.set_cons_succ, List.getElem_toArray, List.getElem_cons_zero, List.getElem_cons_succ]
  refine any_take (i := 10) (v := (.slice x.ao (x.no + 1) x.co)) #[true, true, true, true, true, true, true, true, true, true, false, false, false, false, false, false, false, false, false, false, false, false, false, false, false, false, false, false, false, false, false, false, false, false, false, false] rfl (by kernel_rfl) (by kernel_rfl) (by kernel_rfl) (by kernel_rfl) (fun _ _ _ h => h) (.inl ⟨by kernel_rfl, fun x_ hu => exec_upO _ (.tmp 10) (.tmp 14) rfl x.ao x.no x.co (x.no + 1) (by kernel_rfl) (by kernel_rfl) cO⟩) ⟨(hB.get 0 (x := ⟨w.heap.size, fl [[.int .u32 c.nx], [.slice x.ao x.no x.co], [.int .i64 c.tn], [.int .u32 c.dl], [.slice x.ah x.nh x.ch]], 26⟩) rfl), (hB.get 1 (x := ⟨w.heap.size + 1, fl [[.int .u32 c.nx], [.slice y.ao y.no y.co], [.int .i64 c.tn], [.int .u32 c.dl], [.slice y.ah y.nh y.ch]], 26⟩) rfl), hB.gr⟩ ?_
  simp only [Act.put, List.setIfInBounds_toArray, List.set_cons_zero, List.set_cons_succ, List.getElem_toArray, List.getElem_cons_zero, List.getElem_cons_succ]
  refine any_take (i := 11) (v := (.pointer (some ⟨w.heap.size, 1, none⟩))) #[true, true, true, true, true, true, true, true, true, true, true, false, false, false, false, false, false, false, false, false, false, false, false, false, false, false, false, false, false, false, false, false, false, false, false, false] rfl (by kernel_rfl) (by kernel_rfl) (by kernel_rfl) (by kernel_rfl) (fun _ _ _ h => h) (.inl ⟨by kernel_rfl, fun x_ hu => by kernel_rfl⟩) ⟨(hB.get 0 (x := ⟨w.heap.size, fl [[.int .u32 c.nx], [.slice x.ao x.no x.co], [.int .i64 c.tn], [.int .u32 c.dl], [.slice x.ah x.nh x.ch]], 26⟩) rfl), (hB.get 1 (x := ⟨w.heap.size + 1, fl [[.int .u32 c.nx], [.slice y.ao y.no y.co], [.int .i64 c.tn], [.int .u32 c.dl], [.slice y.ah y.nh y.ch]], 26⟩) rfl), hB.gr⟩ ?_
  simp only [Act.put, List.setIfInBounds_toArray, List.set_cons_zero, List.set_cons_succ, List.getElem_toArray, List.getElem_cons_zero, List.getElem_cons_succ]
  refine any_take (i := 12) (v := (.slice x.ao x.no x.co)) #[true, true, true, true, true, true, true, true, true, true, true, true, false, false, false, false, false, false, false, false, false, false, false, false, false, false, false, false, false, false, false, false, false, false, false, false] rfl (by kernel_rfl) (by kernel_rfl) (by kernel_rfl) (by kernel_rfl) (fun _ _ _ h => h) (.inl ⟨by kernel_rfl, fun x_ hu => exec_csO _ (.tmp 16) rfl (w.heap.size) 1 (by kernel_rfl) x.ao x.no x.co (seg_cell (nC  _ _ _ _ _) hu.1 1 (v := .slice x.ao x.no x.co) rfl rfl)⟩) ⟨(hB.get 0 (x := ⟨w.heap.size, fl [[.int .u32 c.nx], [.slice x.ao x.no x.co], [.int .i64 c.tn], [.int .u32 c.dl], [.slice x.ah x.nh x.ch]], 26⟩) rfl), (hB.get 1 (x := ⟨w.heap.size + 1, fl [[.int .u32 c.nx], [.slice y.ao y.no y.co], [.int .i64 c.tn], [.int .u32 c.dl], [.slice y.ah y.nh y.ch]], 26⟩) rfl), hB.gr⟩ ?_
  simp only [Act.put, List.setIfInBounds_toArray, List.set_cons_zero, List.set_cons_succ, List.getElem_toArray, List.getElem_cons_zero, List.getElem_cons_succ]
  refine any_take (i := 13) (v := (.int .i64 (x.no : Int))) #[true, true, true, true, true, true, true, true, true, true, true, true, true, false, false, false, false, false, false, false, false, false, false, false, false, false, false, false, false, false, false, false, false, false, false, false] rfl (by kernel_rfl) (by kernel_rfl) (by kernel_rfl) (by kernel_rfl) (fun _ _ _ h => h) (.inl ⟨by kernel_rfl, fun x_ hu => by kernel_rfl⟩) ⟨(hB.get 0 (x := ⟨w.heap.size, fl [[.int .u32 c.nx], [.slice x.ao x.no x.co], [.int .i64 c.tn], [.int .u32 c.dl], [.slice x.ah x.nh x.ch]], 26⟩) rfl), (hB.get 1 (x := ⟨w.heap.size + 1, fl [[.int .u32 c.nx], [.slice y.ao y.no y.co], [.int .i64 c.tn], [.int .u32 c.dl], [.slice y.ah y.nh y.ch]], 26⟩) rfl), hB.gr⟩ ?_
  simp only [Act.put, List.setIfInBounds_toArray, List.set_cons_zero, List.set_cons_succ, List.getElem_toArray, List.getElem_cons_zero, List.getElem_cons_succ]
  refine any_take (i := 14) (v := (.pointer (some ⟨gO, 0 + 106 * x.no, none⟩))) #[true, true, true, true, true, true, true, true, true, true, true, true, true, true, false, false, false, false, false, false, false, false, false, false, false, false, false, false, false, false, false, false, false, false, false, false] rfl (by kernel_rfl) (by kernel_rfl) (by kernel_rfl) (by kernel_rfl) (fun _ _ _ h => h) (.inl ⟨by kernel_rfl, fun x_ hu => exec_iso _ (.tmp 15) (.tmp 18) rfl gO 0 (x.no + 1) x.co x.no (by rw [← unhide eO]; kernel_rfl) (by kernel_rfl) (by omega)⟩) ⟨(hB.get 0 (x := ⟨w.heap.size, fl [[.int .u32 c.nx], [.slice x.ao x.no x.co], [.int .i64 c.tn], [.int .u32 c.dl], [.slice x.ah x.nh x.ch]], 26⟩) rfl), (hB.get 1 (x := ⟨w.heap.size + 1, fl [[.int .u32 c.nx], [.slice y.ao y.no y.co], [.int .i64 c.tn], [.int .u32 c.dl], [.slice y.ah y.nh y.ch]], 26⟩) rfl), hB.gr⟩ ?_
  simp only [Act.put, List.setIfInBounds_toArray, List.set_cons_zero, List.set_cons_succ, List.getElem_toArray, List.getElem_cons_zero, List.getElem_cons_succ]
  refine any_take (i := 15) (v := (.pointer (some ⟨gO, 0 + 106 * x.no, none⟩))) #[true, true, true, true, true, true, true, true, true, true, true, true, true, true, true, false, false, false, false, false, false, false, false, false, false, false, false, false, false, false, false, false, false, false, false, false] rfl (by kernel_rfl) (by kernel_rfl) (by kernel_rfl) (by kernel_rfl) (fun _ _ _ h => h) (.inl ⟨by kernel_rfl, fun x_ hu => by kernel_rfl⟩) ⟨(hB.get 0 (x := ⟨w.heap.size, fl [[.int .u32 c.nx], [.slice x.ao x.no x.co], [.int .i64 c.tn], [.int .u32 c.dl], [.slice x.ah x.nh x.ch]], 26⟩) rfl), (hB.get 1 (x := ⟨w.heap.size + 1, fl [[.int .u32 c.nx], [.slice y.ao y.no y.co], [.int .i64 c.tn], [.int .u32 c.dl], [.slice y.ah y.nh y.ch]], 26⟩) rfl), hB.gr⟩ ?_
  simp only [Act.put, List.setIfInBounds_toArray, List.set_cons_zero, List.set_cons_succ, List.getElem_toArray, List.getElem_cons_zero, List.getElem_cons_succ]
  refine any_take (i := 16) (v := (.int .u32 77)) #[true, true, true, true, true, true, true, true, true, true, true, true, true, true, true, true, false, false, false, false, false, false, false, false, false, false, false, false, false, false, false, false, false, false, false, false] rfl (by kernel_rfl) (by kernel_rfl) (by kernel_rfl) (by kernel_rfl) (fun _ _ _ h => h) (.inl ⟨by kernel_rfl, fun x_ hu => exec_c32 _ (.tmp 20) rfl gO (0 + 106 * x.no) (by kernel_rfl) 77 (hu.2.2.cell (unhide kO))⟩) ⟨(hB.get 0 (x := ⟨w.heap.size, fl [[.int .u32 c.nx], [.slice x.ao x.no x.co], [.int .i64 c.tn], [.int .u32 c.dl], [.slice x.ah x.nh x.ch]], 26⟩) rfl), (hB.get 1 (x := ⟨w.heap.size + 1, fl [[.int .u32 c.nx], [.slice y.ao y.no y.co], [.int .i64 c.tn], [.int .u32 c.dl], [.slice y.ah y.nh y.ch]], 26⟩) rfl), hB.gr⟩ ?_
  simp only [Act.put, List.setIfInBounds_toArray, List.set_cons_zero, List.set_cons_succ, List.getElem_toArray, List.getElem_cons_zero, List.getElem_cons_succ]
  refine any_take (i := 17) (v := (.bool true)) #[true, true, true, true, true, true, true, true, true, true, true, true, true, true, true, true, true, false, false, false, false, false, false, false, false, false, false, false, false, false, false, false, false, false, false, false] rfl (by kernel_rfl) (by kernel_rfl) (by kernel_rfl) (by kernel_rfl) (fun _ _ _ h => h) (.inl ⟨by kernel_rfl, fun x_ hu => eql_32 _ (.tmp 21) (.const (.int .u32 77)) 77 77 true rfl (by kernel_rfl) (by kernel_rfl) (by decide)⟩) ⟨(hB.get 0 (x := ⟨w.heap.size, fl [[.int .u32 c.nx], [.slice x.ao x.no x.co], [.int .i64 c.tn], [.int .u32 c.dl], [.slice x.ah x.nh x.ch]], 26⟩) rfl), (hB.get 1 (x := ⟨w.heap.size + 1, fl [[.int .u32 c.nx], [.slice y.ao y.no y.co], [.int .i64 c.tn], [.int .u32 c.dl], [.slice y.ah y.nh y.ch]], 26⟩) rfl), hB.gr⟩ ?_
  simp only [Act.put, List.setIfInBounds_toArray, List.set_cons_zero, List.set_cons_succ, List.getElem_toArray, List.getElem_cons_zero, List.getElem_cons_succ]
  refine any_take (i := 18) (v := (.bool true)) #[true, true, true, true, true, true, true, true, true, true, true, true, true, true, true, true, true, true, false, false, false, false, false, false, false, false, false, false, false, false, false, false, false, false, false, false] rfl (by kernel_rfl) (by kernel_rfl) (by kernel_rfl) (by kernel_rfl) (fun _ _ _ h => h) (.inl ⟨by kernel_rfl, fun x_ hu => by kernel_rfl⟩) ⟨(hB.get 0 (x := ⟨w.heap.size, fl [[.int .u32 c.nx], [.slice x.ao x.no x.co], [.int .i64 c.tn], [.int .u32 c.dl], [.slice x.ah x.nh x.ch]], 26⟩) rfl), (hB.get 1 (x := ⟨w.heap.size + 1, fl [[.int .u32 c.nx], [.slice y.ao y.no y.co], [.int .i64 c.tn], [.int .u32 c.dl], [.slice y.ah y.nh y.ch]], 26⟩) rfl), hB.gr⟩ ?_
  simp only [Act.put, List.setIfInBounds_toArray, List.set_cons_zero, List.set_cons_succ, List.getElem_toArray, List.getElem_cons_zero, List.getElem_cons_succ]
  refine any_take (i := 19) (v := (.bool true)) #[true, true, true, true, true, true, true, true, true, true, true, true, true, true, true, true, true, true, true, false, false, false, false, false, false, false, false, false, false, false, false, false, false, false, false, false] rfl (by kernel_rfl) (by kernel_rfl) (by kernel_rfl) (by kernel_rfl) (fun _ _ _ h => h) (.inl ⟨by kernel_rfl, fun x_ hu => by kernel_rfl⟩) ⟨(hB.get 0 (x := ⟨w.heap.size, fl [[.int .u32 c.nx], [.slice x.ao x.no x.co], [.int .i64 c.tn], [.int .u32 c.dl], [.slice x.ah x.nh x.ch]], 26⟩) rfl), (hB.get 1 (x := ⟨w.heap.size + 1, fl [[.int .u32 c.nx], [.slice y.ao y.no y.co], [.int .i64 c.tn], [.int .u32 c.dl], [.slice y.ah y.nh y.ch]], 26⟩) rfl), hB.gr⟩ ?_
  simp only [Act.put, List.setIfInBounds_toArray, List.set_cons_zero, List.set_cons_succ, List.getElem_toArray, List.getElem_cons_zero, List.getElem_cons_succ]
  refine any_take (i := 20) (v := (.pointer (some ⟨w.heap.size, 4, none⟩))) #[true, true, true, true, true, true, true, true, true, true, true, true, true, true, true, true, true, true, true, true, false, false, false, false, false, false, false, false, false, false, false, false, false, false, false, false] rfl (by kernel_rfl) (by kernel_rfl) (by kernel_rfl) (by kernel_rfl) (fun _ _ _ h => h) (.inl ⟨by kernel_rfl, fun x_ hu => by kernel_rfl⟩) ⟨(hB.get 0 (x := ⟨w.heap.size, fl [[.int .u32 c.nx], [.slice x.ao x.no x.co], [.int .i64 c.tn], [.int .u32 c.dl], [.slice x.ah x.nh x.ch]], 26⟩) rfl), (hB.get 1 (x := ⟨w.heap.size + 1, fl [[.int .u32 c.nx], [.slice y.ao y.no y.co], [.int .i64 c.tn], [.int .u32 c.dl], [.slice y.ah y.nh y.ch]], 26⟩) rfl), hB.gr⟩ ?_
  simp only [Act.put, List.setIfInBounds_toArray, List.set_cons_zero, List.set_cons_succ, List.getElem_toArray, List.getElem_cons_zero, List.getElem_cons_succ]
  refine any_take (i := 21) (v := (.slice x.ah x.nh x.ch)) #[true, true, true, true, true, true, true, true, true, true, true, true, true, true, true, true, true, true, true, true, true, false, false, false, false, false, false, false, false, false, false, false, false, false, false, false] rfl (by kernel_rfl) (by kernel_rfl) (by kernel_rfl) (by kernel_rfl) (fun _ _ _ h => h) (.inl ⟨by kernel_rfl, fun x_ hu => exec_csI _ (.tmp 25) rfl (w.heap.size) 4 (by kernel_rfl) x.ah x.nh x.ch (seg_cell (nC  _ _ _ _ _) hu.1 4 (v := .slice x.ah x.nh x.ch) rfl rfl)⟩) ⟨(hB.get 0 (x := ⟨w.heap.size, fl [[.int .u32 c.nx], [.slice x.ao x.no x.co], [.int .i64 c.tn], [.int .u32 c.dl], [.slice x.ah x.nh x.ch]], 26⟩) rfl), (hB.get 1 (x := ⟨w.heap.size + 1, fl [[.int .u32 c.nx], [.slice y.ao y.no y.co], [.int .i64 c.tn], [.int .u32 c.dl], [.slice y.ah y.nh y.ch]], 26⟩) rfl), hB.gr⟩ ?_
  simp only [Act.put, List.setIfInBounds_toArray, List.set_cons_zero, List.set_cons_succ, List.getElem_toArray, List.getElem_cons_zero, List.getElem_cons_succ]
  refine any_take (i := 22) (v := (.pointer (some ⟨w.heap.size, 4, none⟩))) #[true, true, true, true, true, true, true, true, true, true, true, true, true, true, true, true, true, true, true, true, true, true, false, false, false, false, false, false, false, false, false, false, false, false, false, false] rfl (by kernel_rfl) (by kernel_rfl) (by kernel_rfl) (by kernel_rfl) (fun _ _ _ h => h) (.inl ⟨by kernel_rfl, fun x_ hu => by kernel_rfl⟩) ⟨(hB.get 0 (x := ⟨w.heap.size, fl [[.int .u32 c.nx], [.slice x.ao x.no x.co], [.int .i64 c.tn], [.int .u32 c.dl], [.slice x.ah x.nh x.ch]], 26⟩) rfl), (hB.get 1 (x := ⟨w.heap.size + 1, fl [[.int .u32 c.nx], [.slice y.ao y.no y.co], [.int .i64 c.tn], [.int .u32 c.dl], [.slice y.ah y.nh y.ch]], 26⟩) rfl), hB.gr⟩ ?_
  simp only [Act.put, List.setIfInBounds_toArray, List.set_cons_zero, List.set_cons_succ, List.getElem_toArray, List.getElem_cons_zero, List.getElem_cons_succ]
  refine any_take (i := 23) (v := (.slice x.ah x.nh x.ch)) #[true, true, true, true, true, true, true, true, true, true, true, true, true, true, true, true, true, true, true, true, true, true, true, false, false, false, false, false, false, false, false, false, false, false, false, false] rfl (by kernel_rfl) (by kernel_rfl) (by kernel_rfl) (by kernel_rfl) (fun _ _ _ h => h) (.inl ⟨by kernel_rfl, fun x_ hu => exec_csI _ (.tmp 27) rfl (w.heap.size) 4 (by kernel_rfl) x.ah x.nh x.ch (seg_cell (nC  _ _ _ _ _) hu.1 4 (v := .slice x.ah x.nh x.ch) rfl rfl)⟩) ⟨(hB.get 0 (x := ⟨w.heap.size, fl [[.int .u32 c.nx], [.slice x.ao x.no x.co], [.int .i64 c.tn], [.int .u32 c.dl], [.slice x.ah x.nh x.ch]], 26⟩) rfl), (hB.get 1 (x := ⟨w.heap.size + 1, fl [[.int .u32 c.nx], [.slice y.ao y.no y.co], [.int .i64 c.tn], [.int .u32 c.dl], [.slice y.ah y.nh y.ch]], 26⟩) rfl), hB.gr⟩ ?_
  simp only [Act.put, List.setIfInBounds_toArray, List.set_cons_zero, List.set_cons_succ, List.getElem_toArray, List.getElem_cons_zero, List.getElem_cons_succ]
  refine any_take (i := 24) (v := (.int .i64 (x.nh : Int))) #[true, true, true, true, true, true, true, true, true, true, true, true, true, true, true, true, true, true, true, true, true, true, true, true, false, false, false, false, false, false, false, false, false, false, false, false] rfl (by kernel_rfl) (by kernel_rfl) (by kernel_rfl) (by kernel_rfl) (fun _ _ _ h => h) (.inl ⟨by kernel_rfl, fun x_ hu => by kernel_rfl⟩) ⟨(hB.get 0 (x := ⟨w.heap.size, fl [[.int .u32 c.nx], [.slice x.ao x.no x.co], [.int .i64 c.tn], [.int .u32 c.dl], [.slice x.ah x.nh x.ch]], 26⟩) rfl), (hB.get 1 (x := ⟨w.heap.size + 1, fl [[.int .u32 c.nx], [.slice y.ao y.no y.co], [.int .i64 c.tn], [.int .u32 c.dl], [.slice y.ah y.nh y.ch]], 26⟩) rfl), hB.gr⟩ ?_
  simp only [Act.put, List.setIfInBounds_toArray, List.set_cons_zero, List.set_cons_succ, List.getElem_toArray, List.getElem_cons_zero, List.getElem_cons_succ]
  refine any_take (i := 25) (v := (.int .i64 ((x.nh + 1 : Nat) : Int))) #[true, true, true, true, true, true, true, true, true, true, true, true, true, true, true, true, true, true, true, true, true, true, true, true, true, false, false, false, false, false, false, false, false, false, false, false] rfl (by kernel_rfl) (by kernel_rfl) (by kernel_rfl) (by kernel_rfl) (fun _ _ _ h => h) (.inl ⟨by kernel_rfl, fun x_ hu => add_i _ (.tmp 29) (.const (.int .i64 1)) (x.nh : Int) 1 rfl (by kernel_rfl) (by kernel_rfl) _ (by omega) (by omega)⟩) ⟨(hB.get 0 (x := ⟨w.heap.size, fl [[.int .u32 c.nx], [.slice x.ao x.no x.co], [.int .i64 c.tn], [.int .u32 c.dl], [.slice x.ah x.nh x.ch]], 26⟩) rfl), (hB.get 1 (x := ⟨w.heap.size + 1, fl [[.int .u32 c.nx], [.slice y.ao y.no y.co], [.int .i64 c.tn], [.int .u32 c.dl], [.slice y.ah y.nh y.ch]], 26⟩) rfl), hB.gr⟩ ?_
  simp only [Act.put, List.setIfInBounds_toArray, List.set_cons_zero, List.set_cons_succ, List.getElem_toArray, List.getElem_cons_zero, List.getElem_cons_succ]
  refine any_take (i := 26) (v := (.slice x.ah (x.nh + 1) x.ch)) #[true, true, true, true, true, true, true, true, true, true, true, true, true, true, true, true, true, true, true, true, true, true, true, true, true, true, false, false, false, false, false, false, false, false, false, false] rfl (by kernel_rfl) (by kernel_rfl) (by kernel_rfl) (by kernel_rfl) (fun _ _ _ h => h) (.inl ⟨by kernel_rfl, fun x_ hu => exec_upI _ (.tmp 26) (.tmp 30) rfl x.ah x.nh x.ch (x.nh + 1) (by kernel_rfl) (by kernel_rfl) cH⟩) ⟨(hB.get 0 (x := ⟨w.heap.size, fl [[.int .u32 c.nx], [.slice x.ao x.no x.co], [.int .i64 c.tn], [.int .u32 c.dl], [.slice x.ah x.nh x.ch]], 26⟩) rfl), (hB.get 1 (x := ⟨w.heap.size + 1, fl [[.int .u32 c.nx], [.slice y.ao y.no y.co], [.int .i64 c.tn], [.int .u32 c.dl], [.slice y.ah y.nh y.ch]], 26⟩) rfl), hB.gr⟩ ?_
  simp only [Act.put, List.setIfInBounds_toArray, List.set_cons_zero, List.set_cons_succ, List.getElem_toArray, List.getElem_cons_zero, List.getElem_cons_succ]
  refine any_take (i := 27) (v := (.pointer (some ⟨w.heap.size, 4, none⟩))) #[true, true, true, true, true, true, true, true, true, true, true, true, true, true, true, true, true, true, true, true, true, true, true, true, true, true, true, false, false, false, false, false, false, false, false, false] rfl (by kernel_rfl) (by kernel_rfl) (by kernel_rfl) (by kernel_rfl) (fun _ _ _ h => h) (.inl ⟨by kernel_rfl, fun x_ hu => by kernel_rfl⟩) ⟨(hB.get 0 (x := ⟨w.heap.size, fl [[.int .u32 c.nx], [.slice x.ao x.no x.co], [.int .i64 c.tn], [.int .u32 c.dl], [.slice x.ah x.nh x.ch]], 26⟩) rfl), (hB.get 1 (x := ⟨w.heap.size + 1, fl [[.int .u32 c.nx], [.slice y.ao y.no y.co], [.int .i64 c.tn], [.int .u32 c.dl], [.slice y.ah y.nh y.ch]], 26⟩) rfl), hB.gr⟩ ?_
  simp only [Act.put, List.setIfInBounds_toArray, List.set_cons_zero, List.set_cons_succ, List.getElem_toArray, List.getElem_cons_zero, List.getElem_cons_succ]
  refine any_take (i := 28) (v := (.slice x.ah x.nh x.ch)) #[true, true, true, true, true, true, true, true, true, true, true, true, true, true, true, true, true, true, true, true, true, true, true, true, true, true, true, true, false, false, false, false, false, false, false, false] rfl (by kernel_rfl) (by kernel_rfl) (by kernel_rfl) (by kernel_rfl) (fun _ _ _ h => h) (.inl ⟨by kernel_rfl, fun x_ hu => exec_csI _ (.tmp 32) rfl (w.heap.size) 4 (by kernel_rfl) x.ah x.nh x.ch (seg_cell (nC  _ _ _ _ _) hu.1 4 (v := .slice x.ah x.nh x.ch) rfl rfl)⟩) ⟨(hB.get 0 (x := ⟨w.heap.size, fl [[.int .u32 c.nx], [.slice x.ao x.no x.co], [.int .i64 c.tn], [.int .u32 c.dl], [.slice x.ah x.nh x.ch]], 26⟩) rfl), (hB.get 1 (x := ⟨w.heap.size + 1, fl [[.int .u32 c.nx], [.slice y.ao y.no y.co], [.int .i64 c.tn], [.int .u32 c.dl], [.slice y.ah y.nh y.ch]], 26⟩) rfl), hB.gr⟩ ?_
  simp only [Act.put, List.setIfInBounds_toArray, List.set_cons_zero, List.set_cons_succ, List.getElem_toArray, List.getElem_cons_zero, List.getElem_cons_succ]
  refine any_take (i := 29) (v := (.int .i64 (x.nh : Int))) #[true, true, true, true, true, true, true, true, true, true, true, true, true, true, true, true, true, true, true, true, true, true, true, true, true, true, true, true, true, false, false, false, false, false, false, false] rfl (by kernel_rfl) (by kernel_rfl) (by kernel_rfl) (by kernel_rfl) (fun _ _ _ h => h) (.inl ⟨by kernel_rfl, fun x_ hu => by kernel_rfl⟩) ⟨(hB.get 0 (x := ⟨w.heap.size, fl [[.int .u32 c.nx], [.slice x.ao x.no x.co], [.int .i64 c.tn], [.int .u32 c.dl], [.slice x.ah x.nh x.ch]], 26⟩) rfl), (hB.get 1 (x := ⟨w.heap.size + 1, fl [[.int .u32 c.nx], [.slice y.ao y.no y.co], [.int .i64 c.tn], [.int .u32 c.dl], [.slice y.ah y.nh y.ch]], 26⟩) rfl), hB.gr⟩ ?_
  simp only [Act.put, List.setIfInBounds_toArray, List.set_cons_zero, List.set_cons_succ, List.getElem_toArray, List.getElem_cons_zero, List.getElem_cons_succ]
  refine any_take (i := 30) (v := (.pointer (some ⟨gH, 0 + 2 * x.nh, none⟩))) #[true, true, true, true, true, true, true, true, true, true, true, true, true, true, true, true, true, true, true, true, true, true, true, true, true, true, true, true, true, true, false, false, false, false, false, false] rfl (by kernel_rfl) (by kernel_rfl) (by kernel_rfl) (by kernel_rfl) (fun _ _ _ h => h) (.inl ⟨by kernel_rfl, fun x_ hu => exec_isi _ (.tmp 31) (.tmp 34) rfl gH 0 (x.nh + 1) x.ch x.nh (by rw [← unhide eH]; kernel_rfl) (by kernel_rfl) (by omega)⟩) ⟨(hB.get 0 (x := ⟨w.heap.size, fl [[.int .u32 c.nx], [.slice x.ao x.no x.co], [.int .i64 c.tn], [.int .u32 c.dl], [.slice x.ah x.nh x.ch]], 26⟩) rfl), (hB.get 1 (x := ⟨w.heap.size + 1, fl [[.int .u32 c.nx], [.slice y.ao y.no y.co], [.int .i64 c.tn], [.int .u32 c.dl], [.slice y.ah y.nh y.ch]], 26⟩) rfl), hB.gr⟩ ?_
  simp only [Act.put, List.setIfInBounds_toArray, List.set_cons_zero, List.set_cons_succ, List.getElem_toArray, List.getElem_cons_zero, List.getElem_cons_succ]
  refine any_take (i := 31) (v := (.pointer (some ⟨gH, 0 + 2 * x.nh, none⟩))) #[true, true, true, true, true, true, true, true, true, true, true, true, true, true, true, true, true, true, true, true, true, true, true, true, true, true, true, true, true, true, true, false, false, false, false, false] rfl (by kernel_rfl) (by kernel_rfl) (by kernel_rfl) (by kernel_rfl) (fun _ _ _ h => h) (.inl ⟨by kernel_rfl, fun x_ hu => by kernel_rfl⟩) ⟨(hB.get 0 (x := ⟨w.heap.size, fl [[.int .u32 c.nx], [.slice x.ao x.no x.co], [.int .i64 c.tn], [.int .u32 c.dl], [.slice x.ah x.nh x.ch]], 26⟩) rfl), (hB.get 1 (x := ⟨w.heap.size + 1, fl [[.int .u32 c.nx], [.slice y.ao y.no y.co], [.int .i64 c.tn], [.int .u32 c.dl], [.slice y.ah y.nh y.ch]], 26⟩) rfl), hB.gr⟩ ?_
  simp only [Act.put, List.setIfInBounds_toArray, List.set_cons_zero, List.set_cons_succ, List.getElem_toArray, List.getElem_cons_zero, List.getElem_cons_succ]
  refine any_take (i := 32) (v := (.int .u32 77)) #[true, true, true, true, true, true, true, true, true, true, true, true, true, true, true, true, true, true, true, true, true, true, true, true, true, true, true, true, true, true, true, true, false, false, false, false] rfl (by kernel_rfl) (by kernel_rfl) (by kernel_rfl) (by kernel_rfl) (fun _ _ _ h => h) (.inl ⟨by kernel_rfl, fun x_ hu => exec_c32 _ (.tmp 36) rfl gH (0 + 2 * x.nh) (by kernel_rfl) 77 (hu.2.2.cell (unhide kH))⟩) ⟨(hB.get 0 (x := ⟨w.heap.size, fl [[.int .u32 c.nx], [.slice x.ao x.no x.co], [.int .i64 c.tn], [.int .u32 c.dl], [.slice x.ah x.nh x.ch]], 26⟩) rfl), (hB.get 1 (x := ⟨w.heap.size + 1, fl [[.int .u32 c.nx], [.slice y.ao y.no y.co], [.int .i64 c.tn], [.int .u32 c.dl], [.slice y.ah y.nh y.ch]], 26⟩) rfl), hB.gr⟩ ?_
  simp only [Act.put, List.setIfInBounds_toArray, List.set_cons_zero, List.set_cons_succ, List.getElem_toArray, List.getElem_cons_zero, List.getElem_cons_succ]
  refine any_take (i := 33) (v := (.bool true)) #[true, true, true, true, true, true, true, true, true, true, true, true, true, true, true, true, true, true, true, true, true, true, true, true, true, true, true, true, true, true, true, true, true, false, false, false] rfl (by kernel_rfl) (by kernel_rfl) (by kernel_rfl) (by kernel_rfl) (fun _ _ _ h => h) (.inl ⟨by kernel_rfl, fun x_ hu => eql_32 _ (.tmp 37) (.const (.int .u32 77)) 77 77 true rfl (by kernel_rfl) (by kernel_rfl) (by decide)⟩) ⟨(hB.get 0 (x := ⟨w.heap.size, fl [[.int .u32 c.nx], [.slice x.ao x.no x.co], [.int .i64 c.tn], [.int .u32 c.dl], [.slice x.ah x.nh x.ch]], 26⟩) rfl), (hB.get 1 (x := ⟨w.heap.size + 1, fl [[.int .u32 c.nx], [.slice y.ao y.no y.co], [.int .i64 c.tn], [.int .u32 c.dl], [.slice y.ah y.nh y.ch]], 26⟩) rfl), hB.gr⟩ ?_
  simp only [Act.put, List.setIfInBounds_toArray, List.set_cons_zero, List.set_cons_succ, List.getElem_toArray, List.getElem_cons_zero, List.getElem_cons_succ]
  refine any_take (i := 34) (v := (.bool true)) #[true, true, true, true, true, true, true, true, true, true, true, true, true, true, true, true, true, true, true, true, true, true, true, true, true, true, true, true, true, true, true, true, true, true, false, false] rfl (by kernel_rfl) (by kernel_rfl) (by kernel_rfl) (by kernel_rfl) (fun _ _ _ h => h) (.inl ⟨by kernel_rfl, fun x_ hu => by kernel_rfl⟩) ⟨(hB.get 0 (x := ⟨w.heap.size, fl [[.int .u32 c.nx], [.slice x.ao x.no x.co], [.int .i64 c.tn], [.int .u32 c.dl], [.slice x.ah x.nh x.ch]], 26⟩) rfl), (hB.get 1 (x := ⟨w.heap.size + 1, fl [[.int .u32 c.nx], [.slice y.ao y.no y.co], [.int .i64 c.tn], [.int .u32 c.dl], [.slice y.ah y.nh y.ch]], 26⟩) rfl), hB.gr⟩ ?_
  simp only [Act.put, List.setIfInBounds_toArray, List.set_cons_zero, List.set_cons_succ, List.getElem_toArray, List.getElem_cons_zero, List.getElem_cons_succ]
  refine any_one (i := 35) (by kernel_rfl) rfl (fun K hK => ?_)
  replace hK := hide hK
  go_simp
  refine (unhide hK).out _ _ ⟨(hB.get 0 (x := ⟨w.heap.size, fl [[.int .u32 c.nx], [.slice x.ao x.no x.co], [.int .i64 c.tn], [.int .u32 c.dl], [.slice x.ah x.nh x.ch]], 26⟩) rfl), (hB.get 1 (x := ⟨w.heap.size + 1, fl [[.int .u32 c.nx], [.slice y.ao y.no y.co], [.int .i64 c.tn], [.int .u32 c.dl], [.slice y.ah y.nh y.ch]], 26⟩) rfl), hB.gr⟩ (fun _ => ?_)
  clear hK K
  simp only [Act.put, List.setIfInBounds_toArray, List.set_cons_zero, List.set_cons_succ, List.getElem_toArray, List.getElem_cons_zero, List.getElem_cons_succ]
  refine any_done (by kernel_rfl) ?_
  replace hB := hide hB
  go_wp2_with fail
  replace hB := unhide hB
  rw [unhide hT]
  exact (⟨rfl, hB.gr⟩)
end Go.Proofs.Ytcefkkoombmndaa
