/-
  The law's spoil and whole.
-/
import Derived.Test.YtcefkkoombmndaaUO
namespace Go.Proofs.Ytcefkkoombmndaa
open Go.RowKit
set_option maxRecDepth 100000
set_option linter.unusedSimpArgs false
set_option linter.unusedVariables false
theorem sp_len : ∀ (vs : List Value) (C : List Value) (o : Nat), (sp C o vs).length = C.length
  | [], C, o => rfl
  | v :: r, C, o => by rw [sp, sp_len r, List.length_set]
theorem Ow.st {k : Nat} {e : TypeId} {b g o : Nat} {w : World} {a : Option Addr} {n : Nat} (h : Ow k e b w a n) {C vs : List Value} {t : TypeId} (hg : w.heap[g]? = some (.cells C.toArray t (0, 0))) : Ow k e b (w.setCells g o vs) a n := by
  rcases h with h | ⟨q, o2, C2, h1, h2, h3, h4⟩
  · exact .inl h
  · by_cases hq : q = g
    · subst hq
      rw [hg] at h3
      injection h3 with h3
      injection h3 with h5 h6 _
      have h5 : C = C2 := by simpa using h5
      subst h5 h6
      exact .inr ⟨q, o2, _, h1, h2, setCells_heap vs w q o C t hg, by rw [sp_len]; exact h4⟩
    · exact .inr ⟨q, o2, C2, h1, h2, by rw [setCells_other vs w g o q hq]; exact h3, h4⟩
/-- blocks below b stay, and blocks that hold neither messages nor texts -/
def Sp (b : Nat) (w w' : World) : Prop := Below b w w' ∧ ∀ (i : Nat) (C : Array Value) (t : TypeId), w.heap[i]? = some (.cells C t (0, 0)) → t ≠ 39 → t ≠ 47 → w'.heap[i]? = some (.cells C t (0, 0))
theorem sp_gr {b : Nat} {w v : World} (h : Gr w v) (hb : b ≤ w.heap.size) : Sp b w v := ⟨⟨h.os, h.tape, h.output, h.size, fun i hi => h.block i (by omega)⟩, fun i C t hi _ _ => h.blk hi⟩
theorem sp_st {b g o : Nat} {w v : World} {C vs : List Value} {t : TypeId} (h : Sp b w v) (hb : b ≤ g) (hw : b ≤ w.heap.size) (hg : v.heap[g]? = some (.cells C.toArray t (0, 0))) (ht : t = 39 ∨ t = 47) : Sp b w (v.setCells g o vs) := by
  have m := setCells_bt vs v g o
  refine ⟨⟨m.os.trans h.1.os, m.tape.trans h.1.tape, m.output.trans h.1.output, Nat.le_trans h.1.size m.size, fun i hi => (m.block i (Nat.lt_of_lt_of_le hi (Nat.le_trans hw h.1.size)) (by omega)).trans (h.1.block i hi)⟩, fun i D u hi h1 h2 => ?_⟩
  have h3 := h.2 i D u hi h1 h2
  by_cases hig : i = g
  · subst hig
    rw [hg] at h3
    injection h3 with h3
    injection h3 with _ h3 _
    rcases ht with ht | ht
    · exact absurd (h3.symm.trans ht) h1
    · exact absurd (h3.symm.trans ht) h2
  · rw [setCells_other vs v g o i hig]
    exact h3
theorem Bl.sp {b : Nat} {w u v : World} {L : List Blk} (h : Bl w L u) (s : Sp b u v) (hb : w.heap.size ≤ b) (ht : ∀ y ∈ L, y.t ≠ 39 ∧ y.t ≠ 47) : Bl w L v :=
  ⟨⟨s.1.os.trans h.gr.os, s.1.tape.trans h.gr.tape, s.1.output.trans h.gr.output, Nat.le_trans h.gr.size s.1.size, fun i hi => (s.1.block i (Nat.lt_of_lt_of_le hi hb)).trans (h.gr.block i hi)⟩, fun x hx => ⟨s.2 _ _ _ (h.at_ x hx).1 (ht x hx).1 (ht x hx).2, (h.at_ x hx).2⟩, h.ne⟩
def Bz (b : Nat) (w : World) : Prop := b ≤ w.heap.size
theorem Bz.gr {b : Nat} {w v : World} (h : Bz b w) (g : Gr w v) : Bz b v := Nat.le_trans h g.size
theorem Bz.bz {b g : Nat} {w v : World} (h : Bz b w) {C : Array Value} {t : TypeId} (hg : w.heap[g]? = some (.cells C t (0, 0))) (m : Bt g w v) : Bz b v := Nat.le_trans h m.size
set_option maxHeartbeats 4000000 in
theorem spoil_ok (c : Cm) (x : Lc) (b : Nat) (w : World) (hb : b ≤ w.heap.size) (hc : Cin w c x) (ho : Owx b w x) : Calls Try.prog 17 #[.agg (fl [[.int .u32 c.nx], [.slice x.ao x.no x.co], [.int .i64 c.tn], [.int .u32 c.dl], [.slice x.ah x.nh x.ch]])] w (fun r w' => r = .returned (.tuple #[]) ∧ Sp b w w') := by
  obtain ⟨T, hT⟩ : ∃ T : Ending → World → Prop, T = (fun r w' => r = .returned (.tuple #[]) ∧ Sp b w w') := ⟨_, rfl⟩
  rw [← hT]
  replace hT := hide hT
  have hb1 := hc.o.2.cap
  have hb2 := hc.o.2.max
  have hb3 := hc.h.2.cap
  have hb4 := hc.h.2.max
  replace hc := hide hc
  obtain ⟨A0_, hA0_⟩ : ∃ S_, S_ = fl [[.int .u32 c.nx], [.slice x.ao x.no x.co], [.int .i64 c.tn], [.int .u32 c.dl], [.slice x.ah x.nh x.ch]] := ⟨_, rfl⟩
  rw [← hA0_]
  replace hA0_ := hide hA0_
  go_enter Try.func17, Try.ntmps17
  go_upto_region 1 with fail
  have hB := ((Bl.nil w).new A0_ 26)
  simp only [size_alloc, List.nil_append, List.cons_append] at hB
  rw [unhide hA0_] at hB
  generalize hu_ : World.alloc _ _ = u0
  replace hB : Bl w [⟨w.heap.size, fl [[.int .u32 c.nx], [.slice x.ao x.no x.co], [.int .i64 c.tn], [.int .u32 c.dl], [.slice x.ah x.nh x.ch]], 26⟩] u0 := by
    rw [← hu_]
    rw [unhide hA0_]
    exact hB
  clear hu_ hA0_
  refine wp_region_lit ?_
  refine lvk (.pointer (some ⟨w.heap.size, 1, none⟩)) ?_
  simp only [nrm]
  refine list_val (.slice x.ao x.no x.co) (by kernel_rfl) (exec_csO _ (.tmp 4) rfl (w.heap.size) 1 (by kernel_rfl) x.ao x.no x.co (seg_cell (nC  _ _ _ _ _) (hB.get 0 (x := ⟨w.heap.size, fl [[.int .u32 c.nx], [.slice x.ao x.no x.co], [.int .i64 c.tn], [.int .u32 c.dl], [.slice x.ah x.nh x.ch]], 26⟩) rfl) 1 (v := .slice x.ao x.no x.co) rfl rfl)) ?_
  simp only [nrm]
  refine lvk (.int .i64 (x.no : Int)) ?_
  simp only [nrm]
  refine lvk (.int .i64 0) ?_
  simp only [nrm]
  refine wpList_nil ?_
  have hv : Hid (Sp b w u0 ∧ u0.heap[w.heap.size]? = some (.cells (fl [[.int .u32 c.nx], [.slice x.ao x.no x.co], [.int .i64 c.tn], [.int .u32 c.dl], [.slice x.ah x.nh x.ch]]) 26 (0, 0)) ∧ Owx b u0 x) := hide ⟨sp_gr hB.gr hb, hB.get 0 (x := ⟨w.heap.size, fl [[.int .u32 c.nx], [.slice x.ao x.no x.co], [.int .i64 c.tn], [.int .u32 c.dl], [.slice x.ah x.nh x.ch]], 26⟩) rfl, ho.gr hB.gr⟩
  clear hB ho
  obtain ⟨B0, hB0⟩ : ∃ B0, B0 = w.heap.size := ⟨_, rfl⟩
  have hbB : b ≤ B0 := by omega
  rw [← hB0] at hv ⊢
  replace hB0 := hide hB0
  go_wp2_with fail
  go_loopw [7] (fun i wr => ∃ j : Nat, j ≤ x.no ∧ i = .int .i64 (j : Int) ∧ Hid (Sp b w wr ∧ wr.heap[B0]? = some (.cells (fl [[.int .u32 c.nx], [.slice x.ao x.no x.co], [.int .i64 c.tn], [.int .u32 c.dl], [.slice x.ah x.nh x.ch]]) 26 (0, 0)) ∧ Owx b wr x)) (fun i _ => x.no - (intOf i).toNat)
  case atStart => exact ⟨0, by omega, rfl, hv⟩
  case round =>
  clear hv
  obtain ⟨j, hj, rfl, hv⟩ := hrel
  by_cases hlt : j < x.no
  · have jI : (j : Int) < (x.no : Int) := by omega
    obtain ⟨g, o, C, ha, hbg, hg, hol⟩ : ∃ g o C, x.ao = some ⟨g, o, none⟩ ∧ b ≤ g ∧ wr.heap[g]? = some (.cells (C : List Value).toArray 39 (0, 0)) ∧ o + 106 * x.no ≤ C.length := by
      rcases (unhide hv).2.2.o with h | h
      · omega
      · exact h
    have hne : g ≠ B0 := by
      rintro rfl
      have h1 := (unhide hv).2.1
      rw [hg] at h1
      injection h1 with h1
      injection h1 with _ h1 _
      exact absurd h1 (by decide)
    have hB := Bl.nil wr
    replace ha := hide ha; replace hg := hide hg
    replace hB := hide hB
    go_upto_region 3 with fail
    replace hB := unhide hB
    refine wp_region_lit ?_
    refine lvk (.int .i64 (j : Int)) ?_
    simp only [nrm]
    (refine wpList_step fun K hK => ?_; replace hK := hide hK; go_simp; refine unhide hK _ _ ?_; clear hK K)
    refine wpList_nil ?_
    replace hB := hide hB
    go_upto_region 4 with fail
    replace hB := unhide hB
    refine wp_region_lit ?_
    refine lvk (.pointer (some ⟨B0, 1, none⟩)) ?_
    simp only [nrm]
    refine list_val (.slice x.ao x.no x.co) (by kernel_rfl) (exec_csO _ (.tmp 10) rfl (B0) 1 (by kernel_rfl) x.ao x.no x.co (seg_cell (nC  _ _ _ _ _) (unhide hv).2.1 1 (v := .slice x.ao x.no x.co) rfl rfl)) ?_
    simp only [nrm]
    refine lvk (.int .i64 (j : Int)) ?_
    simp only [nrm]
    refine list_val (.agg (fl [[.int .u32 99], bw Z105])) (by kernel_rfl) (bO0 _ (.const (.int .u32 99)) rfl (by kernel_rfl)) ?_
    simp only [nrm]
    refine list_val (.pointer (some ⟨g, o + 106 * j, none⟩)) (by kernel_rfl) (exec_iso _ (.tmp 11) (.tmp 12) rfl g o x.no x.co j (by rw [← unhide ha]; kernel_rfl) (by kernel_rfl) hlt) ?_
    simp only [nrm]
    have hfit : o + 106 * j + (fl [[.int .u32 99], bw Z105]).size ≤ C.length := by
      rw [show (fl [[.int .u32 99], bw Z105]).size = 106 from rfl]
      omega
    refine wpList_step fun K hK => ?_
    refine list_store_mid 39 (.tmp 14) (.tmp 13) g (o + 106 * j) (fl [[.int .u32 99], bw Z105]) (by kernel_rfl) rfl (by kernel_rfl) (by kernel_rfl) (there_of (unhide hg) hfit) (by kernel_rfl) (by decide +kernel) ?_
    refine hK _ _ ?_
    clear hK K
    have hv2 : Hid (Sp b w (wr.setCells g (o + 106 * j) (fl [[.int .u32 99], bw Z105]).toList) ∧ (wr.setCells g (o + 106 * j) (fl [[.int .u32 99], bw Z105]).toList).heap[B0]? = some (.cells (fl [[.int .u32 c.nx], [.slice x.ao x.no x.co], [.int .i64 c.tn], [.int .u32 c.dl], [.slice x.ah x.nh x.ch]]) 26 (0, 0)) ∧ Owx b (wr.setCells g (o + 106 * j) (fl [[.int .u32 99], bw Z105]).toList) x) := hide ⟨sp_st (unhide hv).1 hbg hb (unhide hg) (by decide), by rw [setCells_other _ _ _ _ _ (Ne.symm hne)]; exact (unhide hv).2.1, ⟨(unhide hv).2.2.o.st (unhide hg), (unhide hv).2.2.h.st (unhide hg)⟩⟩
    generalize World.setCells _ _ _ _ = wn at *
    clear hv hg
    simp only [nrm]
    refine wpList_nil ?_
    clear hB
    have jw : IntKind.i64.wrap ((j : Int) + 1) = (j : Int) + 1 := by rw [IntKind.wrap_i64]; omega
    go_wp2_with fail
    go_roundw
    case rel => exact ⟨j + 1, by omega, by simp, hv2⟩
    case measure => simp [intOf]; omega
  · have jI : ¬ (j : Int) < (x.no : Int) := by omega
    obtain ⟨w9, hw9⟩ : ∃ w9, w9 = wr := ⟨_, rfl⟩
    rw [← hw9] at hv ⊢
    clear hw9
    have hB := Bl.nil w9
    replace hB := hide hB
    go_upto_region 6 with fail
    replace hB := unhide hB
    refine wp_region_lit ?_
    refine lvk (.pointer (some ⟨B0, 4, none⟩)) ?_
    simp only [nrm]
    refine list_val (.slice x.ah x.nh x.ch) (by kernel_rfl) (exec_csI _ (.tmp 16) rfl (B0) 4 (by kernel_rfl) x.ah x.nh x.ch (seg_cell (nC  _ _ _ _ _) (unhide hv).2.1 4 (v := .slice x.ah x.nh x.ch) rfl rfl)) ?_
    simp only [nrm]
    refine lvk (.int .i64 (x.nh : Int)) ?_
    simp only [nrm]
    refine lvk (.int .i64 0) ?_
    simp only [nrm]
    refine wpList_nil ?_
    clear hB
    go_wp2_with fail
    go_loopw [19] (fun i wr => ∃ j : Nat, j ≤ x.nh ∧ i = .int .i64 (j : Int) ∧ Hid (Sp b w wr ∧ wr.heap[B0]? = some (.cells (fl [[.int .u32 c.nx], [.slice x.ao x.no x.co], [.int .i64 c.tn], [.int .u32 c.dl], [.slice x.ah x.nh x.ch]]) 26 (0, 0)) ∧ Owx b wr x)) (fun i _ => x.nh - (intOf i).toNat)
    case atStart => exact ⟨0, by omega, rfl, hv⟩
    case round =>
    clear hv
    obtain ⟨j, hj, rfl, hv⟩ := hrel
    by_cases hlt : j < x.nh
    · have jI : (j : Int) < (x.nh : Int) := by omega
      obtain ⟨g, o, C, ha, hbg, hg, hol⟩ : ∃ g o C, x.ah = some ⟨g, o, none⟩ ∧ b ≤ g ∧ wr.heap[g]? = some (.cells (C : List Value).toArray 47 (0, 0)) ∧ o + 2 * x.nh ≤ C.length := by
        rcases (unhide hv).2.2.h with h | h
        · omega
        · exact h
      have hne : g ≠ B0 := by
        rintro rfl
        have h1 := (unhide hv).2.1
        rw [hg] at h1
        injection h1 with h1
        injection h1 with _ h1 _
        exact absurd h1 (by decide)
      have hB := Bl.nil wr
      replace ha := hide ha; replace hg := hide hg
      replace hB := hide hB
      go_upto_region 8 with fail
      replace hB := unhide hB
      refine wp_region_lit ?_
      refine lvk (.int .i64 (j : Int)) ?_
      simp only [nrm]
      (refine wpList_step fun K hK => ?_; replace hK := hide hK; go_simp; refine unhide hK _ _ ?_; clear hK K)
      refine wpList_nil ?_
      replace hB := hide hB
      go_upto_region 9 with fail
      replace hB := unhide hB
      refine wp_region_lit ?_
      refine lvk (.pointer (some ⟨B0, 4, none⟩)) ?_
      simp only [nrm]
      refine list_val (.slice x.ah x.nh x.ch) (by kernel_rfl) (exec_csI _ (.tmp 22) rfl (B0) 4 (by kernel_rfl) x.ah x.nh x.ch (seg_cell (nC  _ _ _ _ _) (unhide hv).2.1 4 (v := .slice x.ah x.nh x.ch) rfl rfl)) ?_
      simp only [nrm]
      refine lvk (.int .i64 (j : Int)) ?_
      simp only [nrm]
      refine list_val (.agg (fl [[.int .u32 99], [.string ByteArray.empty]])) (by kernel_rfl) (bI0 _ (.const (.int .u32 99)) rfl (by kernel_rfl)) ?_
      simp only [nrm]
      refine list_val (.pointer (some ⟨g, o + 2 * j, none⟩)) (by kernel_rfl) (exec_isi _ (.tmp 23) (.tmp 24) rfl g o x.nh x.ch j (by rw [← unhide ha]; kernel_rfl) (by kernel_rfl) hlt) ?_
      simp only [nrm]
      have hfit : o + 2 * j + (fl [[.int .u32 99], [.string ByteArray.empty]]).size ≤ C.length := by
        rw [show (fl [[.int .u32 99], [.string ByteArray.empty]]).size = 2 from rfl]
        omega
      refine wpList_step fun K hK => ?_
      refine list_store_mid 47 (.tmp 26) (.tmp 25) g (o + 2 * j) (fl [[.int .u32 99], [.string ByteArray.empty]]) (by kernel_rfl) rfl (by kernel_rfl) (by kernel_rfl) (there_of (unhide hg) hfit) (by kernel_rfl) (by decide +kernel) ?_
      refine hK _ _ ?_
      clear hK K
      have hv2 : Hid (Sp b w (wr.setCells g (o + 2 * j) (fl [[.int .u32 99], [.string ByteArray.empty]]).toList) ∧ (wr.setCells g (o + 2 * j) (fl [[.int .u32 99], [.string ByteArray.empty]]).toList).heap[B0]? = some (.cells (fl [[.int .u32 c.nx], [.slice x.ao x.no x.co], [.int .i64 c.tn], [.int .u32 c.dl], [.slice x.ah x.nh x.ch]]) 26 (0, 0)) ∧ Owx b (wr.setCells g (o + 2 * j) (fl [[.int .u32 99], [.string ByteArray.empty]]).toList) x) := hide ⟨sp_st (unhide hv).1 hbg hb (unhide hg) (by decide), by rw [setCells_other _ _ _ _ _ (Ne.symm hne)]; exact (unhide hv).2.1, ⟨(unhide hv).2.2.o.st (unhide hg), (unhide hv).2.2.h.st (unhide hg)⟩⟩
      generalize World.setCells _ _ _ _ = wn at *
      clear hv hg
      simp only [nrm]
      refine wpList_nil ?_
      clear hB
      have jw : IntKind.i64.wrap ((j : Int) + 1) = (j : Int) + 1 := by rw [IntKind.wrap_i64]; omega
      go_wp2_with fail
      go_roundw
      case rel => exact ⟨j + 1, by omega, by simp, hv2⟩
      case measure => simp [intOf]; omega
    · have jI : ¬ (j : Int) < (x.nh : Int) := by omega
      go_wp2_with fail
      rw [unhide hT]
      refine ⟨rfl, .tuple #[], ?_, rfl, (unhide hv).1⟩
      kernel_rfl
/-- a list's block, if it has one, is below b -/
def Bw (a : Option Addr) (n b : Nat) : Prop := n = 0 ∨ ∀ g, blkOf a = some g → g < b
theorem Ow.lt {k : Nat} {e : TypeId} {b : Nat} {w : World} {a : Option Addr} {n : Nat} (h : Ow k e b w a n) : Bw a n w.heap.size := by
  rcases h with h | ⟨q, o, C, rfl, h2, h3, h4⟩
  · exact .inl h
  · refine .inr fun g hg => ?_
    have h5 := lt_of_block h3
    have h6 : q = g := Option.some.inj hg
    omega
theorem Owx.lt {b : Nat} {w : World} {x : Lc} (h : Owx b w x) : Bw x.ao x.no w.heap.size ∧ Bw x.ah x.nh w.heap.size := ⟨h.o.lt, h.h.lt⟩
theorem lz_sp {k b : Nat} {w v : World} {a : Option Addr} {n c : Nat} {R : List (List Value)} (h : Lz k w a n c R) (s : Sp b w v) (hb : Bw a n b) : Lz k v a n c R := by
  refine ⟨h.len, h.row, ?_, h.cap, h.max⟩
  rcases h.sl with h1 | ⟨p, o, rfl, h2⟩
  · exact .inl h1
  · rcases hb with hn | hn
    · exact .inl (List.eq_nil_of_length_eq_zero (by rw [h.len, hn]))
    · refine .inr ⟨p, o, rfl, fun j x hj => ?_⟩
      have h3 := h2 j x hj
      rw [← h3]
      exact cell_heap (s.1.block p (hn p rfl))
theorem Ow.sp {k : Nat} {e : TypeId} {d b : Nat} {w v : World} {a : Option Addr} {n : Nat} (h : Ow k e d w a n) (s : Sp b w v) (hb : Bw a n b) : Ow k e d v a n := by
  rcases h with h | ⟨q, o, C, rfl, h2, h3, h4⟩
  · exact .inl h
  · rcases hb with hn | hn
    · exact .inl hn
    · exact .inr ⟨q, o, C, rfl, h2, by rw [s.1.block q (hn q rfl)]; exact h3, h4⟩
theorem Co.sp {d b : Nat} {w v : World} {c : Cm} {x : Lc} (h : Co d w c x) (s : Sp b w v) (hb : Bw x.ao x.no b ∧ Bw x.ah x.nh b) : Co d v c x :=
  ⟨⟨⟨h.i.o.1, lz_sp h.i.o.2 s hb.1⟩, ⟨h.i.h.1, lz_sp h.i.h.2 s hb.2⟩, h.i.nx, h.i.tn, h.i.dl⟩, ⟨h.o.o.sp s hb.1, h.o.h.sp s hb.2⟩⟩
theorem or_sp {k : Nat} {e : TypeId} {d b : Nat} {w v : World} {a : Option Addr} {n c : Nat} {R : List (List Value)} (h : Or_ k e d w (.slice a n c) R) (s : Sp b w v) (hb : ∀ g, blkOf a = some g → g < b) : Or_ k e d v (.slice a n c) R := or_keep h fun i hi => s.1.block i (hb i hi)
theorem or_ltb {k : Nat} {e : TypeId} {d : Nat} {w : World} {a : Option Addr} {n c : Nat} {R : List (List Value)} (h : Or_ k e d w (.slice a n c) R) : ∀ g, blkOf a = some g → g < w.heap.size := fun g hg => by
  obtain ⟨cur, hc⟩ := or_blk_lt h hg
  exact lt_of_block hc
theorem Sh.lt {b : Nat} {w : World} {c : Cm} {x : Lc} (h : Sh b w c x) : (∀ g, blkOf x.ao = some g → g < w.heap.size) ∧ (∀ g, blkOf x.ah = some g → g < w.heap.size) := by
  obtain ⟨g, h1, h2⟩ := h.o
  obtain ⟨g2, h3, h4⟩ := h.h
  rw [h1, h3]
  exact ⟨or_ltb h2, or_ltb h4⟩
theorem Sh.sp {d b : Nat} {w v : World} {c : Cm} {x : Lc} (h : Sh d w c x) (s : Sp b w v) (hb : (∀ g, blkOf x.ao = some g → g < b) ∧ (∀ g, blkOf x.ah = some g → g < b)) : Sh d v c x := by
  obtain ⟨g, h1, h2⟩ := h.o
  obtain ⟨g2, h3, h4⟩ := h.h
  rw [h1, h3] at hb
  exact ⟨⟨g, h1, or_sp h2 s hb.1⟩, ⟨g2, h3, or_sp h4 s hb.2⟩⟩
theorem lz_bk {k g : Nat} {w v : World} {a : Option Addr} {n c : Nat} {R : List (List Value)} (h : Lz k w a n c R) (m : Bt g w v) (hn : n = 0 ∨ blkOf a ≠ some g) : Lz k v a n c R := by
  refine ⟨h.len, h.row, ?_, h.cap, h.max⟩
  rcases h.sl with h1 | ⟨p, o, rfl, h2⟩
  · exact .inl h1
  · rcases hn with hn | hn
    · exact .inl (List.eq_nil_of_length_eq_zero (by rw [h.len, hn]))
    · exact .inr ⟨p, o, rfl, range_bt h2 m (fun e => hn (by rw [← e]; rfl))⟩
theorem Ow.bk {k : Nat} {e : TypeId} {b g : Nat} {w v : World} {a : Option Addr} {n : Nat} (h : Ow k e b w a n) (m : Bt g w v) (hn : n = 0 ∨ blkOf a ≠ some g) : Ow k e b v a n := by
  rcases h with h | ⟨q, o, C, rfl, h2, h3, h4⟩
  · exact .inl h
  · rcases hn with hn | hn
    · exact .inl hn
    · exact .inr ⟨q, o, C, rfl, h2, m.blk h3 (fun e => hn (by rw [← e]; rfl)), h4⟩
theorem ow_new {k : Nat} {e : TypeId} {b : Nat} {w : World} {a : Option Addr} {n : Nat} (h : Ow k e b w a n) : n = 0 ∨ blkOf a ≠ some w.heap.size := by
  rcases h with h | ⟨q, o, C, rfl, h2, h3, h4⟩
  · exact .inl h
  · refine .inr fun e => ?_
    have h5 := lt_of_block h3
    have h6 : q = w.heap.size := Option.some.inj e
    omega
theorem Co.newO {b : Nat} {w : World} {c : Cm} {x : Lc} (h : Co b w c x) : x.no = 0 ∨ blkOf x.ao ≠ some w.heap.size := ow_new h.o.o
theorem Co.newI {b : Nat} {w : World} {c : Cm} {x : Lc} (h : Co b w c x) : x.nh = 0 ∨ blkOf x.ah ≠ some w.heap.size := ow_new h.o.h
theorem Co.bkO {b g : Nat} {w v : World} {c : Cm} {x : Lc} (h : Co b w c x) {C : Array Value} (hg : w.heap[g]? = some (.cells C 39 (0, 0))) (m : Bt g w v) (hn : x.no = 0 ∨ blkOf x.ao ≠ some g) : Co b v c x :=
  ⟨⟨⟨h.i.o.1, lz_bk h.i.o.2 m hn⟩, ⟨h.i.h.1, lz_bz h.i.h.2 h.o.h hg m (by decide)⟩, h.i.nx, h.i.tn, h.i.dl⟩, ⟨h.o.o.bk m hn, h.o.h.bz hg m (by decide)⟩⟩
theorem Co.bkI {b g : Nat} {w v : World} {c : Cm} {x : Lc} (h : Co b w c x) {C : Array Value} (hg : w.heap[g]? = some (.cells C 47 (0, 0))) (m : Bt g w v) (hn : x.nh = 0 ∨ blkOf x.ah ≠ some g) : Co b v c x :=
  ⟨⟨⟨h.i.o.1, lz_bz h.i.o.2 h.o.o hg m (by decide)⟩, ⟨h.i.h.1, lz_bk h.i.h.2 m hn⟩, h.i.nx, h.i.tn, h.i.dl⟩, ⟨h.o.o.bz hg m (by decide), h.o.h.bk m hn⟩⟩
theorem Sh.newO {b : Nat} {w : World} {c : Cm} {x : Lc} (h : Sh b w c x) : blkOf x.ao ≠ some w.heap.size := by
  obtain ⟨g, h1, h2⟩ := h.o
  rw [h1]
  exact or_new h2
theorem Sh.newI {b : Nat} {w : World} {c : Cm} {x : Lc} (h : Sh b w c x) : blkOf x.ah ≠ some w.heap.size := by
  obtain ⟨g, h1, h2⟩ := h.h
  rw [h1]
  exact or_new h2
theorem Rm.bk {k : Nat} {e : TypeId} {b g : Nat} {w v : World} {a : Option Addr} {n c : Nat} {R : List (List Value)} {r : List Value} (h : Rm k e b w a n c R r) (m : Bt g w v) (hn : blkOf a ≠ some g) : Rm k e b v a n c R r := by
  obtain ⟨q, rfl, h2⟩ := h
  exact ⟨q, rfl, or_bk h2 m hn⟩
theorem Sh.bkO {b g : Nat} {w v : World} {c : Cm} {x : Lc} (h : Sh b w c x) {C : Array Value} (hg : w.heap[g]? = some (.cells C 39 (0, 0))) (m : Bt g w v) (hn : blkOf x.ao ≠ some g) : Sh b v c x := ⟨h.o.bk m hn, h.h.bz hg m (by decide)⟩
theorem Sh.bkI {b g : Nat} {w v : World} {c : Cm} {x : Lc} (h : Sh b w c x) {C : Array Value} (hg : w.heap[g]? = some (.cells C 47 (0, 0))) (m : Bt g w v) (hn : blkOf x.ah ≠ some g) : Sh b v c x := ⟨h.o.bz hg m (by decide), h.h.bk m hn⟩
theorem Sh.co {b : Nat} {w : World} {c : Cm} {x : Lc} (h : Sh b w c x) (n : Nums c) : Co b w c x := by
  refine ⟨h.cin n, ?_, ?_⟩
  · obtain ⟨g, h1, h2⟩ := h.o
    rw [h1]
    rcases h2.ow with h3 | ⟨q, o, C, h3, h4, h5, h6⟩
    · omega
    · exact .inr ⟨q, o, C, h3, h4, h5, by omega⟩
  · obtain ⟨g, h1, h2⟩ := h.h
    rw [h1]
    rcases h2.ow with h3 | ⟨q, o, C, h3, h4, h5, h6⟩
    · omega
    · exact .inr ⟨q, o, C, h3, h4, h5, by omega⟩
theorem Rm.base {k : Nat} {e : TypeId} {b d : Nat} {w : World} {a : Option Addr} {n c : Nat} {R : List (List Value)} {r : List Value} (h : Rm k e b w a n c R r) (hd : d ≤ b) : Rm k e d w a n c R r := by
  obtain ⟨q, h1, h2⟩ := h
  exact ⟨q, h1, or_base h2 hd⟩
theorem Sh.base {b d : Nat} {w : World} {c : Cm} {x : Lc} (h : Sh b w c x) (hd : d ≤ b) : Sh d w c x := ⟨h.o.base hd, h.h.base hd⟩
theorem Sh.bz {b g : Nat} {w v : World} {c : Cm} {x : Lc} (h : Sh b w c x) {C : Array Value} {t : TypeId} (hg : w.heap[g]? = some (.cells C t (0, 0))) (m : Bt g w v) (h1 : t ≠ 39 := by decide) (h2 : t ≠ 47 := by decide) : Sh b v c x := ⟨h.o.bz hg m h1, h.h.bz hg m h2⟩
theorem ct_o (c : Cm) : (ct c).O.length ≤ 8 := by unfold ct; dsimp only; rw [List.length_take]; omega
theorem ct_h (c : Cm) : (ct c).H.length ≤ 8 := by unfold ct; dsimp only; rw [List.length_take]; omega
set_option maxHeartbeats 4000000 in
theorem whole_ok (c : Cm) (x y : Lc) (b : Nat) (w : World) (hs : Sh b w c x) (nm : Nums c) (hy : Cin w c y) : Calls Try.prog 18 #[.agg (fl [[.int .u32 c.nx], [.slice x.ao x.no x.co], [.int .i64 c.tn], [.int .u32 c.dl], [.slice x.ah x.nh x.ch]]), .agg (fl [[.int .u32 c.nx], [.slice y.ao y.no y.co], [.int .i64 c.tn], [.int .u32 c.dl], [.slice y.ah y.nh y.ch]])] w (Vl (.bool true) w) := by
  obtain ⟨T, hT⟩ : ∃ T : Ending → World → Prop, T = (Vl (.bool true) w) := ⟨_, rfl⟩
  rw [← hT]
  replace hT := hide hT
  have hc := hs.cin nm
  have hb2 := hc.o.2.max
  have hb4 := hc.h.2.max
  obtain ⟨gO, eO, cO, rO⟩ := hs.o.cell
  obtain ⟨gH, eH, cH, rH⟩ := hs.h.cell
  have kO : Hid (w.cell? ⟨gO, 0 + 106 * x.no, none⟩ = some (.int .u32 77)) := hide (by have h := rO 0 (.int .u32 77) rfl; rwa [Nat.add_zero, ← Nat.zero_add (106 * x.no)] at h)
  have kH : Hid (w.cell? ⟨gH, 0 + 2 * x.nh, none⟩ = some (.int .u32 77)) := hide (by have h := rH 0 (.int .u32 77) rfl; rwa [Nat.add_zero, ← Nat.zero_add (2 * x.nh)] at h)
  clear rO rH hs
  replace hc := hide hc; replace hy := hide hy; replace eO := hide eO; replace eH := hide eH
  obtain ⟨A0_, hA0_⟩ : ∃ S_, S_ = fl [[.int .u32 c.nx], [.slice x.ao x.no x.co], [.int .i64 c.tn], [.int .u32 c.dl], [.slice x.ah x.nh x.ch]] := ⟨_, rfl⟩
  rw [← hA0_]
  replace hA0_ := hide hA0_
  obtain ⟨A1_, hA1_⟩ : ∃ S_, S_ = fl [[.int .u32 c.nx], [.slice y.ao y.no y.co], [.int .i64 c.tn], [.int .u32 c.dl], [.slice y.ah y.nh y.ch]] := ⟨_, rfl⟩
  rw [← hA1_]
  replace hA1_ := hide hA1_
  go_enter Try.func18, Try.ntmps18
  go_upto_region 1 with fail
  have hB := (((Bl.nil w).new A0_ 26).new A1_ 26)
  simp only [size_alloc, List.nil_append, List.cons_append] at hB
  rw [unhide hA0_, unhide hA1_] at hB
  generalize hu_ : World.alloc _ _ = u0
  replace hB : Bl w [⟨w.heap.size, fl [[.int .u32 c.nx], [.slice x.ao x.no x.co], [.int .i64 c.tn], [.int .u32 c.dl], [.slice x.ah x.nh x.ch]], 26⟩, ⟨w.heap.size + 1, fl [[.int .u32 c.nx], [.slice y.ao y.no y.co], [.int .i64 c.tn], [.int .u32 c.dl], [.slice y.ah y.nh y.ch]], 26⟩] u0 := by
    rw [← hu_]
    rw [unhide hA0_, unhide hA1_]
    exact hB
  clear hu_ hA0_ hA1_
  refine any_start (S := fun v_ => v_.heap[w.heap.size]? = some (.cells (fl [[.int .u32 c.nx], [.slice x.ao x.no x.co], [.int .i64 c.tn], [.int .u32 c.dl], [.slice x.ah x.nh x.ch]]) 26 (0, 0)) ∧ v_.heap[w.heap.size + 1]? = some (.cells (fl [[.int .u32 c.nx], [.slice y.ao y.no y.co], [.int .i64 c.tn], [.int .u32 c.dl], [.slice y.ah y.nh y.ch]]) 26 (0, 0)) ∧ Gr w v_) (by kernel_rfl) ?_
  replace hB := hB.drew
  generalize World.drew _ = u1 at *
  simp only [List.size_toArray, List.length_cons, List.length_nil, Array.replicate, List.replicate]
  have hS_ := hide (show (fun v_ => v_.heap[w.heap.size]? = some (.cells (fl [[.int .u32 c.nx], [.slice x.ao x.no x.co], [.int .i64 c.tn], [.int .u32 c.dl], [.slice x.ah x.nh x.ch]]) 26 (0, 0)) ∧ v_.heap[w.heap.size + 1]? = some (.cells (fl [[.int .u32 c.nx], [.slice y.ao y.no y.co], [.int .i64 c.tn], [.int .u32 c.dl], [.slice y.ah y.nh y.ch]]) 26 (0, 0)) ∧ Gr w v_) u1 from ⟨(hB.get 0 (x := ⟨w.heap.size, fl [[.int .u32 c.nx], [.slice x.ao x.no x.co], [.int .i64 c.tn], [.int .u32 c.dl], [.slice x.ah x.nh x.ch]], 26⟩) rfl), (hB.get 1 (x := ⟨w.heap.size + 1, fl [[.int .u32 c.nx], [.slice y.ao y.no y.co], [.int .i64 c.tn], [.int .u32 c.dl], [.slice y.ah y.nh y.ch]], 26⟩) rfl), hB.gr⟩)
  refine any_tk 0 (.agg (fl [[.int .u32 c.nx], [.slice x.ao x.no x.co], [.int .i64 c.tn], [.int .u32 c.dl], [.slice x.ah x.nh x.ch]])) (tf 36 0) rfl (fun x_ hu => exec_sw _ 26 (.tmp 2) rfl (w.heap.size) (by kernel_rfl) hu.1 NC (nC  _ _ _ _ _) Try.underlying26 rfl (by kernel_rfl)) (unhide hS_) ?_
  simp only [nrm]
  refine any_tk 1 (.agg (fl [[.int .u32 c.nx], [.slice y.ao y.no y.co], [.int .i64 c.tn], [.int .u32 c.dl], [.slice y.ah y.nh y.ch]])) (tf 36 1) rfl (fun x_ hu => exec_sw _ 26 (.tmp 3) rfl (w.heap.size + 1) (by kernel_rfl) hu.2.1 NC (nC  _ _ _ _ _) Try.underlying26 rfl (by kernel_rfl)) (unhide hS_) ?_
  simp only [nrm]
  refine any_one (i := 2) (by kernel_rfl) rfl (fun K hK => ?_)
  refine step_callw (by kernel_rfl) 16 #[.agg (fl [[.int .u32 c.nx], [.slice x.ao x.no x.co], [.int .i64 c.tn], [.int .u32 c.dl], [.slice x.ah x.nh x.ch]]), .agg (fl [[.int .u32 c.nx], [.slice y.ao y.no y.co], [.int .i64 c.tn], [.int .u32 c.dl], [.slice y.ah y.nh y.ch]])] (by kernel_rfl) (((show Calls Try.prog 16 #[.agg (fl [[.int .u32 c.nx], [.slice x.ao x.no x.co], [.int .i64 c.tn], [.int .u32 c.dl], [.slice x.ah x.nh x.ch]]), .agg (fl [[.int .u32 c.nx], [.slice y.ao y.no y.co], [.int .i64 c.tn], [.int .u32 c.dl], [.slice y.ah y.nh y.ch]])] u1 (Vl (.bool true) u1) from by have h := rsame_ok c c x y u1 ((unhide hc).gr hB.gr) ((unhide hy).gr hB.gr); rw [decide_eq_true rfl] at h; exact h)).mono ?_)
  rintro r_ u2 ⟨rfl, hg⟩
  replace hB := hB.more hg
  clear hg
  refine ⟨_, rfl, ?_⟩
  clear hS_
  have hS_ := hide (show (fun v_ => v_.heap[w.heap.size]? = some (.cells (fl [[.int .u32 c.nx], [.slice x.ao x.no x.co], [.int .i64 c.tn], [.int .u32 c.dl], [.slice x.ah x.nh x.ch]]) 26 (0, 0)) ∧ v_.heap[w.heap.size + 1]? = some (.cells (fl [[.int .u32 c.nx], [.slice y.ao y.no y.co], [.int .i64 c.tn], [.int .u32 c.dl], [.slice y.ah y.nh y.ch]]) 26 (0, 0)) ∧ Gr w v_) u2 from ⟨(hB.get 0 (x := ⟨w.heap.size, fl [[.int .u32 c.nx], [.slice x.ao x.no x.co], [.int .i64 c.tn], [.int .u32 c.dl], [.slice x.ah x.nh x.ch]], 26⟩) rfl), (hB.get 1 (x := ⟨w.heap.size + 1, fl [[.int .u32 c.nx], [.slice y.ao y.no y.co], [.int .i64 c.tn], [.int .u32 c.dl], [.slice y.ah y.nh y.ch]], 26⟩) rfl), hB.gr⟩)
  refine hK.out _ _ (unhide hS_) (fun _ => ?_)
  clear hK K
  simp only [nrm]
  refine any_tk 3 (.bool true) (tf 36 3) rfl (fun x_ hu => by kernel_rfl) (unhide hS_) ?_
  simp only [nrm]
  refine any_tk 4 (.pointer (some ⟨w.heap.size, 1, none⟩)) (tf 36 4) rfl (fun x_ hu => by kernel_rfl) (unhide hS_) ?_
  simp only [nrm]
  refine any_tk 5 (.slice x.ao x.no x.co) (tf 36 5) rfl (fun x_ hu => exec_csO _ (.tmp 9) rfl (w.heap.size) 1 (by kernel_rfl) x.ao x.no x.co (seg_cell (nC  _ _ _ _ _) hu.1 1 (v := .slice x.ao x.no x.co) rfl rfl)) (unhide hS_) ?_
  simp only [nrm]
  refine any_tk 6 (.pointer (some ⟨w.heap.size, 1, none⟩)) (tf 36 6) rfl (fun x_ hu => by kernel_rfl) (unhide hS_) ?_
  simp only [nrm]
  refine any_tk 7 (.slice x.ao x.no x.co) (tf 36 7) rfl (fun x_ hu => exec_csO _ (.tmp 11) rfl (w.heap.size) 1 (by kernel_rfl) x.ao x.no x.co (seg_cell (nC  _ _ _ _ _) hu.1 1 (v := .slice x.ao x.no x.co) rfl rfl)) (unhide hS_) ?_
  simp only [nrm]
  refine any_tk 8 (.int .i64 (x.no : Int)) (tf 36 8) rfl (fun x_ hu => by kernel_rfl) (unhide hS_) ?_
  simp only [nrm]
  refine any_tk 9 (.int .i64 ((x.no + 1 : Nat) : Int)) (tf 36 9) rfl (fun x_ hu => add_i _ (.tmp 13) (.const (.int .i64 1)) (x.no : Int) 1 rfl (by kernel_rfl) (by kernel_rfl) _ (by omega) (by omega)) (unhide hS_) ?_
  simp only [nrm]
  refine any_tk 10 (.slice x.ao (x.no + 1) x.co) (tf 36 10) rfl (fun x_ hu => exec_upO _ (.tmp 10) (.tmp 14) rfl x.ao x.no x.co (x.no + 1) (by kernel_rfl) (by kernel_rfl) cO) (unhide hS_) ?_
  simp only [nrm]
  refine any_tk 11 (.pointer (some ⟨w.heap.size, 1, none⟩)) (tf 36 11) rfl (fun x_ hu => by kernel_rfl) (unhide hS_) ?_
  simp only [nrm]
  refine any_tk 12 (.slice x.ao x.no x.co) (tf 36 12) rfl (fun x_ hu => exec_csO _ (.tmp 16) rfl (w.heap.size) 1 (by kernel_rfl) x.ao x.no x.co (seg_cell (nC  _ _ _ _ _) hu.1 1 (v := .slice x.ao x.no x.co) rfl rfl)) (unhide hS_) ?_
  simp only [nrm]
  refine any_tk 13 (.int .i64 (x.no : Int)) (tf 36 13) rfl (fun x_ hu => by kernel_rfl) (unhide hS_) ?_
  simp only [nrm]
  refine any_tk 14 (.pointer (some ⟨gO, 0 + 106 * x.no, none⟩)) (tf 36 14) rfl (fun x_ hu => exec_iso _ (.tmp 15) (.tmp 18) rfl gO 0 (x.no + 1) x.co x.no (by rw [← unhide eO]; kernel_rfl) (by kernel_rfl) (by omega)) (unhide hS_) ?_
  simp only [nrm]
  refine any_tk 15 (.pointer (some ⟨gO, 0 + 106 * x.no, none⟩)) (tf 36 15) rfl (fun x_ hu => by kernel_rfl) (unhide hS_) ?_
  simp only [nrm]
  refine any_tk 16 (.int .u32 77) (tf 36 16) rfl (fun x_ hu => exec_c32 _ (.tmp 20) rfl gO (0 + 106 * x.no) (by kernel_rfl) 77 (hu.2.2.cell (unhide kO))) (unhide hS_) ?_
  simp only [nrm]
  refine any_tk 17 (.bool true) (tf 36 17) rfl (fun x_ hu => eql_32 _ (.tmp 21) (.const (.int .u32 77)) 77 77 true rfl (by kernel_rfl) (by kernel_rfl) (by decide)) (unhide hS_) ?_
  simp only [nrm]
  refine any_tk 18 (.bool true) (tf 36 18) rfl (fun x_ hu => by kernel_rfl) (unhide hS_) ?_
  simp only [nrm]
  refine any_tk 19 (.bool true) (tf 36 19) rfl (fun x_ hu => by kernel_rfl) (unhide hS_) ?_
  simp only [nrm]
  refine any_tk 20 (.pointer (some ⟨w.heap.size, 4, none⟩)) (tf 36 20) rfl (fun x_ hu => by kernel_rfl) (unhide hS_) ?_
  simp only [nrm]
  refine any_tk 21 (.slice x.ah x.nh x.ch) (tf 36 21) rfl (fun x_ hu => exec_csI _ (.tmp 25) rfl (w.heap.size) 4 (by kernel_rfl) x.ah x.nh x.ch (seg_cell (nC  _ _ _ _ _) hu.1 4 (v := .slice x.ah x.nh x.ch) rfl rfl)) (unhide hS_) ?_
  simp only [nrm]
  refine any_tk 22 (.pointer (some ⟨w.heap.size, 4, none⟩)) (tf 36 22) rfl (fun x_ hu => by kernel_rfl) (unhide hS_) ?_
  simp only [nrm]
  refine any_tk 23 (.slice x.ah x.nh x.ch) (tf 36 23) rfl (fun x_ hu => exec_csI _ (.tmp 27) rfl (w.heap.size) 4 (by kernel_rfl) x.ah x.nh x.ch (seg_cell (nC  _ _ _ _ _) hu.1 4 (v := .slice x.ah x.nh x.ch) rfl rfl)) (unhide hS_) ?_
  simp only [nrm]
  refine any_tk 24 (.int .i64 (x.nh : Int)) (tf 36 24) rfl (fun x_ hu => by kernel_rfl) (unhide hS_) ?_
  simp only [nrm]
  refine any_tk 25 (.int .i64 ((x.nh + 1 : Nat) : Int)) (tf 36 25) rfl (fun x_ hu => add_i _ (.tmp 29) (.const (.int .i64 1)) (x.nh : Int) 1 rfl (by kernel_rfl) (by kernel_rfl) _ (by omega) (by omega)) (unhide hS_) ?_
  simp only [nrm]
  refine any_tk 26 (.slice x.ah (x.nh + 1) x.ch) (tf 36 26) rfl (fun x_ hu => exec_upI _ (.tmp 26) (.tmp 30) rfl x.ah x.nh x.ch (x.nh + 1) (by kernel_rfl) (by kernel_rfl) cH) (unhide hS_) ?_
  simp only [nrm]
  refine any_tk 27 (.pointer (some ⟨w.heap.size, 4, none⟩)) (tf 36 27) rfl (fun x_ hu => by kernel_rfl) (unhide hS_) ?_
  simp only [nrm]
  refine any_tk 28 (.slice x.ah x.nh x.ch) (tf 36 28) rfl (fun x_ hu => exec_csI _ (.tmp 32) rfl (w.heap.size) 4 (by kernel_rfl) x.ah x.nh x.ch (seg_cell (nC  _ _ _ _ _) hu.1 4 (v := .slice x.ah x.nh x.ch) rfl rfl)) (unhide hS_) ?_
  simp only [nrm]
  refine any_tk 29 (.int .i64 (x.nh : Int)) (tf 36 29) rfl (fun x_ hu => by kernel_rfl) (unhide hS_) ?_
  simp only [nrm]
  refine any_tk 30 (.pointer (some ⟨gH, 0 + 2 * x.nh, none⟩)) (tf 36 30) rfl (fun x_ hu => exec_isi _ (.tmp 31) (.tmp 34) rfl gH 0 (x.nh + 1) x.ch x.nh (by rw [← unhide eH]; kernel_rfl) (by kernel_rfl) (by omega)) (unhide hS_) ?_
  simp only [nrm]
  refine any_tk 31 (.pointer (some ⟨gH, 0 + 2 * x.nh, none⟩)) (tf 36 31) rfl (fun x_ hu => by kernel_rfl) (unhide hS_) ?_
  simp only [nrm]
  refine any_tk 32 (.int .u32 77) (tf 36 32) rfl (fun x_ hu => exec_c32 _ (.tmp 36) rfl gH (0 + 2 * x.nh) (by kernel_rfl) 77 (hu.2.2.cell (unhide kH))) (unhide hS_) ?_
  simp only [nrm]
  refine any_tk 33 (.bool true) (tf 36 33) rfl (fun x_ hu => eql_32 _ (.tmp 37) (.const (.int .u32 77)) 77 77 true rfl (by kernel_rfl) (by kernel_rfl) (by decide)) (unhide hS_) ?_
  simp only [nrm]
  refine any_tk 34 (.bool true) (tf 36 34) rfl (fun x_ hu => by kernel_rfl) (unhide hS_) ?_
  simp only [nrm]
  refine any_one (i := 35) (by kernel_rfl) rfl (fun K hK => ?_)
  replace hK := hide hK
  go_simp
  refine (unhide hK).out _ _ (unhide hS_) (fun _ => ?_)
  clear hK K
  simp only [nrm]
  refine any_done (by kernel_rfl) ?_
  clear hS_
  replace hB := hide hB
  go_wp2_with fail
  replace hB := unhide hB
  rw [unhide hT]
  exact (⟨rfl, hB.gr⟩)
end Go.Proofs.Ytcefkkoombmndaa
