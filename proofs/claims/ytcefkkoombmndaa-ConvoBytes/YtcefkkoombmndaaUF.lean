/-
  Lists that are copied.
-/
import Derived.Test.YtcefkkoombmndaaUE
import Derived.Lib.SliceRun
namespace Go.Proofs.Ytcefkkoombmndaa
open Go.RowKit
set_option maxRecDepth 100000
set_option linter.unusedSimpArgs false
set_option linter.unusedVariables false
theorem exec_nil {a : Act} {o : Oper} (w : World) (t e : TypeId) (x : Operand) (ho : o.op = .binOp .eql t x (.const (.slice none 0 0)) t) (hu : Try.prog.underlying t = some (.slice e)) (s : Option Addr) (n c : Nat) (hx : a.eval x = .slice s n c) (hg : (eqGuard .eql t x (.const (.slice none 0 0)) (.slice s n c) (.slice none 0 0)).run Try.prog w = .ok () w) : (execOp a.eval o).run Try.prog w = .ok (.value (.bool s.isNone)) w := by
  have h : (binOp .eql t (.slice s n c) (.slice none 0 0)).run Try.prog w = .ok (.bool s.isNone) w := Go.Lib.run_eql_slice_nil w t e s n c 0 0 hu
  have hy : a.eval (.const (.slice none 0 0)) = .slice none 0 0 := rfl
  unfold execOp
  simp only [ho, hx, hy, Sem.run_bind, hg, Result.andThen_ok, h, Sem.run_pure]
theorem or_none (k : Nat) (e : TypeId) (b : Nat) (w : World) : Or_ k e b w (.slice none 0 0) [] := ⟨(fun r hr => by cases hr), by simp, .inl ⟨rfl, rfl⟩⟩
theorem or_mt {k : Nat} {e : TypeId} {b g : Nat} {w : World} (h : w.heap[g]? = some (.cells #[] e (0, 0))) (hb : b ≤ g) : Or_ k e b w (.slice (some ⟨g, 0, none⟩) 0 0) [] :=
  ⟨(fun r hr => by cases hr), by simp, .inr ⟨g, 0, _, rfl, hb, h, Nat.le_refl _, Nat.zero_le _, by simp, by simp⟩⟩
theorem or_grown {k k2 : Nat} {e e2 : TypeId} {b b2 : Nat} {u u' : World} {v : Value} {a : Option Addr} {n c : Nat} {R R2 : List (List Value)} (h : Or_ k e b u (.slice a n c) R) (h2 : Or_ k2 e2 b2 u v R2) (g : u.grownBy u' v.ownBlock) (hne : e ≠ e2) : Or_ k e b u' (.slice a n c) R := by
  refine or_keep h fun i hi => ?_
  obtain ⟨cur, hc⟩ := or_blk_lt h hi
  refine g.block i (lt_of_block hc) ?_
  intro e3
  replace e3 := e3.symm
  obtain ⟨a2, c2, rfl, hls⟩ := h2.lz
  cases a2 with
  | none => cases e3
  | some ad =>
    have hb2 : blkOf (some ad) = some i := by
      have : (some ad.block : Option Nat) = some i := e3
      exact this
    obtain ⟨cur2, hc2⟩ := or_blk_lt h2 hb2
    rw [hc] at hc2
    injection hc2 with hc2
    injection hc2 with _ e4 _
    exact hne e4
/-- a list's block is one's own, and can be written to -/
def Ow (k : Nat) (e : TypeId) (b : Nat) (w : World) (a : Option Addr) (n : Nat) : Prop := n = 0 ∨ ∃ g o C, a = some ⟨g, o, none⟩ ∧ b ≤ g ∧ w.heap[g]? = some (.cells (C : List Value).toArray e (0, 0)) ∧ o + k * n ≤ C.length
theorem Ow.gr {k : Nat} {e : TypeId} {b : Nat} {w v : World} {a : Option Addr} {n : Nat} (h : Ow k e b w a n) (g : Gr w v) : Ow k e b v a n := by
  rcases h with h | ⟨q, o, C, h1, h2, h3, h4⟩
  · exact .inl h
  · exact .inr ⟨q, o, C, h1, h2, g.blk h3, h4⟩
theorem Ow.base {k : Nat} {e : TypeId} {b c : Nat} {w : World} {a : Option Addr} {n : Nat} (h : Ow k e b w a n) (hc : c ≤ b) : Ow k e c w a n := by
  rcases h with h | ⟨q, o, C, h1, h2, h3, h4⟩
  · exact .inl h
  · exact .inr ⟨q, o, C, h1, Nat.le_trans hc h2, h3, h4⟩
theorem or_slice {k : Nat} {e : TypeId} {b : Nat} {w : World} {a : Option Addr} {n c : Nat} {R : List (List Value)} (h : Or_ k e b w (.slice a n c) R) : n = R.length ∧ Lz k w a n c R := by
  obtain ⟨a2, c2, e1, h2⟩ := h.lz
  injection e1 with e1 e2 e3
  subst e1 e2 e3
  exact ⟨rfl, h2⟩
theorem Or_.ow {k : Nat} {e : TypeId} {b : Nat} {w : World} {a : Option Addr} {n c : Nat} {R : List (List Value)} (h : Or_ k e b w (.slice a n c) R) : Ow k e b w a n := by
  have hl := (or_slice h).1
  by_cases hne : R = []
  · left; rw [hl, hne]; rfl
  · obtain ⟨g, c2, C, e1, h1, h2, h3, _, h5, _⟩ := Or_.some h hne
    injection e1 with e1 e2 e3
    subst e1 e3
    exact .inr ⟨g, 0, C, rfl, h1, h2, by rw [h5, e2, Nat.zero_add, Nat.mul_comm]; exact Nat.mul_le_mul_right _ h3⟩
structure Owx (b : Nat) (w : World) (x : Lc) : Prop where
  o : Ow 106 39 b w x.ao x.no
  h : Ow 2 47 b w x.ah x.nh
theorem Owx.gr {b : Nat} {w v : World} {x : Lc} (h : Owx b w x) (g : Gr w v) : Owx b v x := ⟨h.o.gr g, h.h.gr g⟩
theorem Owx.base {b c : Nat} {w : World} {x : Lc} (h : Owx b w x) (hc : c ≤ b) : Owx c w x := ⟨h.o.base hc, h.h.base hc⟩
/-- a conversation whose lists one has made -/
structure Own (b : Nat) (w : World) (c : Cm) (x : Lc) : Prop where
  o : Or_ 106 39 b w (.slice x.ao x.no x.co) (c.O.map otr)
  h : Or_ 2 47 b w (.slice x.ah x.nh x.ch) (c.H.map itr)
theorem Own.gr {b : Nat} {w v : World} {c : Cm} {x : Lc} (h : Own b w c x) (g : Gr w v) : Own b v c x := ⟨h.o.gr g, h.h.gr g⟩
theorem Own.bz {b g : Nat} {w v : World} {c : Cm} {x : Lc} (h : Own b w c x) {C : Array Value} {t : TypeId} (hg : w.heap[g]? = some (.cells C t (0, 0))) (m : Bt g w v) (h1 : t ≠ 39 := by decide) (h2 : t ≠ 47 := by decide) : Own b v c x := ⟨or_bt h.o hg h1 m, or_bt h.h hg h2 m⟩
theorem Or_.bz {k : Nat} {e : TypeId} {b g : Nat} {w v : World} {y : Value} {R : List (List Value)} (h : Or_ k e b w y R) {C : Array Value} {t : TypeId} (hg : w.heap[g]? = Option.some (Obj.cells C t (0, 0))) (m : Bt g w v) (h1 : t ≠ e := by decide) : Or_ k e b v y R := or_bt h hg h1 m
theorem or_far {k : Nat} {e : TypeId} {b g : Nat} {w : World} {a : Option Addr} {n c : Nat} {R : List (List Value)} (h : Or_ k e b w (.slice a n c) R) (hg : g < b) : blkOf a ≠ some g := by
  intro e1
  rcases h.2.2 with ⟨h1, _⟩ | ⟨q, cap, cur, h1, h2, _⟩
  · injection h1 with h1
    rw [h1] at e1
    cases e1
  · injection h1 with h1
    rw [h1] at e1
    have : some q = some g := e1
    injection this with this
    omega
theorem or_new {k : Nat} {e : TypeId} {b : Nat} {w : World} {a : Option Addr} {n c : Nat} {R : List (List Value)} (h : Or_ k e b w (.slice a n c) R) : blkOf a ≠ some w.heap.size := by
  intro e1
  obtain ⟨cur, hc⟩ := or_blk_lt h e1
  have := lt_of_block hc
  omega
theorem or_bk {k : Nat} {e : TypeId} {b g : Nat} {w v : World} {a : Option Addr} {n c : Nat} {R : List (List Value)} (h : Or_ k e b w (.slice a n c) R) (m : Bt g w v) (hn : blkOf a ≠ some g) : Or_ k e b v (.slice a n c) R :=
  or_keep h fun i hi => by
    obtain ⟨cur, hc⟩ := or_blk_lt h hi
    exact m.block i (lt_of_block hc) (fun e1 => hn (by rw [hi, e1]))
theorem Own.bkO {b g : Nat} {w v : World} {c : Cm} {x : Lc} (h : Own b w c x) {C : Array Value} (hg : w.heap[g]? = some (.cells C 39 (0, 0))) (m : Bt g w v) (hn : blkOf x.ao ≠ some g) : Own b v c x := ⟨or_bk h.o m hn, or_bt h.h hg (by decide) m⟩
theorem Own.bkI {b g : Nat} {w v : World} {c : Cm} {x : Lc} (h : Own b w c x) {C : Array Value} (hg : w.heap[g]? = some (.cells C 47 (0, 0))) (m : Bt g w v) (hn : blkOf x.ah ≠ some g) : Own b v c x := ⟨or_bt h.o hg (by decide) m, or_bk h.h m hn⟩
theorem Own.owx {b : Nat} {w : World} {c : Cm} {x : Lc} (h : Own b w c x) : Owx b w x := ⟨h.o.ow, h.h.ow⟩
structure Nums (c : Cm) : Prop where
  O : ∀ s ∈ c.O, s.Ok
  H : ∀ s ∈ c.H, s.Ok
  nx : 0 ≤ c.nx ∧ c.nx < 4294967296
  tn : -9223372036854775808 ≤ c.tn ∧ c.tn < 9223372036854775808
  dl : 0 ≤ c.dl ∧ c.dl < 4294967296
theorem Cin.nums {w : World} {c : Cm} {x : Lc} (h : Cin w c x) : Nums c := ⟨h.o.1, h.h.1, h.nx, h.tn, h.dl⟩
theorem Own.cin {b : Nat} {w : World} {c : Cm} {x : Lc} (h : Own b w c x) (n : Nums c) : Cin w c x := ⟨⟨n.O, (or_slice h.o).2⟩, ⟨n.H, (or_slice h.h).2⟩, n.nx, n.tn, n.dl⟩
set_option maxHeartbeats 4000000 in
theorem clone_o (L : List Ot) (a : Option Addr) (n c : Nat) (hn : n ≤ 1000) (w : World) (h : OL w a n c L) : Calls Try.prog 52 #[.slice a n c] w (fun r w' => ∃ a' c', r = .returned (.slice a' n c') ∧ Or_ 106 39 w.heap.size w' (.slice a' n c') (L.map otr) ∧ Gr w w') := by
  obtain ⟨T, hT⟩ : ∃ T : Ending → World → Prop, T = (fun r w' => ∃ a' c', r = .returned (.slice a' n c') ∧ Or_ 106 39 w.heap.size w' (.slice a' n c') (L.map otr) ∧ Gr w w') := ⟨_, rfl⟩
  rw [← hT]
  replace hT := hide hT
  have hl := h.len
  have hcp := h.2.cap
  have hmx := h.2.max
  replace h := hide h
  go_enter Try.func52, Try.ntmps52
  go_upto_region 1 with fail
  obtain ⟨u0, hu_⟩ : ∃ u, u = w := ⟨_, rfl⟩
  rw [← hu_]
  have hB : Bl w [] u0 := hu_ ▸ Bl.nil w
  clear hu_
  cases a with
  | none =>
    have h0 : L = [] := by
      rcases (unhide h).2.sl with e | ⟨p, o, e, _⟩
      · exact List.map_eq_nil_iff.1 e
      · cases e
    have hn0 : n = 0 := by rw [← hl, h0]; rfl
    refine wp_region_lit ?_
    refine lvk (.slice none n c) ?_
    simp only [nrm]
    refine list_val (.bool true) (by kernel_rfl) (exec_nil _ 23 39 (.tmp 3) rfl Try.underlying23 none n c (by kernel_rfl) (by kernel_rfl)) ?_
    simp only [nrm]
    refine wpList_nil ?_
    have hg := hide hB.gr
    clear hB h
    go_wp2_with fail
    rw [unhide hT]
    refine ⟨none, 0, by rw [hn0]; rfl, ?_, unhide hg⟩
    rw [h0, hn0]
    exact or_none _ _ _ _
  | some ad =>
    refine wp_region_lit ?_
    refine lvk (.slice (some ad) n c) ?_
    simp only [nrm]
    refine list_val (.bool false) (by kernel_rfl) (exec_nil _ 23 39 (.tmp 3) rfl Try.underlying23 (some ad) n c (by kernel_rfl) (by kernel_rfl)) ?_
    simp only [nrm]
    refine wpList_nil ?_
    replace hB := hide hB
    go_upto_region 3 with fail
    replace hB := unhide hB
    refine wp_region_lit ?_
    refine list_valw (.slice (some ⟨u0.heap.size, 0, none⟩) 0 0) (u0.alloc (.cells #[] 39 (0, 0))) (by kernel_rfl) (exec_b0o _ rfl) ?_
    have hO := or_mt (k := 106) (b := w.heap.size) (blk_new u0 (.cells #[] 39 (0, 0))) hB.gr.size
    replace hB := hB.more ((Gr.refl u0).alloc (.cells #[] 39 (0, 0)))
    generalize World.alloc _ _ = u1 at *
    generalize u0.heap.size = g0 at *
    replace hO := hide hO
    simp only [nrm]
    refine lvk (.slice (some ad) n c) ?_
    simp only [nrm]
    refine wpList_step fun K hK => ?_
    rw [if_pos (by kernel_rfl)]
    refine app_rowsW ltO (.tmp 5) (.tmp 6) rfl w.heap.size _ [] (by kernel_rfl) (unhide hO) (some ad) n c (L.map otr) (by kernel_rfl) ((unhide h).gr hB.gr).2 (fun r_ hr_ u_ hu_ => by
      obtain ⟨s_, _, rfl⟩ := List.mem_map.1 hr_
      exact otr_one _ u_ hu_) (by rw [List.length_nil]; omega) hB.gr.size ?_
    intro v1 u2 hO1 hgr
    refine hK _ _ ?_
    clear hK K
    replace hB := hB.grownR (unhide hO) (Nat.le_refl _) hgr (fun y hy => by cases hy)
    clear hO hgr
    rw [List.nil_append] at hO1
    obtain ⟨a1, c1, rfl, hls1⟩ := hO1.lz
    have e1 : (L.map otr).length = n := by rw [List.length_map, hl]
    rw [e1] at hO1 ⊢
    clear hls1 e1
    replace hO1 := hide hO1
    simp only [nrm]
    (refine wpList_step fun K hK => ?_; replace hK := hide hK; go_simp; refine unhide hK _ _ ?_; clear hK K)
    refine wpList_nil ?_
    have hg := hide hB.gr
    clear hB h
    go_wp2_with fail
    rw [unhide hT]
    exact ⟨a1, c1, rfl, unhide hO1, unhide hg⟩
set_option maxHeartbeats 4000000 in
theorem clone_i (L : List It) (a : Option Addr) (n c : Nat) (hn : n ≤ 1000) (w : World) (h : IL w a n c L) : Calls Try.prog 53 #[.slice a n c] w (fun r w' => ∃ a' c', r = .returned (.slice a' n c') ∧ Or_ 2 47 w.heap.size w' (.slice a' n c') (L.map itr) ∧ Gr w w') := by
  obtain ⟨T, hT⟩ : ∃ T : Ending → World → Prop, T = (fun r w' => ∃ a' c', r = .returned (.slice a' n c') ∧ Or_ 2 47 w.heap.size w' (.slice a' n c') (L.map itr) ∧ Gr w w') := ⟨_, rfl⟩
  rw [← hT]
  replace hT := hide hT
  have hl := h.len
  have hcp := h.2.cap
  have hmx := h.2.max
  replace h := hide h
  go_enter Try.func53, Try.ntmps53
  go_upto_region 1 with fail
  obtain ⟨u0, hu_⟩ : ∃ u, u = w := ⟨_, rfl⟩
  rw [← hu_]
  have hB : Bl w [] u0 := hu_ ▸ Bl.nil w
  clear hu_
  cases a with
  | none =>
    have h0 : L = [] := by
      rcases (unhide h).2.sl with e | ⟨p, o, e, _⟩
      · exact List.map_eq_nil_iff.1 e
      · cases e
    have hn0 : n = 0 := by rw [← hl, h0]; rfl
    refine wp_region_lit ?_
    refine lvk (.slice none n c) ?_
    simp only [nrm]
    refine list_val (.bool true) (by kernel_rfl) (exec_nil _ 24 47 (.tmp 3) rfl Try.underlying24 none n c (by kernel_rfl) (by kernel_rfl)) ?_
    simp only [nrm]
    refine wpList_nil ?_
    have hg := hide hB.gr
    clear hB h
    go_wp2_with fail
    rw [unhide hT]
    refine ⟨none, 0, by rw [hn0]; rfl, ?_, unhide hg⟩
    rw [h0, hn0]
    exact or_none _ _ _ _
  | some ad =>
    refine wp_region_lit ?_
    refine lvk (.slice (some ad) n c) ?_
    simp only [nrm]
    refine list_val (.bool false) (by kernel_rfl) (exec_nil _ 24 47 (.tmp 3) rfl Try.underlying24 (some ad) n c (by kernel_rfl) (by kernel_rfl)) ?_
    simp only [nrm]
    refine wpList_nil ?_
    replace hB := hide hB
    go_upto_region 3 with fail
    replace hB := unhide hB
    refine wp_region_lit ?_
    refine list_valw (.slice (some ⟨u0.heap.size, 0, none⟩) 0 0) (u0.alloc (.cells #[] 47 (0, 0))) (by kernel_rfl) (exec_b0i _ rfl) ?_
    have hO := or_mt (k := 2) (b := w.heap.size) (blk_new u0 (.cells #[] 47 (0, 0))) hB.gr.size
    replace hB := hB.more ((Gr.refl u0).alloc (.cells #[] 47 (0, 0)))
    generalize World.alloc _ _ = u1 at *
    generalize u0.heap.size = g0 at *
    replace hO := hide hO
    simp only [nrm]
    refine lvk (.slice (some ad) n c) ?_
    simp only [nrm]
    refine wpList_step fun K hK => ?_
    rw [if_pos (by kernel_rfl)]
    refine app_rowsW ltI (.tmp 5) (.tmp 6) rfl w.heap.size _ [] (by kernel_rfl) (unhide hO) (some ad) n c (L.map itr) (by kernel_rfl) ((unhide h).gr hB.gr).2 (fun r_ hr_ u_ hu_ => by
      obtain ⟨s_, _, rfl⟩ := List.mem_map.1 hr_
      exact itr_one _ u_ hu_) (by rw [List.length_nil]; omega) hB.gr.size ?_
    intro v1 u2 hO1 hgr
    refine hK _ _ ?_
    clear hK K
    replace hB := hB.grownR (unhide hO) (Nat.le_refl _) hgr (fun y hy => by cases hy)
    clear hO hgr
    rw [List.nil_append] at hO1
    obtain ⟨a1, c1, rfl, hls1⟩ := hO1.lz
    have e1 : (L.map itr).length = n := by rw [List.length_map, hl]
    rw [e1] at hO1 ⊢
    clear hls1 e1
    replace hO1 := hide hO1
    simp only [nrm]
    (refine wpList_step fun K hK => ?_; replace hK := hide hK; go_simp; refine unhide hK _ _ ?_; clear hK K)
    refine wpList_nil ?_
    have hg := hide hB.gr
    clear hB h
    go_wp2_with fail
    rw [unhide hT]
    exact ⟨a1, c1, rfl, unhide hO1, unhide hg⟩
set_option maxHeartbeats 4000000 in
theorem copied_ok (c : Cm) (x : Lc) (w : World) (hc : Cin w c x) (hno : x.no ≤ 1000) (hnh : x.nh ≤ 1000) : Calls Try.prog 35 #[.agg (fl [[.int .u32 c.nx], [.slice x.ao x.no x.co], [.int .i64 c.tn], [.int .u32 c.dl], [.slice x.ah x.nh x.ch]])] w (fun r w' => ∃ x', r = .returned (.agg (fl (cvs c x'))) ∧ Own w.heap.size w' c x' ∧ x'.no = x.no ∧ x'.nh = x.nh ∧ Gr w w') := by
  obtain ⟨T, hT⟩ : ∃ T : Ending → World → Prop, T = (fun r w' => ∃ x', r = .returned (.agg (fl (cvs c x'))) ∧ Own w.heap.size w' c x' ∧ x'.no = x.no ∧ x'.nh = x.nh ∧ Gr w w') := ⟨_, rfl⟩
  rw [← hT]
  replace hT := hide hT
  replace hc := hide hc
  obtain ⟨A0_, hA0_⟩ : ∃ S_, S_ = fl [[.int .u32 c.nx], [.slice x.ao x.no x.co], [.int .i64 c.tn], [.int .u32 c.dl], [.slice x.ah x.nh x.ch]] := ⟨_, rfl⟩
  rw [← hA0_]
  replace hA0_ := hide hA0_
  go_enter Try.func35, Try.ntmps35
  go_upto_region 1 with fail
  have hB := (((Bl.nil w).new A0_ 26).new (fl [[.int .u32 0], [.slice none 0 0], [.int .i64 0], [.int .u32 0], [.slice none 0 0]]) 26)
  simp only [size_alloc, List.nil_append, List.cons_append] at hB
  rw [unhide hA0_] at hB
  generalize hu_ : World.alloc _ _ = u0
  replace hB : Bl w [⟨w.heap.size, fl [[.int .u32 c.nx], [.slice x.ao x.no x.co], [.int .i64 c.tn], [.int .u32 c.dl], [.slice x.ah x.nh x.ch]], 26⟩, ⟨w.heap.size + 1, fl [[.int .u32 0], [.slice none 0 0], [.int .i64 0], [.int .u32 0], [.slice none 0 0]], 26⟩] u0 := by
    rw [← hu_]
    rw [unhide hA0_]
    exact hB
  clear hu_ hA0_
  have hB0 : w.heap.size ≤ u0.heap.size := hB.gr.size
  refine wp_region_lit ?_
  refine lvk (.pointer (some ⟨w.heap.size, 1, none⟩)) ?_
  simp only [nrm]
  refine list_val (.slice x.ao x.no x.co) (by kernel_rfl) (exec_csO _ (.tmp 3) rfl (w.heap.size) 1 (by kernel_rfl) x.ao x.no x.co (seg_cell (nC  _ _ _ _ _) (hB.get 0 (x := ⟨w.heap.size, fl [[.int .u32 c.nx], [.slice x.ao x.no x.co], [.int .i64 c.tn], [.int .u32 c.dl], [.slice x.ah x.nh x.ch]], 26⟩) rfl) 1 (v := .slice x.ao x.no x.co) rfl rfl)) ?_
  simp only [nrm]
  refine list_call 52 #[.slice x.ao x.no x.co] (by kernel_rfl) (by kernel_rfl) ((clone_o c.O x.ao x.no x.co hno u0 ((unhide hc).gr hB.gr).o).mono ?_)
  rintro r_ u1 ⟨a1, c1, rfl, hO, hg⟩
  replace hB := hB.more hg
  clear hg
  replace hO := hide (or_base hO hB0)
  refine ⟨_, rfl, ?_⟩
  simp only [nrm]
  refine lvk (.pointer (some ⟨w.heap.size, 1, none⟩)) ?_
  simp only [nrm]
  have hzz_ : Hid (u1.heap[w.heap.size]? = some (.cells (fl [[.int .u32 c.nx], [.slice x.ao x.no x.co], [.int .i64 c.tn], [.int .u32 c.dl], [.slice x.ah x.nh x.ch]]) 26 (0, 0))) := hide (hB.get 0 (x := ⟨w.heap.size, fl [[.int .u32 c.nx], [.slice x.ao x.no x.co], [.int .i64 c.tn], [.int .u32 c.dl], [.slice x.ah x.nh x.ch]], 26⟩) rfl)
  refine list_csO (.tmp 6) (.tmp 5) (w.heap.size) 1 a1 x.no c1 (by kernel_rfl) rfl (by kernel_rfl) (by kernel_rfl) hB 0 rfl NC (nC  _ _ _ _ _) 1 _ rfl rfl ?_
  intro u2 hB_ hbt_
  clear hB
  replace hB : Bl w [⟨w.heap.size, fl [[.int .u32 c.nx], [.slice a1 x.no c1], [.int .i64 c.tn], [.int .u32 c.dl], [.slice x.ah x.nh x.ch]], 26⟩, ⟨w.heap.size + 1, fl [[.int .u32 0], [.slice none 0 0], [.int .i64 0], [.int .u32 0], [.slice none 0 0]], 26⟩] u2 := hB_
  clear hB_
  replace hO := hide ((unhide hO).bz (unhide hzz_) hbt_)
  clear hbt_ hzz_
  simp only [nrm]
  refine wpList_nil ?_
  replace hB := hide hB
  go_upto_region 2 with fail
  replace hB := unhide hB
  have hB1 : w.heap.size ≤ u2.heap.size := hB.gr.size
  refine wp_region_lit ?_
  refine lvk (.pointer (some ⟨w.heap.size, 4, none⟩)) ?_
  simp only [nrm]
  refine list_val (.slice x.ah x.nh x.ch) (by kernel_rfl) (exec_csI _ (.tmp 7) rfl (w.heap.size) 4 (by kernel_rfl) x.ah x.nh x.ch (seg_cell (nC  _ _ _ _ _) (hB.get 0 (x := ⟨w.heap.size, fl [[.int .u32 c.nx], [.slice a1 x.no c1], [.int .i64 c.tn], [.int .u32 c.dl], [.slice x.ah x.nh x.ch]], 26⟩) rfl) 4 (v := .slice x.ah x.nh x.ch) rfl rfl)) ?_
  simp only [nrm]
  refine list_call 53 #[.slice x.ah x.nh x.ch] (by kernel_rfl) (by kernel_rfl) ((clone_i c.H x.ah x.nh x.ch hnh u2 ((unhide hc).gr hB.gr).h).mono ?_)
  rintro r_ u3 ⟨a2, c2, rfl, hH, hg⟩
  replace hO := hide ((unhide hO).gr hg)
  replace hB := hB.more hg
  clear hg
  replace hH := hide (or_base hH hB1)
  refine ⟨_, rfl, ?_⟩
  simp only [nrm]
  refine lvk (.pointer (some ⟨w.heap.size, 4, none⟩)) ?_
  simp only [nrm]
  have hzz_ : Hid (u3.heap[w.heap.size]? = some (.cells (fl [[.int .u32 c.nx], [.slice a1 x.no c1], [.int .i64 c.tn], [.int .u32 c.dl], [.slice x.ah x.nh x.ch]]) 26 (0, 0))) := hide (hB.get 0 (x := ⟨w.heap.size, fl [[.int .u32 c.nx], [.slice a1 x.no c1], [.int .i64 c.tn], [.int .u32 c.dl], [.slice x.ah x.nh x.ch]], 26⟩) rfl)
  refine list_csI (.tmp 10) (.tmp 9) (w.heap.size) 4 a2 x.nh c2 (by kernel_rfl) rfl (by kernel_rfl) (by kernel_rfl) hB 0 rfl NC (nC  _ _ _ _ _) 4 _ rfl rfl ?_
  intro u4 hB_ hbt_
  clear hB
  replace hB : Bl w [⟨w.heap.size, fl [[.int .u32 c.nx], [.slice a1 x.no c1], [.int .i64 c.tn], [.int .u32 c.dl], [.slice a2 x.nh c2]], 26⟩, ⟨w.heap.size + 1, fl [[.int .u32 0], [.slice none 0 0], [.int .i64 0], [.int .u32 0], [.slice none 0 0]], 26⟩] u4 := hB_
  clear hB_
  replace hO := hide ((unhide hO).bz (unhide hzz_) hbt_)
  replace hH := hide ((unhide hH).bz (unhide hzz_) hbt_)
  clear hbt_ hzz_
  simp only [nrm]
  refine wpList_nil ?_
  replace hB := hide hB
  go_upto_region 3 with fail
  replace hB := unhide hB
  refine wp_region_lit ?_
  refine list_val (.agg (fl [[.int .u32 c.nx], [.slice a1 x.no c1], [.int .i64 c.tn], [.int .u32 c.dl], [.slice a2 x.nh c2]])) (by kernel_rfl) (exec_sw _ 26 (.tmp 1) rfl (w.heap.size) (by kernel_rfl) (hB.get 0 (x := ⟨w.heap.size, fl [[.int .u32 c.nx], [.slice a1 x.no c1], [.int .i64 c.tn], [.int .u32 c.dl], [.slice a2 x.nh c2]], 26⟩) rfl) NC (nC  _ _ _ _ _) Try.underlying26 rfl (by kernel_rfl)) ?_
  simp only [nrm]
  have hzz_ : Hid (u4.heap[w.heap.size + 1]? = some (.cells (fl [[.int .u32 0], [.slice none 0 0], [.int .i64 0], [.int .u32 0], [.slice none 0 0]]) 26 (0, 0))) := hide (hB.get 1 (x := ⟨w.heap.size + 1, fl [[.int .u32 0], [.slice none 0 0], [.int .i64 0], [.int .u32 0], [.slice none 0 0]], 26⟩) rfl)
  refine list_all 26 (.tmp 2) (.tmp 11) (w.heap.size + 1) (S2 := [[.int .u32 c.nx], [.slice a1 x.no c1], [.int .i64 c.tn], [.int .u32 c.dl], [.slice a2 x.nh c2]]) (by kernel_rfl) rfl (by kernel_rfl) (by kernel_rfl) hB 1 rfl NC (nC  _ _ _ _ _) (nC  _ _ _ _ _) (by kernel_rfl) (oC  rfl rfl rfl rfl rfl) ?_
  intro u5 hB_ hbt_
  clear hB
  replace hB : Bl w [⟨w.heap.size, fl [[.int .u32 c.nx], [.slice a1 x.no c1], [.int .i64 c.tn], [.int .u32 c.dl], [.slice a2 x.nh c2]], 26⟩, ⟨w.heap.size + 1, fl [[.int .u32 c.nx], [.slice a1 x.no c1], [.int .i64 c.tn], [.int .u32 c.dl], [.slice a2 x.nh c2]], 26⟩] u5 := hB_
  clear hB_
  replace hO := hide ((unhide hO).bz (unhide hzz_) hbt_)
  replace hH := hide ((unhide hH).bz (unhide hzz_) hbt_)
  clear hbt_ hzz_
  simp only [nrm]
  refine wpList_nil ?_
  replace hB := hide hB
  go_wp2_with fail
  replace hB := unhide hB
  rw [unhide hT]
  exact bodyPost_ret (v := .agg (fl [[.int .u32 c.nx], [.slice a1 x.no c1], [.int .i64 c.tn], [.int .u32 c.dl], [.slice a2 x.nh c2]])) (res1 Try.results35 (rv_cell (by kernel_rfl) (hB.get 1 (x := ⟨w.heap.size + 1, fl [[.int .u32 c.nx], [.slice a1 x.no c1], [.int .i64 c.tn], [.int .u32 c.dl], [.slice a2 x.nh c2]], 26⟩) rfl) Try.underlying26 rfl (by rw [fl_size (nC  _ _ _ _ _)]; kernel_rfl))) rfl (⟨⟨a1, x.no, c1, a2, x.nh, c2⟩, rfl, ⟨unhide hO, unhide hH⟩, rfl, rfl, hB.gr⟩)
end Go.Proofs.Ytcefkkoombmndaa
