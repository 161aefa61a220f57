/-
  The reference's Take.
-/
import Derived.Test.YtcefkkoombmndaaUY
namespace Go.Proofs.Ytcefkkoombmndaa
open Go.RowKit
set_option maxRecDepth 100000
set_option linter.unusedSimpArgs false
set_option linter.unusedVariables false
theorem app_row1B {t e : TypeId} {k nb : Nat} (L : Lw t e k nb) {w : World} {o : Oper} {a : Act} {K : Act → World → Prop} {Q : Exit → Act → World → Prop} (s x : Operand)
    (ho : o.op = .call { callee := .builtin .append, args := #[s, x], argTypes := #[t, t] }) (v : Value) (R : List (List Value)) (hs : a.eval s = v) (b : Nat) (hb : b ≤ w.heap.size) (hown : Or_ k e b w v R)
    (p q sc : Nat) (r : List Value) (hx : a.eval x = .slice (some ⟨p, q, none⟩) 1 sc) (hrow : r.length = k) (hat : w.rangeAt p q r) (h1 : ∀ u ∈ r, u.oneCell' = true) (hbig : ((R.length + 1) + (R.length + 1) / 4 + 192) * nb ≤ 281474976710656 ∧ R.length + 1 ≤ 4611686018427387904)
    (h : ∀ v' w', Or_ k e b w' v' (R ++ [r]) → w.grownBy w' v.ownBlock → (v'.ownBlock = v.ownBlock ∨ v'.ownBlock = some w.heap.size) → K (a.put o.dst v') w') : o.wp Try.prog a w K Q := by
  obtain ⟨i0, z0, hi, hz0, hz1, hz2, hz3⟩ := L.hi
  have hat2 : ∀ j u, r[j]? = some u → w.cell? ((⟨p, q, none⟩ : Addr).add j) = some u := fun j u hj => by rw [Addr.add_mid]; exact hat j u hj
  have hrl : r.length = 1 * k := by omega
  obtain ⟨v', w', hr, h2, h3, -⟩ := run_append_own_wide (P := Try.prog) w b t o.type e i0 z0 k nb L.ht hi hz0 hz1 hz2 hz3 L.hk v R.length _ hown.2 ⟨p, q, none⟩ 1 sc r hrl hat2 h1 (by unfold maxLen; omega) hbig.1 hb
  have hwh : v'.ownBlock = v.ownBlock ∨ v'.ownBlock = some w.heap.size := by
    subst hz1 hz2
    rcases hown.2.2 with ⟨e1, e2⟩ | ⟨g, cap, cur, e1, hbg, hg, hnc, hcm, hcs, htake⟩
    · subst e1
      have hr2 := run_append_nil (P := Try.prog) w t o.type e i0 z0 L.ht hi hz0 ⟨p, q, none⟩ 1 sc r hrl hat2 (by omega) (by omega) (Nat.le_trans (Nat.mul_le_mul_right _ (by omega)) hbig.1)
      rw [hr2] at hr
      injection hr with hr _
      rw [← hr]
      exact .inr rfl
    · subst e1
      by_cases hroom : R.length + 1 ≤ cap
      · have hfit : R.length * i0.size + r.length ≤ cur.size := by rw [hrl, hcs, ← Nat.add_mul]; exact Nat.mul_le_mul_right _ hroom
        have hr2 := run_append_room (P := Try.prog) w t o.type e i0 L.ht hi g R.length cap cur hg ⟨p, q, none⟩ 1 sc r hrl hat2 h1 hroom hfit
        rw [hr2] at hr
        injection hr with hr _
        rw [← hr]
        exact .inl rfl
      · have hr2 := run_append_grow (P := Try.prog) w t o.type e i0 z0 L.ht hi hz0 ⟨g, 0, none⟩ R.length cap _ hown.2.1 (hown.2.cells (g := g) rfl) ⟨p, q, none⟩ 1 sc r hrl hat2 (by omega) (by omega) (growslice_fits_wide (by omega) hbig.1)
        rw [hr2] at hr
        injection hr with hr _
        rw [← hr]
        exact .inr rfl
  unfold Oper.wp execOp
  simp only [ho, resolve, invoke, builtin, Sem.run_bind, Sem.run_pure, Result.andThen_ok, List.map_toArray, List.map_cons, List.map_nil, hs, hx, hr]
  refine h v' w' ⟨?_, ?_⟩ h3 hwh
  · intro x hx
    rcases List.mem_append.1 hx with hx | hx
    · exact hown.1 x hx
    · rw [List.mem_singleton] at hx
      rw [hx]
      exact hrow
  · rw [List.length_append, List.flatten_append]
    simpa using h2
theorem Bl.gx {w v v' : World} {L : List Blk} (h : Bl w L v) {k : Nat} {e : TypeId} {b : Nat} {x : Value} {R : List (List Value)} (ho : Or_ k e b v x R) (hb : w.heap.size ≤ b) (g : v.grownBy v' x.ownBlock) (ht : ∀ y ∈ L, x.ownBlock ≠ some y.g) : Bl w L v' :=
  ⟨⟨g.os.trans h.gr.os, g.tape.trans h.gr.tape, g.output.trans h.gr.output, Nat.le_trans h.gr.size g.size, fun i hi => (g.block i (Nat.lt_of_lt_of_le hi h.gr.size) (fun e1 => (by have h2 := (World.ownsRow.lt ho.2 i e1.symm).1; omega))).trans (h.gr.block i hi)⟩,
   fun y hy => ⟨by rw [g.block y.g (lt_of_block (h.at_ y hy).1) (fun e1 => ht y hy e1.symm)]; exact (h.at_ y hy).1, (h.at_ y hy).2⟩, h.ne⟩
theorem ow_slice (a : Option Addr) (n c : Nat) : (Value.slice a n c).ownBlock = blkOf a := by cases a <;> rfl
/-- what of a list was passed, a text laid in its place -/
def insT (H : List It) (s : It) (j : Nat) : List It := if j ≤ pos H s.n then H.take j else H.take (pos H s.n) ++ [s] ++ (H.take j).drop (pos H s.n)
theorem insT_0 (H : List It) (s : It) : insT H s 0 = [] := by unfold insT; rw [if_pos (by omega)]; rfl
theorem insT_lo {H : List It} {s t : It} {j : Nat} (ht : H[j]? = some t) (h : j < pos H s.n) : insT H s (j + 1) = insT H s j ++ [t] := by
  unfold insT
  rw [if_pos (by omega), if_pos (by omega), List.take_add_one, ht]
  rfl
theorem insT_at {H : List It} {s t : It} {j : Nat} (ht : H[j]? = some t) (h : j = pos H s.n) : insT H s (j + 1) = (insT H s j ++ [s]) ++ [t] := by
  have hl := (List.getElem?_eq_some_iff.1 ht).1
  unfold insT
  rw [if_neg (by omega), if_pos (by omega), ← h, List.take_add_one, ht, List.drop_append_of_le_length (by rw [List.length_take]; omega), List.drop_eq_nil_of_le (by rw [List.length_take]; omega)]
  simp
theorem insT_hi {H : List It} {s t : It} {j : Nat} (ht : H[j]? = some t) (h : pos H s.n < j) : insT H s (j + 1) = insT H s j ++ [t] := by
  have hl := (List.getElem?_eq_some_iff.1 ht).1
  unfold insT
  rw [if_neg (by omega), if_neg (by omega), List.take_add_one, ht, List.drop_append_of_le_length (by rw [List.length_take]; omega)]
  simp
theorem insT_end {H : List It} {s : It} : insL H s = if pos H s.n = H.length then insT H s H.length ++ [s] else insT H s H.length := by
  have h1 := pos_le H s.n
  unfold insL insT
  split
  · rename_i h
    rw [if_pos (by omega), h, List.drop_eq_nil_of_le (Nat.le_refl _), List.append_nil]
  · rw [if_neg (by omega), List.take_length]
theorem pos_gt {H : List It} {m : Int} {j : Nat} {t : It} (hs : Srt H) (hn : isIn H m = false) (ht : H[j]? = some t) : (m < t.n) ↔ pos H m ≤ j := by
  obtain ⟨hl, rfl⟩ := List.getElem?_eq_some_iff.1 ht
  constructor
  · intro h
    rcases Nat.lt_or_ge j (pos H m) with h1 | h1
    · have h2 : H[j] ∈ H.take (pos H m) := List.mem_take_iff_getElem.2 ⟨j, by omega, rfl⟩
      have := pos_lo h2
      omega
    · exact h1
  · intro h
    have h2 : H[j] ∈ H.drop (pos H m) := List.mem_drop_iff_getElem.2 ⟨j - pos H m, by omega, by congr 1; omega⟩
    exact pos_hi hs hn h2
theorem lz_gs {k b : Nat} {e : TypeId} {w v : World} {a : Option Addr} {n c : Nat} {R : List (List Value)} (h : Lz k w a n c R) {d : Nat} (ho : Ow k e d w a n) {k2 : Nat} {e2 : TypeId} {x : Value} {R2 : List (List Value)} (h2 : Or_ k2 e2 b w x R2) (g : w.grownBy v x.ownBlock) (hne : e ≠ e2) : Lz k v a n c R ∧ Ow k e d v a n := by
  rcases ho with h0 | ⟨q, o, C, rfl, h3, h4, h5⟩
  · exact ⟨⟨h.len, h.row, .inl (List.eq_nil_of_length_eq_zero (by rw [h.len, h0])), h.cap, h.max⟩, .inl h0⟩
  · have hb : v.heap[q]? = w.heap[q]? := g.block q (lt_of_block h4) (fun e1 => by
      rcases h2.2.2 with ⟨e3, _⟩ | ⟨q2, cap, cur, e3, _, h6, _⟩
      · rw [e3] at e1; cases e1
      · rw [e3] at e1
        injection e1 with e1
        dsimp only at e1
        rw [e1, h6] at h4
        injection h4 with h4
        injection h4 with _ h4 _
        exact hne h4.symm)
    refine ⟨⟨h.len, h.row, ?_, h.cap, h.max⟩, .inr ⟨q, o, C, rfl, h3, by rw [hb]; exact h4, h5⟩⟩
    rcases h.sl with h6 | ⟨p, o2, h6, h7⟩
    · exact .inl h6
    · injection h6 with h6
      injection h6 with h6 h8
      subst h6 h8
      exact .inr ⟨_, _, rfl, fun j x hj => by rw [cell_heap hb]; exact h7 j x hj⟩
structure Hl (b : Nat) (w : World) (a : Option Addr) (n c : Nat) (H : List It) : Prop where
  i : IL w a n c H
  o : Ow 2 47 b w a n
theorem Hl.gr {b : Nat} {w v : World} {a : Option Addr} {n c : Nat} {H : List It} (h : Hl b w a n c H) (g : Gr w v) : Hl b v a n c H := ⟨h.i.gr g, h.o.gr g⟩
theorem Hl.bz {b g : Nat} {w v : World} {a : Option Addr} {n c : Nat} {H : List It} (h : Hl b w a n c H) {C : Array Value} {t : TypeId} (hg : w.heap[g]? = some (.cells C t (0, 0))) (m : Bt g w v) (ht : t ≠ 47 := by decide) : Hl b v a n c H := ⟨⟨h.i.1, lz_bz h.i.2 h.o hg m ht⟩, h.o.bz hg m ht⟩
theorem Hl.gs {b d k2 : Nat} {e2 : TypeId} {w v : World} {a : Option Addr} {n c : Nat} {H : List It} {x : Value} {R2 : List (List Value)} (h : Hl b w a n c H) (h2 : Or_ k2 e2 d w x R2) (g : w.grownBy v x.ownBlock) (hne : 47 ≠ e2) : Hl b v a n c H := by
  have h3 := lz_gs h.i.2 h.o h2 g hne
  exact ⟨⟨h.i.1, h3.1⟩, h3.2⟩
theorem Hl.tl {b : Nat} {w : World} {a : Option Addr} {n c : Nat} {t : It} {H : List It} (h : Hl b w a n c (t :: H)) : Hl b w (frA 2 a c 1) (n - 1) (c - 1) H := by
  have h1 := h.i.len
  simp only [List.length_cons] at h1
  have h2 := h.i.2.from_ 1 (by omega)
  exact ⟨⟨fun s hs => h.i.1 s (List.mem_cons_of_mem _ hs), by simpa using h2⟩, h.o.from_ 1 (by omega) h.i.2.cap⟩
theorem df_app {la l9 : Option Addr} {n c n9 c9 g : Nat} {w : World} (h : blkOf la ≠ some g) (hg : g < w.heap.size) (hw : (Value.slice l9 n9 c9).ownBlock = (Value.slice la n c).ownBlock ∨ (Value.slice l9 n9 c9).ownBlock = some w.heap.size) : blkOf l9 ≠ some g := by
  rw [ow_slice, ow_slice] at hw
  rcases hw with hw | hw
  · rw [hw]; exact h
  · rw [hw]
    intro e
    have := Option.some.inj e
    omega
theorem Or_.bk9 {k : Nat} {e : TypeId} {b g : Nat} {w v : World} {a : Option Addr} {n c : Nat} {R : List (List Value)} (h : Or_ k e b w (.slice a n c) R) {C : Array Value} {t : TypeId} (hg : w.heap[g]? = Option.some (Obj.cells C t (0, 0))) (m : Bt g w v) (hn : blkOf a ≠ Option.some g) : Or_ k e b v (.slice a n c) R := or_bk h m hn
set_option maxHeartbeats 4000000 in
theorem rtk_ok (c : Cm) (x : Lc) (s : It) (r : Int) (w : World) (hc : Cin w c x) (hs : s.Ok) : Calls Try.prog 25 #[.agg (fl [[.int .u32 c.nx], [.slice x.ao x.no x.co], [.int .i64 c.tn], [.int .u32 c.dl], [.slice x.ah x.nh x.ch]]), .agg (fl [[.int .u32 s.n], [.string s.s]]), .int .i64 r] w (fun r_ w' => ∃ x' a' n' c', r_ = .returned (.tuple #[.agg (fl (cvs (tk c s r).1 x')), .slice a' n' c', .int .i64 (tk c s r).2.2]) ∧ Cin w' (tk c s r).1 x' ∧ Owx w.heap.size w' x' ∧ Or_ 1 9 w.heap.size w' (.slice a' n' c') ((tk c s r).2.1.map tr1) ∧ Gr w w') := by
  obtain ⟨T, hT⟩ : ∃ T : Ending → World → Prop, T = (fun r_ w' => ∃ x' a' n' c', r_ = .returned (.tuple #[.agg (fl (cvs (tk c s r).1 x')), .slice a' n' c', .int .i64 (tk c s r).2.2]) ∧ Cin w' (tk c s r).1 x' ∧ Owx w.heap.size w' x' ∧ Or_ 1 9 w.heap.size w' (.slice a' n' c') ((tk c s r).2.1.map tr1) ∧ Gr w w') := ⟨_, rfl⟩
  rw [← hT]
  replace hT := hide hT
  have hn := hc.o.len
  have hm := hc.h.len
  have hss := hs.2
  replace hc := hide hc
  obtain ⟨A0_, hA0_⟩ : ∃ S_, S_ = fl [[.int .u32 c.nx], [.slice x.ao x.no x.co], [.int .i64 c.tn], [.int .u32 c.dl], [.slice x.ah x.nh x.ch]] := ⟨_, rfl⟩
  rw [← hA0_]
  replace hA0_ := hide hA0_
  obtain ⟨A1_, hA1_⟩ : ∃ S_, S_ = fl [[.int .u32 s.n], [.string s.s]] := ⟨_, rfl⟩
  rw [← hA1_]
  replace hA1_ := hide hA1_
  go_enter Try.func25, Try.ntmps25
  go_upto_region 1 with fail
  have hB := ((((Bl.nil w).new A0_ 26).new A1_ 47).new (fl [[.int .u32 0], [.slice none 0 0], [.int .i64 0], [.int .u32 0], [.slice none 0 0]]) 26)
  simp only [size_alloc, List.nil_append, List.cons_append] at hB
  rw [unhide hA0_, unhide hA1_] at hB
  generalize hu_ : World.alloc _ _ = u0
  replace hB : Bl w [⟨w.heap.size, fl [[.int .u32 c.nx], [.slice x.ao x.no x.co], [.int .i64 c.tn], [.int .u32 c.dl], [.slice x.ah x.nh x.ch]], 26⟩, ⟨w.heap.size + 1, fl [[.int .u32 s.n], [.string s.s]], 47⟩, ⟨w.heap.size + 1 + 1, fl [[.int .u32 0], [.slice none 0 0], [.int .i64 0], [.int .u32 0], [.slice none 0 0]], 26⟩] u0 := by
    rw [← hu_]
    rw [unhide hA0_, unhide hA1_]
    exact hB
  clear hu_ hA0_ hA1_
  cases h1 : rt c with
  | false =>
    have hv : tk c s r = (cz, [], 281) := by unfold tk unt; rw [h1]; rfl
    refine wp_region_lit ?_
    refine list_val (.agg (fl [[.int .u32 c.nx], [.slice x.ao x.no x.co], [.int .i64 c.tn], [.int .u32 c.dl], [.slice x.ah x.nh x.ch]])) (by kernel_rfl) (exec_sw _ 26 (.tmp 3) rfl (w.heap.size) (by kernel_rfl) (hB.get 0 (x := ⟨w.heap.size, fl [[.int .u32 c.nx], [.slice x.ao x.no x.co], [.int .i64 c.tn], [.int .u32 c.dl], [.slice x.ah x.nh x.ch]], 26⟩) rfl) NC (nC  _ _ _ _ _) Try.underlying26 rfl (by kernel_rfl)) ?_
    simp only [nrm]
    refine list_call 13 #[.agg (fl [[.int .u32 c.nx], [.slice x.ao x.no x.co], [.int .i64 c.tn], [.int .u32 c.dl], [.slice x.ah x.nh x.ch]])] (by kernel_rfl) (by kernel_rfl) (((show Calls Try.prog 13 #[.agg (fl [[.int .u32 c.nx], [.slice x.ao x.no x.co], [.int .i64 c.tn], [.int .u32 c.dl], [.slice x.ah x.nh x.ch]])] u0 (Vl (.bool false) u0) from h1 ▸ right_ok c x u0 ((unhide hc).gr hB.gr))).mono ?_)
    rintro r_ u1 ⟨rfl, hg⟩
    replace hB := hB.more hg
    clear hg
    refine ⟨_, rfl, ?_⟩
    simp only [nrm]
    refine lvk (.bool true) ?_
    simp only [nrm]
    refine wpList_nil ?_
    replace hB := hide hB
    go_upto_region 2 with fail
    replace hB := unhide hB
    refine wp_region_lit ?_
    refine list_val (.agg (fl [[.int .u32 0], [.slice none 0 0], [.int .i64 0], [.int .u32 0], [.slice none 0 0]])) (by kernel_rfl) (bC _ rfl) ?_
    simp only [nrm]
    refine list_all 26 (.tmp 6) (.tmp 17) (w.heap.size + 1 + 1) (S2 := [[.int .u32 0], [.slice none 0 0], [.int .i64 0], [.int .u32 0], [.slice none 0 0]]) (by kernel_rfl) rfl (by kernel_rfl) (by kernel_rfl) hB 2 rfl NC (nC  _ _ _ _ _) (nC  _ _ _ _ _) (by kernel_rfl) (oC  rfl rfl rfl rfl rfl) ?_
    intro u2 hB_ hbt_
    clear hB
    replace hB : Bl w [⟨w.heap.size, fl [[.int .u32 c.nx], [.slice x.ao x.no x.co], [.int .i64 c.tn], [.int .u32 c.dl], [.slice x.ah x.nh x.ch]], 26⟩, ⟨w.heap.size + 1, fl [[.int .u32 s.n], [.string s.s]], 47⟩, ⟨w.heap.size + 1 + 1, fl [[.int .u32 0], [.slice none 0 0], [.int .i64 0], [.int .u32 0], [.slice none 0 0]], 26⟩] u2 := hB_
    clear hB_
    clear hbt_
    simp only [nrm]
    (refine wpList_step fun K hK => ?_; replace hK := hide hK; go_simp; refine unhide hK _ _ ?_; clear hK K)
    (refine wpList_step fun K hK => ?_; replace hK := hide hK; go_simp; refine unhide hK _ _ ?_; clear hK K)
    refine wpList_nil ?_
    replace hB := hide hB
    go_wp2_with fail
    replace hB := unhide hB
    rw [unhide hT]
    rw [hv]
    exact bodyPost_ret (v := .tuple #[.agg (fl [[.int .u32 0], [.slice none 0 0], [.int .i64 0], [.int .u32 0], [.slice none 0 0]]), .slice none 0 0, .int .i64 281]) (res3 Try.results25 (rv_cell (by kernel_rfl) (hB.get 2 (x := ⟨w.heap.size + 1 + 1, fl [[.int .u32 0], [.slice none 0 0], [.int .i64 0], [.int .u32 0], [.slice none 0 0]], 26⟩) rfl) Try.underlying26 rfl (by rw [fl_size (nC  _ _ _ _ _)]; kernel_rfl)) (rv_tmp (by kernel_rfl)) (rv_tmp (by kernel_rfl))) rfl (⟨xz, none, 0, 0, rfl, cin_z _, owx_z _ _, or_none _ _ _ _, hB.gr⟩)
  | true =>
    cases h2 : wt c s.n r with
    | false =>
      have hv : tk c s r = (cz, [], 282) := by unfold tk unt; rw [h1, h2]; rfl
      refine wp_region_lit ?_
      refine list_val (.agg (fl [[.int .u32 c.nx], [.slice x.ao x.no x.co], [.int .i64 c.tn], [.int .u32 c.dl], [.slice x.ah x.nh x.ch]])) (by kernel_rfl) (exec_sw _ 26 (.tmp 3) rfl (w.heap.size) (by kernel_rfl) (hB.get 0 (x := ⟨w.heap.size, fl [[.int .u32 c.nx], [.slice x.ao x.no x.co], [.int .i64 c.tn], [.int .u32 c.dl], [.slice x.ah x.nh x.ch]], 26⟩) rfl) NC (nC  _ _ _ _ _) Try.underlying26 rfl (by kernel_rfl)) ?_
      simp only [nrm]
      refine list_call 13 #[.agg (fl [[.int .u32 c.nx], [.slice x.ao x.no x.co], [.int .i64 c.tn], [.int .u32 c.dl], [.slice x.ah x.nh x.ch]])] (by kernel_rfl) (by kernel_rfl) (((show Calls Try.prog 13 #[.agg (fl [[.int .u32 c.nx], [.slice x.ao x.no x.co], [.int .i64 c.tn], [.int .u32 c.dl], [.slice x.ah x.nh x.ch]])] u0 (Vl (.bool true) u0) from h1 ▸ right_ok c x u0 ((unhide hc).gr hB.gr))).mono ?_)
      rintro r_ u1 ⟨rfl, hg⟩
      replace hB := hB.more hg
      clear hg
      refine ⟨_, rfl, ?_⟩
      simp only [nrm]
      refine lvk (.bool false) ?_
      simp only [nrm]
      refine wpList_nil ?_
      replace hB := hide hB
      go_upto_region 3 with fail
      replace hB := unhide hB
      refine wp_region_lit ?_
      refine list_val (.agg (fl [[.int .u32 c.nx], [.slice x.ao x.no x.co], [.int .i64 c.tn], [.int .u32 c.dl], [.slice x.ah x.nh x.ch]])) (by kernel_rfl) (exec_sw _ 26 (.tmp 3) rfl (w.heap.size) (by kernel_rfl) (hB.get 0 (x := ⟨w.heap.size, fl [[.int .u32 c.nx], [.slice x.ao x.no x.co], [.int .i64 c.tn], [.int .u32 c.dl], [.slice x.ah x.nh x.ch]], 26⟩) rfl) NC (nC  _ _ _ _ _) Try.underlying26 rfl (by kernel_rfl)) ?_
      simp only [nrm]
      refine lvk (.pointer (some ⟨w.heap.size + 1, 0, none⟩)) ?_
      simp only [nrm]
      refine list_val (.int .u32 s.n) (by kernel_rfl) (exec_c32 _ (.tmp 19) rfl (w.heap.size + 1) 0 (by kernel_rfl) s.n (seg_cell (nI  _ _) (hB.get 1 (x := ⟨w.heap.size + 1, fl [[.int .u32 s.n], [.string s.s]], 47⟩) rfl) 0 (v := .int .u32 s.n) rfl rfl)) ?_
      simp only [nrm]
      refine lvk (.int .i64 r) ?_
      simp only [nrm]
      refine list_call 24 #[.agg (fl [[.int .u32 c.nx], [.slice x.ao x.no x.co], [.int .i64 c.tn], [.int .u32 c.dl], [.slice x.ah x.nh x.ch]]), .int .u32 s.n, .int .i64 r] (by kernel_rfl) (by kernel_rfl) (((show Calls Try.prog 24 #[.agg (fl [[.int .u32 c.nx], [.slice x.ao x.no x.co], [.int .i64 c.tn], [.int .u32 c.dl], [.slice x.ah x.nh x.ch]]), .int .u32 s.n, .int .i64 r] u1 (Vl (.bool false) u1) from h2 ▸ rwants_ok c x s.n r hs.1 u1 ((unhide hc).gr hB.gr))).mono ?_)
      rintro r_ u2 ⟨rfl, hg⟩
      replace hB := hB.more hg
      clear hg
      refine ⟨_, rfl, ?_⟩
      simp only [nrm]
      refine lvk (.bool true) ?_
      simp only [nrm]
      refine wpList_nil ?_
      replace hB := hide hB
      go_upto_region 4 with fail
      replace hB := unhide hB
      refine wp_region_lit ?_
      refine list_val (.agg (fl [[.int .u32 0], [.slice none 0 0], [.int .i64 0], [.int .u32 0], [.slice none 0 0]])) (by kernel_rfl) (bC _ rfl) ?_
      simp only [nrm]
      refine list_all 26 (.tmp 6) (.tmp 24) (w.heap.size + 1 + 1) (S2 := [[.int .u32 0], [.slice none 0 0], [.int .i64 0], [.int .u32 0], [.slice none 0 0]]) (by kernel_rfl) rfl (by kernel_rfl) (by kernel_rfl) hB 2 rfl NC (nC  _ _ _ _ _) (nC  _ _ _ _ _) (by kernel_rfl) (oC  rfl rfl rfl rfl rfl) ?_
      intro u3 hB_ hbt_
      clear hB
      replace hB : Bl w [⟨w.heap.size, fl [[.int .u32 c.nx], [.slice x.ao x.no x.co], [.int .i64 c.tn], [.int .u32 c.dl], [.slice x.ah x.nh x.ch]], 26⟩, ⟨w.heap.size + 1, fl [[.int .u32 s.n], [.string s.s]], 47⟩, ⟨w.heap.size + 1 + 1, fl [[.int .u32 0], [.slice none 0 0], [.int .i64 0], [.int .u32 0], [.slice none 0 0]], 26⟩] u3 := hB_
      clear hB_
      clear hbt_
      simp only [nrm]
      (refine wpList_step fun K hK => ?_; replace hK := hide hK; go_simp; refine unhide hK _ _ ?_; clear hK K)
      (refine wpList_step fun K hK => ?_; replace hK := hide hK; go_simp; refine unhide hK _ _ ?_; clear hK K)
      refine wpList_nil ?_
      replace hB := hide hB
      go_wp2_with fail
      replace hB := unhide hB
      rw [unhide hT]
      rw [hv]
      exact bodyPost_ret (v := .tuple #[.agg (fl [[.int .u32 0], [.slice none 0 0], [.int .i64 0], [.int .u32 0], [.slice none 0 0]]), .slice none 0 0, .int .i64 282]) (res3 Try.results25 (rv_cell (by kernel_rfl) (hB.get 2 (x := ⟨w.heap.size + 1 + 1, fl [[.int .u32 0], [.slice none 0 0], [.int .i64 0], [.int .u32 0], [.slice none 0 0]], 26⟩) rfl) Try.underlying26 rfl (by rw [fl_size (nC  _ _ _ _ _)]; kernel_rfl)) (rv_tmp (by kernel_rfl)) (rv_tmp (by kernel_rfl))) rfl (⟨xz, none, 0, 0, rfl, cin_z _, owx_z _ _, or_none _ _ _ _, hB.gr⟩)
    | true =>
      refine wp_region_lit ?_
      refine list_val (.agg (fl [[.int .u32 c.nx], [.slice x.ao x.no x.co], [.int .i64 c.tn], [.int .u32 c.dl], [.slice x.ah x.nh x.ch]])) (by kernel_rfl) (exec_sw _ 26 (.tmp 3) rfl (w.heap.size) (by kernel_rfl) (hB.get 0 (x := ⟨w.heap.size, fl [[.int .u32 c.nx], [.slice x.ao x.no x.co], [.int .i64 c.tn], [.int .u32 c.dl], [.slice x.ah x.nh x.ch]], 26⟩) rfl) NC (nC  _ _ _ _ _) Try.underlying26 rfl (by kernel_rfl)) ?_
      simp only [nrm]
      refine list_call 13 #[.agg (fl [[.int .u32 c.nx], [.slice x.ao x.no x.co], [.int .i64 c.tn], [.int .u32 c.dl], [.slice x.ah x.nh x.ch]])] (by kernel_rfl) (by kernel_rfl) (((show Calls Try.prog 13 #[.agg (fl [[.int .u32 c.nx], [.slice x.ao x.no x.co], [.int .i64 c.tn], [.int .u32 c.dl], [.slice x.ah x.nh x.ch]])] u0 (Vl (.bool true) u0) from h1 ▸ right_ok c x u0 ((unhide hc).gr hB.gr))).mono ?_)
      rintro r_ u1 ⟨rfl, hg⟩
      replace hB := hB.more hg
      clear hg
      refine ⟨_, rfl, ?_⟩
      simp only [nrm]
      refine lvk (.bool false) ?_
      simp only [nrm]
      refine wpList_nil ?_
      replace hB := hide hB
      go_upto_region 3 with fail
      replace hB := unhide hB
      refine wp_region_lit ?_
      refine list_val (.agg (fl [[.int .u32 c.nx], [.slice x.ao x.no x.co], [.int .i64 c.tn], [.int .u32 c.dl], [.slice x.ah x.nh x.ch]])) (by kernel_rfl) (exec_sw _ 26 (.tmp 3) rfl (w.heap.size) (by kernel_rfl) (hB.get 0 (x := ⟨w.heap.size, fl [[.int .u32 c.nx], [.slice x.ao x.no x.co], [.int .i64 c.tn], [.int .u32 c.dl], [.slice x.ah x.nh x.ch]], 26⟩) rfl) NC (nC  _ _ _ _ _) Try.underlying26 rfl (by kernel_rfl)) ?_
      simp only [nrm]
      refine lvk (.pointer (some ⟨w.heap.size + 1, 0, none⟩)) ?_
      simp only [nrm]
      refine list_val (.int .u32 s.n) (by kernel_rfl) (exec_c32 _ (.tmp 19) rfl (w.heap.size + 1) 0 (by kernel_rfl) s.n (seg_cell (nI  _ _) (hB.get 1 (x := ⟨w.heap.size + 1, fl [[.int .u32 s.n], [.string s.s]], 47⟩) rfl) 0 (v := .int .u32 s.n) rfl rfl)) ?_
      simp only [nrm]
      refine lvk (.int .i64 r) ?_
      simp only [nrm]
      refine list_call 24 #[.agg (fl [[.int .u32 c.nx], [.slice x.ao x.no x.co], [.int .i64 c.tn], [.int .u32 c.dl], [.slice x.ah x.nh x.ch]]), .int .u32 s.n, .int .i64 r] (by kernel_rfl) (by kernel_rfl) (((show Calls Try.prog 24 #[.agg (fl [[.int .u32 c.nx], [.slice x.ao x.no x.co], [.int .i64 c.tn], [.int .u32 c.dl], [.slice x.ah x.nh x.ch]]), .int .u32 s.n, .int .i64 r] u1 (Vl (.bool true) u1) from h2 ▸ rwants_ok c x s.n r hs.1 u1 ((unhide hc).gr hB.gr))).mono ?_)
      rintro r_ u2 ⟨rfl, hg⟩
      replace hB := hB.more hg
      clear hg
      refine ⟨_, rfl, ?_⟩
      simp only [nrm]
      refine lvk (.bool false) ?_
      simp only [nrm]
      refine wpList_nil ?_
      by_cases h3 : (s.s.size : Int) < 1
      · have hz : szB s.s = false := by unfold szB; rw [decide_eq_false_iff_not]; omega
        have hv : tk c s r = (cz, [], 281) := by unfold tk unt; rw [h1, h2, hz]; rfl
        replace h3 := hide h3
        replace hB := hide hB
        go_upto_region 5 with fail
        replace hB := unhide hB
        refine wp_region_lit ?_
        refine wpList_gen fun ops_ hops => ?_
        replace hops := hide hops
        refine list_val (.pointer (some ⟨w.heap.size + 1, 1, none⟩)) (by rw [unhide hops]; kernel_rfl) (by kernel_rfl) ?_
        simp only [nrm]
        refine list_val (.string s.s) (by rw [unhide hops]; kernel_rfl) (exec_cst _ (.tmp 25) rfl (w.heap.size + 1) 1 (by kernel_rfl) s.s (seg_cell (nI  _ _) (hB.get 1 (x := ⟨w.heap.size + 1, fl [[.int .u32 s.n], [.string s.s]], 47⟩) rfl) 1 (v := .string s.s) rfl rfl)) ?_
        simp only [nrm]
        refine list_val (.int .i64 (s.s.size : Int)) (by rw [unhide hops]; kernel_rfl) (len_st _ (.tmp 26) s.s hss rfl (by kernel_rfl)) ?_
        simp only [nrm]
        refine list_val (.bool true) (by rw [unhide hops]; kernel_rfl) (lss_i _ (.tmp 27) (.const (.int .i64 1)) (s.s.size : Int) 1 true rfl (by kernel_rfl) (by kernel_rfl) (decide_eq_true (unhide h3))) ?_
        simp only [nrm]
        refine list_val (.bool true) (by rw [unhide hops]; kernel_rfl) (by kernel_rfl) ?_
        simp only [nrm]
        refine list_off (by rw [unhide hops]; kernel_rfl) ?_
        simp only [nrm]
        refine list_off (by rw [unhide hops]; kernel_rfl) ?_
        simp only [nrm]
        refine list_off (by rw [unhide hops]; kernel_rfl) ?_
        simp only [nrm]
        refine list_off (by rw [unhide hops]; kernel_rfl) ?_
        simp only [nrm]
        refine list_val (.bool true) (by rw [unhide hops]; kernel_rfl) (by kernel_rfl) ?_
        simp only [nrm]
        refine wpList_nil ?_
        replace hB := hide hB
        go_upto_region 6 with fail
        replace hB := unhide hB
        refine wp_region_lit ?_
        refine list_val (.agg (fl [[.int .u32 0], [.slice none 0 0], [.int .i64 0], [.int .u32 0], [.slice none 0 0]])) (by kernel_rfl) (bC _ rfl) ?_
        simp only [nrm]
        refine list_all 26 (.tmp 6) (.tmp 35) (w.heap.size + 1 + 1) (S2 := [[.int .u32 0], [.slice none 0 0], [.int .i64 0], [.int .u32 0], [.slice none 0 0]]) (by kernel_rfl) rfl (by kernel_rfl) (by kernel_rfl) hB 2 rfl NC (nC  _ _ _ _ _) (nC  _ _ _ _ _) (by kernel_rfl) (oC  rfl rfl rfl rfl rfl) ?_
        intro u3 hB_ hbt_
        clear hB
        replace hB : Bl w [⟨w.heap.size, fl [[.int .u32 c.nx], [.slice x.ao x.no x.co], [.int .i64 c.tn], [.int .u32 c.dl], [.slice x.ah x.nh x.ch]], 26⟩, ⟨w.heap.size + 1, fl [[.int .u32 s.n], [.string s.s]], 47⟩, ⟨w.heap.size + 1 + 1, fl [[.int .u32 0], [.slice none 0 0], [.int .i64 0], [.int .u32 0], [.slice none 0 0]], 26⟩] u3 := hB_
        clear hB_
        clear hbt_
        simp only [nrm]
        (refine wpList_step fun K hK => ?_; replace hK := hide hK; go_simp; refine unhide hK _ _ ?_; clear hK K)
        (refine wpList_step fun K hK => ?_; replace hK := hide hK; go_simp; refine unhide hK _ _ ?_; clear hK K)
        refine wpList_nil ?_
        replace hB := hide hB
        go_wp2_with fail
        replace hB := unhide hB
        rw [unhide hT]
        rw [hv]
        exact bodyPost_ret (v := .tuple #[.agg (fl [[.int .u32 0], [.slice none 0 0], [.int .i64 0], [.int .u32 0], [.slice none 0 0]]), .slice none 0 0, .int .i64 281]) (res3 Try.results25 (rv_cell (by kernel_rfl) (hB.get 2 (x := ⟨w.heap.size + 1 + 1, fl [[.int .u32 0], [.slice none 0 0], [.int .i64 0], [.int .u32 0], [.slice none 0 0]], 26⟩) rfl) Try.underlying26 rfl (by rw [fl_size (nC  _ _ _ _ _)]; kernel_rfl)) (rv_tmp (by kernel_rfl)) (rv_tmp (by kernel_rfl))) rfl (⟨xz, none, 0, 0, rfl, cin_z _, owx_z _ _, or_none _ _ _ _, hB.gr⟩)
      by_cases h4 : 48 < (s.s.size : Int)
      · have hz : szB s.s = false := by unfold szB; rw [decide_eq_false_iff_not]; omega
        have hv : tk c s r = (cz, [], 281) := by unfold tk unt; rw [h1, h2, hz]; rfl
        replace h4 := hide h4
        replace hB := hide hB
        go_upto_region 5 with fail
        replace hB := unhide hB
        refine wp_region_lit ?_
        refine wpList_gen fun ops_ hops => ?_
        replace hops := hide hops
        refine list_val (.pointer (some ⟨w.heap.size + 1, 1, none⟩)) (by rw [unhide hops]; kernel_rfl) (by kernel_rfl) ?_
        simp only [nrm]
        refine list_val (.string s.s) (by rw [unhide hops]; kernel_rfl) (exec_cst _ (.tmp 25) rfl (w.heap.size + 1) 1 (by kernel_rfl) s.s (seg_cell (nI  _ _) (hB.get 1 (x := ⟨w.heap.size + 1, fl [[.int .u32 s.n], [.string s.s]], 47⟩) rfl) 1 (v := .string s.s) rfl rfl)) ?_
        simp only [nrm]
        refine list_val (.int .i64 (s.s.size : Int)) (by rw [unhide hops]; kernel_rfl) (len_st _ (.tmp 26) s.s hss rfl (by kernel_rfl)) ?_
        simp only [nrm]
        refine list_val (.bool false) (by rw [unhide hops]; kernel_rfl) (lss_i _ (.tmp 27) (.const (.int .i64 1)) (s.s.size : Int) 1 false rfl (by kernel_rfl) (by kernel_rfl) (decide_eq_false h3)) ?_
        simp only [nrm]
        refine list_val (.bool false) (by rw [unhide hops]; kernel_rfl) (by kernel_rfl) ?_
        simp only [nrm]
        refine list_val (.pointer (some ⟨w.heap.size + 1, 1, none⟩)) (by rw [unhide hops]; kernel_rfl) (by kernel_rfl) ?_
        simp only [nrm]
        refine list_val (.string s.s) (by rw [unhide hops]; kernel_rfl) (exec_cst _ (.tmp 30) rfl (w.heap.size + 1) 1 (by kernel_rfl) s.s (seg_cell (nI  _ _) (hB.get 1 (x := ⟨w.heap.size + 1, fl [[.int .u32 s.n], [.string s.s]], 47⟩) rfl) 1 (v := .string s.s) rfl rfl)) ?_
        simp only [nrm]
        refine list_val (.int .i64 (s.s.size : Int)) (by rw [unhide hops]; kernel_rfl) (len_st _ (.tmp 31) s.s hss rfl (by kernel_rfl)) ?_
        simp only [nrm]
        refine list_val (.bool true) (by rw [unhide hops]; kernel_rfl) (gtr_i _ (.tmp 32) (.const (.int .i64 48)) (s.s.size : Int) 48 true rfl (by kernel_rfl) (by kernel_rfl) (decide_eq_true (unhide h4))) ?_
        simp only [nrm]
        refine list_val (.bool true) (by rw [unhide hops]; kernel_rfl) (by kernel_rfl) ?_
        simp only [nrm]
        refine wpList_nil ?_
        replace hB := hide hB
        go_upto_region 6 with fail
        replace hB := unhide hB
        refine wp_region_lit ?_
        refine list_val (.agg (fl [[.int .u32 0], [.slice none 0 0], [.int .i64 0], [.int .u32 0], [.slice none 0 0]])) (by kernel_rfl) (bC _ rfl) ?_
        simp only [nrm]
        refine list_all 26 (.tmp 6) (.tmp 35) (w.heap.size + 1 + 1) (S2 := [[.int .u32 0], [.slice none 0 0], [.int .i64 0], [.int .u32 0], [.slice none 0 0]]) (by kernel_rfl) rfl (by kernel_rfl) (by kernel_rfl) hB 2 rfl NC (nC  _ _ _ _ _) (nC  _ _ _ _ _) (by kernel_rfl) (oC  rfl rfl rfl rfl rfl) ?_
        intro u3 hB_ hbt_
        clear hB
        replace hB : Bl w [⟨w.heap.size, fl [[.int .u32 c.nx], [.slice x.ao x.no x.co], [.int .i64 c.tn], [.int .u32 c.dl], [.slice x.ah x.nh x.ch]], 26⟩, ⟨w.heap.size + 1, fl [[.int .u32 s.n], [.string s.s]], 47⟩, ⟨w.heap.size + 1 + 1, fl [[.int .u32 0], [.slice none 0 0], [.int .i64 0], [.int .u32 0], [.slice none 0 0]], 26⟩] u3 := hB_
        clear hB_
        clear hbt_
        simp only [nrm]
        (refine wpList_step fun K hK => ?_; replace hK := hide hK; go_simp; refine unhide hK _ _ ?_; clear hK K)
        (refine wpList_step fun K hK => ?_; replace hK := hide hK; go_simp; refine unhide hK _ _ ?_; clear hK K)
        refine wpList_nil ?_
        replace hB := hide hB
        go_wp2_with fail
        replace hB := unhide hB
        rw [unhide hT]
        rw [hv]
        exact bodyPost_ret (v := .tuple #[.agg (fl [[.int .u32 0], [.slice none 0 0], [.int .i64 0], [.int .u32 0], [.slice none 0 0]]), .slice none 0 0, .int .i64 281]) (res3 Try.results25 (rv_cell (by kernel_rfl) (hB.get 2 (x := ⟨w.heap.size + 1 + 1, fl [[.int .u32 0], [.slice none 0 0], [.int .i64 0], [.int .u32 0], [.slice none 0 0]], 26⟩) rfl) Try.underlying26 rfl (by rw [fl_size (nC  _ _ _ _ _)]; kernel_rfl)) (rv_tmp (by kernel_rfl)) (rv_tmp (by kernel_rfl))) rfl (⟨xz, none, 0, 0, rfl, cin_z _, owx_z _ _, or_none _ _ _ _, hB.gr⟩)
      replace hB := hide hB
      go_upto_region 5 with fail
      replace hB := unhide hB
      refine wp_region_lit ?_
      refine wpList_gen fun ops_ hops => ?_
      replace hops := hide hops
      refine list_val (.pointer (some ⟨w.heap.size + 1, 1, none⟩)) (by rw [unhide hops]; kernel_rfl) (by kernel_rfl) ?_
      simp only [nrm]
      refine list_val (.string s.s) (by rw [unhide hops]; kernel_rfl) (exec_cst _ (.tmp 25) rfl (w.heap.size + 1) 1 (by kernel_rfl) s.s (seg_cell (nI  _ _) (hB.get 1 (x := ⟨w.heap.size + 1, fl [[.int .u32 s.n], [.string s.s]], 47⟩) rfl) 1 (v := .string s.s) rfl rfl)) ?_
      simp only [nrm]
      refine list_val (.int .i64 (s.s.size : Int)) (by rw [unhide hops]; kernel_rfl) (len_st _ (.tmp 26) s.s hss rfl (by kernel_rfl)) ?_
      simp only [nrm]
      refine list_val (.bool false) (by rw [unhide hops]; kernel_rfl) (lss_i _ (.tmp 27) (.const (.int .i64 1)) (s.s.size : Int) 1 false rfl (by kernel_rfl) (by kernel_rfl) (decide_eq_false h3)) ?_
      simp only [nrm]
      refine list_val (.bool false) (by rw [unhide hops]; kernel_rfl) (by kernel_rfl) ?_
      simp only [nrm]
      refine list_val (.pointer (some ⟨w.heap.size + 1, 1, none⟩)) (by rw [unhide hops]; kernel_rfl) (by kernel_rfl) ?_
      simp only [nrm]
      refine list_val (.string s.s) (by rw [unhide hops]; kernel_rfl) (exec_cst _ (.tmp 30) rfl (w.heap.size + 1) 1 (by kernel_rfl) s.s (seg_cell (nI  _ _) (hB.get 1 (x := ⟨w.heap.size + 1, fl [[.int .u32 s.n], [.string s.s]], 47⟩) rfl) 1 (v := .string s.s) rfl rfl)) ?_
      simp only [nrm]
      refine list_val (.int .i64 (s.s.size : Int)) (by rw [unhide hops]; kernel_rfl) (len_st _ (.tmp 31) s.s hss rfl (by kernel_rfl)) ?_
      simp only [nrm]
      refine list_val (.bool false) (by rw [unhide hops]; kernel_rfl) (gtr_i _ (.tmp 32) (.const (.int .i64 48)) (s.s.size : Int) 48 false rfl (by kernel_rfl) (by kernel_rfl) (decide_eq_false h4)) ?_
      simp only [nrm]
      refine list_val (.bool false) (by rw [unhide hops]; kernel_rfl) (by kernel_rfl) ?_
      simp only [nrm]
      refine wpList_nil ?_
      have hz : szB s.s = true := by unfold szB; rw [decide_eq_true_iff]; omega
      have hu0 : unt c s r = 0 := by unfold unt; rw [h1, h2, hz]; rfl
      have hv : tk c s r = (dvC (tkC c s), (dvH c.dl (insL c.H s)).2.2, 0) := by unfold tk; rw [if_pos hu0]
      have hdl := tk_dl (unhide hc).nums hu0
      have hle := rt_le h1
      have hsr := rt_srt h1
      have hin := (wt_t h2).2.2.2
      have hnm : Nums (tkC c s) := ⟨(unhide hc).nums.O, fun t ht => (by rcases ins_mem ht with rfl | h; exact hs; exact (unhide hc).nums.H t h), (unhide hc).nx, (unhide hc).tn, (unhide hc).dl⟩
      have hnh3 : x.nh ≤ 3 := by rw [← hm]; exact hle.2.2
      have hno4 : x.no ≤ 4 := by rw [← hn]; exact hle.2.1.1
      clear hu0 hle hn hz h3 h4 hss
      replace hv := hide hv; replace hdl := hide hdl; replace hsr := hide hsr; replace hnm := hide hnm; replace hin := hide hin; replace h1 := hide h1; replace h2 := hide h2
      replace hB := hide hB
      go_upto_region 7 with fail
      replace hB := unhide hB
      have hb0 : w.heap.size ≤ u2.heap.size := hB.gr.size
      refine wp_region_lit ?_
      refine list_val (.agg (fl [[.int .u32 c.nx], [.slice x.ao x.no x.co], [.int .i64 c.tn], [.int .u32 c.dl], [.slice x.ah x.nh x.ch]])) (by kernel_rfl) (exec_sw _ 26 (.tmp 3) rfl (w.heap.size) (by kernel_rfl) (hB.get 0 (x := ⟨w.heap.size, fl [[.int .u32 c.nx], [.slice x.ao x.no x.co], [.int .i64 c.tn], [.int .u32 c.dl], [.slice x.ah x.nh x.ch]], 26⟩) rfl) NC (nC  _ _ _ _ _) Try.underlying26 rfl (by kernel_rfl)) ?_
      simp only [nrm]
      refine list_call 11 #[.agg (fl [[.int .u32 c.nx], [.slice x.ao x.no x.co], [.int .i64 c.tn], [.int .u32 c.dl], [.slice x.ah x.nh x.ch]])] (by kernel_rfl) (by kernel_rfl) ((rcopy_ok c x u2 ((unhide hc).gr hB.gr) (by omega) (by omega)).mono ?_)
      rintro r_ u3 ⟨x1, rfl, hW, hn1, hh1, hg⟩
      replace hB := hB.more hg
      clear hg
      clear hn1 hh1
      replace hW := hide (show Own w.heap.size u3 c x1 from ⟨or_base hW.o hb0, or_base hW.h hb0⟩)
      refine ⟨_, rfl, ?_⟩
      simp only [nrm]
      have hzz_ : Hid (u3.heap[w.heap.size]? = some (.cells (fl [[.int .u32 c.nx], [.slice x.ao x.no x.co], [.int .i64 c.tn], [.int .u32 c.dl], [.slice x.ah x.nh x.ch]]) 26 (0, 0))) := hide (hB.get 0 (x := ⟨w.heap.size, fl [[.int .u32 c.nx], [.slice x.ao x.no x.co], [.int .i64 c.tn], [.int .u32 c.dl], [.slice x.ah x.nh x.ch]], 26⟩) rfl)
      refine list_all 26 (.tmp 3) (.tmp 37) (w.heap.size) (S2 := [[.int .u32 c.nx], [.slice x1.ao x1.no x1.co], [.int .i64 c.tn], [.int .u32 c.dl], [.slice x1.ah x1.nh x1.ch]]) (by kernel_rfl) rfl (by kernel_rfl) (by kernel_rfl) hB 0 rfl NC (nC  _ _ _ _ _) (nC  _ _ _ _ _) (by kernel_rfl) (oC  rfl rfl rfl rfl rfl) ?_
      intro u4 hB_ hbt_
      clear hB
      replace hB : Bl w [⟨w.heap.size, fl [[.int .u32 c.nx], [.slice x1.ao x1.no x1.co], [.int .i64 c.tn], [.int .u32 c.dl], [.slice x1.ah x1.nh x1.ch]], 26⟩, ⟨w.heap.size + 1, fl [[.int .u32 s.n], [.string s.s]], 47⟩, ⟨w.heap.size + 1 + 1, fl [[.int .u32 0], [.slice none 0 0], [.int .i64 0], [.int .u32 0], [.slice none 0 0]], 26⟩] u4 := hB_
      clear hB_
      replace hW := hide ((unhide hW).bz (unhide hzz_) hbt_)
      clear hbt_ hzz_
      simp only [nrm]
      refine wpList_nil ?_
      clear hb0
      replace hB := hide hB
      go_upto_region 8 with fail
      replace hB := unhide hB
      refine wp_region_lit ?_
      (refine wpList_step fun K hK => ?_; replace hK := hide hK; go_simp; refine unhide hK _ _ ?_; clear hK K)
      refine wpList_nil ?_
      replace hB := hide hB
      go_upto_region 9 with fail
      replace hB := unhide hB
      refine wp_region_lit ?_
      (refine wpList_step fun K hK => ?_; replace hK := hide hK; go_simp; refine unhide hK _ _ ?_; clear hK K)
      refine wpList_nil ?_
      replace hB := hide hB
      go_upto_region 10 with fail
      replace hB := unhide hB
      refine wp_region_lit ?_
      refine lvk (.pointer (some ⟨w.heap.size, 4, none⟩)) ?_
      simp only [nrm]
      refine list_val (.slice x1.ah x1.nh x1.ch) (by kernel_rfl) (exec_csI _ (.tmp 38) rfl (w.heap.size) 4 (by kernel_rfl) x1.ah x1.nh x1.ch (seg_cell (nC  _ _ _ _ _) (hB.get 0 (x := ⟨w.heap.size, fl [[.int .u32 c.nx], [.slice x1.ao x1.no x1.co], [.int .i64 c.tn], [.int .u32 c.dl], [.slice x1.ah x1.nh x1.ch]], 26⟩) rfl) 4 (v := .slice x1.ah x1.nh x1.ch) rfl rfl)) ?_
      simp only [nrm]
      refine lvk (.int .i64 (x1.nh : Int)) ?_
      simp only [nrm]
      refine lvk (.int .i64 0) ?_
      simp only [nrm]
      refine wpList_nil ?_
      have hL0 := hide (or_none 2 47 w.heap.size u4)
      have e0 := hide (insT_0 c.H s)
      replace hB := hide hB
      go_wp2_with fail
      go_loopw [9, 10, 41] (fun q p_ i wr => ∃ (j : Nat) (la : Option Addr) (lc : Nat) (pb : Bool), j ≤ x1.nh ∧ q = .slice la (insT c.H s j).length lc ∧ p_ = .bool pb ∧ i = .int .i64 (j : Int) ∧ Hid (pb = decide (pos c.H s.n < j)) ∧ Hid (Bl w [⟨w.heap.size, fl [[.int .u32 c.nx], [.slice x1.ao x1.no x1.co], [.int .i64 c.tn], [.int .u32 c.dl], [.slice x1.ah x1.nh x1.ch]], 26⟩, ⟨w.heap.size + 1, fl [[.int .u32 s.n], [.string s.s]], 47⟩, ⟨w.heap.size + 1 + 1, fl [[.int .u32 0], [.slice none 0 0], [.int .i64 0], [.int .u32 0], [.slice none 0 0]], 26⟩] wr) ∧ Hid (Own w.heap.size wr c x1) ∧ Hid (Or_ 2 47 w.heap.size wr (.slice la (insT c.H s j).length lc) ((insT c.H s j).map itr)) ∧ Hid (blkOf la ≠ some (w.heap.size + 1) ∧ ∀ g, blkOf x1.ah = some g → blkOf la ≠ some g)) (fun _ _ i _ => x1.nh - (intOf i).toNat)
      case atStart => exact ⟨0, none, 0, false, by omega, by rw [unhide e0]; rfl, rfl, rfl, hide (by simp), hB, hW, hide (by rw [unhide e0]; exact unhide hL0), hide ⟨(fun e => by cases e), fun g _ e => by cases e⟩⟩
      case round =>
      clear hB hW hL0 e0
      obtain ⟨j, la, lc, pb, hj, rfl, rfl, rfl, hpb, hB, hW, hL, hD⟩ := hrel
      have hB := unhide hB
      have hnh1 : c.H.length = x1.nh := by
        have h9 := (or_slice (unhide hW).h).1
        rw [List.length_map] at h9
        exact h9.symm
      by_cases hlt : j < x1.nh
      · have jI : (j : Int) < (x1.nh : Int) := by omega
        obtain ⟨t, htj⟩ : ∃ t, c.H[j]? = some t := ⟨_, List.getElem?_eq_getElem (by omega)⟩
        have hIL : IL _ x1.ah x1.nh x1.ch c.H := ⟨(unhide hc).h.1, (or_slice (unhide hW).h).2⟩
        have hok := hIL.ok j t htj
        obtain ⟨p, o, ha, hr⟩ := hIL.at_ j t htj
        have hgt := pos_gt (unhide hsr) (unhide hin) htj
        obtain ⟨ln, hln⟩ : ∃ ln, ln = (insT c.H s j).length := ⟨_, rfl⟩
        rw [← hln] at hL ⊢
        have hlnb : ln ≤ 10 := by
          have h9 := (unhide hW).h
          rw [hln]
          unfold insT
          split
          · rw [List.length_take]; omega
          · simp only [List.length_append, List.length_take, List.length_drop, List.length_singleton]; omega
        clear hIL
        replace hr := hide hr; replace htj := hide htj; replace ha := hide ha; replace hok := hide hok; replace hln := hide hln
        replace hB := hide hB
        go_upto_region 12 with fail
        replace hB := unhide hB
        refine wp_region_lit ?_
        refine list_val (.pointer (some ⟨p, o + 2 * j, none⟩)) (by kernel_rfl) (exec_isi _ (.tmp 39) (.tmp 41) rfl p o x1.nh x1.ch j (by rw [← unhide ha]; kernel_rfl) (by kernel_rfl) hlt) ?_
        simp only [nrm]
        refine list_val (.agg (fl [[.int .u32 t.n], [.string t.s]])) (by kernel_rfl) (exec_li _ (.tmp 43) rfl p (o + 2 * j) (by kernel_rfl) t (unhide hr)) ?_
        simp only [nrm]
        have hneW := (unhide hW).newI
        have hDX := or_new (unhide hL)
        refine list_valw (.pointer (some ⟨wr.heap.size, 0, none⟩)) (wr.alloc (.cells (fl [[.int .u32 0], [.string ByteArray.empty]]) 47 (0, 0))) (by kernel_rfl) (by kernel_rfl) ?_
        replace hB := hB.new (fl [[.int .u32 0], [.string ByteArray.empty]]) 47
        simp only [List.nil_append, List.cons_append] at hB
        have hg := (Gr.refl wr).alloc (.cells (fl [[.int .u32 0], [.string ByteArray.empty]]) 47 (0, 0))
        replace hW := hide ((unhide hW).gr hg)
        replace hL := hide ((unhide hL).gr hg)
        clear hg
        generalize World.alloc _ _ = u5 at *
        generalize wr.heap.size = g12 at *
        simp only [nrm]
        have hzz_ : Hid (u5.heap[g12]? = some (.cells (fl [[.int .u32 0], [.string ByteArray.empty]]) 47 (0, 0))) := hide (hB.get 3 (x := ⟨g12, fl [[.int .u32 0], [.string ByteArray.empty]], 47⟩) rfl)
        refine list_all 47 (.tmp 12) (.tmp 44) (g12) (S2 := [[.int .u32 t.n], [.string t.s]]) (by kernel_rfl) rfl (by kernel_rfl) (by kernel_rfl) hB 3 rfl NI (nI  _ _) (nI  _ _) (by kernel_rfl) (oI  rfl rfl) ?_
        intro u6 hB_ hbt_
        clear hB
        replace hB : Bl w [⟨w.heap.size, fl [[.int .u32 c.nx], [.slice x1.ao x1.no x1.co], [.int .i64 c.tn], [.int .u32 c.dl], [.slice x1.ah x1.nh x1.ch]], 26⟩, ⟨w.heap.size + 1, fl [[.int .u32 s.n], [.string s.s]], 47⟩, ⟨w.heap.size + 1 + 1, fl [[.int .u32 0], [.slice none 0 0], [.int .i64 0], [.int .u32 0], [.slice none 0 0]], 26⟩, ⟨g12, fl [[.int .u32 t.n], [.string t.s]], 47⟩] u6 := hB_
        clear hB_
        replace hW := hide ((unhide hW).bkI (unhide hzz_) hbt_ hneW)
        replace hL := hide ((unhide hL).bk9 (unhide hzz_) hbt_ hDX)
        clear hbt_ hzz_
        simp only [nrm]
        refine wpList_nil ?_
        clear hr ha hneW
        replace hDX := hide hDX
        rcases Nat.lt_trichotomy j (pos c.H s.n) with hq | hq | hq
        · have hpb2 : pb = false := by rw [unhide hpb]; simp; omega
          subst hpb2
          clear hpb
          replace hq := hide hq
          replace hB := hide hB
          go_upto_region 13 with fail
          replace hB := unhide hB
          refine wp_region_lit ?_
          refine wpList_gen fun ops_ hops => ?_
          replace hops := hide hops
          refine list_val (.bool false) (by rw [unhide hops]; kernel_rfl) (by kernel_rfl) ?_
          simp only [nrm]
          refine list_val (.bool true) (by rw [unhide hops]; kernel_rfl) (by kernel_rfl) ?_
          simp only [nrm]
          refine list_val (.bool true) (by rw [unhide hops]; kernel_rfl) (by kernel_rfl) ?_
          simp only [nrm]
          refine list_val (.pointer (some ⟨g12, 0, none⟩)) (by rw [unhide hops]; kernel_rfl) (by kernel_rfl) ?_
          simp only [nrm]
          refine list_val (.int .u32 t.n) (by rw [unhide hops]; kernel_rfl) (exec_c32 _ (.tmp 48) rfl (g12) 0 (by kernel_rfl) t.n (seg_cell (nI  _ _) (hB.get 3 (x := ⟨g12, fl [[.int .u32 t.n], [.string t.s]], 47⟩) rfl) 0 (v := .int .u32 t.n) rfl rfl)) ?_
          simp only [nrm]
          refine list_val (.pointer (some ⟨w.heap.size + 1, 0, none⟩)) (by rw [unhide hops]; kernel_rfl) (by kernel_rfl) ?_
          simp only [nrm]
          refine list_val (.int .u32 s.n) (by rw [unhide hops]; kernel_rfl) (exec_c32 _ (.tmp 50) rfl (w.heap.size + 1) 0 (by kernel_rfl) s.n (seg_cell (nI  _ _) (hB.get 1 (x := ⟨w.heap.size + 1, fl [[.int .u32 s.n], [.string s.s]], 47⟩) rfl) 0 (v := .int .u32 s.n) rfl rfl)) ?_
          simp only [nrm]
          refine list_val (.bool false) (by rw [unhide hops]; kernel_rfl) (gtr_32 _ (.tmp 49) (.tmp 51) t.n s.n false rfl (by kernel_rfl) (by kernel_rfl) (decide_eq_false (by have h9 := unhide hq; omega))) ?_
          simp only [nrm]
          refine list_val (.bool false) (by rw [unhide hops]; kernel_rfl) (by kernel_rfl) ?_
          simp only [nrm]
          refine wpList_nil ?_
          replace hB := hide hB
          go_upto_region 16 with fail
          replace hB := unhide hB
          refine wp_region_lit ?_
          refine lvk (.slice la ln lc) ?_
          simp only [nrm]
          refine list_val (.agg (fl [[.int .u32 t.n], [.string t.s]])) (by kernel_rfl) (exec_sw _ 47 (.tmp 12) rfl (g12) (by kernel_rfl) (hB.get 3 (x := ⟨g12, fl [[.int .u32 t.n], [.string t.s]], 47⟩) rfl) NI (nI  _ _) Try.underlying47 rfl (by kernel_rfl)) ?_
          simp only [nrm]
          refine list_valw (.slice (some ⟨u6.heap.size, 0, none⟩) 1 1) (u6.alloc (.cells (fl [[.int .u32 t.n], [.string t.s]]) 47 (0, 0))) (by kernel_rfl) (exec_bsi _ (.tmp 59) rfl t (by kernel_rfl)) ?_
          have hS := hide (blk_new u6 (.cells (fl [[.int .u32 t.n], [.string t.s]]) 47 (0, 0)))
          have hg := (Gr.refl u6).alloc (.cells (fl [[.int .u32 t.n], [.string t.s]]) 47 (0, 0))
          replace hW := hide ((unhide hW).gr hg)
          replace hL := hide ((unhide hL).gr hg)
          replace hB := hB.more hg
          clear hg
          generalize World.alloc _ _ = u7 at *
          generalize u6.heap.size = gs2 at *
          simp only [nrm]
          refine wpList_step fun K hK => ?_
          rw [if_pos (by kernel_rfl)]
          refine app_row1B ltI (.tmp 58) (.tmp 60) rfl _ ((insT c.H s j).map itr) (by kernel_rfl) w.heap.size hB.gr.size (unhide hL) gs2 0 1 (itr t) (by kernel_rfl) rfl (range_row (unhide hS)) (itr_one t) (by rw [List.length_map]; have h8 := (or_slice (unhide hL)).1; rw [List.length_map] at h8; omega) ?_
          intro v1 u8 hL1 hgr hwh
          refine hK _ _ ?_
          clear hK K hS
          have hsz := lt_of_block (hB.get 1 (x := ⟨w.heap.size + 1, fl [[.int .u32 s.n], [.string s.s]], 47⟩) rfl)
          dsimp only at hsz
          have hszX := lt_of_block (hB.get 3 (x := ⟨g12, fl [[.int .u32 t.n], [.string t.s]], 47⟩) rfl)
          dsimp only at hszX
          have hB3 := hB.gx (unhide hL) (Nat.le_refl _) hgr (by
            intro y_ hy_
            simp only [List.mem_cons, List.not_mem_nil, or_false] at hy_
            rcases hy_ with rfl | rfl | rfl | rfl
            · exact fun e9 => or_ne9 (unhide hL) (hB.get 0 (x := ⟨w.heap.size, fl [[.int .u32 c.nx], [.slice x1.ao x1.no x1.co], [.int .i64 c.tn], [.int .u32 c.dl], [.slice x1.ah x1.nh x1.ch]], 26⟩) rfl) (by dsimp only; decide) e9.symm
            · exact fun e9 => (unhide hD).1 (by rw [← ow_slice la ln lc]; exact e9)
            · exact fun e9 => or_ne9 (unhide hL) (hB.get 2 (x := ⟨w.heap.size + 1 + 1, fl [[.int .u32 0], [.slice none 0 0], [.int .i64 0], [.int .u32 0], [.slice none 0 0]], 26⟩) rfl) (by dsimp only; decide) e9.symm
            · exact fun e9 => (unhide hDX) (by rw [← ow_slice la ln lc]; exact e9))
          have hW3 := hide (show Own w.heap.size u8 c x1 from ⟨or_grown (unhide hW).o (unhide hL) hgr (by decide), or_keep (unhide hW).h fun i hi => by
            obtain ⟨cur, hcur⟩ := or_blk_lt (unhide hW).h hi
            exact hgr.block i (lt_of_block hcur) (fun e9 => (unhide hD).2 i hi (by rw [← ow_slice la ln lc]; exact e9.symm))⟩)
          obtain ⟨l8, c8, rfl, hls9⟩ := hL1.lz
          have hD3 : Hid (blkOf l8 ≠ some (w.heap.size + 1) ∧ ∀ g, blkOf x1.ah = some g → blkOf l8 ≠ some g) := hide ⟨df_app (unhide hD).1 hsz hwh, fun g hg9 => by
            obtain ⟨cur, hcur⟩ := or_blk_lt (unhide hW).h hg9
            exact df_app ((unhide hD).2 g hg9) (lt_of_block hcur) hwh⟩
          replace hDX := hide (df_app (unhide hDX) hszX hwh)
          have e1 : ((insT c.H s j).map itr ++ [itr t]) = ((insT c.H s j) ++ [t]).map itr := by simp
          have e2 : ((insT c.H s j).map itr ++ [itr t]).length = ln + 1 := by
            have h8 := (or_slice (unhide hL)).1
            rw [List.length_append, List.length_singleton]
            omega
          rw [e2] at hL1 ⊢
          rw [e1] at hL1
          clear hB hW hD hL hls9 hgr hwh hsz hszX e1 e2
          have hB := hB3; have hW := hW3; have hD := hD3; have hL := hide hL1
          clear hB3 hW3 hD3 hL1
          simp only [nrm]
          (refine wpList_step fun K hK => ?_; replace hK := hide hK; go_simp; refine unhide hK _ _ ?_; clear hK K)
          refine wpList_nil ?_
          replace hB := Bl.left (L := [⟨w.heap.size, fl [[.int .u32 c.nx], [.slice x1.ao x1.no x1.co], [.int .i64 c.tn], [.int .u32 c.dl], [.slice x1.ah x1.nh x1.ch]], 26⟩, ⟨w.heap.size + 1, fl [[.int .u32 s.n], [.string s.s]], 47⟩, ⟨w.heap.size + 1 + 1, fl [[.int .u32 0], [.slice none 0 0], [.int .i64 0], [.int .u32 0], [.slice none 0 0]], 26⟩]) (M := [⟨g12, fl [[.int .u32 t.n], [.string t.s]], 47⟩]) hB
          have eT := insT_lo (s := s) (unhide htj) (unhide hq)
          rw [← eT] at hL
          have eN : ln + 1 = (insT c.H s (j + 1)).length := by
            have h8 := (or_slice (unhide hL)).1
            rw [List.length_map] at h8
            exact h8
          rw [eN] at hL ⊢
          have hpb3 : Hid (false = decide (pos c.H s.n < j + 1)) := hide (by have h9 := unhide hq; simp; omega)
          have jw : IntKind.i64.wrap ((j : Int) + 1) = (j : Int) + 1 := by rw [IntKind.wrap_i64]; omega
          replace hB := hide hB
          clear htj hok hq eT hln eN hDX hgt
          go_wp2_with fail
          go_roundw
          case rel => exact ⟨j + 1, l8, c8, _, by omega, rfl, rfl, by simp, hpb3, hB, hW, hL, hD⟩
          case measure => simp [intOf]; omega
        · have hpb2 : pb = false := by rw [unhide hpb]; simp; omega
          subst hpb2
          clear hpb
          replace hq := hide hq
          replace hB := hide hB
          go_upto_region 13 with fail
          replace hB := unhide hB
          refine wp_region_lit ?_
          refine wpList_gen fun ops_ hops => ?_
          replace hops := hide hops
          refine list_val (.bool false) (by rw [unhide hops]; kernel_rfl) (by kernel_rfl) ?_
          simp only [nrm]
          refine list_val (.bool true) (by rw [unhide hops]; kernel_rfl) (by kernel_rfl) ?_
          simp only [nrm]
          refine list_val (.bool true) (by rw [unhide hops]; kernel_rfl) (by kernel_rfl) ?_
          simp only [nrm]
          refine list_val (.pointer (some ⟨g12, 0, none⟩)) (by rw [unhide hops]; kernel_rfl) (by kernel_rfl) ?_
          simp only [nrm]
          refine list_val (.int .u32 t.n) (by rw [unhide hops]; kernel_rfl) (exec_c32 _ (.tmp 48) rfl (g12) 0 (by kernel_rfl) t.n (seg_cell (nI  _ _) (hB.get 3 (x := ⟨g12, fl [[.int .u32 t.n], [.string t.s]], 47⟩) rfl) 0 (v := .int .u32 t.n) rfl rfl)) ?_
          simp only [nrm]
          refine list_val (.pointer (some ⟨w.heap.size + 1, 0, none⟩)) (by rw [unhide hops]; kernel_rfl) (by kernel_rfl) ?_
          simp only [nrm]
          refine list_val (.int .u32 s.n) (by rw [unhide hops]; kernel_rfl) (exec_c32 _ (.tmp 50) rfl (w.heap.size + 1) 0 (by kernel_rfl) s.n (seg_cell (nI  _ _) (hB.get 1 (x := ⟨w.heap.size + 1, fl [[.int .u32 s.n], [.string s.s]], 47⟩) rfl) 0 (v := .int .u32 s.n) rfl rfl)) ?_
          simp only [nrm]
          refine list_val (.bool true) (by rw [unhide hops]; kernel_rfl) (gtr_32 _ (.tmp 49) (.tmp 51) t.n s.n true rfl (by kernel_rfl) (by kernel_rfl) (decide_eq_true (by have h9 := unhide hq; omega))) ?_
          simp only [nrm]
          refine list_val (.bool true) (by rw [unhide hops]; kernel_rfl) (by kernel_rfl) ?_
          simp only [nrm]
          refine wpList_nil ?_
          replace hB := hide hB
          go_upto_region 14 with fail
          replace hB := unhide hB
          refine wp_region_lit ?_
          refine lvk (.slice la ln lc) ?_
          simp only [nrm]
          refine list_val (.agg (fl [[.int .u32 s.n], [.string s.s]])) (by kernel_rfl) (exec_sw _ 47 (.tmp 4) rfl (w.heap.size + 1) (by kernel_rfl) (hB.get 1 (x := ⟨w.heap.size + 1, fl [[.int .u32 s.n], [.string s.s]], 47⟩) rfl) NI (nI  _ _) Try.underlying47 rfl (by kernel_rfl)) ?_
          simp only [nrm]
          refine list_valw (.slice (some ⟨u6.heap.size, 0, none⟩) 1 1) (u6.alloc (.cells (fl [[.int .u32 s.n], [.string s.s]]) 47 (0, 0))) (by kernel_rfl) (exec_bsi _ (.tmp 55) rfl s (by kernel_rfl)) ?_
          have hS := hide (blk_new u6 (.cells (fl [[.int .u32 s.n], [.string s.s]]) 47 (0, 0)))
          have hg := (Gr.refl u6).alloc (.cells (fl [[.int .u32 s.n], [.string s.s]]) 47 (0, 0))
          replace hW := hide ((unhide hW).gr hg)
          replace hL := hide ((unhide hL).gr hg)
          replace hB := hB.more hg
          clear hg
          generalize World.alloc _ _ = u7 at *
          generalize u6.heap.size = gs1 at *
          simp only [nrm]
          refine wpList_step fun K hK => ?_
          rw [if_pos (by kernel_rfl)]
          refine app_row1B ltI (.tmp 54) (.tmp 56) rfl _ ((insT c.H s j).map itr) (by kernel_rfl) w.heap.size hB.gr.size (unhide hL) gs1 0 1 (itr s) (by kernel_rfl) rfl (range_row (unhide hS)) (itr_one s) (by rw [List.length_map]; have h8 := (or_slice (unhide hL)).1; rw [List.length_map] at h8; omega) ?_
          intro v1 u8 hL1 hgr hwh
          refine hK _ _ ?_
          clear hK K hS
          have hsz := lt_of_block (hB.get 1 (x := ⟨w.heap.size + 1, fl [[.int .u32 s.n], [.string s.s]], 47⟩) rfl)
          dsimp only at hsz
          have hszX := lt_of_block (hB.get 3 (x := ⟨g12, fl [[.int .u32 t.n], [.string t.s]], 47⟩) rfl)
          dsimp only at hszX
          have hB3 := hB.gx (unhide hL) (Nat.le_refl _) hgr (by
            intro y_ hy_
            simp only [List.mem_cons, List.not_mem_nil, or_false] at hy_
            rcases hy_ with rfl | rfl | rfl | rfl
            · exact fun e9 => or_ne9 (unhide hL) (hB.get 0 (x := ⟨w.heap.size, fl [[.int .u32 c.nx], [.slice x1.ao x1.no x1.co], [.int .i64 c.tn], [.int .u32 c.dl], [.slice x1.ah x1.nh x1.ch]], 26⟩) rfl) (by dsimp only; decide) e9.symm
            · exact fun e9 => (unhide hD).1 (by rw [← ow_slice la ln lc]; exact e9)
            · exact fun e9 => or_ne9 (unhide hL) (hB.get 2 (x := ⟨w.heap.size + 1 + 1, fl [[.int .u32 0], [.slice none 0 0], [.int .i64 0], [.int .u32 0], [.slice none 0 0]], 26⟩) rfl) (by dsimp only; decide) e9.symm
            · exact fun e9 => (unhide hDX) (by rw [← ow_slice la ln lc]; exact e9))
          have hW3 := hide (show Own w.heap.size u8 c x1 from ⟨or_grown (unhide hW).o (unhide hL) hgr (by decide), or_keep (unhide hW).h fun i hi => by
            obtain ⟨cur, hcur⟩ := or_blk_lt (unhide hW).h hi
            exact hgr.block i (lt_of_block hcur) (fun e9 => (unhide hD).2 i hi (by rw [← ow_slice la ln lc]; exact e9.symm))⟩)
          obtain ⟨l7, c7, rfl, hls9⟩ := hL1.lz
          have hD3 : Hid (blkOf l7 ≠ some (w.heap.size + 1) ∧ ∀ g, blkOf x1.ah = some g → blkOf l7 ≠ some g) := hide ⟨df_app (unhide hD).1 hsz hwh, fun g hg9 => by
            obtain ⟨cur, hcur⟩ := or_blk_lt (unhide hW).h hg9
            exact df_app ((unhide hD).2 g hg9) (lt_of_block hcur) hwh⟩
          replace hDX := hide (df_app (unhide hDX) hszX hwh)
          have e1 : ((insT c.H s j).map itr ++ [itr s]) = ((insT c.H s j) ++ [s]).map itr := by simp
          have e2 : ((insT c.H s j).map itr ++ [itr s]).length = ln + 1 := by
            have h8 := (or_slice (unhide hL)).1
            rw [List.length_append, List.length_singleton]
            omega
          rw [e2] at hL1 ⊢
          rw [e1] at hL1
          clear hB hW hD hL hls9 hgr hwh hsz hszX e1 e2
          have hB := hB3; have hW := hW3; have hD := hD3; have hL := hide hL1
          clear hB3 hW3 hD3 hL1
          simp only [nrm]
          (refine wpList_step fun K hK => ?_; replace hK := hide hK; go_simp; refine unhide hK _ _ ?_; clear hK K)
          refine wpList_nil ?_
          replace hB := hide hB
          go_upto_region 15 with fail
          replace hB := unhide hB
          refine wp_region_lit ?_
          (refine wpList_step fun K hK => ?_; replace hK := hide hK; go_simp; refine unhide hK _ _ ?_; clear hK K)
          refine wpList_nil ?_
          replace hB := hide hB
          go_upto_region 16 with fail
          replace hB := unhide hB
          refine wp_region_lit ?_
          refine lvk (.slice l7 (ln + 1) c7) ?_
          simp only [nrm]
          refine list_val (.agg (fl [[.int .u32 t.n], [.string t.s]])) (by kernel_rfl) (exec_sw _ 47 (.tmp 12) rfl (g12) (by kernel_rfl) (hB.get 3 (x := ⟨g12, fl [[.int .u32 t.n], [.string t.s]], 47⟩) rfl) NI (nI  _ _) Try.underlying47 rfl (by kernel_rfl)) ?_
          simp only [nrm]
          refine list_valw (.slice (some ⟨u8.heap.size, 0, none⟩) 1 1) (u8.alloc (.cells (fl [[.int .u32 t.n], [.string t.s]]) 47 (0, 0))) (by kernel_rfl) (exec_bsi _ (.tmp 59) rfl t (by kernel_rfl)) ?_
          have hS := hide (blk_new u8 (.cells (fl [[.int .u32 t.n], [.string t.s]]) 47 (0, 0)))
          have hg := (Gr.refl u8).alloc (.cells (fl [[.int .u32 t.n], [.string t.s]]) 47 (0, 0))
          replace hW := hide ((unhide hW).gr hg)
          replace hL := hide ((unhide hL).gr hg)
          replace hB := hB.more hg
          clear hg
          generalize World.alloc _ _ = u9 at *
          generalize u8.heap.size = gs2 at *
          simp only [nrm]
          refine wpList_step fun K hK => ?_
          rw [if_pos (by kernel_rfl)]
          refine app_row1B ltI (.tmp 58) (.tmp 60) rfl _ (((insT c.H s j) ++ [s]).map itr) (by kernel_rfl) w.heap.size hB.gr.size (unhide hL) gs2 0 1 (itr t) (by kernel_rfl) rfl (range_row (unhide hS)) (itr_one t) (by rw [List.length_map]; have h8 := (or_slice (unhide hL)).1; rw [List.length_map] at h8; omega) ?_
          intro v1 u10 hL1 hgr hwh
          refine hK _ _ ?_
          clear hK K hS
          have hsz := lt_of_block (hB.get 1 (x := ⟨w.heap.size + 1, fl [[.int .u32 s.n], [.string s.s]], 47⟩) rfl)
          dsimp only at hsz
          have hszX := lt_of_block (hB.get 3 (x := ⟨g12, fl [[.int .u32 t.n], [.string t.s]], 47⟩) rfl)
          dsimp only at hszX
          have hB3 := hB.gx (unhide hL) (Nat.le_refl _) hgr (by
            intro y_ hy_
            simp only [List.mem_cons, List.not_mem_nil, or_false] at hy_
            rcases hy_ with rfl | rfl | rfl | rfl
            · exact fun e9 => or_ne9 (unhide hL) (hB.get 0 (x := ⟨w.heap.size, fl [[.int .u32 c.nx], [.slice x1.ao x1.no x1.co], [.int .i64 c.tn], [.int .u32 c.dl], [.slice x1.ah x1.nh x1.ch]], 26⟩) rfl) (by dsimp only; decide) e9.symm
            · exact fun e9 => (unhide hD).1 (by rw [← ow_slice l7 (ln + 1) c7]; exact e9)
            · exact fun e9 => or_ne9 (unhide hL) (hB.get 2 (x := ⟨w.heap.size + 1 + 1, fl [[.int .u32 0], [.slice none 0 0], [.int .i64 0], [.int .u32 0], [.slice none 0 0]], 26⟩) rfl) (by dsimp only; decide) e9.symm
            · exact fun e9 => (unhide hDX) (by rw [← ow_slice l7 (ln + 1) c7]; exact e9))
          have hW3 := hide (show Own w.heap.size u10 c x1 from ⟨or_grown (unhide hW).o (unhide hL) hgr (by decide), or_keep (unhide hW).h fun i hi => by
            obtain ⟨cur, hcur⟩ := or_blk_lt (unhide hW).h hi
            exact hgr.block i (lt_of_block hcur) (fun e9 => (unhide hD).2 i hi (by rw [← ow_slice l7 (ln + 1) c7]; exact e9.symm))⟩)
          obtain ⟨l8, c8, rfl, hls9⟩ := hL1.lz
          have hD3 : Hid (blkOf l8 ≠ some (w.heap.size + 1) ∧ ∀ g, blkOf x1.ah = some g → blkOf l8 ≠ some g) := hide ⟨df_app (unhide hD).1 hsz hwh, fun g hg9 => by
            obtain ⟨cur, hcur⟩ := or_blk_lt (unhide hW).h hg9
            exact df_app ((unhide hD).2 g hg9) (lt_of_block hcur) hwh⟩
          replace hDX := hide (df_app (unhide hDX) hszX hwh)
          have e1 : (((insT c.H s j) ++ [s]).map itr ++ [itr t]) = (((insT c.H s j) ++ [s]) ++ [t]).map itr := by simp
          have e2 : (((insT c.H s j) ++ [s]).map itr ++ [itr t]).length = (ln + 1) + 1 := by
            have h8 := (or_slice (unhide hL)).1
            rw [List.length_append, List.length_singleton]
            omega
          rw [e2] at hL1 ⊢
          rw [e1] at hL1
          clear hB hW hD hL hls9 hgr hwh hsz hszX e1 e2
          have hB := hB3; have hW := hW3; have hD := hD3; have hL := hide hL1
          clear hB3 hW3 hD3 hL1
          simp only [nrm]
          (refine wpList_step fun K hK => ?_; replace hK := hide hK; go_simp; refine unhide hK _ _ ?_; clear hK K)
          refine wpList_nil ?_
          replace hB := Bl.left (L := [⟨w.heap.size, fl [[.int .u32 c.nx], [.slice x1.ao x1.no x1.co], [.int .i64 c.tn], [.int .u32 c.dl], [.slice x1.ah x1.nh x1.ch]], 26⟩, ⟨w.heap.size + 1, fl [[.int .u32 s.n], [.string s.s]], 47⟩, ⟨w.heap.size + 1 + 1, fl [[.int .u32 0], [.slice none 0 0], [.int .i64 0], [.int .u32 0], [.slice none 0 0]], 26⟩]) (M := [⟨g12, fl [[.int .u32 t.n], [.string t.s]], 47⟩]) hB
          have eT := insT_at (s := s) (unhide htj) (unhide hq)
          rw [← eT] at hL
          have eN : (ln + 1) + 1 = (insT c.H s (j + 1)).length := by
            have h8 := (or_slice (unhide hL)).1
            rw [List.length_map] at h8
            exact h8
          rw [eN] at hL ⊢
          have hpb3 : Hid (true = decide (pos c.H s.n < j + 1)) := hide (by have h9 := unhide hq; simp; omega)
          have jw : IntKind.i64.wrap ((j : Int) + 1) = (j : Int) + 1 := by rw [IntKind.wrap_i64]; omega
          replace hB := hide hB
          clear htj hok hq eT hln eN hDX hgt
          go_wp2_with fail
          go_roundw
          case rel => exact ⟨j + 1, l8, c8, _, by omega, rfl, rfl, by simp, hpb3, hB, hW, hL, hD⟩
          case measure => simp [intOf]; omega
        · have hpb2 : pb = true := by rw [unhide hpb]; simp; omega
          subst hpb2
          clear hpb
          replace hq := hide hq
          replace hB := hide hB
          go_upto_region 13 with fail
          replace hB := unhide hB
          refine wp_region_lit ?_
          refine wpList_gen fun ops_ hops => ?_
          replace hops := hide hops
          refine list_val (.bool true) (by rw [unhide hops]; kernel_rfl) (by kernel_rfl) ?_
          simp only [nrm]
          refine list_val (.bool false) (by rw [unhide hops]; kernel_rfl) (by kernel_rfl) ?_
          simp only [nrm]
          refine list_val (.bool false) (by rw [unhide hops]; kernel_rfl) (by kernel_rfl) ?_
          simp only [nrm]
          refine list_off (by rw [unhide hops]; kernel_rfl) ?_
          simp only [nrm]
          refine list_off (by rw [unhide hops]; kernel_rfl) ?_
          simp only [nrm]
          refine list_off (by rw [unhide hops]; kernel_rfl) ?_
          simp only [nrm]
          refine list_off (by rw [unhide hops]; kernel_rfl) ?_
          simp only [nrm]
          refine list_off (by rw [unhide hops]; kernel_rfl) ?_
          simp only [nrm]
          refine list_val (.bool false) (by rw [unhide hops]; kernel_rfl) (by kernel_rfl) ?_
          simp only [nrm]
          refine wpList_nil ?_
          replace hB := hide hB
          go_upto_region 16 with fail
          replace hB := unhide hB
          refine wp_region_lit ?_
          refine lvk (.slice la ln lc) ?_
          simp only [nrm]
          refine list_val (.agg (fl [[.int .u32 t.n], [.string t.s]])) (by kernel_rfl) (exec_sw _ 47 (.tmp 12) rfl (g12) (by kernel_rfl) (hB.get 3 (x := ⟨g12, fl [[.int .u32 t.n], [.string t.s]], 47⟩) rfl) NI (nI  _ _) Try.underlying47 rfl (by kernel_rfl)) ?_
          simp only [nrm]
          refine list_valw (.slice (some ⟨u6.heap.size, 0, none⟩) 1 1) (u6.alloc (.cells (fl [[.int .u32 t.n], [.string t.s]]) 47 (0, 0))) (by kernel_rfl) (exec_bsi _ (.tmp 59) rfl t (by kernel_rfl)) ?_
          have hS := hide (blk_new u6 (.cells (fl [[.int .u32 t.n], [.string t.s]]) 47 (0, 0)))
          have hg := (Gr.refl u6).alloc (.cells (fl [[.int .u32 t.n], [.string t.s]]) 47 (0, 0))
          replace hW := hide ((unhide hW).gr hg)
          replace hL := hide ((unhide hL).gr hg)
          replace hB := hB.more hg
          clear hg
          generalize World.alloc _ _ = u7 at *
          generalize u6.heap.size = gs2 at *
          simp only [nrm]
          refine wpList_step fun K hK => ?_
          rw [if_pos (by kernel_rfl)]
          refine app_row1B ltI (.tmp 58) (.tmp 60) rfl _ ((insT c.H s j).map itr) (by kernel_rfl) w.heap.size hB.gr.size (unhide hL) gs2 0 1 (itr t) (by kernel_rfl) rfl (range_row (unhide hS)) (itr_one t) (by rw [List.length_map]; have h8 := (or_slice (unhide hL)).1; rw [List.length_map] at h8; omega) ?_
          intro v1 u8 hL1 hgr hwh
          refine hK _ _ ?_
          clear hK K hS
          have hsz := lt_of_block (hB.get 1 (x := ⟨w.heap.size + 1, fl [[.int .u32 s.n], [.string s.s]], 47⟩) rfl)
          dsimp only at hsz
          have hszX := lt_of_block (hB.get 3 (x := ⟨g12, fl [[.int .u32 t.n], [.string t.s]], 47⟩) rfl)
          dsimp only at hszX
          have hB3 := hB.gx (unhide hL) (Nat.le_refl _) hgr (by
            intro y_ hy_
            simp only [List.mem_cons, List.not_mem_nil, or_false] at hy_
            rcases hy_ with rfl | rfl | rfl | rfl
            · exact fun e9 => or_ne9 (unhide hL) (hB.get 0 (x := ⟨w.heap.size, fl [[.int .u32 c.nx], [.slice x1.ao x1.no x1.co], [.int .i64 c.tn], [.int .u32 c.dl], [.slice x1.ah x1.nh x1.ch]], 26⟩) rfl) (by dsimp only; decide) e9.symm
            · exact fun e9 => (unhide hD).1 (by rw [← ow_slice la ln lc]; exact e9)
            · exact fun e9 => or_ne9 (unhide hL) (hB.get 2 (x := ⟨w.heap.size + 1 + 1, fl [[.int .u32 0], [.slice none 0 0], [.int .i64 0], [.int .u32 0], [.slice none 0 0]], 26⟩) rfl) (by dsimp only; decide) e9.symm
            · exact fun e9 => (unhide hDX) (by rw [← ow_slice la ln lc]; exact e9))
          have hW3 := hide (show Own w.heap.size u8 c x1 from ⟨or_grown (unhide hW).o (unhide hL) hgr (by decide), or_keep (unhide hW).h fun i hi => by
            obtain ⟨cur, hcur⟩ := or_blk_lt (unhide hW).h hi
            exact hgr.block i (lt_of_block hcur) (fun e9 => (unhide hD).2 i hi (by rw [← ow_slice la ln lc]; exact e9.symm))⟩)
          obtain ⟨l8, c8, rfl, hls9⟩ := hL1.lz
          have hD3 : Hid (blkOf l8 ≠ some (w.heap.size + 1) ∧ ∀ g, blkOf x1.ah = some g → blkOf l8 ≠ some g) := hide ⟨df_app (unhide hD).1 hsz hwh, fun g hg9 => by
            obtain ⟨cur, hcur⟩ := or_blk_lt (unhide hW).h hg9
            exact df_app ((unhide hD).2 g hg9) (lt_of_block hcur) hwh⟩
          replace hDX := hide (df_app (unhide hDX) hszX hwh)
          have e1 : ((insT c.H s j).map itr ++ [itr t]) = ((insT c.H s j) ++ [t]).map itr := by simp
          have e2 : ((insT c.H s j).map itr ++ [itr t]).length = ln + 1 := by
            have h8 := (or_slice (unhide hL)).1
            rw [List.length_append, List.length_singleton]
            omega
          rw [e2] at hL1 ⊢
          rw [e1] at hL1
          clear hB hW hD hL hls9 hgr hwh hsz hszX e1 e2
          have hB := hB3; have hW := hW3; have hD := hD3; have hL := hide hL1
          clear hB3 hW3 hD3 hL1
          simp only [nrm]
          (refine wpList_step fun K hK => ?_; replace hK := hide hK; go_simp; refine unhide hK _ _ ?_; clear hK K)
          refine wpList_nil ?_
          replace hB := Bl.left (L := [⟨w.heap.size, fl [[.int .u32 c.nx], [.slice x1.ao x1.no x1.co], [.int .i64 c.tn], [.int .u32 c.dl], [.slice x1.ah x1.nh x1.ch]], 26⟩, ⟨w.heap.size + 1, fl [[.int .u32 s.n], [.string s.s]], 47⟩, ⟨w.heap.size + 1 + 1, fl [[.int .u32 0], [.slice none 0 0], [.int .i64 0], [.int .u32 0], [.slice none 0 0]], 26⟩]) (M := [⟨g12, fl [[.int .u32 t.n], [.string t.s]], 47⟩]) hB
          have eT := insT_hi (s := s) (unhide htj) (unhide hq)
          rw [← eT] at hL
          have eN : ln + 1 = (insT c.H s (j + 1)).length := by
            have h8 := (or_slice (unhide hL)).1
            rw [List.length_map] at h8
            exact h8
          rw [eN] at hL ⊢
          have hpb3 : Hid (true = decide (pos c.H s.n < j + 1)) := hide (by have h9 := unhide hq; simp; omega)
          have jw : IntKind.i64.wrap ((j : Int) + 1) = (j : Int) + 1 := by rw [IntKind.wrap_i64]; omega
          replace hB := hide hB
          clear htj hok hq eT hln eN hDX hgt
          go_wp2_with fail
          go_roundw
          case rel => exact ⟨j + 1, l8, c8, _, by omega, rfl, rfl, by simp, hpb3, hB, hW, hL, hD⟩
          case measure => simp [intOf]; omega
      · have jI : ¬ (j : Int) < (x1.nh : Int) := by omega
        have hjn : j = c.H.length := by omega
        have hend := insT_end (H := c.H) (s := s)
        rw [← hjn] at hend
        have hpl := pos_le c.H s.n
        obtain ⟨ln, hln⟩ : ∃ ln, ln = (insT c.H s j).length := ⟨_, rfl⟩
        rw [← hln] at hL ⊢
        have hlnb : ln ≤ 10 := by
          rw [hln]
          unfold insT
          split
          · rw [List.length_take]; omega
          · simp only [List.length_append, List.length_take, List.length_drop, List.length_singleton]; omega
        replace hend := hide hend; replace hjn := hide hjn; replace hln := hide hln
        replace hB := hide hB
        go_upto_region 18 with fail
        replace hB := unhide hB
        by_cases hq : pos c.H s.n = j
        · have hpb2 : pb = false := by rw [unhide hpb]; simp; have h9 := unhide hjn; omega
          subst hpb2
          clear hpb
          have hE : insL c.H s = insT c.H s j ++ [s] := by rw [unhide hend, if_pos hq]
          replace hE := hide hE; replace hq := hide hq
          refine wp_region_lit ?_
          refine lvk (.bool false) ?_
          simp only [nrm]
          refine lvk (.bool true) ?_
          simp only [nrm]
          refine wpList_nil ?_
          replace hB := hide hB
          go_upto_region 19 with fail
          replace hB := unhide hB
          refine wp_region_lit ?_
          refine lvk (.slice la ln lc) ?_
          simp only [nrm]
          refine list_val (.agg (fl [[.int .u32 s.n], [.string s.s]])) (by kernel_rfl) (exec_sw _ 47 (.tmp 4) rfl (w.heap.size + 1) (by kernel_rfl) (hB.get 1 (x := ⟨w.heap.size + 1, fl [[.int .u32 s.n], [.string s.s]], 47⟩) rfl) NI (nI  _ _) Try.underlying47 rfl (by kernel_rfl)) ?_
          simp only [nrm]
          refine list_valw (.slice (some ⟨wr.heap.size, 0, none⟩) 1 1) (wr.alloc (.cells (fl [[.int .u32 s.n], [.string s.s]]) 47 (0, 0))) (by kernel_rfl) (exec_bsi _ (.tmp 66) rfl s (by kernel_rfl)) ?_
          have hS := hide (blk_new wr (.cells (fl [[.int .u32 s.n], [.string s.s]]) 47 (0, 0)))
          have hg := (Gr.refl wr).alloc (.cells (fl [[.int .u32 s.n], [.string s.s]]) 47 (0, 0))
          replace hW := hide ((unhide hW).gr hg)
          replace hL := hide ((unhide hL).gr hg)
          replace hB := hB.more hg
          clear hg
          generalize World.alloc _ _ = u9 at *
          generalize wr.heap.size = gs1 at *
          simp only [nrm]
          refine wpList_step fun K hK => ?_
          rw [if_pos (by kernel_rfl)]
          refine app_row1B ltI (.tmp 65) (.tmp 67) rfl _ ((insT c.H s j).map itr) (by kernel_rfl) w.heap.size hB.gr.size (unhide hL) gs1 0 1 (itr s) (by kernel_rfl) rfl (range_row (unhide hS)) (itr_one s) (by rw [List.length_map]; have h8 := (or_slice (unhide hL)).1; rw [List.length_map] at h8; omega) ?_
          intro v1 u10 hL1 hgr hwh
          refine hK _ _ ?_
          clear hK K hS
          have hsz := lt_of_block (hB.get 1 (x := ⟨w.heap.size + 1, fl [[.int .u32 s.n], [.string s.s]], 47⟩) rfl)
          dsimp only at hsz
          have hB3 := hB.gx (unhide hL) (Nat.le_refl _) hgr (by
            intro y_ hy_
            simp only [List.mem_cons, List.not_mem_nil, or_false] at hy_
            rcases hy_ with rfl | rfl | rfl
            · exact fun e9 => or_ne9 (unhide hL) (hB.get 0 (x := ⟨w.heap.size, fl [[.int .u32 c.nx], [.slice x1.ao x1.no x1.co], [.int .i64 c.tn], [.int .u32 c.dl], [.slice x1.ah x1.nh x1.ch]], 26⟩) rfl) (by dsimp only; decide) e9.symm
            · exact fun e9 => (unhide hD).1 (by rw [← ow_slice la ln lc]; exact e9)
            · exact fun e9 => or_ne9 (unhide hL) (hB.get 2 (x := ⟨w.heap.size + 1 + 1, fl [[.int .u32 0], [.slice none 0 0], [.int .i64 0], [.int .u32 0], [.slice none 0 0]], 26⟩) rfl) (by dsimp only; decide) e9.symm)
          have hW3 := hide (show Own w.heap.size u10 c x1 from ⟨or_grown (unhide hW).o (unhide hL) hgr (by decide), or_keep (unhide hW).h fun i hi => by
            obtain ⟨cur, hcur⟩ := or_blk_lt (unhide hW).h hi
            exact hgr.block i (lt_of_block hcur) (fun e9 => (unhide hD).2 i hi (by rw [← ow_slice la ln lc]; exact e9.symm))⟩)
          obtain ⟨l8, c8, rfl, hls9⟩ := hL1.lz
          have hD3 : Hid (blkOf l8 ≠ some (w.heap.size + 1) ∧ ∀ g, blkOf x1.ah = some g → blkOf l8 ≠ some g) := hide ⟨df_app (unhide hD).1 hsz hwh, fun g hg9 => by
            obtain ⟨cur, hcur⟩ := or_blk_lt (unhide hW).h hg9
            exact df_app ((unhide hD).2 g hg9) (lt_of_block hcur) hwh⟩
          have e1 : ((insT c.H s j).map itr ++ [itr s]) = ((insT c.H s j) ++ [s]).map itr := by simp
          have e2 : ((insT c.H s j).map itr ++ [itr s]).length = ln + 1 := by
            have h8 := (or_slice (unhide hL)).1
            rw [List.length_append, List.length_singleton]
            omega
          rw [e2] at hL1 ⊢
          rw [e1] at hL1
          clear hB hW hD hL hls9 hgr hwh hsz e1 e2
          have hB := hB3; have hW := hW3; have hD := hD3; have hL := hide hL1
          clear hB3 hW3 hD3 hL1
          simp only [nrm]
          (refine wpList_step fun K hK => ?_; replace hK := hide hK; go_simp; refine unhide hK _ _ ?_; clear hK K)
          refine wpList_nil ?_
          rw [← unhide hE] at hL
          replace hB := hide hB
          go_upto_region 20 with fail
          replace hB := unhide hB
          refine wp_region_lit ?_
          (refine wpList_step fun K hK => ?_; replace hK := hide hK; go_simp; refine unhide hK _ _ ?_; clear hK K)
          refine wpList_nil ?_
          have hH := hide (show Hl w.heap.size u10 l8 (ln + 1) c8 (insL c.H s) from ⟨⟨(unhide hnm).H, (or_slice (unhide hL)).2⟩, (unhide hL).ow⟩)
          have hT9 := hide (or_none 1 9 w.heap.size u10)
          clear hL hD
          replace hB := hide hB
          go_wp2_with fail
          go_loopw [9, 13] (fun q t_ wr => ∃ (d : Int) (H : List It) (tx : List ByteArray) (lb : Option Addr) (m lk : Nat) (ta : Option Addr) (tc : Nat), q = .slice lb m lk ∧ t_ = .slice ta tx.length tc ∧ Hid (dvH c.dl (insL c.H s) = ((dvH d H).1, (dvH d H).2.1, tx ++ (dvH d H).2.2)) ∧ Hid (Dl d H) ∧ Hid (Bl w [⟨w.heap.size, fl [[.int .u32 c.nx], [.slice x1.ao x1.no x1.co], [.int .i64 c.tn], [.int .u32 d], [.slice x1.ah x1.nh x1.ch]], 26⟩, ⟨w.heap.size + 1, fl [[.int .u32 s.n], [.string s.s]], 47⟩, ⟨w.heap.size + 1 + 1, fl [[.int .u32 0], [.slice none 0 0], [.int .i64 0], [.int .u32 0], [.slice none 0 0]], 26⟩] wr) ∧ Hid (Own w.heap.size wr c x1) ∧ Hid (Hl w.heap.size wr lb m lk H) ∧ Hid (Or_ 1 9 w.heap.size wr (.slice ta tx.length tc) (tx.map tr1)) ∧ H.length + tx.length = (insL c.H s).length) (fun _ t_ _ => (insL c.H s).length - sliceLen t_)
          case atStart => exact ⟨c.dl, insL c.H s, [], l8, (ln + 1), c8, none, 0, rfl, rfl, hide (by simp), hdl, hB, hW, hH, hT9, by simp⟩
          case round =>
          clear hB hW hH hT9
          obtain ⟨d, H, tx, lb, m, lk, ta, tc, rfl, rfl, hdv, hD, hB, hW, hH, hT9, hsum⟩ := hrel
          have hB := unhide hB
          have hmH := (unhide hH).i.len
          have hcp := (unhide hH).i.2.cap
          have hmx := (unhide hH).i.2.max
          have hdr := (unhide hD).2.2
          have hG := hide (Gr.refl wr)
          replace hB := hide hB
          go_upto_region 21 with fail
          replace hB := unhide hB
          cases H with
          | nil =>
            have hm0 : m = 0 := by simpa using hmH.symm
            have hst : dvH d ([] : List It) = (d, [], []) := rfl
            replace hm0 := hide hm0
            refine any_start (S := fun v_ => v_.heap[w.heap.size]? = some (.cells (fl [[.int .u32 c.nx], [.slice x1.ao x1.no x1.co], [.int .i64 c.tn], [.int .u32 d], [.slice x1.ah x1.nh x1.ch]]) 26 (0, 0))) (by kernel_rfl) ?_
            replace hG := hide ((unhide hG).gr ((Gr.refl wr).drew))
            replace hW := hide ((unhide hW).gr ((Gr.refl wr).drew))
            replace hH := hide ((unhide hH).gr ((Gr.refl wr).drew))
            replace hT9 := hide ((unhide hT9).gr ((Gr.refl wr).drew))
            replace hB := hB.drew
            generalize World.drew _ = u11 at *
            simp only [List.size_toArray, List.length_cons, List.length_nil, Array.replicate, List.replicate]
            have hS_ := hide (show (fun v_ => v_.heap[w.heap.size]? = some (.cells (fl [[.int .u32 c.nx], [.slice x1.ao x1.no x1.co], [.int .i64 c.tn], [.int .u32 d], [.slice x1.ah x1.nh x1.ch]]) 26 (0, 0))) u11 from (hB.get 0 (x := ⟨w.heap.size, fl [[.int .u32 c.nx], [.slice x1.ao x1.no x1.co], [.int .i64 c.tn], [.int .u32 d], [.slice x1.ah x1.nh x1.ch]], 26⟩) rfl))
            refine any_tk 0 (.slice lb m lk) (tf 12 0) rfl (fun x_ hu => by kernel_rfl) (unhide hS_) ?_
            simp only [nrm]
            refine any_tk 1 (.int .i64 (m : Int)) (tf 12 1) rfl (fun x_ hu => by kernel_rfl) (unhide hS_) ?_
            simp only [nrm]
            refine any_tk 2 (.bool false) (tf 12 2) rfl (fun x_ hu => gtr_i _ (.tmp 70) (.const (.int .i64 0)) (m : Int) 0 false rfl (by kernel_rfl) (by kernel_rfl) (decide_eq_false (by have := unhide hm0; omega))) (unhide hS_) ?_
            simp only [nrm]
            refine any_tk 3 (.bool false) (tf 12 3) rfl (fun x_ hu => by kernel_rfl) (unhide hS_) ?_
            simp only [nrm]
            refine any_to 4 (tf 12 4) rfl (unhide hS_) ?_
            simp only [nrm]
            refine any_to 5 (tf 12 5) rfl (unhide hS_) ?_
            simp only [nrm]
            refine any_to 6 (tf 12 6) rfl (unhide hS_) ?_
            simp only [nrm]
            refine any_to 7 (tf 12 7) rfl (unhide hS_) ?_
            simp only [nrm]
            refine any_to 8 (tf 12 8) rfl (unhide hS_) ?_
            simp only [nrm]
            refine any_to 9 (tf 12 9) rfl (unhide hS_) ?_
            simp only [nrm]
            refine any_to 10 (tf 12 10) rfl (unhide hS_) ?_
            simp only [nrm]
            refine any_tk 11 (.bool false) (tf 12 11) rfl (fun x_ hu => by kernel_rfl) (unhide hS_) ?_
            simp only [nrm]
            refine any_done (by kernel_rfl) ?_
            clear hS_
            replace hst := hide hst
            clear hG
            replace hB := hide hB
            go_upto_region 25 with fail
            replace hB := unhide hB
            refine wp_region_lit ?_
            refine lvk (.slice lb m lk) ?_
            simp only [nrm]
            refine lvk (.pointer (some ⟨w.heap.size, 4, none⟩)) ?_
            simp only [nrm]
            have hzz_ : Hid (u11.heap[w.heap.size]? = some (.cells (fl [[.int .u32 c.nx], [.slice x1.ao x1.no x1.co], [.int .i64 c.tn], [.int .u32 d], [.slice x1.ah x1.nh x1.ch]]) 26 (0, 0))) := hide (hB.get 0 (x := ⟨w.heap.size, fl [[.int .u32 c.nx], [.slice x1.ao x1.no x1.co], [.int .i64 c.tn], [.int .u32 d], [.slice x1.ah x1.nh x1.ch]], 26⟩) rfl)
            refine list_csI (.tmp 95) (.tmp 94) (w.heap.size) 4 lb m lk (by kernel_rfl) rfl (by kernel_rfl) (by kernel_rfl) hB 0 rfl NC (nC  _ _ _ _ _) 4 _ rfl rfl ?_
            intro u12 hB_ hbt_
            clear hB
            replace hB : Bl w [⟨w.heap.size, fl [[.int .u32 c.nx], [.slice x1.ao x1.no x1.co], [.int .i64 c.tn], [.int .u32 d], [.slice lb m lk]], 26⟩, ⟨w.heap.size + 1, fl [[.int .u32 s.n], [.string s.s]], 47⟩, ⟨w.heap.size + 1 + 1, fl [[.int .u32 0], [.slice none 0 0], [.int .i64 0], [.int .u32 0], [.slice none 0 0]], 26⟩] u12 := hB_
            clear hB_
            replace hW := hide ((unhide hW).bz (unhide hzz_) hbt_)
            replace hH := hide ((unhide hH).bz (unhide hzz_) hbt_)
            replace hT9 := hide ((unhide hT9).bz (unhide hzz_) hbt_)
            clear hbt_ hzz_
            simp only [nrm]
            refine wpList_nil ?_
            replace hB := hide hB
            go_upto_region 26 with fail
            replace hB := unhide hB
            refine wp_region_lit ?_
            refine list_val (.agg (fl [[.int .u32 c.nx], [.slice x1.ao x1.no x1.co], [.int .i64 c.tn], [.int .u32 d], [.slice lb m lk]])) (by kernel_rfl) (exec_sw _ 26 (.tmp 3) rfl (w.heap.size) (by kernel_rfl) (hB.get 0 (x := ⟨w.heap.size, fl [[.int .u32 c.nx], [.slice x1.ao x1.no x1.co], [.int .i64 c.tn], [.int .u32 d], [.slice lb m lk]], 26⟩) rfl) NC (nC  _ _ _ _ _) Try.underlying26 rfl (by kernel_rfl)) ?_
            simp only [nrm]
            refine lvk (.slice ta tx.length tc) ?_
            simp only [nrm]
            have hzz_ : Hid (u12.heap[w.heap.size + 1 + 1]? = some (.cells (fl [[.int .u32 0], [.slice none 0 0], [.int .i64 0], [.int .u32 0], [.slice none 0 0]]) 26 (0, 0))) := hide (hB.get 2 (x := ⟨w.heap.size + 1 + 1, fl [[.int .u32 0], [.slice none 0 0], [.int .i64 0], [.int .u32 0], [.slice none 0 0]], 26⟩) rfl)
            refine list_all 26 (.tmp 6) (.tmp 96) (w.heap.size + 1 + 1) (S2 := [[.int .u32 c.nx], [.slice x1.ao x1.no x1.co], [.int .i64 c.tn], [.int .u32 d], [.slice lb m lk]]) (by kernel_rfl) rfl (by kernel_rfl) (by kernel_rfl) hB 2 rfl NC (nC  _ _ _ _ _) (nC  _ _ _ _ _) (by kernel_rfl) (oC  rfl rfl rfl rfl rfl) ?_
            intro u13 hB_ hbt_
            clear hB
            replace hB : Bl w [⟨w.heap.size, fl [[.int .u32 c.nx], [.slice x1.ao x1.no x1.co], [.int .i64 c.tn], [.int .u32 d], [.slice lb m lk]], 26⟩, ⟨w.heap.size + 1, fl [[.int .u32 s.n], [.string s.s]], 47⟩, ⟨w.heap.size + 1 + 1, fl [[.int .u32 c.nx], [.slice x1.ao x1.no x1.co], [.int .i64 c.tn], [.int .u32 d], [.slice lb m lk]], 26⟩] u13 := hB_
            clear hB_
            replace hW := hide ((unhide hW).bz (unhide hzz_) hbt_)
            replace hH := hide ((unhide hH).bz (unhide hzz_) hbt_)
            replace hT9 := hide ((unhide hT9).bz (unhide hzz_) hbt_)
            clear hbt_ hzz_
            simp only [nrm]
            (refine wpList_step fun K hK => ?_; replace hK := hide hK; go_simp; refine unhide hK _ _ ?_; clear hK K)
            (refine wpList_step fun K hK => ?_; replace hK := hide hK; go_simp; refine unhide hK _ _ ?_; clear hK K)
            refine wpList_nil ?_
            obtain ⟨e, he⟩ : ∃ e, e = dvC (tkC c s) := ⟨_, rfl⟩
            have hf := unhide hdv
            rw [unhide hst] at hf
            have e1 : e = { c with dl := d, H := [] } := by rw [he]; unfold dvC tkC; dsimp only; rw [hf]
            have e2 : (dvH c.dl (insL c.H s)).2.2 = tx := by rw [hf]; simp
            clear hf
            have hne : Nums e := by
              have h9 := dvH_nums (insL c.H s) c.dl (unhide hnm).H (unhide hdl).2.2.1.1 (unhide hdl).2.2.1.2
              rw [he]
              exact ⟨(unhide hnm).O, h9.1, (unhide hnm).nx, (unhide hnm).tn, h9.2⟩
            replace e1 := hide e1; replace e2 := hide e2; replace he := hide he; replace hne := hide hne
            replace hB := hide hB
            go_wp2_with fail
            replace hB := unhide hB
            rw [unhide hT]
            rw [unhide hv, ← unhide he]
            exact bodyPost_ret (v := .tuple #[.agg (fl [[.int .u32 c.nx], [.slice x1.ao x1.no x1.co], [.int .i64 c.tn], [.int .u32 d], [.slice lb m lk]]), .slice ta tx.length tc, .int .i64 0]) (res3 Try.results25 (rv_cell (by kernel_rfl) (hB.get 2 (x := ⟨w.heap.size + 1 + 1, fl [[.int .u32 c.nx], [.slice x1.ao x1.no x1.co], [.int .i64 c.tn], [.int .u32 d], [.slice lb m lk]], 26⟩) rfl) Try.underlying26 rfl (by rw [fl_size (nC  _ _ _ _ _)]; kernel_rfl)) (rv_tmp (by kernel_rfl)) (rv_tmp (by kernel_rfl))) rfl (⟨⟨x1.ao, x1.no, x1.co, lb, m, lk⟩, ta, tx.length, tc, (by rw [unhide e1] <;> rfl), ⟨⟨(unhide hne).O, (by rw [unhide e1]; exact (or_slice (unhide hW).o).2)⟩, (by rw [unhide e1]; exact (unhide hH).i), (unhide hne).nx, (unhide hne).tn, (unhide hne).dl⟩, ⟨(unhide hW).owx.o, (unhide hH).o⟩, (by rw [unhide e2]; exact unhide hT9), hB.gr⟩)
          | cons t H2 =>
            simp only [List.length_cons] at hmH hsum hdr
            obtain ⟨p, o, ha, hr⟩ := (unhide hH).i.at_ 0 t rfl
            have hok := (unhide hH).i.1 t List.mem_cons_self
            have hr3 : Hid (wr.cell? ⟨p, o + 2 * 0, none⟩ = some (.int .u32 t.n)) := hide (hr 0 _ rfl)
            have hr4 : Hid (wr.cell? ⟨p, o + 2 * 0 + 1, none⟩ = some (.string t.s)) := hide (hr 1 _ rfl)
            clear hr
            replace ha := hide ha; replace hok := hide hok
            by_cases hm : t.n = d
            · replace hm := hide hm
              refine any_start (S := fun v_ => v_.heap[w.heap.size]? = some (.cells (fl [[.int .u32 c.nx], [.slice x1.ao x1.no x1.co], [.int .i64 c.tn], [.int .u32 d], [.slice x1.ah x1.nh x1.ch]]) 26 (0, 0)) ∧ Gr wr v_) (by kernel_rfl) ?_
              replace hG := hide ((unhide hG).gr ((Gr.refl wr).drew))
              replace hW := hide ((unhide hW).gr ((Gr.refl wr).drew))
              replace hH := hide ((unhide hH).gr ((Gr.refl wr).drew))
              replace hT9 := hide ((unhide hT9).gr ((Gr.refl wr).drew))
              replace hB := hB.drew
              generalize World.drew _ = u11 at *
              simp only [List.size_toArray, List.length_cons, List.length_nil, Array.replicate, List.replicate]
              have hS_ := hide (show (fun v_ => v_.heap[w.heap.size]? = some (.cells (fl [[.int .u32 c.nx], [.slice x1.ao x1.no x1.co], [.int .i64 c.tn], [.int .u32 d], [.slice x1.ah x1.nh x1.ch]]) 26 (0, 0)) ∧ Gr wr v_) u11 from ⟨(hB.get 0 (x := ⟨w.heap.size, fl [[.int .u32 c.nx], [.slice x1.ao x1.no x1.co], [.int .i64 c.tn], [.int .u32 d], [.slice x1.ah x1.nh x1.ch]], 26⟩) rfl), (unhide hG)⟩)
              refine any_tk 0 (.slice lb m lk) (tf 12 0) rfl (fun x_ hu => by kernel_rfl) (unhide hS_) ?_
              simp only [nrm]
              refine any_tk 1 (.int .i64 (m : Int)) (tf 12 1) rfl (fun x_ hu => by kernel_rfl) (unhide hS_) ?_
              simp only [nrm]
              refine any_tk 2 (.bool true) (tf 12 2) rfl (fun x_ hu => gtr_i _ (.tmp 70) (.const (.int .i64 0)) (m : Int) 0 true rfl (by kernel_rfl) (by kernel_rfl) (decide_eq_true (by omega))) (unhide hS_) ?_
              simp only [nrm]
              refine any_tk 3 (.bool true) (tf 12 3) rfl (fun x_ hu => by kernel_rfl) (unhide hS_) ?_
              simp only [nrm]
              refine any_tk 4 (.slice lb m lk) (tf 12 4) rfl (fun x_ hu => by kernel_rfl) (unhide hS_) ?_
              simp only [nrm]
              refine any_tk 5 (.pointer (some ⟨p, o + 2 * 0, none⟩)) (tf 12 5) rfl (fun x_ hu => exec_isi _ (.tmp 73) (.const (.int .i64 0)) rfl p o m lk 0 (by rw [← unhide ha]; kernel_rfl) rfl (by omega)) (unhide hS_) ?_
              simp only [nrm]
              refine any_tk 6 (.pointer (some ⟨p, o + 2 * 0, none⟩)) (tf 12 6) rfl (fun x_ hu => by kernel_rfl) (unhide hS_) ?_
              simp only [nrm]
              refine any_tk 7 (.int .u32 t.n) (tf 12 7) rfl (fun x_ hu => exec_c32 _ (.tmp 75) rfl p (o + 2 * 0) (by kernel_rfl) t.n (hu.2.cell (unhide hr3))) (unhide hS_) ?_
              simp only [nrm]
              refine any_tk 8 (.pointer (some ⟨w.heap.size, 3, none⟩)) (tf 12 8) rfl (fun x_ hu => by kernel_rfl) (unhide hS_) ?_
              simp only [nrm]
              refine any_tk 9 (.int .u32 d) (tf 12 9) rfl (fun x_ hu => exec_c32 _ (.tmp 77) rfl (w.heap.size) 3 (by kernel_rfl) d (seg_cell (nC  _ _ _ _ _) hu.1 3 (v := .int .u32 d) rfl rfl)) (unhide hS_) ?_
              simp only [nrm]
              refine any_tk 10 (.bool true) (tf 12 10) rfl (fun x_ hu => eql_32 _ (.tmp 76) (.tmp 78) t.n d true rfl (by kernel_rfl) (by kernel_rfl) (decide_eq_true (unhide hm))) (unhide hS_) ?_
              simp only [nrm]
              refine any_tk 11 (.bool true) (tf 12 11) rfl (fun x_ hu => by kernel_rfl) (unhide hS_) ?_
              simp only [nrm]
              refine any_done (by kernel_rfl) ?_
              clear hS_
              replace hB := hide hB
              go_upto_region 22 with fail
              replace hB := unhide hB
              refine wp_region_lit ?_
              refine lvk (.slice ta tx.length tc) ?_
              simp only [nrm]
              refine lvk (.slice lb m lk) ?_
              simp only [nrm]
              refine list_val (.pointer (some ⟨p, o + 2 * 0, none⟩)) (by kernel_rfl) (exec_isi _ (.tmp 82) (.const (.int .i64 0)) rfl p o m lk 0 (by rw [← unhide ha]; kernel_rfl) rfl (by omega)) ?_
              simp only [nrm]
              refine lvk (.pointer (some ⟨p, o + 2 * 0 + 1, none⟩)) ?_
              simp only [nrm]
              refine list_val (.string t.s) (by kernel_rfl) (exec_cst _ (.tmp 84) rfl p (o + 2 * 0 + 1) (by kernel_rfl) t.s ((unhide hG).cell (unhide hr4))) ?_
              simp only [nrm]
              refine list_valw (.slice (some ⟨u11.heap.size, 0, none⟩) 1 1) (u11.alloc (.cells #[.string t.s] 9 (0, 0))) (by kernel_rfl) (exec_bss _ (.tmp 85) rfl t.s (by kernel_rfl)) ?_
              have hS := hide (blk_new u11 (.cells #[.string t.s] 9 (0, 0)))
              have hg := (Gr.refl u11).alloc (.cells #[.string t.s] 9 (0, 0))
              replace hG := hide ((unhide hG).gr hg)
              replace hW := hide ((unhide hW).gr hg)
              replace hH := hide ((unhide hH).gr hg)
              replace hT9 := hide ((unhide hT9).gr hg)
              replace hB := hB.more hg
              clear hg
              generalize World.alloc _ _ = u12 at *
              generalize u11.heap.size = gs at *
              simp only [nrm]
              have hls : Lz 1 u12 (some ⟨gs, 0, none⟩) 1 1 [tr1 t.s] := ⟨rfl, by intro r_ hr_; obtain rfl := List.mem_singleton.1 hr_; rfl, .inr ⟨gs, 0, rfl, by rw [List.flatten_cons, List.flatten_nil, List.append_nil]; exact range_row (unhide hS)⟩, by omega, by omega⟩
              refine wpList_step fun K hK => ?_
              rw [if_pos (by kernel_rfl)]
              refine app_rowsW ltS (.tmp 81) (.tmp 86) rfl w.heap.size _ (tx.map tr1) (by kernel_rfl) (unhide hT9) (some ⟨gs, 0, none⟩) 1 1 [tr1 t.s] (by kernel_rfl) hls (by
                intro r_ hr_ u_ hu_
                obtain rfl := List.mem_singleton.1 hr_
                obtain rfl := List.mem_singleton.1 hu_
                rfl) (by rw [List.length_map]; have h9 := (unhide hdl).2.2.2; omega) hB.gr.size ?_
              intro v1 u13 hL1 hgr
              refine hK _ _ ?_
              clear hK K hls hS
              replace hB := hB.grownR (unhide hT9) (Nat.le_refl _) hgr (by intro y_ hy_; simp only [List.mem_cons, List.not_mem_nil, or_false] at hy_; rcases hy_ with rfl | rfl | rfl <;> (dsimp only; decide))
              replace hW := hide (show Own w.heap.size u13 c x1 from ⟨or_grown (unhide hW).o (unhide hT9) hgr (by decide), or_grown (unhide hW).h (unhide hT9) hgr (by decide)⟩)
              replace hH := hide ((unhide hH).gs (unhide hT9) hgr (by decide))
              clear hT9 hgr hG
              have e1 : tx.map tr1 ++ [tr1 t.s] = (tx ++ [t.s]).map tr1 := by simp
              obtain ⟨l8, c8, rfl, hls8⟩ := hL1.lz
              clear hls8
              have e2 : (tx.map tr1 ++ [tr1 t.s]).length = tx.length + 1 := by simp
              rw [e2] at hL1 ⊢
              rw [e1] at hL1
              have hT9 := hide hL1
              clear hL1 e1 e2
              simp only [nrm]
              (refine wpList_step fun K hK => ?_; replace hK := hide hK; go_simp; refine unhide hK _ _ ?_; clear hK K)
              refine wpList_nil ?_
              replace hB := hide hB
              go_upto_region 23 with fail
              replace hB := unhide hB
              refine wp_region_lit ?_
              refine lvk (.slice lb m lk) ?_
              simp only [nrm]
              refine list_val (.slice (frA 2 lb lk 1) (m - 1) (lk - 1)) (by kernel_rfl) (exec_frI _ (.tmp 88) (.const (.int .i64 1)) rfl lb m lk 1 (by kernel_rfl) rfl hcp (by omega)) ?_
              simp only [nrm]
              (refine wpList_step fun K hK => ?_; replace hK := hide hK; go_simp; refine unhide hK _ _ ?_; clear hK K)
              refine wpList_nil ?_
              replace hB := hide hB
              go_upto_region 24 with fail
              replace hB := unhide hB
              refine wp_region_lit ?_
              refine lvk (.pointer (some ⟨w.heap.size, 3, none⟩)) ?_
              simp only [nrm]
              refine list_val (.int .u32 d) (by kernel_rfl) (exec_c32 _ (.tmp 90) rfl (w.heap.size) 3 (by kernel_rfl) d (seg_cell (nC  _ _ _ _ _) (hB.get 0 (x := ⟨w.heap.size, fl [[.int .u32 c.nx], [.slice x1.ao x1.no x1.co], [.int .i64 c.tn], [.int .u32 d], [.slice x1.ah x1.nh x1.ch]], 26⟩) rfl) 3 (v := .int .u32 d) rfl rfl)) ?_
              simp only [nrm]
              refine list_val (.int .u32 (d + 1)) (by kernel_rfl) (add_32 _ (.tmp 91) (.const (.int .u32 1)) d 1 rfl (by kernel_rfl) (by kernel_rfl) _ rfl (by omega)) ?_
              simp only [nrm]
              refine lvk (.pointer (some ⟨w.heap.size, 3, none⟩)) ?_
              simp only [nrm]
              have hzz_ : Hid (u13.heap[w.heap.size]? = some (.cells (fl [[.int .u32 c.nx], [.slice x1.ao x1.no x1.co], [.int .i64 c.tn], [.int .u32 d], [.slice x1.ah x1.nh x1.ch]]) 26 (0, 0))) := hide (hB.get 0 (x := ⟨w.heap.size, fl [[.int .u32 c.nx], [.slice x1.ao x1.no x1.co], [.int .i64 c.tn], [.int .u32 d], [.slice x1.ah x1.nh x1.ch]], 26⟩) rfl)
              refine list_c32 (.tmp 93) (.tmp 92) (w.heap.size) 3 (d + 1) (by kernel_rfl) rfl (by kernel_rfl) (by kernel_rfl) hB 0 rfl NC (nC  _ _ _ _ _) 3 _ rfl rfl ?_
              intro u14 hB_ hbt_
              clear hB
              replace hB : Bl w [⟨w.heap.size, fl [[.int .u32 c.nx], [.slice x1.ao x1.no x1.co], [.int .i64 c.tn], [.int .u32 (d + 1)], [.slice x1.ah x1.nh x1.ch]], 26⟩, ⟨w.heap.size + 1, fl [[.int .u32 s.n], [.string s.s]], 47⟩, ⟨w.heap.size + 1 + 1, fl [[.int .u32 0], [.slice none 0 0], [.int .i64 0], [.int .u32 0], [.slice none 0 0]], 26⟩] u14 := hB_
              clear hB_
              replace hW := hide ((unhide hW).bz (unhide hzz_) hbt_)
              replace hH := hide ((unhide hH).bz (unhide hzz_) hbt_)
              replace hT9 := hide ((unhide hT9).bz (unhide hzz_) hbt_)
              clear hbt_ hzz_
              simp only [nrm]
              refine wpList_nil ?_
              replace hH := hide ((unhide hH).tl)
              have hdv2 : Hid (dvH c.dl (insL c.H s) = ((dvH (d + 1) H2).1, (dvH (d + 1) H2).2.1, (tx ++ [t.s]) ++ (dvH (d + 1) H2).2.2)) := hide (by rw [unhide hdv, dvH_go (unhide hm)]; simp)
              have hD2 := hide ((unhide hD).tail (unhide hm))
              have hs2 : H2.length + (tx.length + 1) = (insL c.H s).length := by omega
              replace hB := hide hB
              clear ha hok hr3 hr4 hdv hD hm
              go_wp2_with fail
              go_roundw
              case rel =>
                have e9 : (tx ++ [t.s]).length = tx.length + 1 := by simp
                exact ⟨d + 1, H2, tx ++ [t.s], frA 2 lb lk 1, m - 1, lk - 1, l8, c8, rfl, by rw [e9], hdv2, hD2, hB, hW, hH, (by rw [e9]; exact hT9), by rw [e9]; exact hs2⟩
              case measure => simp only [sliceLen]; omega
            · have hst : dvH d (t :: H2) = (d, t :: H2, []) := by unfold dvH; rw [if_neg hm]
              replace hm := hide hm
              refine any_start (S := fun v_ => v_.heap[w.heap.size]? = some (.cells (fl [[.int .u32 c.nx], [.slice x1.ao x1.no x1.co], [.int .i64 c.tn], [.int .u32 d], [.slice x1.ah x1.nh x1.ch]]) 26 (0, 0)) ∧ Gr wr v_) (by kernel_rfl) ?_
              replace hG := hide ((unhide hG).gr ((Gr.refl wr).drew))
              replace hW := hide ((unhide hW).gr ((Gr.refl wr).drew))
              replace hH := hide ((unhide hH).gr ((Gr.refl wr).drew))
              replace hT9 := hide ((unhide hT9).gr ((Gr.refl wr).drew))
              replace hB := hB.drew
              generalize World.drew _ = u11 at *
              simp only [List.size_toArray, List.length_cons, List.length_nil, Array.replicate, List.replicate]
              have hS_ := hide (show (fun v_ => v_.heap[w.heap.size]? = some (.cells (fl [[.int .u32 c.nx], [.slice x1.ao x1.no x1.co], [.int .i64 c.tn], [.int .u32 d], [.slice x1.ah x1.nh x1.ch]]) 26 (0, 0)) ∧ Gr wr v_) u11 from ⟨(hB.get 0 (x := ⟨w.heap.size, fl [[.int .u32 c.nx], [.slice x1.ao x1.no x1.co], [.int .i64 c.tn], [.int .u32 d], [.slice x1.ah x1.nh x1.ch]], 26⟩) rfl), (unhide hG)⟩)
              refine any_tk 0 (.slice lb m lk) (tf 12 0) rfl (fun x_ hu => by kernel_rfl) (unhide hS_) ?_
              simp only [nrm]
              refine any_tk 1 (.int .i64 (m : Int)) (tf 12 1) rfl (fun x_ hu => by kernel_rfl) (unhide hS_) ?_
              simp only [nrm]
              refine any_tk 2 (.bool true) (tf 12 2) rfl (fun x_ hu => gtr_i _ (.tmp 70) (.const (.int .i64 0)) (m : Int) 0 true rfl (by kernel_rfl) (by kernel_rfl) (decide_eq_true (by omega))) (unhide hS_) ?_
              simp only [nrm]
              refine any_tk 3 (.bool true) (tf 12 3) rfl (fun x_ hu => by kernel_rfl) (unhide hS_) ?_
              simp only [nrm]
              refine any_tk 4 (.slice lb m lk) (tf 12 4) rfl (fun x_ hu => by kernel_rfl) (unhide hS_) ?_
              simp only [nrm]
              refine any_tk 5 (.pointer (some ⟨p, o + 2 * 0, none⟩)) (tf 12 5) rfl (fun x_ hu => exec_isi _ (.tmp 73) (.const (.int .i64 0)) rfl p o m lk 0 (by rw [← unhide ha]; kernel_rfl) rfl (by omega)) (unhide hS_) ?_
              simp only [nrm]
              refine any_tk 6 (.pointer (some ⟨p, o + 2 * 0, none⟩)) (tf 12 6) rfl (fun x_ hu => by kernel_rfl) (unhide hS_) ?_
              simp only [nrm]
              refine any_tk 7 (.int .u32 t.n) (tf 12 7) rfl (fun x_ hu => exec_c32 _ (.tmp 75) rfl p (o + 2 * 0) (by kernel_rfl) t.n (hu.2.cell (unhide hr3))) (unhide hS_) ?_
              simp only [nrm]
              refine any_tk 8 (.pointer (some ⟨w.heap.size, 3, none⟩)) (tf 12 8) rfl (fun x_ hu => by kernel_rfl) (unhide hS_) ?_
              simp only [nrm]
              refine any_tk 9 (.int .u32 d) (tf 12 9) rfl (fun x_ hu => exec_c32 _ (.tmp 77) rfl (w.heap.size) 3 (by kernel_rfl) d (seg_cell (nC  _ _ _ _ _) hu.1 3 (v := .int .u32 d) rfl rfl)) (unhide hS_) ?_
              simp only [nrm]
              refine any_tk 10 (.bool false) (tf 12 10) rfl (fun x_ hu => eql_32 _ (.tmp 76) (.tmp 78) t.n d false rfl (by kernel_rfl) (by kernel_rfl) (decide_eq_false (unhide hm))) (unhide hS_) ?_
              simp only [nrm]
              refine any_tk 11 (.bool false) (tf 12 11) rfl (fun x_ hu => by kernel_rfl) (unhide hS_) ?_
              simp only [nrm]
              refine any_done (by kernel_rfl) ?_
              clear hS_
              replace hst := hide hst
              clear hG
              replace hB := hide hB
              go_upto_region 25 with fail
              replace hB := unhide hB
              refine wp_region_lit ?_
              refine lvk (.slice lb m lk) ?_
              simp only [nrm]
              refine lvk (.pointer (some ⟨w.heap.size, 4, none⟩)) ?_
              simp only [nrm]
              have hzz_ : Hid (u11.heap[w.heap.size]? = some (.cells (fl [[.int .u32 c.nx], [.slice x1.ao x1.no x1.co], [.int .i64 c.tn], [.int .u32 d], [.slice x1.ah x1.nh x1.ch]]) 26 (0, 0))) := hide (hB.get 0 (x := ⟨w.heap.size, fl [[.int .u32 c.nx], [.slice x1.ao x1.no x1.co], [.int .i64 c.tn], [.int .u32 d], [.slice x1.ah x1.nh x1.ch]], 26⟩) rfl)
              refine list_csI (.tmp 95) (.tmp 94) (w.heap.size) 4 lb m lk (by kernel_rfl) rfl (by kernel_rfl) (by kernel_rfl) hB 0 rfl NC (nC  _ _ _ _ _) 4 _ rfl rfl ?_
              intro u12 hB_ hbt_
              clear hB
              replace hB : Bl w [⟨w.heap.size, fl [[.int .u32 c.nx], [.slice x1.ao x1.no x1.co], [.int .i64 c.tn], [.int .u32 d], [.slice lb m lk]], 26⟩, ⟨w.heap.size + 1, fl [[.int .u32 s.n], [.string s.s]], 47⟩, ⟨w.heap.size + 1 + 1, fl [[.int .u32 0], [.slice none 0 0], [.int .i64 0], [.int .u32 0], [.slice none 0 0]], 26⟩] u12 := hB_
              clear hB_
              replace hW := hide ((unhide hW).bz (unhide hzz_) hbt_)
              replace hH := hide ((unhide hH).bz (unhide hzz_) hbt_)
              replace hT9 := hide ((unhide hT9).bz (unhide hzz_) hbt_)
              clear hbt_ hzz_
              simp only [nrm]
              refine wpList_nil ?_
              replace hB := hide hB
              go_upto_region 26 with fail
              replace hB := unhide hB
              refine wp_region_lit ?_
              refine list_val (.agg (fl [[.int .u32 c.nx], [.slice x1.ao x1.no x1.co], [.int .i64 c.tn], [.int .u32 d], [.slice lb m lk]])) (by kernel_rfl) (exec_sw _ 26 (.tmp 3) rfl (w.heap.size) (by kernel_rfl) (hB.get 0 (x := ⟨w.heap.size, fl [[.int .u32 c.nx], [.slice x1.ao x1.no x1.co], [.int .i64 c.tn], [.int .u32 d], [.slice lb m lk]], 26⟩) rfl) NC (nC  _ _ _ _ _) Try.underlying26 rfl (by kernel_rfl)) ?_
              simp only [nrm]
              refine lvk (.slice ta tx.length tc) ?_
              simp only [nrm]
              have hzz_ : Hid (u12.heap[w.heap.size + 1 + 1]? = some (.cells (fl [[.int .u32 0], [.slice none 0 0], [.int .i64 0], [.int .u32 0], [.slice none 0 0]]) 26 (0, 0))) := hide (hB.get 2 (x := ⟨w.heap.size + 1 + 1, fl [[.int .u32 0], [.slice none 0 0], [.int .i64 0], [.int .u32 0], [.slice none 0 0]], 26⟩) rfl)
              refine list_all 26 (.tmp 6) (.tmp 96) (w.heap.size + 1 + 1) (S2 := [[.int .u32 c.nx], [.slice x1.ao x1.no x1.co], [.int .i64 c.tn], [.int .u32 d], [.slice lb m lk]]) (by kernel_rfl) rfl (by kernel_rfl) (by kernel_rfl) hB 2 rfl NC (nC  _ _ _ _ _) (nC  _ _ _ _ _) (by kernel_rfl) (oC  rfl rfl rfl rfl rfl) ?_
              intro u13 hB_ hbt_
              clear hB
              replace hB : Bl w [⟨w.heap.size, fl [[.int .u32 c.nx], [.slice x1.ao x1.no x1.co], [.int .i64 c.tn], [.int .u32 d], [.slice lb m lk]], 26⟩, ⟨w.heap.size + 1, fl [[.int .u32 s.n], [.string s.s]], 47⟩, ⟨w.heap.size + 1 + 1, fl [[.int .u32 c.nx], [.slice x1.ao x1.no x1.co], [.int .i64 c.tn], [.int .u32 d], [.slice lb m lk]], 26⟩] u13 := hB_
              clear hB_
              replace hW := hide ((unhide hW).bz (unhide hzz_) hbt_)
              replace hH := hide ((unhide hH).bz (unhide hzz_) hbt_)
              replace hT9 := hide ((unhide hT9).bz (unhide hzz_) hbt_)
              clear hbt_ hzz_
              simp only [nrm]
              (refine wpList_step fun K hK => ?_; replace hK := hide hK; go_simp; refine unhide hK _ _ ?_; clear hK K)
              (refine wpList_step fun K hK => ?_; replace hK := hide hK; go_simp; refine unhide hK _ _ ?_; clear hK K)
              refine wpList_nil ?_
              obtain ⟨e, he⟩ : ∃ e, e = dvC (tkC c s) := ⟨_, rfl⟩
              have hf := unhide hdv
              rw [unhide hst] at hf
              have e1 : e = { c with dl := d, H := (t :: H2) } := by rw [he]; unfold dvC tkC; dsimp only; rw [hf]
              have e2 : (dvH c.dl (insL c.H s)).2.2 = tx := by rw [hf]; simp
              clear hf
              have hne : Nums e := by
                have h9 := dvH_nums (insL c.H s) c.dl (unhide hnm).H (unhide hdl).2.2.1.1 (unhide hdl).2.2.1.2
                rw [he]
                exact ⟨(unhide hnm).O, h9.1, (unhide hnm).nx, (unhide hnm).tn, h9.2⟩
              replace e1 := hide e1; replace e2 := hide e2; replace he := hide he; replace hne := hide hne
              replace hB := hide hB
              go_wp2_with fail
              replace hB := unhide hB
              rw [unhide hT]
              rw [unhide hv, ← unhide he]
              exact bodyPost_ret (v := .tuple #[.agg (fl [[.int .u32 c.nx], [.slice x1.ao x1.no x1.co], [.int .i64 c.tn], [.int .u32 d], [.slice lb m lk]]), .slice ta tx.length tc, .int .i64 0]) (res3 Try.results25 (rv_cell (by kernel_rfl) (hB.get 2 (x := ⟨w.heap.size + 1 + 1, fl [[.int .u32 c.nx], [.slice x1.ao x1.no x1.co], [.int .i64 c.tn], [.int .u32 d], [.slice lb m lk]], 26⟩) rfl) Try.underlying26 rfl (by rw [fl_size (nC  _ _ _ _ _)]; kernel_rfl)) (rv_tmp (by kernel_rfl)) (rv_tmp (by kernel_rfl))) rfl (⟨⟨x1.ao, x1.no, x1.co, lb, m, lk⟩, ta, tx.length, tc, (by rw [unhide e1] <;> rfl), ⟨⟨(unhide hne).O, (by rw [unhide e1]; exact (or_slice (unhide hW).o).2)⟩, (by rw [unhide e1]; exact (unhide hH).i), (unhide hne).nx, (unhide hne).tn, (unhide hne).dl⟩, ⟨(unhide hW).owx.o, (unhide hH).o⟩, (by rw [unhide e2]; exact unhide hT9), hB.gr⟩)
        · have hpb2 : pb = true := by rw [unhide hpb]; simp; have h9 := unhide hjn; omega
          subst hpb2
          clear hpb
          have hE : insL c.H s = insT c.H s j := by rw [unhide hend, if_neg hq]
          replace hE := hide hE; replace hq := hide hq
          refine wp_region_lit ?_
          refine lvk (.bool true) ?_
          simp only [nrm]
          refine lvk (.bool false) ?_
          simp only [nrm]
          refine wpList_nil ?_
          rw [← unhide hE] at hL
          replace hB := hide hB
          go_upto_region 20 with fail
          replace hB := unhide hB
          refine wp_region_lit ?_
          (refine wpList_step fun K hK => ?_; replace hK := hide hK; go_simp; refine unhide hK _ _ ?_; clear hK K)
          refine wpList_nil ?_
          have hH := hide (show Hl w.heap.size wr la ln lc (insL c.H s) from ⟨⟨(unhide hnm).H, (or_slice (unhide hL)).2⟩, (unhide hL).ow⟩)
          have hT9 := hide (or_none 1 9 w.heap.size wr)
          clear hL hD
          replace hB := hide hB
          go_wp2_with fail
          go_loopw [9, 13] (fun q t_ wr => ∃ (d : Int) (H : List It) (tx : List ByteArray) (lb : Option Addr) (m lk : Nat) (ta : Option Addr) (tc : Nat), q = .slice lb m lk ∧ t_ = .slice ta tx.length tc ∧ Hid (dvH c.dl (insL c.H s) = ((dvH d H).1, (dvH d H).2.1, tx ++ (dvH d H).2.2)) ∧ Hid (Dl d H) ∧ Hid (Bl w [⟨w.heap.size, fl [[.int .u32 c.nx], [.slice x1.ao x1.no x1.co], [.int .i64 c.tn], [.int .u32 d], [.slice x1.ah x1.nh x1.ch]], 26⟩, ⟨w.heap.size + 1, fl [[.int .u32 s.n], [.string s.s]], 47⟩, ⟨w.heap.size + 1 + 1, fl [[.int .u32 0], [.slice none 0 0], [.int .i64 0], [.int .u32 0], [.slice none 0 0]], 26⟩] wr) ∧ Hid (Own w.heap.size wr c x1) ∧ Hid (Hl w.heap.size wr lb m lk H) ∧ Hid (Or_ 1 9 w.heap.size wr (.slice ta tx.length tc) (tx.map tr1)) ∧ H.length + tx.length = (insL c.H s).length) (fun _ t_ _ => (insL c.H s).length - sliceLen t_)
          case atStart => exact ⟨c.dl, insL c.H s, [], la, ln, lc, none, 0, rfl, rfl, hide (by simp), hdl, hB, hW, hH, hT9, by simp⟩
          case round =>
          clear hB hW hH hT9
          obtain ⟨d, H, tx, lb, m, lk, ta, tc, rfl, rfl, hdv, hD, hB, hW, hH, hT9, hsum⟩ := hrel
          have hB := unhide hB
          have hmH := (unhide hH).i.len
          have hcp := (unhide hH).i.2.cap
          have hmx := (unhide hH).i.2.max
          have hdr := (unhide hD).2.2
          have hG := hide (Gr.refl wr)
          replace hB := hide hB
          go_upto_region 21 with fail
          replace hB := unhide hB
          cases H with
          | nil =>
            have hm0 : m = 0 := by simpa using hmH.symm
            have hst : dvH d ([] : List It) = (d, [], []) := rfl
            replace hm0 := hide hm0
            refine any_start (S := fun v_ => v_.heap[w.heap.size]? = some (.cells (fl [[.int .u32 c.nx], [.slice x1.ao x1.no x1.co], [.int .i64 c.tn], [.int .u32 d], [.slice x1.ah x1.nh x1.ch]]) 26 (0, 0))) (by kernel_rfl) ?_
            replace hG := hide ((unhide hG).gr ((Gr.refl wr).drew))
            replace hW := hide ((unhide hW).gr ((Gr.refl wr).drew))
            replace hH := hide ((unhide hH).gr ((Gr.refl wr).drew))
            replace hT9 := hide ((unhide hT9).gr ((Gr.refl wr).drew))
            replace hB := hB.drew
            generalize World.drew _ = u9 at *
            simp only [List.size_toArray, List.length_cons, List.length_nil, Array.replicate, List.replicate]
            have hS_ := hide (show (fun v_ => v_.heap[w.heap.size]? = some (.cells (fl [[.int .u32 c.nx], [.slice x1.ao x1.no x1.co], [.int .i64 c.tn], [.int .u32 d], [.slice x1.ah x1.nh x1.ch]]) 26 (0, 0))) u9 from (hB.get 0 (x := ⟨w.heap.size, fl [[.int .u32 c.nx], [.slice x1.ao x1.no x1.co], [.int .i64 c.tn], [.int .u32 d], [.slice x1.ah x1.nh x1.ch]], 26⟩) rfl))
            refine any_tk 0 (.slice lb m lk) (tf 12 0) rfl (fun x_ hu => by kernel_rfl) (unhide hS_) ?_
            simp only [nrm]
            refine any_tk 1 (.int .i64 (m : Int)) (tf 12 1) rfl (fun x_ hu => by kernel_rfl) (unhide hS_) ?_
            simp only [nrm]
            refine any_tk 2 (.bool false) (tf 12 2) rfl (fun x_ hu => gtr_i _ (.tmp 70) (.const (.int .i64 0)) (m : Int) 0 false rfl (by kernel_rfl) (by kernel_rfl) (decide_eq_false (by have := unhide hm0; omega))) (unhide hS_) ?_
            simp only [nrm]
            refine any_tk 3 (.bool false) (tf 12 3) rfl (fun x_ hu => by kernel_rfl) (unhide hS_) ?_
            simp only [nrm]
            refine any_to 4 (tf 12 4) rfl (unhide hS_) ?_
            simp only [nrm]
            refine any_to 5 (tf 12 5) rfl (unhide hS_) ?_
            simp only [nrm]
            refine any_to 6 (tf 12 6) rfl (unhide hS_) ?_
            simp only [nrm]
            refine any_to 7 (tf 12 7) rfl (unhide hS_) ?_
            simp only [nrm]
            refine any_to 8 (tf 12 8) rfl (unhide hS_) ?_
            simp only [nrm]
            refine any_to 9 (tf 12 9) rfl (unhide hS_) ?_
            simp only [nrm]
            refine any_to 10 (tf 12 10) rfl (unhide hS_) ?_
            simp only [nrm]
            refine any_tk 11 (.bool false) (tf 12 11) rfl (fun x_ hu => by kernel_rfl) (unhide hS_) ?_
            simp only [nrm]
            refine any_done (by kernel_rfl) ?_
            clear hS_
            replace hst := hide hst
            clear hG
            replace hB := hide hB
            go_upto_region 25 with fail
            replace hB := unhide hB
            refine wp_region_lit ?_
            refine lvk (.slice lb m lk) ?_
            simp only [nrm]
            refine lvk (.pointer (some ⟨w.heap.size, 4, none⟩)) ?_
            simp only [nrm]
            have hzz_ : Hid (u9.heap[w.heap.size]? = some (.cells (fl [[.int .u32 c.nx], [.slice x1.ao x1.no x1.co], [.int .i64 c.tn], [.int .u32 d], [.slice x1.ah x1.nh x1.ch]]) 26 (0, 0))) := hide (hB.get 0 (x := ⟨w.heap.size, fl [[.int .u32 c.nx], [.slice x1.ao x1.no x1.co], [.int .i64 c.tn], [.int .u32 d], [.slice x1.ah x1.nh x1.ch]], 26⟩) rfl)
            refine list_csI (.tmp 95) (.tmp 94) (w.heap.size) 4 lb m lk (by kernel_rfl) rfl (by kernel_rfl) (by kernel_rfl) hB 0 rfl NC (nC  _ _ _ _ _) 4 _ rfl rfl ?_
            intro u10 hB_ hbt_
            clear hB
            replace hB : Bl w [⟨w.heap.size, fl [[.int .u32 c.nx], [.slice x1.ao x1.no x1.co], [.int .i64 c.tn], [.int .u32 d], [.slice lb m lk]], 26⟩, ⟨w.heap.size + 1, fl [[.int .u32 s.n], [.string s.s]], 47⟩, ⟨w.heap.size + 1 + 1, fl [[.int .u32 0], [.slice none 0 0], [.int .i64 0], [.int .u32 0], [.slice none 0 0]], 26⟩] u10 := hB_
            clear hB_
            replace hW := hide ((unhide hW).bz (unhide hzz_) hbt_)
            replace hH := hide ((unhide hH).bz (unhide hzz_) hbt_)
            replace hT9 := hide ((unhide hT9).bz (unhide hzz_) hbt_)
            clear hbt_ hzz_
            simp only [nrm]
            refine wpList_nil ?_
            replace hB := hide hB
            go_upto_region 26 with fail
            replace hB := unhide hB
            refine wp_region_lit ?_
            refine list_val (.agg (fl [[.int .u32 c.nx], [.slice x1.ao x1.no x1.co], [.int .i64 c.tn], [.int .u32 d], [.slice lb m lk]])) (by kernel_rfl) (exec_sw _ 26 (.tmp 3) rfl (w.heap.size) (by kernel_rfl) (hB.get 0 (x := ⟨w.heap.size, fl [[.int .u32 c.nx], [.slice x1.ao x1.no x1.co], [.int .i64 c.tn], [.int .u32 d], [.slice lb m lk]], 26⟩) rfl) NC (nC  _ _ _ _ _) Try.underlying26 rfl (by kernel_rfl)) ?_
            simp only [nrm]
            refine lvk (.slice ta tx.length tc) ?_
            simp only [nrm]
            have hzz_ : Hid (u10.heap[w.heap.size + 1 + 1]? = some (.cells (fl [[.int .u32 0], [.slice none 0 0], [.int .i64 0], [.int .u32 0], [.slice none 0 0]]) 26 (0, 0))) := hide (hB.get 2 (x := ⟨w.heap.size + 1 + 1, fl [[.int .u32 0], [.slice none 0 0], [.int .i64 0], [.int .u32 0], [.slice none 0 0]], 26⟩) rfl)
            refine list_all 26 (.tmp 6) (.tmp 96) (w.heap.size + 1 + 1) (S2 := [[.int .u32 c.nx], [.slice x1.ao x1.no x1.co], [.int .i64 c.tn], [.int .u32 d], [.slice lb m lk]]) (by kernel_rfl) rfl (by kernel_rfl) (by kernel_rfl) hB 2 rfl NC (nC  _ _ _ _ _) (nC  _ _ _ _ _) (by kernel_rfl) (oC  rfl rfl rfl rfl rfl) ?_
            intro u11 hB_ hbt_
            clear hB
            replace hB : Bl w [⟨w.heap.size, fl [[.int .u32 c.nx], [.slice x1.ao x1.no x1.co], [.int .i64 c.tn], [.int .u32 d], [.slice lb m lk]], 26⟩, ⟨w.heap.size + 1, fl [[.int .u32 s.n], [.string s.s]], 47⟩, ⟨w.heap.size + 1 + 1, fl [[.int .u32 c.nx], [.slice x1.ao x1.no x1.co], [.int .i64 c.tn], [.int .u32 d], [.slice lb m lk]], 26⟩] u11 := hB_
            clear hB_
            replace hW := hide ((unhide hW).bz (unhide hzz_) hbt_)
            replace hH := hide ((unhide hH).bz (unhide hzz_) hbt_)
            replace hT9 := hide ((unhide hT9).bz (unhide hzz_) hbt_)
            clear hbt_ hzz_
            simp only [nrm]
            (refine wpList_step fun K hK => ?_; replace hK := hide hK; go_simp; refine unhide hK _ _ ?_; clear hK K)
            (refine wpList_step fun K hK => ?_; replace hK := hide hK; go_simp; refine unhide hK _ _ ?_; clear hK K)
            refine wpList_nil ?_
            obtain ⟨e, he⟩ : ∃ e, e = dvC (tkC c s) := ⟨_, rfl⟩
            have hf := unhide hdv
            rw [unhide hst] at hf
            have e1 : e = { c with dl := d, H := [] } := by rw [he]; unfold dvC tkC; dsimp only; rw [hf]
            have e2 : (dvH c.dl (insL c.H s)).2.2 = tx := by rw [hf]; simp
            clear hf
            have hne : Nums e := by
              have h9 := dvH_nums (insL c.H s) c.dl (unhide hnm).H (unhide hdl).2.2.1.1 (unhide hdl).2.2.1.2
              rw [he]
              exact ⟨(unhide hnm).O, h9.1, (unhide hnm).nx, (unhide hnm).tn, h9.2⟩
            replace e1 := hide e1; replace e2 := hide e2; replace he := hide he; replace hne := hide hne
            replace hB := hide hB
            go_wp2_with fail
            replace hB := unhide hB
            rw [unhide hT]
            rw [unhide hv, ← unhide he]
            exact bodyPost_ret (v := .tuple #[.agg (fl [[.int .u32 c.nx], [.slice x1.ao x1.no x1.co], [.int .i64 c.tn], [.int .u32 d], [.slice lb m lk]]), .slice ta tx.length tc, .int .i64 0]) (res3 Try.results25 (rv_cell (by kernel_rfl) (hB.get 2 (x := ⟨w.heap.size + 1 + 1, fl [[.int .u32 c.nx], [.slice x1.ao x1.no x1.co], [.int .i64 c.tn], [.int .u32 d], [.slice lb m lk]], 26⟩) rfl) Try.underlying26 rfl (by rw [fl_size (nC  _ _ _ _ _)]; kernel_rfl)) (rv_tmp (by kernel_rfl)) (rv_tmp (by kernel_rfl))) rfl (⟨⟨x1.ao, x1.no, x1.co, lb, m, lk⟩, ta, tx.length, tc, (by rw [unhide e1] <;> rfl), ⟨⟨(unhide hne).O, (by rw [unhide e1]; exact (or_slice (unhide hW).o).2)⟩, (by rw [unhide e1]; exact (unhide hH).i), (unhide hne).nx, (unhide hne).tn, (unhide hne).dl⟩, ⟨(unhide hW).owx.o, (unhide hH).o⟩, (by rw [unhide e2]; exact unhide hT9), hB.gr⟩)
          | cons t H2 =>
            simp only [List.length_cons] at hmH hsum hdr
            obtain ⟨p, o, ha, hr⟩ := (unhide hH).i.at_ 0 t rfl
            have hok := (unhide hH).i.1 t List.mem_cons_self
            have hr3 : Hid (wr.cell? ⟨p, o + 2 * 0, none⟩ = some (.int .u32 t.n)) := hide (hr 0 _ rfl)
            have hr4 : Hid (wr.cell? ⟨p, o + 2 * 0 + 1, none⟩ = some (.string t.s)) := hide (hr 1 _ rfl)
            clear hr
            replace ha := hide ha; replace hok := hide hok
            by_cases hm : t.n = d
            · replace hm := hide hm
              refine any_start (S := fun v_ => v_.heap[w.heap.size]? = some (.cells (fl [[.int .u32 c.nx], [.slice x1.ao x1.no x1.co], [.int .i64 c.tn], [.int .u32 d], [.slice x1.ah x1.nh x1.ch]]) 26 (0, 0)) ∧ Gr wr v_) (by kernel_rfl) ?_
              replace hG := hide ((unhide hG).gr ((Gr.refl wr).drew))
              replace hW := hide ((unhide hW).gr ((Gr.refl wr).drew))
              replace hH := hide ((unhide hH).gr ((Gr.refl wr).drew))
              replace hT9 := hide ((unhide hT9).gr ((Gr.refl wr).drew))
              replace hB := hB.drew
              generalize World.drew _ = u9 at *
              simp only [List.size_toArray, List.length_cons, List.length_nil, Array.replicate, List.replicate]
              have hS_ := hide (show (fun v_ => v_.heap[w.heap.size]? = some (.cells (fl [[.int .u32 c.nx], [.slice x1.ao x1.no x1.co], [.int .i64 c.tn], [.int .u32 d], [.slice x1.ah x1.nh x1.ch]]) 26 (0, 0)) ∧ Gr wr v_) u9 from ⟨(hB.get 0 (x := ⟨w.heap.size, fl [[.int .u32 c.nx], [.slice x1.ao x1.no x1.co], [.int .i64 c.tn], [.int .u32 d], [.slice x1.ah x1.nh x1.ch]], 26⟩) rfl), (unhide hG)⟩)
              refine any_tk 0 (.slice lb m lk) (tf 12 0) rfl (fun x_ hu => by kernel_rfl) (unhide hS_) ?_
              simp only [nrm]
              refine any_tk 1 (.int .i64 (m : Int)) (tf 12 1) rfl (fun x_ hu => by kernel_rfl) (unhide hS_) ?_
              simp only [nrm]
              refine any_tk 2 (.bool true) (tf 12 2) rfl (fun x_ hu => gtr_i _ (.tmp 70) (.const (.int .i64 0)) (m : Int) 0 true rfl (by kernel_rfl) (by kernel_rfl) (decide_eq_true (by omega))) (unhide hS_) ?_
              simp only [nrm]
              refine any_tk 3 (.bool true) (tf 12 3) rfl (fun x_ hu => by kernel_rfl) (unhide hS_) ?_
              simp only [nrm]
              refine any_tk 4 (.slice lb m lk) (tf 12 4) rfl (fun x_ hu => by kernel_rfl) (unhide hS_) ?_
              simp only [nrm]
              refine any_tk 5 (.pointer (some ⟨p, o + 2 * 0, none⟩)) (tf 12 5) rfl (fun x_ hu => exec_isi _ (.tmp 73) (.const (.int .i64 0)) rfl p o m lk 0 (by rw [← unhide ha]; kernel_rfl) rfl (by omega)) (unhide hS_) ?_
              simp only [nrm]
              refine any_tk 6 (.pointer (some ⟨p, o + 2 * 0, none⟩)) (tf 12 6) rfl (fun x_ hu => by kernel_rfl) (unhide hS_) ?_
              simp only [nrm]
              refine any_tk 7 (.int .u32 t.n) (tf 12 7) rfl (fun x_ hu => exec_c32 _ (.tmp 75) rfl p (o + 2 * 0) (by kernel_rfl) t.n (hu.2.cell (unhide hr3))) (unhide hS_) ?_
              simp only [nrm]
              refine any_tk 8 (.pointer (some ⟨w.heap.size, 3, none⟩)) (tf 12 8) rfl (fun x_ hu => by kernel_rfl) (unhide hS_) ?_
              simp only [nrm]
              refine any_tk 9 (.int .u32 d) (tf 12 9) rfl (fun x_ hu => exec_c32 _ (.tmp 77) rfl (w.heap.size) 3 (by kernel_rfl) d (seg_cell (nC  _ _ _ _ _) hu.1 3 (v := .int .u32 d) rfl rfl)) (unhide hS_) ?_
              simp only [nrm]
              refine any_tk 10 (.bool true) (tf 12 10) rfl (fun x_ hu => eql_32 _ (.tmp 76) (.tmp 78) t.n d true rfl (by kernel_rfl) (by kernel_rfl) (decide_eq_true (unhide hm))) (unhide hS_) ?_
              simp only [nrm]
              refine any_tk 11 (.bool true) (tf 12 11) rfl (fun x_ hu => by kernel_rfl) (unhide hS_) ?_
              simp only [nrm]
              refine any_done (by kernel_rfl) ?_
              clear hS_
              replace hB := hide hB
              go_upto_region 22 with fail
              replace hB := unhide hB
              refine wp_region_lit ?_
              refine lvk (.slice ta tx.length tc) ?_
              simp only [nrm]
              refine lvk (.slice lb m lk) ?_
              simp only [nrm]
              refine list_val (.pointer (some ⟨p, o + 2 * 0, none⟩)) (by kernel_rfl) (exec_isi _ (.tmp 82) (.const (.int .i64 0)) rfl p o m lk 0 (by rw [← unhide ha]; kernel_rfl) rfl (by omega)) ?_
              simp only [nrm]
              refine lvk (.pointer (some ⟨p, o + 2 * 0 + 1, none⟩)) ?_
              simp only [nrm]
              refine list_val (.string t.s) (by kernel_rfl) (exec_cst _ (.tmp 84) rfl p (o + 2 * 0 + 1) (by kernel_rfl) t.s ((unhide hG).cell (unhide hr4))) ?_
              simp only [nrm]
              refine list_valw (.slice (some ⟨u9.heap.size, 0, none⟩) 1 1) (u9.alloc (.cells #[.string t.s] 9 (0, 0))) (by kernel_rfl) (exec_bss _ (.tmp 85) rfl t.s (by kernel_rfl)) ?_
              have hS := hide (blk_new u9 (.cells #[.string t.s] 9 (0, 0)))
              have hg := (Gr.refl u9).alloc (.cells #[.string t.s] 9 (0, 0))
              replace hG := hide ((unhide hG).gr hg)
              replace hW := hide ((unhide hW).gr hg)
              replace hH := hide ((unhide hH).gr hg)
              replace hT9 := hide ((unhide hT9).gr hg)
              replace hB := hB.more hg
              clear hg
              generalize World.alloc _ _ = u10 at *
              generalize u9.heap.size = gs at *
              simp only [nrm]
              have hls : Lz 1 u10 (some ⟨gs, 0, none⟩) 1 1 [tr1 t.s] := ⟨rfl, by intro r_ hr_; obtain rfl := List.mem_singleton.1 hr_; rfl, .inr ⟨gs, 0, rfl, by rw [List.flatten_cons, List.flatten_nil, List.append_nil]; exact range_row (unhide hS)⟩, by omega, by omega⟩
              refine wpList_step fun K hK => ?_
              rw [if_pos (by kernel_rfl)]
              refine app_rowsW ltS (.tmp 81) (.tmp 86) rfl w.heap.size _ (tx.map tr1) (by kernel_rfl) (unhide hT9) (some ⟨gs, 0, none⟩) 1 1 [tr1 t.s] (by kernel_rfl) hls (by
                intro r_ hr_ u_ hu_
                obtain rfl := List.mem_singleton.1 hr_
                obtain rfl := List.mem_singleton.1 hu_
                rfl) (by rw [List.length_map]; have h9 := (unhide hdl).2.2.2; omega) hB.gr.size ?_
              intro v1 u11 hL1 hgr
              refine hK _ _ ?_
              clear hK K hls hS
              replace hB := hB.grownR (unhide hT9) (Nat.le_refl _) hgr (by intro y_ hy_; simp only [List.mem_cons, List.not_mem_nil, or_false] at hy_; rcases hy_ with rfl | rfl | rfl <;> (dsimp only; decide))
              replace hW := hide (show Own w.heap.size u11 c x1 from ⟨or_grown (unhide hW).o (unhide hT9) hgr (by decide), or_grown (unhide hW).h (unhide hT9) hgr (by decide)⟩)
              replace hH := hide ((unhide hH).gs (unhide hT9) hgr (by decide))
              clear hT9 hgr hG
              have e1 : tx.map tr1 ++ [tr1 t.s] = (tx ++ [t.s]).map tr1 := by simp
              obtain ⟨l8, c8, rfl, hls8⟩ := hL1.lz
              clear hls8
              have e2 : (tx.map tr1 ++ [tr1 t.s]).length = tx.length + 1 := by simp
              rw [e2] at hL1 ⊢
              rw [e1] at hL1
              have hT9 := hide hL1
              clear hL1 e1 e2
              simp only [nrm]
              (refine wpList_step fun K hK => ?_; replace hK := hide hK; go_simp; refine unhide hK _ _ ?_; clear hK K)
              refine wpList_nil ?_
              replace hB := hide hB
              go_upto_region 23 with fail
              replace hB := unhide hB
              refine wp_region_lit ?_
              refine lvk (.slice lb m lk) ?_
              simp only [nrm]
              refine list_val (.slice (frA 2 lb lk 1) (m - 1) (lk - 1)) (by kernel_rfl) (exec_frI _ (.tmp 88) (.const (.int .i64 1)) rfl lb m lk 1 (by kernel_rfl) rfl hcp (by omega)) ?_
              simp only [nrm]
              (refine wpList_step fun K hK => ?_; replace hK := hide hK; go_simp; refine unhide hK _ _ ?_; clear hK K)
              refine wpList_nil ?_
              replace hB := hide hB
              go_upto_region 24 with fail
              replace hB := unhide hB
              refine wp_region_lit ?_
              refine lvk (.pointer (some ⟨w.heap.size, 3, none⟩)) ?_
              simp only [nrm]
              refine list_val (.int .u32 d) (by kernel_rfl) (exec_c32 _ (.tmp 90) rfl (w.heap.size) 3 (by kernel_rfl) d (seg_cell (nC  _ _ _ _ _) (hB.get 0 (x := ⟨w.heap.size, fl [[.int .u32 c.nx], [.slice x1.ao x1.no x1.co], [.int .i64 c.tn], [.int .u32 d], [.slice x1.ah x1.nh x1.ch]], 26⟩) rfl) 3 (v := .int .u32 d) rfl rfl)) ?_
              simp only [nrm]
              refine list_val (.int .u32 (d + 1)) (by kernel_rfl) (add_32 _ (.tmp 91) (.const (.int .u32 1)) d 1 rfl (by kernel_rfl) (by kernel_rfl) _ rfl (by omega)) ?_
              simp only [nrm]
              refine lvk (.pointer (some ⟨w.heap.size, 3, none⟩)) ?_
              simp only [nrm]
              have hzz_ : Hid (u11.heap[w.heap.size]? = some (.cells (fl [[.int .u32 c.nx], [.slice x1.ao x1.no x1.co], [.int .i64 c.tn], [.int .u32 d], [.slice x1.ah x1.nh x1.ch]]) 26 (0, 0))) := hide (hB.get 0 (x := ⟨w.heap.size, fl [[.int .u32 c.nx], [.slice x1.ao x1.no x1.co], [.int .i64 c.tn], [.int .u32 d], [.slice x1.ah x1.nh x1.ch]], 26⟩) rfl)
              refine list_c32 (.tmp 93) (.tmp 92) (w.heap.size) 3 (d + 1) (by kernel_rfl) rfl (by kernel_rfl) (by kernel_rfl) hB 0 rfl NC (nC  _ _ _ _ _) 3 _ rfl rfl ?_
              intro u12 hB_ hbt_
              clear hB
              replace hB : Bl w [⟨w.heap.size, fl [[.int .u32 c.nx], [.slice x1.ao x1.no x1.co], [.int .i64 c.tn], [.int .u32 (d + 1)], [.slice x1.ah x1.nh x1.ch]], 26⟩, ⟨w.heap.size + 1, fl [[.int .u32 s.n], [.string s.s]], 47⟩, ⟨w.heap.size + 1 + 1, fl [[.int .u32 0], [.slice none 0 0], [.int .i64 0], [.int .u32 0], [.slice none 0 0]], 26⟩] u12 := hB_
              clear hB_
              replace hW := hide ((unhide hW).bz (unhide hzz_) hbt_)
              replace hH := hide ((unhide hH).bz (unhide hzz_) hbt_)
              replace hT9 := hide ((unhide hT9).bz (unhide hzz_) hbt_)
              clear hbt_ hzz_
              simp only [nrm]
              refine wpList_nil ?_
              replace hH := hide ((unhide hH).tl)
              have hdv2 : Hid (dvH c.dl (insL c.H s) = ((dvH (d + 1) H2).1, (dvH (d + 1) H2).2.1, (tx ++ [t.s]) ++ (dvH (d + 1) H2).2.2)) := hide (by rw [unhide hdv, dvH_go (unhide hm)]; simp)
              have hD2 := hide ((unhide hD).tail (unhide hm))
              have hs2 : H2.length + (tx.length + 1) = (insL c.H s).length := by omega
              replace hB := hide hB
              clear ha hok hr3 hr4 hdv hD hm
              go_wp2_with fail
              go_roundw
              case rel =>
                have e9 : (tx ++ [t.s]).length = tx.length + 1 := by simp
                exact ⟨d + 1, H2, tx ++ [t.s], frA 2 lb lk 1, m - 1, lk - 1, l8, c8, rfl, by rw [e9], hdv2, hD2, hB, hW, hH, (by rw [e9]; exact hT9), by rw [e9]; exact hs2⟩
              case measure => simp only [sliceLen]; omega
            · have hst : dvH d (t :: H2) = (d, t :: H2, []) := by unfold dvH; rw [if_neg hm]
              replace hm := hide hm
              refine any_start (S := fun v_ => v_.heap[w.heap.size]? = some (.cells (fl [[.int .u32 c.nx], [.slice x1.ao x1.no x1.co], [.int .i64 c.tn], [.int .u32 d], [.slice x1.ah x1.nh x1.ch]]) 26 (0, 0)) ∧ Gr wr v_) (by kernel_rfl) ?_
              replace hG := hide ((unhide hG).gr ((Gr.refl wr).drew))
              replace hW := hide ((unhide hW).gr ((Gr.refl wr).drew))
              replace hH := hide ((unhide hH).gr ((Gr.refl wr).drew))
              replace hT9 := hide ((unhide hT9).gr ((Gr.refl wr).drew))
              replace hB := hB.drew
              generalize World.drew _ = u9 at *
              simp only [List.size_toArray, List.length_cons, List.length_nil, Array.replicate, List.replicate]
              have hS_ := hide (show (fun v_ => v_.heap[w.heap.size]? = some (.cells (fl [[.int .u32 c.nx], [.slice x1.ao x1.no x1.co], [.int .i64 c.tn], [.int .u32 d], [.slice x1.ah x1.nh x1.ch]]) 26 (0, 0)) ∧ Gr wr v_) u9 from ⟨(hB.get 0 (x := ⟨w.heap.size, fl [[.int .u32 c.nx], [.slice x1.ao x1.no x1.co], [.int .i64 c.tn], [.int .u32 d], [.slice x1.ah x1.nh x1.ch]], 26⟩) rfl), (unhide hG)⟩)
              refine any_tk 0 (.slice lb m lk) (tf 12 0) rfl (fun x_ hu => by kernel_rfl) (unhide hS_) ?_
              simp only [nrm]
              refine any_tk 1 (.int .i64 (m : Int)) (tf 12 1) rfl (fun x_ hu => by kernel_rfl) (unhide hS_) ?_
              simp only [nrm]
              refine any_tk 2 (.bool true) (tf 12 2) rfl (fun x_ hu => gtr_i _ (.tmp 70) (.const (.int .i64 0)) (m : Int) 0 true rfl (by kernel_rfl) (by kernel_rfl) (decide_eq_true (by omega))) (unhide hS_) ?_
              simp only [nrm]
              refine any_tk 3 (.bool true) (tf 12 3) rfl (fun x_ hu => by kernel_rfl) (unhide hS_) ?_
              simp only [nrm]
              refine any_tk 4 (.slice lb m lk) (tf 12 4) rfl (fun x_ hu => by kernel_rfl) (unhide hS_) ?_
              simp only [nrm]
              refine any_tk 5 (.pointer (some ⟨p, o + 2 * 0, none⟩)) (tf 12 5) rfl (fun x_ hu => exec_isi _ (.tmp 73) (.const (.int .i64 0)) rfl p o m lk 0 (by rw [← unhide ha]; kernel_rfl) rfl (by omega)) (unhide hS_) ?_
              simp only [nrm]
              refine any_tk 6 (.pointer (some ⟨p, o + 2 * 0, none⟩)) (tf 12 6) rfl (fun x_ hu => by kernel_rfl) (unhide hS_) ?_
              simp only [nrm]
              refine any_tk 7 (.int .u32 t.n) (tf 12 7) rfl (fun x_ hu => exec_c32 _ (.tmp 75) rfl p (o + 2 * 0) (by kernel_rfl) t.n (hu.2.cell (unhide hr3))) (unhide hS_) ?_
              simp only [nrm]
              refine any_tk 8 (.pointer (some ⟨w.heap.size, 3, none⟩)) (tf 12 8) rfl (fun x_ hu => by kernel_rfl) (unhide hS_) ?_
              simp only [nrm]
              refine any_tk 9 (.int .u32 d) (tf 12 9) rfl (fun x_ hu => exec_c32 _ (.tmp 77) rfl (w.heap.size) 3 (by kernel_rfl) d (seg_cell (nC  _ _ _ _ _) hu.1 3 (v := .int .u32 d) rfl rfl)) (unhide hS_) ?_
              simp only [nrm]
              refine any_tk 10 (.bool false) (tf 12 10) rfl (fun x_ hu => eql_32 _ (.tmp 76) (.tmp 78) t.n d false rfl (by kernel_rfl) (by kernel_rfl) (decide_eq_false (unhide hm))) (unhide hS_) ?_
              simp only [nrm]
              refine any_tk 11 (.bool false) (tf 12 11) rfl (fun x_ hu => by kernel_rfl) (unhide hS_) ?_
              simp only [nrm]
              refine any_done (by kernel_rfl) ?_
              clear hS_
              replace hst := hide hst
              clear hG
              replace hB := hide hB
              go_upto_region 25 with fail
              replace hB := unhide hB
              refine wp_region_lit ?_
              refine lvk (.slice lb m lk) ?_
              simp only [nrm]
              refine lvk (.pointer (some ⟨w.heap.size, 4, none⟩)) ?_
              simp only [nrm]
              have hzz_ : Hid (u9.heap[w.heap.size]? = some (.cells (fl [[.int .u32 c.nx], [.slice x1.ao x1.no x1.co], [.int .i64 c.tn], [.int .u32 d], [.slice x1.ah x1.nh x1.ch]]) 26 (0, 0))) := hide (hB.get 0 (x := ⟨w.heap.size, fl [[.int .u32 c.nx], [.slice x1.ao x1.no x1.co], [.int .i64 c.tn], [.int .u32 d], [.slice x1.ah x1.nh x1.ch]], 26⟩) rfl)
              refine list_csI (.tmp 95) (.tmp 94) (w.heap.size) 4 lb m lk (by kernel_rfl) rfl (by kernel_rfl) (by kernel_rfl) hB 0 rfl NC (nC  _ _ _ _ _) 4 _ rfl rfl ?_
              intro u10 hB_ hbt_
              clear hB
              replace hB : Bl w [⟨w.heap.size, fl [[.int .u32 c.nx], [.slice x1.ao x1.no x1.co], [.int .i64 c.tn], [.int .u32 d], [.slice lb m lk]], 26⟩, ⟨w.heap.size + 1, fl [[.int .u32 s.n], [.string s.s]], 47⟩, ⟨w.heap.size + 1 + 1, fl [[.int .u32 0], [.slice none 0 0], [.int .i64 0], [.int .u32 0], [.slice none 0 0]], 26⟩] u10 := hB_
              clear hB_
              replace hW := hide ((unhide hW).bz (unhide hzz_) hbt_)
              replace hH := hide ((unhide hH).bz (unhide hzz_) hbt_)
              replace hT9 := hide ((unhide hT9).bz (unhide hzz_) hbt_)
              clear hbt_ hzz_
              simp only [nrm]
              refine wpList_nil ?_
              replace hB := hide hB
              go_upto_region 26 with fail
              replace hB := unhide hB
              refine wp_region_lit ?_
              refine list_val (.agg (fl [[.int .u32 c.nx], [.slice x1.ao x1.no x1.co], [.int .i64 c.tn], [.int .u32 d], [.slice lb m lk]])) (by kernel_rfl) (exec_sw _ 26 (.tmp 3) rfl (w.heap.size) (by kernel_rfl) (hB.get 0 (x := ⟨w.heap.size, fl [[.int .u32 c.nx], [.slice x1.ao x1.no x1.co], [.int .i64 c.tn], [.int .u32 d], [.slice lb m lk]], 26⟩) rfl) NC (nC  _ _ _ _ _) Try.underlying26 rfl (by kernel_rfl)) ?_
              simp only [nrm]
              refine lvk (.slice ta tx.length tc) ?_
              simp only [nrm]
              have hzz_ : Hid (u10.heap[w.heap.size + 1 + 1]? = some (.cells (fl [[.int .u32 0], [.slice none 0 0], [.int .i64 0], [.int .u32 0], [.slice none 0 0]]) 26 (0, 0))) := hide (hB.get 2 (x := ⟨w.heap.size + 1 + 1, fl [[.int .u32 0], [.slice none 0 0], [.int .i64 0], [.int .u32 0], [.slice none 0 0]], 26⟩) rfl)
              refine list_all 26 (.tmp 6) (.tmp 96) (w.heap.size + 1 + 1) (S2 := [[.int .u32 c.nx], [.slice x1.ao x1.no x1.co], [.int .i64 c.tn], [.int .u32 d], [.slice lb m lk]]) (by kernel_rfl) rfl (by kernel_rfl) (by kernel_rfl) hB 2 rfl NC (nC  _ _ _ _ _) (nC  _ _ _ _ _) (by kernel_rfl) (oC  rfl rfl rfl rfl rfl) ?_
              intro u11 hB_ hbt_
              clear hB
              replace hB : Bl w [⟨w.heap.size, fl [[.int .u32 c.nx], [.slice x1.ao x1.no x1.co], [.int .i64 c.tn], [.int .u32 d], [.slice lb m lk]], 26⟩, ⟨w.heap.size + 1, fl [[.int .u32 s.n], [.string s.s]], 47⟩, ⟨w.heap.size + 1 + 1, fl [[.int .u32 c.nx], [.slice x1.ao x1.no x1.co], [.int .i64 c.tn], [.int .u32 d], [.slice lb m lk]], 26⟩] u11 := hB_
              clear hB_
              replace hW := hide ((unhide hW).bz (unhide hzz_) hbt_)
              replace hH := hide ((unhide hH).bz (unhide hzz_) hbt_)
              replace hT9 := hide ((unhide hT9).bz (unhide hzz_) hbt_)
              clear hbt_ hzz_
              simp only [nrm]
              (refine wpList_step fun K hK => ?_; replace hK := hide hK; go_simp; refine unhide hK _ _ ?_; clear hK K)
              (refine wpList_step fun K hK => ?_; replace hK := hide hK; go_simp; refine unhide hK _ _ ?_; clear hK K)
              refine wpList_nil ?_
              obtain ⟨e, he⟩ : ∃ e, e = dvC (tkC c s) := ⟨_, rfl⟩
              have hf := unhide hdv
              rw [unhide hst] at hf
              have e1 : e = { c with dl := d, H := (t :: H2) } := by rw [he]; unfold dvC tkC; dsimp only; rw [hf]
              have e2 : (dvH c.dl (insL c.H s)).2.2 = tx := by rw [hf]; simp
              clear hf
              have hne : Nums e := by
                have h9 := dvH_nums (insL c.H s) c.dl (unhide hnm).H (unhide hdl).2.2.1.1 (unhide hdl).2.2.1.2
                rw [he]
                exact ⟨(unhide hnm).O, h9.1, (unhide hnm).nx, (unhide hnm).tn, h9.2⟩
              replace e1 := hide e1; replace e2 := hide e2; replace he := hide he; replace hne := hide hne
              replace hB := hide hB
              go_wp2_with fail
              replace hB := unhide hB
              rw [unhide hT]
              rw [unhide hv, ← unhide he]
              exact bodyPost_ret (v := .tuple #[.agg (fl [[.int .u32 c.nx], [.slice x1.ao x1.no x1.co], [.int .i64 c.tn], [.int .u32 d], [.slice lb m lk]]), .slice ta tx.length tc, .int .i64 0]) (res3 Try.results25 (rv_cell (by kernel_rfl) (hB.get 2 (x := ⟨w.heap.size + 1 + 1, fl [[.int .u32 c.nx], [.slice x1.ao x1.no x1.co], [.int .i64 c.tn], [.int .u32 d], [.slice lb m lk]], 26⟩) rfl) Try.underlying26 rfl (by rw [fl_size (nC  _ _ _ _ _)]; kernel_rfl)) (rv_tmp (by kernel_rfl)) (rv_tmp (by kernel_rfl))) rfl (⟨⟨x1.ao, x1.no, x1.co, lb, m, lk⟩, ta, tx.length, tc, (by rw [unhide e1] <;> rfl), ⟨⟨(unhide hne).O, (by rw [unhide e1]; exact (or_slice (unhide hW).o).2)⟩, (by rw [unhide e1]; exact (unhide hH).i), (unhide hne).nx, (unhide hne).tn, (unhide hne).dl⟩, ⟨(unhide hW).owx.o, (unhide hH).o⟩, (by rw [unhide e2]; exact unhide hT9), hB.gr⟩)
end Go.Proofs.Ytcefkkoombmndaa
