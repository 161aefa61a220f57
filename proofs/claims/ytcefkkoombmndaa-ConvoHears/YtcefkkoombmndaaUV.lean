/-
  What is delivered.
-/
import Derived.Test.YtcefkkoombmndaaUU
namespace Go.Proofs.Ytcefkkoombmndaa
open Go.RowKit
set_option maxRecDepth 100000
set_option linter.unusedSimpArgs false
set_option linter.unusedVariables false
theorem infS : (Try.prog.info? 9).map (fun i => (i.zero, i.size, i.bytes)) = some (some (.string ByteArray.empty), 1, 16) := by kernel_rfl
theorem ltS : Lw 49 9 1 16 := by
  obtain ⟨i, h1, h2, h3, h4⟩ := info_parts infS
  exact ⟨Try.underlying49, ⟨i, _, h1, h2, h3, h4, rfl⟩, by decide⟩
theorem exec_bss {a : Act} {o : Oper} (w : World) (x : Operand) (ho : o.op = .buildSlice 49 1 #[(0, x)]) (s : ByteArray) (hx : a.eval x = .string s) :
    (execOp a.eval o).run Try.prog w = .ok (.value (.slice (some ⟨w.heap.size, 0, none⟩) 1 1)) (w.alloc (.cells #[.string s] 9 (0, 0))) := by
  unfold execOp
  simp only [ho, List.map_toArray, List.map_cons, List.map_nil, hx]
  kernel_rfl
/-- a text as a row -/
def tr1 (s : ByteArray) : List Value := [.string s]
/-- blocks that hold no texts with numbers stay -/
def Nt (w u : World) : Prop := w.heap.size ≤ u.heap.size ∧ ∀ (i : Nat) (C : Array Value) (t : TypeId), w.heap[i]? = some (.cells C t (0, 0)) → t ≠ 47 → u.heap[i]? = some (.cells C t (0, 0))
theorem Nt.refl (w : World) : Nt w w := ⟨Nat.le_refl _, fun _ _ _ h _ => h⟩
theorem Nt.gr {w u v : World} (h : Nt w u) (g : Gr u v) : Nt w v := ⟨Nat.le_trans h.1 g.size, fun i C t hi ht => g.blk (h.2 i C t hi ht)⟩
theorem Nt.trans {w u v : World} (h : Nt w u) (k : Nt u v) : Nt w v := ⟨Nat.le_trans h.1 k.1, fun i C t hi ht => k.2 i C t (h.2 i C t hi ht) ht⟩
theorem Nt.bn {w u v : World} {g : Nat} (h : Nt w u) {C : Array Value} {t : TypeId} (hg : u.heap[g]? = some (.cells C t (0, 0))) (m : Bt g u v) (hge : w.heap.size ≤ g) : Nt w v := ⟨Nat.le_trans h.1 m.size, fun i D s hi ht => m.blk (h.2 i D s hi ht) (by have := lt_of_block hi; omega)⟩
theorem Nt.go {w u v : World} (h : Nt w u) {k b : Nat} {e : TypeId} {x : Value} {R : List (List Value)} (ho : Or_ k e b u x R) (hb : w.heap.size ≤ b) (g : u.grownBy v x.ownBlock) : Nt w v := ⟨Nat.le_trans h.1 g.size, fun i D s hi ht => by
  have h1 := h.2 i D s hi ht
  rw [g.block i (lt_of_block h1) ?_]
  · exact h1
  · intro e1
    have h2 := (World.ownsRow.lt ho.2 i e1.symm).1
    have h3 := lt_of_block hi
    omega⟩
theorem Nt.bi {w u v : World} {g : Nat} (h : Nt w u) {C : Array Value} (hg : u.heap[g]? = some (.cells C 47 (0, 0))) (m : Bt g u v) : Nt w v := ⟨Nat.le_trans h.1 m.size, fun i D s hi ht => m.blk (h.2 i D s hi ht) (fun e => by
  have h1 := h.2 i D s hi ht
  rw [e, hg] at h1
  injection h1 with h1
  injection h1 with _ h1 _
  exact ht h1.symm)⟩
theorem or_ne9 {k b : Nat} {w : World} {x : Value} {R : List (List Value)} (h : Or_ k 47 b w x R) {i : Nat} {D : Array Value} {s : TypeId} (hi : w.heap[i]? = some (.cells D s (0, 0))) (hs : s ≠ 47) : some i ≠ x.ownBlock := by
  intro e1
  rcases h.2.2 with ⟨e2, _⟩ | ⟨q, cap, cur, e2, _, h3, _⟩
  · rw [e2] at e1; cases e1
  · rw [e2] at e1
    injection e1 with e1
    dsimp only at e1
    rw [e1, h3] at hi
    injection hi with hi
    injection hi with _ hi _
    exact hs hi.symm
theorem Nt.gi {w u v : World} (h : Nt w u) {k b : Nat} {x : Value} {R : List (List Value)} (ho : Or_ k 47 b u x R) (g : u.grownBy v x.ownBlock) : Nt w v := ⟨Nat.le_trans h.1 g.size, fun i D s hi ht => by
  have h1 := h.2 i D s hi ht
  rw [g.block i (lt_of_block h1) ?_]
  · exact h1
  · intro e1
    exact or_ne9 ho h1 ht e1⟩
theorem Own.newI {b : Nat} {w : World} {c : Cm} {x : Lc} (h : Own b w c x) : blkOf x.ah ≠ some w.heap.size := or_new h.h
theorem Own.newO {b : Nat} {w : World} {c : Cm} {x : Lc} (h : Own b w c x) : blkOf x.ao ≠ some w.heap.size := or_new h.o
/-- what is delivered, from a number on -/
def dvH : Int → List It → Int × List It × List ByteArray
  | d, [] => (d, [], [])
  | d, s :: H => if s.n = d then ((dvH (d + 1) H).1, (dvH (d + 1) H).2.1, s.s :: (dvH (d + 1) H).2.2) else (d, s :: H, [])
def dvC (c : Cm) : Cm := { c with dl := (dvH c.dl c.H).1, H := (dvH c.dl c.H).2.1 }
/-- texts by rising numbers, none below d -/
def Dl (d : Int) (H : List It) : Prop := Srt H ∧ (∀ s ∈ H, d ≤ s.n) ∧ (0 ≤ d ∧ d + H.length < 4294967296) ∧ H.length ≤ 1000
theorem Dl.tail {d : Int} {s : It} {H : List It} (h : Dl d (s :: H)) (hs : s.n = d) : Dl (d + 1) H := by
  refine ⟨fun k l s t hkl h1 h2 => h.1 (k + 1) (l + 1) s t (by omega) (by simpa using h1) (by simpa using h2), fun t ht => ?_, ?_, ?_⟩
  · obtain ⟨l, hl, rfl⟩ := List.getElem_of_mem ht
    have := h.1 0 (l + 1) s H[l] (by omega) rfl (by simp [hl])
    omega
  · have h1 := h.2.2.1
    simp only [List.length_cons] at h1
    omega
  · have h1 := h.2.2.2
    simp only [List.length_cons] at h1
    omega
theorem Dl.one {d : Int} {H : List It} (h : Dl d H) {j : Nat} {s : It} (hj : H[j]? = some s) (hs : s.n = d) : j = 0 := by
  rcases Nat.eq_zero_or_pos j with h0 | h0
  · exact h0
  · have hl := (List.getElem?_eq_some_iff.1 hj).1
    have h1 : H[0]? = some (H[0]'(by omega)) := List.getElem?_eq_getElem (by omega)
    have h2 := h.1 0 j _ s h0 h1 hj
    have h3 := h.2.1 _ (List.mem_of_getElem? h1)
    omega
theorem dvH_stop {d : Int} {H : List It} (h : ∀ s, H[0]? = some s → s.n ≠ d) : dvH d H = (d, H, []) := by
  cases H with
  | nil => rfl
  | cons s H => unfold dvH; rw [if_neg (h s rfl)]
theorem dvH_go {d : Int} {s : It} {H : List It} (hs : s.n = d) : dvH d (s :: H) = ((dvH (d + 1) H).1, (dvH (d + 1) H).2.1, s.s :: (dvH (d + 1) H).2.2) := by
  conv => lhs; unfold dvH
  rw [if_pos hs]
theorem Bl.lo {w0 w u : World} {L : List Blk} (h : Bl w L u) (g : Gr w0 w) : Bl w0 L u := ⟨g.trans h.gr, fun x hx => ⟨(h.at_ x hx).1, Nat.le_trans g.size (h.at_ x hx).2⟩, h.ne⟩
def sliceLen : Value → Nat
  | .slice _ n _ => n
  | _ => 0
set_option maxHeartbeats 4000000 in
theorem deliver_ok (c : Cm) (x : Lc) (w0 : World) (w : World) (h0 : Gr w0 w) (hO : Own w0.heap.size w c x) (nm : Nums c) (hd : Dl c.dl c.H) : Calls Try.prog 41 #[.agg (fl [[.int .u32 c.nx], [.slice x.ao x.no x.co], [.int .i64 c.tn], [.int .u32 c.dl], [.slice x.ah x.nh x.ch]])] w (fun r w' => ∃ x' a' n' c', r = .returned (.tuple #[.agg (fl (cvs (dvC c) x')), .slice a' n' c']) ∧ Own w0.heap.size w' (dvC c) x' ∧ Or_ 1 9 w0.heap.size w' (.slice a' n' c') ((dvH c.dl c.H).2.2.map tr1) ∧ Nt w w' ∧ Gr w0 w') := by
  obtain ⟨T, hT⟩ : ∃ T : Ending → World → Prop, T = (fun r w' => ∃ x' a' n' c', r = .returned (.tuple #[.agg (fl (cvs (dvC c) x')), .slice a' n' c']) ∧ Own w0.heap.size w' (dvC c) x' ∧ Or_ 1 9 w0.heap.size w' (.slice a' n' c') ((dvH c.dl c.H).2.2.map tr1) ∧ Nt w w' ∧ Gr w0 w') := ⟨_, rfl⟩
  rw [← hT]
  replace hT := hide hT
  replace h0 := hide h0; replace hO := hide hO; replace nm := hide nm; replace hd := hide hd
  obtain ⟨A0_, hA0_⟩ : ∃ S_, S_ = fl [[.int .u32 c.nx], [.slice x.ao x.no x.co], [.int .i64 c.tn], [.int .u32 c.dl], [.slice x.ah x.nh x.ch]] := ⟨_, rfl⟩
  rw [← hA0_]
  replace hA0_ := hide hA0_
  go_enter Try.func41, Try.ntmps41
  go_upto_region 1 with fail
  have hB := (((Bl.nil w).new A0_ 26).new (fl [[.int .u32 0], [.slice none 0 0], [.int .i64 0], [.int .u32 0], [.slice none 0 0]]) 26)
  simp only [size_alloc, List.nil_append, List.cons_append] at hB
  rw [unhide hA0_] at hB
  generalize hu_ : World.alloc _ _ = u0
  replace hB : Bl w [⟨w.heap.size, fl [[.int .u32 c.nx], [.slice x.ao x.no x.co], [.int .i64 c.tn], [.int .u32 c.dl], [.slice x.ah x.nh x.ch]], 26⟩, ⟨w.heap.size + 1, fl [[.int .u32 0], [.slice none 0 0], [.int .i64 0], [.int .u32 0], [.slice none 0 0]], 26⟩] u0 := by
    rw [← hu_]
    rw [unhide hA0_]
    exact hB
  clear hu_ hA0_
  have hNt := hide ((Nt.refl w).gr hB.gr)
  replace hO := hide ((unhide hO).gr hB.gr)
  have hw00 := (unhide h0).size
  replace hB : Bl w0 [⟨w.heap.size, fl [[.int .u32 c.nx], [.slice x.ao x.no x.co], [.int .i64 c.tn], [.int .u32 c.dl], [.slice x.ah x.nh x.ch]], 26⟩, ⟨w.heap.size + 1, fl [[.int .u32 0], [.slice none 0 0], [.int .i64 0], [.int .u32 0], [.slice none 0 0]], 26⟩] u0 := Bl.lo hB (unhide h0)
  have hL := hide (or_none 1 9 w.heap.size u0)
  replace hB := hide hB
  go_wp2_with fail
  refine wp_scope_straight ?_
  go_wp2_with fail
  refine wp_label ?_
  go_wp2_with fail
  go_loopw [3] (fun q wr => ∃ (d : Int) (H : List It) (xk : Lc) (tx : List ByteArray) (la : Option Addr) (ln lc : Nat), q = .slice la ln lc ∧ Hid (dvH c.dl c.H = ((dvH d H).1, (dvH d H).2.1, tx ++ (dvH d H).2.2)) ∧ Hid (Dl d H ∧ ∀ s ∈ H, s.Ok) ∧ Hid (Bl w0 [⟨w.heap.size, fl [[.int .u32 c.nx], [.slice xk.ao xk.no xk.co], [.int .i64 c.tn], [.int .u32 d], [.slice xk.ah xk.nh xk.ch]], 26⟩, ⟨w.heap.size + 1, fl [[.int .u32 0], [.slice none 0 0], [.int .i64 0], [.int .u32 0], [.slice none 0 0]], 26⟩] wr) ∧ Hid (Own w0.heap.size wr { c with dl := d, H := H } xk) ∧ Hid (Or_ 1 9 w.heap.size wr (.slice la ln lc) (tx.map tr1)) ∧ Hid (Nt w wr) ∧ H.length = c.H.length - tx.length ∧ tx.length ≤ c.H.length) (fun q _ => c.H.length - (sliceLen q))
  case atStart => exact ⟨c.dl, c.H, x, [], none, 0, 0, rfl, hide (by simp), hide ⟨unhide hd, (unhide nm).H⟩, hB, hO, hL, hNt, by simp, by simp⟩
  case round =>
  clear hB hO hL hNt
  obtain ⟨d, H, xk, tx, la, ln, lc, rfl, hdv, hD, hB, hO, hL, hNt, hHl, htl⟩ := hrel
  have hB := unhide hB
  have hnh : H.length = xk.nh := by
    have h9 := (or_slice (unhide hO).h).1
    dsimp only at h9
    rw [List.length_map] at h9
    exact h9.symm
  have hch := (or_slice (unhide hO).h).2.cap
  have hcm := (or_slice (unhide hO).h).2.max
  have hln := (or_slice (unhide hL)).1
  have hdr := (unhide hD).1.2.2
  rw [List.length_map] at hln
  replace hln := hide hln
  replace hB := hide hB
  go_upto_region 1 with fail
  replace hB := unhide hB
  refine wp_region_lit ?_
  refine lvk (.pointer (some ⟨w.heap.size, 4, none⟩)) ?_
  simp only [nrm]
  refine list_val (.slice xk.ah xk.nh xk.ch) (by kernel_rfl) (exec_csI _ (.tmp 6) rfl (w.heap.size) 4 (by kernel_rfl) xk.ah xk.nh xk.ch (seg_cell (nC  _ _ _ _ _) (hB.get 0 (x := ⟨w.heap.size, fl [[.int .u32 c.nx], [.slice xk.ao xk.no xk.co], [.int .i64 c.tn], [.int .u32 d], [.slice xk.ah xk.nh xk.ch]], 26⟩) rfl) 4 (v := .slice xk.ah xk.nh xk.ch) rfl rfl)) ?_
  simp only [nrm]
  refine lvk (.int .i64 (xk.nh : Int)) ?_
  simp only [nrm]
  refine lvk (.int .i64 0) ?_
  simp only [nrm]
  refine wpList_nil ?_
  have hM := hide (show 0 < 0 → ∀ s, H[0]? = some s → s.n ≠ d from fun h => absurd h (by omega))
  replace hB := hide hB
  go_wp2_with fail
  go_loopw [3, 9] (fun q i wr => ∃ j : Nat, j ≤ xk.nh ∧ q = .slice la ln lc ∧ i = .int .i64 (j : Int) ∧ Hid (0 < j → ∀ s, H[0]? = some s → s.n ≠ d) ∧ Hid (Bl w0 [⟨w.heap.size, fl [[.int .u32 c.nx], [.slice xk.ao xk.no xk.co], [.int .i64 c.tn], [.int .u32 d], [.slice xk.ah xk.nh xk.ch]], 26⟩, ⟨w.heap.size + 1, fl [[.int .u32 0], [.slice none 0 0], [.int .i64 0], [.int .u32 0], [.slice none 0 0]], 26⟩] wr) ∧ Hid (Own w0.heap.size wr { c with dl := d, H := H } xk) ∧ Hid (Or_ 1 9 w.heap.size wr (.slice la ln lc) (tx.map tr1)) ∧ Hid (Nt w wr)) (fun _ i _ => xk.nh - (intOf i).toNat)
  case atStart => exact ⟨0, by omega, rfl, rfl, hide (fun h => absurd h (by omega)), hB, hO, hL, hNt⟩
  case round =>
  clear hB hO hL hNt hM
  obtain ⟨j, hj, rfl, rfl, hM, hB, hO, hL, hNt⟩ := hrel
  have hB := unhide hB
  by_cases hlt : j < xk.nh
  · have jI : (j : Int) < (xk.nh : Int) := by omega
    obtain ⟨s, hsj⟩ : ∃ s, H[j]? = some s := ⟨_, List.getElem?_eq_getElem (by omega)⟩
    have hIL : IL _ xk.ah xk.nh xk.ch H := ⟨(unhide hD).2, (or_slice (unhide hO).h).2⟩
    have hok := hIL.ok j s hsj
    obtain ⟨p, o, ha, hr⟩ := hIL.at_ j s hsj
    clear hIL
    replace hr := hide hr; replace hsj := hide hsj; replace ha := hide ha; replace hok := hide hok
    replace hB := hide hB
    go_upto_region 3 with fail
    replace hB := unhide hB
    refine wp_region_lit ?_
    refine lvk (.int .i64 (j : Int)) ?_
    simp only [nrm]
    refine list_val (.pointer (some ⟨p, o + 2 * j, none⟩)) (by kernel_rfl) (exec_isi _ (.tmp 7) (.tmp 9) rfl p o xk.nh xk.ch j (by rw [← unhide ha]; kernel_rfl) (by kernel_rfl) hlt) ?_
    simp only [nrm]
    refine list_val (.agg (fl [[.int .u32 s.n], [.string s.s]])) (by kernel_rfl) (exec_li _ (.tmp 12) rfl p (o + 2 * j) (by kernel_rfl) s (unhide hr)) ?_
    simp only [nrm]
    have hne5 := (unhide hO).newI
    refine list_valw (.pointer (some ⟨wr.heap.size, 0, none⟩)) (wr.alloc (.cells (fl [[.int .u32 0], [.string ByteArray.empty]]) 47 (0, 0))) (by kernel_rfl) (by kernel_rfl) ?_
    replace hB := hB.new (fl [[.int .u32 0], [.string ByteArray.empty]]) 47
    simp only [List.nil_append, List.cons_append] at hB
    have hg := (Gr.refl wr).alloc (.cells (fl [[.int .u32 0], [.string ByteArray.empty]]) 47 (0, 0))
    replace hO := hide ((unhide hO).gr hg)
    replace hL := hide ((unhide hL).gr hg)
    replace hNt := hide ((unhide hNt).gr hg)
    clear hg
    generalize World.alloc _ _ = u1 at *
    generalize wr.heap.size = g5 at *
    simp only [nrm]
    (refine wpList_step fun K hK => ?_; replace hK := hide hK; go_simp; refine unhide hK _ _ ?_; clear hK K)
    have hzz_ : Hid (u1.heap[g5]? = some (.cells (fl [[.int .u32 0], [.string ByteArray.empty]]) 47 (0, 0))) := hide (hB.get 2 (x := ⟨g5, fl [[.int .u32 0], [.string ByteArray.empty]], 47⟩) rfl)
    refine list_all 47 (.tmp 5) (.tmp 13) (g5) (S2 := [[.int .u32 s.n], [.string s.s]]) (by kernel_rfl) rfl (by kernel_rfl) (by kernel_rfl) hB 2 rfl NI (nI  _ _) (nI  _ _) (by kernel_rfl) (oI  rfl rfl) ?_
    intro u2 hB_ hbt_
    clear hB
    replace hB : Bl w0 [⟨w.heap.size, fl [[.int .u32 c.nx], [.slice xk.ao xk.no xk.co], [.int .i64 c.tn], [.int .u32 d], [.slice xk.ah xk.nh xk.ch]], 26⟩, ⟨w.heap.size + 1, fl [[.int .u32 0], [.slice none 0 0], [.int .i64 0], [.int .u32 0], [.slice none 0 0]], 26⟩, ⟨g5, fl [[.int .u32 s.n], [.string s.s]], 47⟩] u2 := hB_
    clear hB_
    replace hO := hide ((unhide hO).bkI (unhide hzz_) hbt_ hne5)
    replace hL := hide ((unhide hL).bz (unhide hzz_) hbt_)
    replace hNt := hide ((unhide hNt).bi (unhide hzz_) hbt_ )
    clear hbt_ hzz_
    simp only [nrm]
    refine wpList_nil ?_
    clear hr ha hne5
    by_cases hm : s.n = d
    · have hj0 := (unhide hD).1.one (unhide hsj) hm
      subst hj0
      obtain ⟨H2, rfl⟩ : ∃ H2, H = s :: H2 := by
        have h9 := unhide hsj
        cases H with
        | nil => simp at h9
        | cons t H2 => simp only [List.getElem?_cons_zero, Option.some.injEq] at h9; exact ⟨H2, by rw [h9]⟩
      have hl2 : H2.length + 1 = xk.nh := by rw [← hnh]; rfl
      replace hB := hide hB
      go_upto_region 4 with fail
      replace hB := unhide hB
      refine wp_region_lit ?_
      refine lvk (.pointer (some ⟨g5, 0, none⟩)) ?_
      simp only [nrm]
      refine list_val (.int .u32 s.n) (by kernel_rfl) (exec_c32 _ (.tmp 14) rfl (g5) 0 (by kernel_rfl) s.n (seg_cell (nI  _ _) (hB.get 2 (x := ⟨g5, fl [[.int .u32 s.n], [.string s.s]], 47⟩) rfl) 0 (v := .int .u32 s.n) rfl rfl)) ?_
      simp only [nrm]
      refine lvk (.pointer (some ⟨w.heap.size, 3, none⟩)) ?_
      simp only [nrm]
      refine list_val (.int .u32 d) (by kernel_rfl) (exec_c32 _ (.tmp 16) rfl (w.heap.size) 3 (by kernel_rfl) d (seg_cell (nC  _ _ _ _ _) (hB.get 0 (x := ⟨w.heap.size, fl [[.int .u32 c.nx], [.slice xk.ao xk.no xk.co], [.int .i64 c.tn], [.int .u32 d], [.slice xk.ah xk.nh xk.ch]], 26⟩) rfl) 3 (v := .int .u32 d) rfl rfl)) ?_
      simp only [nrm]
      refine list_val (.bool true) (by kernel_rfl) (eql_32 _ (.tmp 15) (.tmp 17) s.n d true rfl (by kernel_rfl) (by kernel_rfl) (decide_eq_true hm)) ?_
      simp only [nrm]
      refine wpList_nil ?_
      replace hB := hide hB
      go_upto_region 5 with fail
      replace hB := unhide hB
      refine wp_region_lit ?_
      refine lvk (.slice la ln lc) ?_
      simp only [nrm]
      refine lvk (.pointer (some ⟨g5, 1, none⟩)) ?_
      simp only [nrm]
      refine list_val (.string s.s) (by kernel_rfl) (exec_cst _ (.tmp 20) rfl (g5) 1 (by kernel_rfl) s.s (seg_cell (nI  _ _) (hB.get 2 (x := ⟨g5, fl [[.int .u32 s.n], [.string s.s]], 47⟩) rfl) 1 (v := .string s.s) rfl rfl)) ?_
      simp only [nrm]
      refine list_valw (.slice (some ⟨u2.heap.size, 0, none⟩) 1 1) (u2.alloc (.cells #[.string s.s] 9 (0, 0))) (by kernel_rfl) (exec_bss _ (.tmp 21) rfl s.s (by kernel_rfl)) ?_
      have hS := hide (blk_new u2 (.cells #[.string s.s] 9 (0, 0)))
      have hg := (Gr.refl u2).alloc (.cells #[.string s.s] 9 (0, 0))
      replace hO := hide ((unhide hO).gr hg)
      replace hL := hide ((unhide hL).gr hg)
      replace hNt := hide ((unhide hNt).gr hg)
      replace hB := hB.more hg
      clear hg
      generalize World.alloc _ _ = u3 at *
      generalize u2.heap.size = gs at *
      simp only [nrm]
      have hls : Lz 1 u3 (some ⟨gs, 0, none⟩) 1 1 [tr1 s.s] := ⟨rfl, by intro r_ hr_; obtain rfl := List.mem_singleton.1 hr_; rfl, .inr ⟨gs, 0, rfl, by rw [List.flatten_cons, List.flatten_nil, List.append_nil]; exact range_row (unhide hS)⟩, by omega, by omega⟩
      refine wpList_step fun K hK => ?_
      rw [if_pos (by kernel_rfl)]
      refine app_rowsW ltS (.tmp 19) (.tmp 22) rfl w.heap.size _ (tx.map tr1) (by kernel_rfl) (unhide hL) (some ⟨gs, 0, none⟩) 1 1 [tr1 s.s] (by kernel_rfl) hls (by
        intro r_ hr_ u_ hu_
        obtain rfl := List.mem_singleton.1 hr_
        obtain rfl := List.mem_singleton.1 hu_
        rfl) (by rw [List.length_map]; have h9 := (unhide hd).2.2.2; omega) (unhide hNt).1 ?_
      intro v1 u4 hL1 hgr
      refine hK _ _ ?_
      clear hK K hls hS
      replace hB := hB.grownR (unhide hL) hw00 hgr (by intro y_ hy_; simp only [List.mem_cons, List.not_mem_nil, or_false] at hy_; rcases hy_ with rfl | rfl | rfl <;> (dsimp only; decide))
      replace hO := hide (show Own w0.heap.size u4 { c with dl := d, H := s :: H2 } xk from ⟨or_grown (unhide hO).o (unhide hL) hgr (by decide), or_grown (unhide hO).h (unhide hL) hgr (by decide)⟩)
      replace hNt := hide ((unhide hNt).go (unhide hL) (Nat.le_refl _) hgr)
      clear hL hgr
      have e1 : tx.map tr1 ++ [tr1 s.s] = (tx ++ [s.s]).map tr1 := by simp
      rw [e1] at hL1
      obtain ⟨l8, c8, rfl, hls8⟩ := hL1.lz
      clear e1 hls8
      have e2 : ((tx ++ [s.s]).map tr1).length = tx.length + 1 := by simp
      rw [e2] at hL1 ⊢
      have hL := hide hL1
      clear hL1 e2
      simp only [nrm]
      (refine wpList_step fun K hK => ?_; replace hK := hide hK; go_simp; refine unhide hK _ _ ?_; clear hK K)
      refine wpList_nil ?_
      replace hB := Bl.left (L := [⟨w.heap.size, fl [[.int .u32 c.nx], [.slice xk.ao xk.no xk.co], [.int .i64 c.tn], [.int .u32 d], [.slice xk.ah xk.nh xk.ch]], 26⟩, ⟨w.heap.size + 1, fl [[.int .u32 0], [.slice none 0 0], [.int .i64 0], [.int .u32 0], [.slice none 0 0]], 26⟩]) (M := [⟨g5, fl [[.int .u32 s.n], [.string s.s]], 47⟩]) hB
      replace hB := hide hB
      go_upto_region 6 with fail
      replace hB := unhide hB
      refine wp_region_lit ?_
      refine lvk (.pointer (some ⟨w.heap.size, 4, none⟩)) ?_
      simp only [nrm]
      refine list_val (.slice xk.ah xk.nh xk.ch) (by kernel_rfl) (exec_csI _ (.tmp 24) rfl (w.heap.size) 4 (by kernel_rfl) xk.ah xk.nh xk.ch (seg_cell (nC  _ _ _ _ _) (hB.get 0 (x := ⟨w.heap.size, fl [[.int .u32 c.nx], [.slice xk.ao xk.no xk.co], [.int .i64 c.tn], [.int .u32 d], [.slice xk.ah xk.nh xk.ch]], 26⟩) rfl) 4 (v := .slice xk.ah xk.nh xk.ch) rfl rfl)) ?_
      simp only [nrm]
      refine lvk (.int .i64 ((0 : Nat) : Int)) ?_
      simp only [nrm]
      refine lvk (.int .i64 ((0 : Nat) : Int)) ?_
      simp only [nrm]
      refine lvk (.int .i64 1) ?_
      simp only [nrm]
      refine list_call 59 #[.slice xk.ah xk.nh xk.ch, .int .i64 0, .int .i64 1] (by kernel_rfl) (by kernel_rfl) ((delete_ok _ xk.ah xk.nh xk.ch w0.heap.size (by have h9 := (unhide hd).2.2.2; omega) (by omega) u4 (unhide hO).h (fun r_ hr_ u_ hu_ => (by obtain ⟨s_, _, rfl⟩ := List.mem_map.1 hr_; exact itr_one s_ u_ hu_))).mono ?_)
      rintro r_ u5 ⟨a9, c9, rfl, hO9, hgr⟩
      replace hB := hB.grownR (unhide hO).h (Nat.le_refl _) hgr (by intro y_ hy_; simp only [List.mem_cons, List.not_mem_nil, or_false] at hy_; rcases hy_ with rfl | rfl <;> (dsimp only; decide))
      replace hL := hide (or_grown (unhide hL) (unhide hO).h hgr (by decide))
      replace hNt := hide ((unhide hNt).gi (unhide hO).h hgr)
      replace hO := hide (show Own w0.heap.size u5 { c with dl := d, H := H2 } ⟨xk.ao, xk.no, xk.co, a9, xk.nh - 1, c9⟩ from ⟨or_grown (unhide hO).o (unhide hO).h hgr (by decide), hO9⟩)
      clear hgr hO9
      refine ⟨_, rfl, ?_⟩
      simp only [nrm]
      refine lvk (.pointer (some ⟨w.heap.size, 4, none⟩)) ?_
      simp only [nrm]
      have hzz_ : Hid (u5.heap[w.heap.size]? = some (.cells (fl [[.int .u32 c.nx], [.slice xk.ao xk.no xk.co], [.int .i64 c.tn], [.int .u32 d], [.slice xk.ah xk.nh xk.ch]]) 26 (0, 0))) := hide (hB.get 0 (x := ⟨w.heap.size, fl [[.int .u32 c.nx], [.slice xk.ao xk.no xk.co], [.int .i64 c.tn], [.int .u32 d], [.slice xk.ah xk.nh xk.ch]], 26⟩) rfl)
      refine list_csI (.tmp 30) (.tmp 29) (w.heap.size) 4 a9 (xk.nh - 1) c9 (by kernel_rfl) rfl (by kernel_rfl) (by kernel_rfl) hB 0 rfl NC (nC  _ _ _ _ _) 4 _ rfl rfl ?_
      intro u6 hB_ hbt_
      clear hB
      replace hB : Bl w0 [⟨w.heap.size, fl [[.int .u32 c.nx], [.slice xk.ao xk.no xk.co], [.int .i64 c.tn], [.int .u32 d], [.slice a9 (xk.nh - 1) c9]], 26⟩, ⟨w.heap.size + 1, fl [[.int .u32 0], [.slice none 0 0], [.int .i64 0], [.int .u32 0], [.slice none 0 0]], 26⟩] u6 := hB_
      clear hB_
      replace hO := hide ((unhide hO).bz (unhide hzz_) hbt_)
      replace hL := hide ((unhide hL).bz (unhide hzz_) hbt_)
      replace hNt := hide ((unhide hNt).bn (unhide hzz_) hbt_ (Nat.le_refl _))
      clear hbt_ hzz_
      simp only [nrm]
      refine wpList_nil ?_
      replace hB := hide hB
      go_upto_region 7 with fail
      replace hB := unhide hB
      refine wp_region_lit ?_
      refine lvk (.pointer (some ⟨w.heap.size, 3, none⟩)) ?_
      simp only [nrm]
      refine list_val (.int .u32 d) (by kernel_rfl) (exec_c32 _ (.tmp 31) rfl (w.heap.size) 3 (by kernel_rfl) d (seg_cell (nC  _ _ _ _ _) (hB.get 0 (x := ⟨w.heap.size, fl [[.int .u32 c.nx], [.slice xk.ao xk.no xk.co], [.int .i64 c.tn], [.int .u32 d], [.slice a9 (xk.nh - 1) c9]], 26⟩) rfl) 3 (v := .int .u32 d) rfl rfl)) ?_
      simp only [nrm]
      refine list_val (.int .u32 (d + 1)) (by kernel_rfl) (add_32 _ (.tmp 32) (.const (.int .u32 1)) d 1 rfl (by kernel_rfl) (by kernel_rfl) _ rfl (by simp only [List.length_cons] at hdr; omega)) ?_
      simp only [nrm]
      refine lvk (.pointer (some ⟨w.heap.size, 3, none⟩)) ?_
      simp only [nrm]
      have hzz_ : Hid (u6.heap[w.heap.size]? = some (.cells (fl [[.int .u32 c.nx], [.slice xk.ao xk.no xk.co], [.int .i64 c.tn], [.int .u32 d], [.slice a9 (xk.nh - 1) c9]]) 26 (0, 0))) := hide (hB.get 0 (x := ⟨w.heap.size, fl [[.int .u32 c.nx], [.slice xk.ao xk.no xk.co], [.int .i64 c.tn], [.int .u32 d], [.slice a9 (xk.nh - 1) c9]], 26⟩) rfl)
      refine list_c32 (.tmp 34) (.tmp 33) (w.heap.size) 3 (d + 1) (by kernel_rfl) rfl (by kernel_rfl) (by kernel_rfl) hB 0 rfl NC (nC  _ _ _ _ _) 3 _ rfl rfl ?_
      intro u7 hB_ hbt_
      clear hB
      replace hB : Bl w0 [⟨w.heap.size, fl [[.int .u32 c.nx], [.slice xk.ao xk.no xk.co], [.int .i64 c.tn], [.int .u32 (d + 1)], [.slice a9 (xk.nh - 1) c9]], 26⟩, ⟨w.heap.size + 1, fl [[.int .u32 0], [.slice none 0 0], [.int .i64 0], [.int .u32 0], [.slice none 0 0]], 26⟩] u7 := hB_
      clear hB_
      replace hO := hide ((unhide hO).bz (unhide hzz_) hbt_)
      replace hL := hide ((unhide hL).bz (unhide hzz_) hbt_)
      replace hNt := hide ((unhide hNt).bn (unhide hzz_) hbt_ (Nat.le_refl _))
      clear hbt_ hzz_
      simp only [nrm]
      refine wpList_nil ?_
      replace hO := hide (show Own w0.heap.size u7 { c with dl := d + 1, H := H2 } ⟨xk.ao, xk.no, xk.co, a9, xk.nh - 1, c9⟩ from ⟨(unhide hO).o, (unhide hO).h⟩)
      have hdv2 : Hid (dvH c.dl c.H = ((dvH (d + 1) H2).1, (dvH (d + 1) H2).2.1, (tx ++ [s.s]) ++ (dvH (d + 1) H2).2.2)) := hide (by rw [unhide hdv, dvH_go hm]; simp)
      have hD2 : Hid (Dl (d + 1) H2 ∧ ∀ s ∈ H2, s.Ok) := hide ⟨(unhide hD).1.tail hm, fun t ht => (unhide hD).2 t (List.mem_cons_of_mem _ ht)⟩
      replace hB := hide hB
      have hHl2 : H2.length = c.H.length - (tx ++ [s.s]).length := by simp only [List.length_cons] at hHl; rw [List.length_append, List.length_singleton]; omega
      have htl2 : (tx ++ [s.s]).length ≤ c.H.length := by simp only [List.length_cons] at hHl; rw [List.length_append, List.length_singleton]; omega
      have hlnx := unhide hln
      clear hsj hok hM hdv hD hm
      go_wp2_with fail
      go_roundw
      case rel => exact ⟨d + 1, H2, ⟨xk.ao, xk.no, xk.co, a9, xk.nh - 1, c9⟩, tx ++ [s.s], l8, tx.length + 1, c8, rfl, hdv2, hD2, hB, hO, hL, hNt, hHl2, htl2⟩
      case measure => simp only [sliceLen]; rw [List.length_append, List.length_singleton] at htl2; omega
    · have hM2 : Hid (0 < j + 1 → ∀ s, H[0]? = some s → s.n ≠ d) := hide (fun _ t ht => by
        rcases Nat.eq_zero_or_pos j with h9 | h9
        · subst h9
          have h8 := ht.symm.trans (unhide hsj)
          injection h8 with h8
          rw [h8]; exact hm
        · exact (unhide hM) h9 t ht)
      replace hB := hide hB
      go_upto_region 4 with fail
      replace hB := unhide hB
      refine wp_region_lit ?_
      refine lvk (.pointer (some ⟨g5, 0, none⟩)) ?_
      simp only [nrm]
      refine list_val (.int .u32 s.n) (by kernel_rfl) (exec_c32 _ (.tmp 14) rfl (g5) 0 (by kernel_rfl) s.n (seg_cell (nI  _ _) (hB.get 2 (x := ⟨g5, fl [[.int .u32 s.n], [.string s.s]], 47⟩) rfl) 0 (v := .int .u32 s.n) rfl rfl)) ?_
      simp only [nrm]
      refine lvk (.pointer (some ⟨w.heap.size, 3, none⟩)) ?_
      simp only [nrm]
      refine list_val (.int .u32 d) (by kernel_rfl) (exec_c32 _ (.tmp 16) rfl (w.heap.size) 3 (by kernel_rfl) d (seg_cell (nC  _ _ _ _ _) (hB.get 0 (x := ⟨w.heap.size, fl [[.int .u32 c.nx], [.slice xk.ao xk.no xk.co], [.int .i64 c.tn], [.int .u32 d], [.slice xk.ah xk.nh xk.ch]], 26⟩) rfl) 3 (v := .int .u32 d) rfl rfl)) ?_
      simp only [nrm]
      refine list_val (.bool false) (by kernel_rfl) (eql_32 _ (.tmp 15) (.tmp 17) s.n d false rfl (by kernel_rfl) (by kernel_rfl) (decide_eq_false hm)) ?_
      simp only [nrm]
      refine wpList_nil ?_
      replace hB := Bl.left (L := [⟨w.heap.size, fl [[.int .u32 c.nx], [.slice xk.ao xk.no xk.co], [.int .i64 c.tn], [.int .u32 d], [.slice xk.ah xk.nh xk.ch]], 26⟩, ⟨w.heap.size + 1, fl [[.int .u32 0], [.slice none 0 0], [.int .i64 0], [.int .u32 0], [.slice none 0 0]], 26⟩]) (M := [⟨g5, fl [[.int .u32 s.n], [.string s.s]], 47⟩]) hB
      have jw : IntKind.i64.wrap ((j : Int) + 1) = (j : Int) + 1 := by rw [IntKind.wrap_i64]; omega
      replace hB := hide hB
      clear hsj hok hM hm
      go_wp2_with fail
      go_roundw
      case rel => exact ⟨j + 1, by omega, rfl, by simp, hM2, hB, hO, hL, hNt⟩
      case measure => simp [intOf]; omega
  · have jI : ¬ (j : Int) < (xk.nh : Int) := by omega
    have hst := dvH_stop (d := d) (H := H) (fun s hs => (by
      rcases Nat.eq_zero_or_pos j with h9 | h9
      · have h8 := (List.getElem?_eq_some_iff.1 hs).1
        omega
      · exact (unhide hM) h9 s hs))
    replace hst := hide hst
    clear hM
    replace hB := hide hB
    go_upto_region 9 with fail
    replace hB := unhide hB
    refine wp_region_lit ?_
    refine list_val (.agg (fl [[.int .u32 c.nx], [.slice xk.ao xk.no xk.co], [.int .i64 c.tn], [.int .u32 d], [.slice xk.ah xk.nh xk.ch]])) (by kernel_rfl) (exec_sw _ 26 (.tmp 1) rfl (w.heap.size) (by kernel_rfl) (hB.get 0 (x := ⟨w.heap.size, fl [[.int .u32 c.nx], [.slice xk.ao xk.no xk.co], [.int .i64 c.tn], [.int .u32 d], [.slice xk.ah xk.nh xk.ch]], 26⟩) rfl) NC (nC  _ _ _ _ _) Try.underlying26 rfl (by kernel_rfl)) ?_
    simp only [nrm]
    refine lvk (.slice la ln lc) ?_
    simp only [nrm]
    have hzz_ : Hid (wr.heap[w.heap.size + 1]? = some (.cells (fl [[.int .u32 0], [.slice none 0 0], [.int .i64 0], [.int .u32 0], [.slice none 0 0]]) 26 (0, 0))) := hide (hB.get 1 (x := ⟨w.heap.size + 1, fl [[.int .u32 0], [.slice none 0 0], [.int .i64 0], [.int .u32 0], [.slice none 0 0]], 26⟩) rfl)
    refine list_all 26 (.tmp 2) (.tmp 36) (w.heap.size + 1) (S2 := [[.int .u32 c.nx], [.slice xk.ao xk.no xk.co], [.int .i64 c.tn], [.int .u32 d], [.slice xk.ah xk.nh xk.ch]]) (by kernel_rfl) rfl (by kernel_rfl) (by kernel_rfl) hB 1 rfl NC (nC  _ _ _ _ _) (nC  _ _ _ _ _) (by kernel_rfl) (oC  rfl rfl rfl rfl rfl) ?_
    intro u3 hB_ hbt_
    clear hB
    replace hB : Bl w0 [⟨w.heap.size, fl [[.int .u32 c.nx], [.slice xk.ao xk.no xk.co], [.int .i64 c.tn], [.int .u32 d], [.slice xk.ah xk.nh xk.ch]], 26⟩, ⟨w.heap.size + 1, fl [[.int .u32 c.nx], [.slice xk.ao xk.no xk.co], [.int .i64 c.tn], [.int .u32 d], [.slice xk.ah xk.nh xk.ch]], 26⟩] u3 := hB_
    clear hB_
    replace hO := hide ((unhide hO).bz (unhide hzz_) hbt_)
    replace hL := hide ((unhide hL).bz (unhide hzz_) hbt_)
    replace hNt := hide ((unhide hNt).bn (unhide hzz_) hbt_ (Nat.le_succ _))
    clear hbt_ hzz_
    simp only [nrm]
    (refine wpList_step fun K hK => ?_; replace hK := hide hK; go_simp; refine unhide hK _ _ ?_; clear hK K)
    refine wpList_nil ?_
    have hf := unhide hdv
    rw [unhide hst] at hf
    have e1 : dvC c = { c with dl := d, H := H } := by unfold dvC; rw [hf]
    have e2 : (dvH c.dl c.H).2.2 = tx := by rw [hf]; simp
    clear hf
    replace e1 := hide e1; replace e2 := hide e2
    replace hB := hide hB
    go_wp2_with fail
    replace hB := unhide hB
    rw [unhide hT]
    rw [unhide e1]
    exact bodyPost_ret (v := .tuple #[.agg (fl [[.int .u32 c.nx], [.slice xk.ao xk.no xk.co], [.int .i64 c.tn], [.int .u32 d], [.slice xk.ah xk.nh xk.ch]]), .slice la ln lc]) (res2 Try.results41 (rv_cell (by kernel_rfl) (hB.get 1 (x := ⟨w.heap.size + 1, fl [[.int .u32 c.nx], [.slice xk.ao xk.no xk.co], [.int .i64 c.tn], [.int .u32 d], [.slice xk.ah xk.nh xk.ch]], 26⟩) rfl) Try.underlying26 rfl (by rw [fl_size (nC  _ _ _ _ _)]; kernel_rfl)) (rv_tmp (by kernel_rfl))) rfl (⟨xk, la, ln, lc, rfl, (unhide hO), (by rw [unhide e2]; exact or_base (unhide hL) hw00), (unhide hNt), hB.gr⟩)
end Go.Proofs.Ytcefkkoombmndaa
